import PyProof.Rows.All
import Wide.All
import OpenK.AllK
import Wide.FinOn
import Lean
import PyProof.EqAt
import PyProof.EqKinds
import PyProof.TupleCall
import PySem.Challenge.RW_laidmarks_k44_whole_fairways
set_option linter.all false
set_option Elab.async false
set_option maxRecDepth 100000
namespace PySem.W.Fast
def tw11896254029893274273:=0
def tw12126344986602149150:=0
def tw13900658348537580185:=0
def tw3204132346588849646:=0
def tw6742792681944853281:=0
def tw16257024539925956195:=0
def tw8202300030043299130:=0
def tw7663665997367708989:=0
def tw17609610735391170195:=0
def tw18015145022772346788:=0
def tw16080523167583904561:=0
def tw11915165174206668919:=0
def tw3090166239945431890:=0
def tw1223149152460633939:=0
def tw5295383525682017527:=0
def tw15170959943667599708:=0
def tw12061310060049646236:=0
def tw6702051322795005815:=0
def tw11393776280837369136:=0
def tw1430662377369033466:=0
def tw8022815399619025988:=0
def tw10966124025726408063:=0
def tw3700494214810064164:=0
def tw8821415778295891133:=0
def tw8093078599177393978:=0
def tw14261778658908968082:=0
def tw14345583306861435252:=0
def tw17048075839261829034:=0
def tw809605719848879711:=0
def tw6969810372395568929:=0
def tw12246753072005934144:=0
def tw2843538072845023182:=0
def tw16846719969979918967:=0
def tw16088989979237274911:=0
def tw9635238191703540633:=0
def tw3866901717442013328:=0
def tw12422079106742077252:=0
def tw17388379750920703011:=0
def tw10089938832794876617:=0
def tw13011240700384374929:=0
def tw2334125408811997602:=0
def tw13206763623457894532:=0
def tw18390655739175722342:=0
def tw11985745238347915957:=0
def tw12736553192729750506:=0
def tw10402615604121173910:=0
def tw10281086365333233156:=0
def tw14698726585907379863:=0
def tw16878501550775657103:=0
def tw9188366645918204030:=0
def tw1426393052993529086:=0
def tw3122080247503356261:=0
def tw10429320981106611214:=0
def tw9700661727724919067:=0
def tw6192739630153494966:=0
def tw14731875777961546709:=0
def tw13213552118341889385:=0
def tw8767113485819575405:=0
def tw15282894750625836641:=0
def tw7109536012019914911:=0
def tw12837463665327152200:=0
def tw18406572704005270996:=0
def tw1267326247070949761:=0
def tw12109485495897185752:=0
def tw16081256087884704357:=0
def tw13487455103859101225:=0
def tw8434150222136290538:=0
def tw10785803647981873441:=0
def tw6349962345407701316:=0
def tw805483966759832188:=0
def tw4656872742553981107:=0
def tw15182510020469965905:=0
def tw1596288141613132582:=0
def tw3171062600822625459:=0
def tw11508809368844103102:=0
def tw487352974697422126:=0
def tw16094736737338252339:=0
def tw4909318312233496866:=0
def tw9493385100526164389:=0
def tw17093587799318234335:=0
def tw6485043159136834787:=0
def tw5303557853983834367:=0
def tw7636586192765945744:=0
def tw17780839727780803204:=0
def tw8846877527562010076:=0
def tw10510939688661372785:=0
def tw323739893579223553:=0
def tw3546784393263739885:=0
def tw8289192115614794974:=0
def tw6720106835169206348:=0
def tw3298165829497409162:=0
def tw18153668317123268960:=0
def tw17277292575188018396:=0
def tw1269357542747399757:=0
def tw2544815915793672823:=0
def tw11925640443853414707:=0
def tw10526206778480258698:=0
def tw9230836500649868622:=0
def tw12652339858603575667:=0
def tw10780352724029921858:=0
def tw12986424397507039394:=0
def tw2264255123069419836:=0
def tw10310156751236431417:=0
def tw7227359714145310379:=0
def tw10343444771743231061:=0
def tw7776855856791819449:=0
def tw16100008059702242516:=0
def tw14664182464361150712:=0
def tw3538190314407959538:=0
def tw1332645857196578827:=0
def tw12503819295073082795:=0
def tw5240825086046271020:=0
def tw8357846343574763988:=0
def tw8188570160223695325:=0
def tw8443539778060558145:=0
def tw9234639160043903878:=0
def tw9589240029558616705:=0
def tw10748088391143935536:=0
def tw17507827331799263210:=0
def tw15371507437321694616:=0
def tw13687711839954989705:=0
def tw2637009333978688987:=0
def tw18081736004606643103:=0
def tw15981037036544832442:=0
def tw11352723072345440238:=0
def tw9049590884584252888:=0
def tw2728441493149799643:=0
def tw2365374067434299588:=0
def tw8316829832436336860:=0
def tw3142730636695673514:=0
def tw2064510447474501680:=0
def tw890928332543530437:=0
def tw13449691275898129742:=0
def tw6923857748248122042:=0
def tw8837163794307190209:=0
def tw13138361977865033979:=0
def tw10044238396500407546:=0
def tw16388821817699444444:=0
def tw2915927582285394245:=0
def tw17248152485782792260:=0
def tw17440964292508204075:=0
def tw2593455637140673963:=0
def tw3455164767953159102:=0
def tw8841993369934723482:=0
def tw15131826923689966787:=0
def tw2070345306372313290:=0
def tw11229513422201857799:=0
def tw11992437574799121707:=0
def tw11820740183515579427:=0
def tw13891896515802746705:=0
def tw18324732535175863625:=0
def tw1843926994989804792:=0
def tw3710188901395905061:=0
def tw14761828213629588010:=0
def tw10319038990477808697:=0
def tw5850454029921707783:=0
def tw1053267691395111285:=0
def tw8743489568945101884:=0
def tw10964818756106375687:=0
def tw11204194447578594456:=0
def tw4590932061503243766:=0
def tw11240536235940807507:=0
def tw1099414435015192420:=0
def tw7366863322078946519:=0
def tw572289005693513384:=0
def tw10400052138836178082:=0
def tw261040396057990468:=0
def tw1394621668244598434:=0
def tw12466632144522130360:=0
def tw4757229819037384673:=0
def tw10973769214518341530:=0
def tw3650900344251131697:=0
def tw10975337438232709395:=0
def tw8413670503815829874:=0
def tw14244095833557969460:=0
def tw4368763427469815241:=0
def tw9160099276651193761:=0
def tw15944418848327749594:=0
def tw9552818631873530263:=0
def tw14480894388734401353:=0
def tw7806459928212803059:=0
def tw6757716888166919869:=0
def tw3601406153979022446:=0
def tw10149364661090381750:=0
def tw17093329713040010675:=0
def tw2889849275574224160:=0
def tw14273809327700750872:=0
def tw6077223540181846637:=0
def tw1793850234285893856:=0
def tw10559412494565793575:=0
def tw5734715637288908720:=0
def tw1194437749706361171:=0
def tw9447264680251774260:=0
def tw17182620255363087450:=0
def tw17009903702880716864:=0
def tw12334524184877506126:=0
def tw2201386823944366615:=0
def tw9612863291245000874:=0
def tw14685825415605175255:=0
def tw3791526474525948092:=0
def tw17857143390785658217:=0
def tw11255372643728455086:=0
def tw8856285424698028449:=0
def tw10691156037575988970:=0
def tw499635041191177997:=0
def tw7170848271558128739:=0
def tw3511939698802190595:=0
def tw17303030253921815839:=0
def tw4517092210604233742:=0
def tw7172823766517068697:=0
def tw15537762796102911003:=0
def tw15922621220592658032:=0
def tw5811978303706026187:=0
def tw12660486430976131357:=0
def tw3093861043772215882:=0
def tw4741640431599341617:=0
def tw8855331233812276090:=0
def tw10672554881519676681:=0
def tw7925342259751461141:=0
def tw2094098783006000262:=0
def tw15773805221815092064:=0
def tw7818845335301776929:=0
def tw727233369357866484:=0
def tw14503065223044416468:=0
def tw10218874254857694680:=0
def tw13461598790346393490:=0
def tw12660509347033645367:=0
def tw16418360674729990731:=0
def tw8242706041380077606:=0
def tw8250522074975471787:=0
def tw694291087069276089:=0
def tw9991777375608732658:=0
def tw7486780152410026491:=0
def tw4631356794566563534:=0
def tw17369331539200522034:=0
def tw13977007009336617669:=0
def tw15067689466025304581:=0
def tw8823297403891725068:=0
def tw8849633122935584420:=0
def tw1527188963940792147:=0
def tw3024902140891561140:=0
def tw6900366768875992297:=0
def tw6340747534612915125:=0
def tw17331286419190495755:=0
def tw12447328279494301145:=0
def tw8865345064075093957:=0
def tw1625776438338633775:=0
def tw2173887364863522176:=0
def tw2285155832706137924:=0
def tw6214804480877972416:=0
def tw12248712984887367473:=0
def tw16168964121555513326:=0
def tw17815783328767484807:=0
def tw6013448262566583934:=0
def tw11928063503629659427:=0
def tw1420958696475635848:=0
def tw15198818933988671059:=0
def tw16334793719221614743:=0
def tw9467898142090324579:=0
def tw14173552166717876227:=0
def tw1464644404575568021:=0
def tw7484119992800165170:=0
def tw15721819000886668149:=0
def tw10827870280815878831:=0
def tw14945553304015615507:=0
def tw5931361186370657594:=0
def tw7384079118026240773:=0
def tw16572115926525832141:=0
def tw13387325043809882387:=0
def tw7635791181517535094:=0
def tw17492941641118613593:=0
def tw2660193420684054175:=0
def tw16375195583009576799:=0
def tw13298673945365331660:=0
def tw16007096496185875389:=0
def tw11457830187010520108:=0
def tw15290479947021665356:=0
def tw2431837904503864044:=0
def tw3993952689025958025:=0
def tw8444532549612127442:=0
def tw17211866981165042771:=0
def tw12590249637259241833:=0
def tw17513050461380070181:=0
def tw2231799276947944254:=0
def tw6919491988391259524:=0
def tw1755953805189115061:=0
def tw14908202658270731967:=0
def tw10943102868451544821:=0
def tw6703029732187971060:=0
def tw15756319649645099655:=0
def tw7760237482804399594:=0
def tw16392598175126321224:=0
def tw2896944327306996357:=0
def tw3657894639681056771:=0
def tw5594874324318502588:=0
def tw11085127676893452364:=0
def tw1298529790466772593:=0
def tw11600951171953520128:=0
def tw8122806322494358717:=0
def tw4874308098039651019:=0
def tw9447201107370891906:=0
def tw12391347647102788386:=0
def tw11001018180082337468:=0
def tw4817382246122873589:=0
def tw2795367702506299041:=0
def tw3931244067214147173:=0
def tw14258273731649232976:=0
def tw1485984573734906229:=0
def tw3568405116099084966:=0
def tw1096696765064377598:=0
def tw10166449618478076311:=0
def tw7738503228021598505:=0
def tw9428079563367228845:=0
def tw18049844797254626150:=0
def tw10075862085105022358:=0
def tw7279604651684354368:=0
def tw6753124900295688780:=0
def tw10756326716595390237:=0
def tw7687340016106098739:=0
def tw17316241600530770155:=0
def tw7246877386679330925:=0
def tw17033698642644678922:=0
def tw7408840858745405901:=0
def tw14903129529167101531:=0
def tw981205806017128954:=0
def tw8246156179383241710:=0
def tw11555257553482303292:=0
def tw8862563291563387699:=0
def tw16854752881372140280:=0
def tw7540918765400610956:=0
def tw15702648887522732225:=0
def tw18247215760460461038:=0
def tw10721482503939944382:=0
def tw16597903317675692106:=0
def tw17145086894961446948:=0
def tw10581309663995184656:=0
def tw9345794616986255308:=0
def tw3584244624005168517:=0
def tw16408504361115790411:=0
def tw6849492120859162244:=0
def tw2719586368561407917:=0
def tw12114072321656555766:=0
def tw824834150671523475:=0
def tw17353914852950770212:=0
def tw1135160451134124350:=0
def tw12646188759749336332:=0
def tw1511303371492581879:=0
def tw15404591972906772494:=0
def tw6097752752519322008:=0
def tw4669483376025328197:=0
def tw78441441970488741:=0
def tw3150101322051626751:=0
def tw7454153488613771168:=0
def tw9916784662243731691:=0
def tw15909331549121194687:=0
def tw18431931547396409478:=0
def tw7142203391747691067:=0
def tw8550863576359803771:=0
def tw9875377884496705749:=0
def tw6884947329953698642:=0
def tw6546884899884645269:=0
def tw13299216894665606942:=0
def tw16854589985994343471:=0
def tw11767183472280541146:=0
def tw438293421007858017:=0
def tw1647353215194729997:=0
def tw17593763092549590656:=0
def tw12201535883923229674:=0
def tw2874774341920177505:=0
def tw17700123301598424310:=0
def tw5760160543874160718:=0
def tw5846256859594668910:=0
def tw11942408862648162656:=0
def tw5859601600580757465:=0
def tw7773999403560926482:=0
def tw9115222107780389259:=0
def tw17802363094193964694:=0
def tw12843532526038498129:=0
def tw1210564331054271719:=0
def tw2172867359878592616:=0
def tw5760964115913931086:=0
def tw1925076861005364187:=0
def tw16464032645213822131:=0
def tw1335143480467441383:=0
def tw7413794065862274996:=0
def tw17431281538266616052:=0
def tw7339339753712758551:=0
def tw2887961951831631877:=0
def tw18339464270061775237:=0
def tw15161962116442005078:=0
def tw6453540169878579898:=0
def tw9991061841987592741:=0
def tw2244712949465414730:=0
def tw5113760158910304669:=0
def tw12588198693982471212:=0
def tw15628513440356856299:=0
def tw4917318220457806478:=0
def tw15170411257796835552:=0
def tw4870632379165113558:=0
def tw4126568876124539123:=0
def tw3197109457601388226:=0
def tw11572251340716271324:=0
def tw16248028016566709533:=0
def tw14331085649321774086:=0
def tw11260632708378469373:=0
def tw8099114466760412267:=0
def tw10996580910224499016:=0
def tw1640616626900804909:=0
def tw17677196937265897741:=0
def tw18376000301616767408:=0
def tw13896498167040133714:=0
def tw4435855067289854259:=0
def tw10078871921993852909:=0
def tw1976909357006619707:=0
def tw9456917933293235166:=0
def tw7408620620345875638:=0
def tw11133025399973239607:=0
def tw6221274490850124513:=0
def tw16604326283507733700:=0
def tw11393305344232401898:=0
def tw15518199085026872512:=0
def tw13555414303313091999:=0
def tw11159088422837695262:=0
def tw15002373112901245716:=0
def tw8079554220022289114:=0
def tw14819635201743757639:=0
def tw4469107668813369384:=0
def tw17746050901561339625:=0
def tw13554402653050502593:=0
def tw17129046745915444906:=0
def tw4614662613352263794:=0
def tw9345562489941708602:=0
def tw15241383678824025048:=0
def tw16302286074262437115:=0
def tw11685237470403803055:=0
def tw17036738651616792516:=0
def tw16266178044270114654:=0
def tw6082067849383316893:=0
def tw11144458228763132213:=0
def tw10234773693719557694:=0
def tw10826218769552748831:=0
def tw11737094014958757586:=0
def tw7905965845190460035:=0
def tw1480913317349479550:=0
def tw7194930126508832828:=0
def tw10945211184931056937:=0
def tw13245581384843318984:=0
def tw465551625195181168:=0
def tw6455702955010703149:=0
def tw3742578315003915466:=0
def tw13964694802329203306:=0
def tw1918024066632931088:=0
def tw6184637632152251048:=0
def tw16139415911917292025:=0
def tw8443558560874590468:=0
def tw10997007929542341659:=0
def tw4382151990807091614:=0
def tw17059989713008898922:=0
def tw14337873950431227693:=0
def tw12303282213115239695:=0
def tw2846012443085827276:=0
def tw6638866323589132501:=0
def tw4954090641018962519:=0
def tw3629015071356026513:=0
def tw1797652669542804258:=0
def tw1904743736167997587:=0
def tw16588499199082047782:=0
def tw5588169187769878250:=0
def tw15644558494107706347:=0
def tw2132369794861940629:=0
def tw3347215234568521544:=0
def tw1964576952661195423:=0
def tw15824265802013689863:=0
def tw13317169450586961606:=0
def tw4580355084107225983:=0
def tw16796355139717521307:=0
def tw17541054700107587229:=0
def tw9258912973454418070:=0
def tw6779156476566933707:=0
def tw3187390141652698336:=0
def tw16141524024049044928:=0
def tw17395745228588461014:=0
def tw11652271254402313232:=0
def tw16718813029771971613:=0
def tw10176634048267354428:=0
def tw15705295234297846999:=0
def tw9066994477979525987:=0
def tw11505211607336593058:=0
def tw6259283441522615084:=0
def tw7871000331122628510:=0
def tw3141073238498909630:=0
def tw12984556465754470578:=0
def tw5351563681979914522:=0
def tw2408149951815251113:=0
def tw12127340516611435918:=0
def tw5050148624483796639:=0
def tw10295024897214513872:=0
def tw13206152179698661479:=0
def tw9709899849175789755:=0
def tw1870055344723925138:=0
def tw15372118252939843811:=0
def tw11737864553896140063:=0
def tw12342516992290156371:=0
def tw8410204546895983652:=0
def tw7881310834224601820:=0
def tw17223001625179077888:=0
def tw16460442494470145692:=0
def tw12606470597652004578:=0
def tw458822909146625979:=0
def tw14891438883287909257:=0
def tw18135345439725871224:=0
def tw11330980429851637925:=0
def tw12100566475037267409:=0
def tw16363226699411351211:=0
def tw5632964406400247861:=0
def tw1580025416757487495:=0
def tw18075203681283351118:=0
def tw2023865980787272219:=0
def tw8020553992397163231:=0
def tw9008561817642028011:=0
def tw2457341271280126246:=0
def tw4555228291153973170:=0
def tw11272974339283101968:=0
def tw1479938534092016947:=0
def tw81223513187476741:=0
def tw7810064249302683832:=0
def tw17291527677936730359:=0
def tw9582780873588854623:=0
def tw5368489668323174500:=0
def tw815230913072285125:=0
def tw7453244447648161461:=0
def tw17726149756725873227:=0
def tw7939772694114665008:=0
def tw3247670472866851465:=0
def tw16609832205113880495:=0
def tw2413644794129677959:=0
def tw8160680172787042739:=0
def tw3962834278663860179:=0
def tw5282413996304262765:=0
def tw17641219538639950313:=0
def tw17565701623057672620:=0
def tw3540636784163245161:=0
def tw14948102561765769667:=0
def tw15994201460477766521:=0
def tw17367085184156821875:=0
def tw6621452981550262465:=0
def tw7584331851555812392:=0
def tw5895951565894983467:=0
def tw13044344031798996280:=0
def tw16665435169504463015:=0
def tw11531969695214523235:=0
def tw2404319974929685024:=0
def tw5107086604703272173:=0
def tw12565292912100230898:=0
def tw3306956512129565103:=0
def tw4681452626799744123:=0
def tw8713975975504170702:=0
def tw14685682618221670317:=0
def tw5170889615452862073:=0
def tw48889465204875948:=0
def tw9499409165911855323:=0
def tw13476143107743962892:=0
def tw17462114356735278872:=0
def tw1586806432607600892:=0
def tw15951465083746826399:=0
def tw16186284901973658518:=0
def tw560415141379560014:=0
def tw13308172152495594965:=0
def tw8979574296732195523:=0
def tw13352305639454801325:=0
def tw145267083037910686:=0
def tw378619695386163575:=0
def tw2544670203235365463:=0
def tw18286547007538366185:=0
def tw1578318255174639698:=0
def tw12262879746092416668:=0
def tw7280910388809710779:=0
def tw5026908559394090482:=0
def tw1068349956044231632:=0
def tw818457627288447831:=0
def tw16176394036652307143:=0
def tw1466680481372234629:=0
def tw191876312222992130:=0
def tw5131327270869404015:=0
def tw4260954649564373128:=0
def tw18372733024822109069:=0
def tw65300389960207153:=0
def tw5533963535794529438:=0
def tw4765276578477334315:=0
def tw4078701449381525087:=0
def tw11118689442563339550:=0
def tw10731384270222317360:=0
def tw3693669747201905629:=0
def tw7450220251280559006:=0
def tw11410871022353508533:=0
def tw979176315088480016:=0
def tw2352492350168510988:=0
def tw17463891025943201903:=0
def tw14296701523385840893:=0
def tw18391476545142919868:=0
def tw15255398425038384006:=0
def tw18056314488961570970:=0
def tw128584248532959697:=0
def tw5753994328784295600:=0
def tw2389958234382266242:=0
def tw11312005488077084112:=0
def tw13935997743087007765:=0
def tw12104732051662669390:=0
def tw8754252267679651280:=0
def tw17844633967654498734:=0
def tw12548113167351700199:=0
def tw16706924599162900734:=0
def tw8148542611826316479:=0
def tw12496219908777244236:=0
def tw702100113269835972:=0
def tw7267214964771274049:=0
def tw14747829573808016538:=0
def tw15782175664602189637:=0
def tw2779931242552009929:=0
def tw11932093499618093324:=0
def tw3853608061717831913:=0
def tw13697281305842647394:=0
def tw10372311372008352757:=0
def tw15139025067846870923:=0
def tw10774989543777159180:=0
def tw17337315362832398550:=0
def tw16826821015738291530:=0
def tw17169175544130167577:=0
def tw10126215173627848764:=0
def tw16241242311501603876:=0
def tw17598392692692025152:=0
def tw15088509781577129544:=0
def tw9323271801920337657:=0
def tw12456150360412034559:=0
def tw4209252503276858563:=0
def tw5747428493765271462:=0
def tw1973346335936224718:=0
def tw4437139185355973817:=0
def tw5761987919950401904:=0
def tw17565606934536206238:=0
def tw7887978744669989442:=0
def tw17420284653741002881:=0
def tw6348998625858041681:=0
def tw534719793571667355:=0
def tw1702094323925037542:=0
def tw9797907340364260991:=0
def tw10032300412001016346:=0
def tw10877087973299398397:=0
def tw614580222600005039:=0
def tw11973602854636538693:=0
def tw11084792618093191514:=0
def tw1201348033440982486:=0
def tw13888589116461853361:=0
def tw15651314526802222974:=0
def tw1363581822806235733:=0
end PySem.W.Fast
namespace L2
open PySem PySem.Spec PyProof.Rows
abbrev Key:=Sum Int Str
def Ly:Key→Value→Bool
 |.inl k,v=>Value.isInt k v
 |.inr x,v=>Value.isStrOf x v
def keyH(w:World):Key→Int
 |.inl k=>hashInt k
 |.inr x=>hashStr w x
theorem Bk:∀{k:Key} {v:Value},Ly k v=true→(∃i t,k=Sum.inl i∧v=Value.int i t)∨(∃x t,k=Sum.inr x∧v=Value.str x t)
 |.inl i,v,h=>by
  obtain⟨t,e⟩:=Value.isInt_shape (k:=i) (v:=v) h
  exact .inl ⟨i,t,rfl,e⟩
 |.inr x,v,h=>by
  obtain⟨t,e⟩:=Value.isStrOf_shape (x:=x) (v:=v) h
  exact .inr ⟨x,t,rfl,e⟩
theorem Uu(i:Int)(t:Tok):Ly (.inl i) (.int i t)=true:=by simp[Ly,Value.isInt]
theorem Ut(x:Str)(t:Tok):Ly (.inr x) (.str x t)=true:=by simp[Ly,Value.isStrOf]
theorem Ady(a b:Int):decide ((Sum.inl a:Key)=Sum.inl b)=(a == b):=by
 by_cases e:a=b
 ·subst e;simp
 ·have h:¬(Sum.inl a:Key)=Sum.inl b:=fun q=>e (Sum.inl.inj q)
  rw[decide_eq_false h]
  exact(beq_eq_false_iff_ne.mpr e).symm
theorem Adu(a b:Str):decide ((Sum.inr a:Key)=Sum.inr b)=decide (a=b):=by
 by_cases e:a=b
 ·subst e;simp
 ·have h:¬(Sum.inr a:Key)=Sum.inr b:=fun q=>e (Sum.inr.inj q)
  rw[decide_eq_false h,decide_eq_false e]
theorem Adx(a:Int)(b:Str):decide ((Sum.inl a:Key)=Sum.inr b)=false:=decide_eq_false (fun q=>nomatch q)
theorem Adv(a:Str)(b:Int):decide ((Sum.inr a:Key)=Sum.inl b)=false:=decide_eq_false (fun q=>nomatch q)

def A3(prog:Program)(w:World):PySem.KeyKind prog w Key where
 is:=Ly
 hash:=keyH w
 inj:=fun v a b ha hb=>by
  rcases Bk ha with ⟨i,t,rfl,rfl⟩|⟨x,t,rfl,rfl⟩
  ·rcases Bk hb with ⟨j,u,rfl,e⟩|⟨y,u,rfl,e⟩
   ·injection e with e1 _;rw[e1]
   ·exact nomatch e
  ·rcases Bk hb with ⟨j,u,rfl,e⟩|⟨y,u,rfl,e⟩
   ·exact nomatch e
   ·injection e with e1 _;rw[e1]
 byValue:=fun k v h=>by
  rcases Bk h with ⟨i,t,rfl,rfl⟩|⟨x,t,rfl,rfl⟩<;>rfl
 pyHash:=fun hv h=>by
  rcases Bk hv with ⟨i,t,rfl,rfl⟩|⟨x,t,rfl,rfl⟩
  ·exact wpAny_pyHash_int h
  ·exact wpAny_pyHash_str h
 eqBool:=fun hu hv h=>by
  rcases Bk hu with ⟨i,t,rfl,rfl⟩|⟨x,t,rfl,rfl⟩
  ·rcases Bk hv with ⟨j,u,rfl,rfl⟩|⟨y,u,rfl,rfl⟩
   ·rw[Ady] at h;exact wpAny_eqBool_int h
   ·rw[Adx] at h;exact SeqAt.EqAt.int_str i t y u _ _ _ _ h
  ·rcases Bk hv with ⟨j,u,rfl,rfl⟩|⟨y,u,rfl,rfl⟩
   ·rw[Adv] at h;exact SeqAt.EqAt.str_int x t j u _ _ _ _ h
   ·rw[Adu] at h;exact wpAny_eqBool_str h
 «strs»:=fun k x t v h=>by
  rcases Bk h with ⟨i,u,rfl,e⟩|⟨y,u,rfl,e⟩
  ·exact nomatch e
  ·injection e with e1 _
   subst e1
   cases v<;>rfl

theorem Pr(prog:Program)(w:World)(i:Int)(t:Tok):(A3 prog w).is (.inl i) (.int i t)=true:=Uu i t
theorem Pq(prog:Program)(w:World)(x:Str)(t:Tok):(A3 prog w).is (.inr x) (.str x t)=true:=Ut x t
end L2
namespace L2
open PySem PySem.Spec PyProof.Rows
inductive V where
 |non|bl (b:Bool)|int (i:Int)|str (x:Str)|byt (b:Array UInt8)|flt (b:UInt64)|ref (a:Addr)|ty (n:String)
 deriving DecidableEq

def RelV:V→Value→Prop
 |.non,u=>u=Value.none
 |.bl b,u=>u=Value.bool b
 |.int i,u=>∃t,u=Value.int i t
 |.str x,u=>∃t,u=Value.str x t
 |.byt b,u=>∃t,u=Value.bytes b t
 |.flt b,u=>∃t,u=Value.float b t
 |.ref a,u=>u=Value.ref a
 |.ty n,u=>u=Value.type n

abbrev Vals:List V→List Value→Prop:=Paired RelV
theorem Vals.length{xs:List V}{us:List Value}(r:Vals xs us):xs.length=us.length:=Paired.length r
theorem Vals.get:∀{xs:List V} {us:List Value} {i:Nat} {x:V},Vals xs us→xs[i]? = some x→∃u,us[i]? = some u∧RelV x u
 |_,_,_,_,.nil,e=>by simp at e
 |_,_,0,_,.cons r _,e=>by simp at e;subst e;exact⟨_,rfl,r⟩
 |_,_,i+1,x,.cons _ t,e=>by
  obtain⟨u,h1,h2⟩:=Vals.get (i:=i) (x:=x) t (by simpa using e)
  exact⟨u,by simpa using h1,h2⟩
theorem Vals.set{x:V}{u:Value}(r:RelV x u):∀{xs:List V} {us:List Value} (i:Nat),Vals xs us→Vals (xs.set i x) (us.set i u)
 |_,_,_,.nil=>.nil
 |_,_,0,.cons _ t=>.cons r t
 |_,_,i+1,.cons q t=>.cons q (Vals.set r i t)
theorem Vals.append:∀{xs ys:List V} {us ws:List Value},Vals xs us→Vals ys ws→Vals (xs++ys) (us++ws)
 |_,_,_,_,.nil,s=>s
 |_,_,_,_,.cons r t,s=>.cons r (Vals.append t s)
theorem Vals.take:∀{xs:List V} {us:List Value} (n:Nat),Vals xs us→Vals (xs.take n) (us.take n)
 |_,_,0,_=>.nil
 |_,_,_+1,.nil=>.nil
 |_,_,n+1,.cons r t=>.cons r (Vals.take n t)
theorem Vals.drop:∀{xs:List V} {us:List Value} (n:Nat),Vals xs us→Vals (xs.drop n) (us.drop n)
 |_,_,0,r=>r
 |_,_,_+1,.nil=>.nil
 |_,_,n+1,.cons _ t=>Vals.drop n t
def RelO:Option V→Option Value→Prop
 |some v,some u=>RelV v u
 |none,none=>True
 |_,_=>False
def KV{κ:Type}:List (κ×V)→List (κ×Value)→Prop:=Paired fun(p:κ×V) (q:κ×Value)=>p.1=q.1∧RelV p.2 q.2

def kV:Key→V
 |.inl i=>.int i
 |.inr x=>.str x

inductive HO where
 /-- a list -/
 |lst (xs:List V)
 /-- a tuple (never changes) -/
 |tup (xs:List V)
 /-- a dict whose keys are ints and texts;one whose keys are tuples of ints and texts (the empty one is both) -/
 |dK (kvs:List (Key×V))|dT (kvs:List (List Key×V))
 /-- a set of ints: its members,its size -/
 |set (S:Int→Bool) (n:Nat)
 /-- an instance of the class at C,its dict at dx,its attributes -/
 |ins (C dx:Addr) (fs:List (Str×V))
 /-- the dict of the instance at x -/
 |own (x:Addr)
 /-- the dict of an exception -/
 |xd (fs:List (Str×V))
 /-- a bound method,f of x -/
 |met (f x:Addr)
 /-- a range object lo,lo+1,.. below hi -/
 |rng (lo hi:Int)
 /-- a thing that is known to the object (the script;a dict while a loop walks it): read,never written while it is so -/
 |frz (o:Obj) (u:HO)
 /-- a code object's table -/
 |tbl (ps:Array Value)
 /-- any other thing,by what is true of its one object (a def of one's own: SetO a S n:=HO.ext fun h=>..) -/
 |ext (φ:Heap→Prop)

abbrev Hp:=Addr→Option HO
def upd(H:Hp)(a:Addr)(o:HO):Hp:=fun b=>if b=a then some o else H b
theorem Ak{H:Hp}{a:Addr}{o:HO}:upd H a o a=some o:=by unfold upd;rw[if_pos rfl]
theorem Af{H:Hp}{a b:Addr}{o:HO}(h:b≠a):upd H a o b=H b:=by unfold upd;rw[if_neg h]
theorem Ej{H:Hp}{a b:Addr}{o u:HO}(h:H a=some o)(h':H b=some u)(d:o≠u):a≠b:=by
 intro e;subst e;rw[h] at h';exact d (Option.some.inj h')
theorem Ax{H:Hp}{a b:Addr}{o:HO}(h:H a=some o)(h':H b=none):a≠b:=by
 intro e;subst e;rw[h] at h';cases h'

section
variable(P:Program)(w:World)
def ObjOk(H:Hp)(h:Heap)(a:Addr):HO→Prop
 |.lst xs=>xs.length≤sizeLine∧∃(its:List Value) (n:Nat),Vals xs its∧h.get? a=some { cls:=.type "list",data:=.seq its.toArray n }
 |.tup xs=>xs.length≤sizeLine∧∃its:List Value,Vals xs its∧IsTup h a its.toArray
 |.dK kvs=>kvs.length≤sizeLine∧(a == sysModules)=false∧∃vs,KV kvs vs∧h.DictOf (A3 P w) a vs
 |.dT kvs=>kvs.length≤sizeLine∧(a == sysModules)=false∧∃xs:List (List Key×Addr×Value),
   Paired (fun(p:List Key×V) (q:List Key×Addr×Value)=>p.1=q.1∧H q.2.1=some (.tup (p.1.map kV))∧RelV p.2 q.2.2) kvs xs∧
   ∃o es ep,h.get? a=some o∧o.ExactDict∧o.data=.dict es ep∧es.toList=xs.map (entryOfKey (tupleKind (A3 P w)))∧(xs.map (·.1)).Nodup
 |.set S n=>h.SetOf (intKind P w) a S n
 |.ins C dx fs=>H dx=some (.own a)∧fs.length≤1000∧dx≠a∧h.get? a=some (PySem.W.instObj C dx)∧
   ∃mA,h.Ns1 dx mA∧(∀f,RelO (fs.lookup f) (mA f))∧PySem.Within mA (fs.map (·.1))
 |.own _=>∃o,h.get? a=some o
 |.xd fs=>∃mA,h.Ns1 a mA∧∀f,RelO (fs.lookup f) (mA f)
 |.rng lo hi=>∃t u v,h.get? a=some { cls:=.type "range",data:=.fields #[.int lo t,.int hi u,.int 1 v] }
 |.frz o u=>h.get? a=some o∧ObjOk H h a u
 |.tbl ps=>h.get? a=some { cls:=.none,data:=.fields ps }
 |.met f x=>h.get? a=some (PySem.W.methodObj (.ref f) (.ref x))
 |.ext φ=>φ h∧(∃o,h.get? a=some o)∧∀h1 h2:Heap,φ h1→(∀o,h1.get? a=some o→h2.get? a=some o)→φ h2
def HOk(H:Hp)(h:Heap):Prop:=∀a o,H a=some o→ObjOk P w H h a o
end
section
variable{P:Program}{w:World}{H H':Hp}{h h':Heap}{a:Addr}{o:HO}
theorem ObjOk.lt(x:ObjOk P w H h a o):a<h.objs.size:=by
 cases o with
 |lst xs=>obtain⟨_,_,_,_,e⟩:=x;exact Heap.lt_size e
 |tup xs=>obtain⟨_,_,_,p⟩:=x;exact p.lt
 |dK kvs=>obtain⟨_,_,_,_,o,_,_,e,_⟩:=x;exact Heap.lt_size e
 |dT kvs=>obtain⟨_,_,_,_,o,_,_,e,_⟩:=x;exact Heap.lt_size e
 |set S n=>obtain⟨o,_,_,_,e,_⟩:=x;exact Heap.lt_size e
 |ins C dx fs=>obtain⟨_,_,_,e,_⟩:=x;exact Heap.lt_size e
 |own y=>obtain⟨_,e⟩:=x;exact Heap.lt_size e
 |xd fs=>obtain⟨_,⟨_,_,_,e,_⟩,_⟩:=x;exact Heap.lt_size e
 |rng lo hi=>obtain⟨_,_,_,e⟩:=x;exact Heap.lt_size e
 |frz ob u=>obtain⟨e,_⟩:=x;exact Heap.lt_size e
 |tbl ps=>exact Heap.lt_size (show h.get? a=some _ from x)
 |met f y=>exact Heap.lt_size (show h.get? a=some _ from x)
 |ext φ=>obtain⟨_,⟨_,e⟩,_⟩:=x;exact Heap.lt_size e
theorem Paired.mapP{α β:Type}{F G:α→β→Prop}:∀{l₁:List α} {l₂:List β},Paired F l₁ l₂→(∀a b,F a b→G a b)→Paired G l₁ l₂
 |_,_,.nil,_=>.nil
 |_,_,.cons r t,f=>.cons (f _ _ r) (Paired.mapP t f)
theorem ObjOk.stay(x:ObjOk P w H h a o)(k:∀b u,(b=a∨H b=some (.own a))→h.get? b=some u→h'.get? b=some u)(ho:∀b,H b=some (.own a)→H' b=some (.own a))(ht:∀b xs,H b=some (.tup xs)→H' b=some (.tup xs)):ObjOk P w H' h' a o:=by
 induction o with
 |lst xs=>obtain⟨z,its,n,r,e⟩:=x;exact⟨z,its,n,r,k _ _ (.inl rfl) e⟩
 |tup xs=>obtain⟨z,its,r,ob,e,c⟩:=x;exact⟨z,its,r,ob,k _ _ (.inl rfl) e,c⟩
 |dK kvs=>obtain⟨z,y,vs,r,ob,es,ep,e,c⟩:=x;exact⟨z,y,vs,r,ob,es,ep,k _ _ (.inl rfl) e,c⟩
 |dT kvs=>
  obtain⟨z,y,xs,r,ob,es,ep,e,c⟩:=x
  exact⟨z,y,xs,Paired.mapP r fun p q z=>⟨z.1,ht _ _ z.2.1,z.2.2⟩,ob,es,ep,k _ _ (.inl rfl) e,c⟩
 |set S n=>obtain⟨ob,es,ep,t,e,c⟩:=x;exact⟨ob,es,ep,t,k _ _ (.inl rfl) e,c⟩
 |ins C dx fs=>
  obtain⟨d,z,ne,e,mA,⟨od,es,ep,e2,c⟩,r⟩:=x
  exact⟨ho _ d,z,ne,k _ _ (.inl rfl) e,mA,⟨od,es,ep,k _ _ (.inr d) e2,c⟩,r⟩
 |own y=>obtain⟨ob,e⟩:=x;exact⟨ob,k _ _ (.inl rfl) e⟩
 |xd fs=>obtain⟨mA,⟨od,es,ep,e,c⟩,r⟩:=x;exact⟨mA,⟨od,es,ep,k _ _ (.inl rfl) e,c⟩,r⟩
 |rng lo hi=>obtain⟨t,u,v,e⟩:=x;exact⟨t,u,v,k _ _ (.inl rfl) e⟩
 |frz ob u ih=>obtain⟨e,q⟩:=x;exact⟨k _ _ (.inl rfl) e,ih q⟩
 |tbl ps=>
  have e:h.get? a=some { cls:=.none,data:=.fields ps }:=x
  show h'.get? a=some { cls:=.none,data:=.fields ps }
  exact k a _ (.inl rfl) e
 |met f y=>
  have e:h.get? a=some (PySem.W.methodObj (.ref f) (.ref y)):=x
  show h'.get? a=some (PySem.W.methodObj (.ref f) (.ref y))
  exact k a _ (.inl rfl) e
 |ext φ=>obtain⟨p,⟨o,e⟩,st⟩:=x;exact⟨st _ _ p fun o q=>k _ _ (.inl rfl) q,⟨o,k _ _ (.inl rfl) e⟩,st⟩
theorem HOk.lt(x:HOk P w H h)(e:H a=some o):a<h.objs.size:=(x a o e).lt
theorem HOk.fresh(x:HOk P w H h)(e:h.objs.size≤a):H a=none:=by
 cases q:H a with
 |none=>rfl
 |some u=>exact absurd (Nat.lt_of_lt_of_le (x.lt q) e) (Nat.lt_irrefl _)
theorem HOk.kept(x:HOk P w H h)(k:∀b u,h.get? b=some u→h'.get? b=some u):HOk P w H h':=fun a o e=>
 (x a o e).stay (fun b u _ q=>k b u q) (fun _ q=>q) fun _ _ q=>q
theorem HOk.laid(x:HOk P w H h)(k:∀b u,h.get? b=some u→h'.get? b=some u)(hp:h.objs.size≤a)(new:ObjOk P w (upd H a o) h' a o):HOk P w (upd H a o) h':=fun b u e=>by
 have hn:=x.fresh hp
 by_cases hb:b=a
 ·subst hb;rw[Ak] at e;cases e;exact new
 ·rw[Af hb] at e
  exact(x b u e).stay (fun c v _ q=>k c v q) (fun c q=>by rw[Af (Ax q hn)];exact q) fun c xs q=>by rw[Af (Ax q hn)];exact q
end
def Rd(H:Hp)(a:Addr)(u:HO):Prop:=H a=some u∨∃o,H a=some (.frz o u)
theorem Rd.ok{P:Program}{w:World}{H:Hp}{h:Heap}{a:Addr}{u:HO}(r:Rd H a u)(x:HOk P w H h):ObjOk P w H h a u:=by
 rcases r with r|⟨o,r⟩
 ·exact x a u r
 ·obtain⟨_,q⟩:=x a _ r
  exact q
def Mut:Option HO→Prop
 |some (.lst _)=>True
 |some (.dK _)=>True
 |some (.dT _)=>True
 |some (.set _ _)=>True
 |some (.ins _ _ _)=>True
 |some (.ext _)=>True
 |_=>False
section
variable{P:Program}{w:World}{H:Hp}{h h':Heap}{x e:Addr}{o':HO}
theorem HOk.write(ok:HOk P w H h)(mu:Mut (H x))(he:e=x∨H e=some (.own x))(k:∀b u,b≠e→h.get? b=some u→h'.get? b=some u)(heo:∃u,h'.get? e=some u)(new:ObjOk P w (upd H x o') h' x o'):HOk P w (upd H x o') h':=fun b u q=>by
 have nown:∀c y,H c=some (.own y)→c≠x:=fun c y r z=>by subst z;rw[r] at mu;exact mu
 have ntup:∀c xs,H c=some (.tup xs)→c≠x:=fun c xs r z=>by subst z;rw[r] at mu;exact mu
 by_cases hb:b=x
 ·subst hb;rw[Ak] at q;cases q;exact new
 ·rw[Af hb] at q
  by_cases hbe:b=e
  ·have q':H b=some (.own x):=by
    rcases he with z|z
    ·exact absurd (hbe.trans z) hb
    ·rw[hbe];exact z
   rw[q] at q';cases q'
   obtain⟨v,hv⟩:=heo
   exact⟨v,by rw[hbe];exact hv⟩
  ·refine(ok b u q).stay (fun c v hc r=>k c v ?_ r) (fun c r=>by rw[Af (nown c b r)];exact r) fun c xs r=>by rw[Af (ntup c xs r)];exact r
   rcases hc with rfl|hc
   ·exact hbe
   ·rintro rfl
    rcases he with z|z
    ·exact nown c b hc z
    ·rw[hc] at z;cases z;exact hb rfl
end
structure Un(fs ex:List Addr)(H H':Hp)(h h':Heap):Prop where
 keep:∀b o,h.get? b=some o→H b=none→b ∉ fs→b ∉ ex→h'.get? b=some o
 slot:∀b o,h.get? b=some o→H b=none→b∈fs→b ∉ ex→∃sl,h'.get? b=some { o with slots:=sl }
 free:∀b o,h.get? b=some o→H b=none→b ∉ ex→H' b=none
 there:∀b o,h.get? b=some o→b ∉ ex→∃o',h'.get? b=some o'
 tups:∀b xs,H b=some (.tup xs)→H' b=some (.tup xs)
 frzs:∀b o u,H b=some (.frz o u)→H' b=some (.frz o u)
 tbls:∀b ps,H b=some (.tbl ps)→∃more,H' b=some (.tbl (ps++more))
section
variable{fs fs' ex ex':List Addr}{H H1 H2:Hp}{h h1 h2 h':Heap}{a x e:Addr}{o:HO}
theorem Un.any(u:Un fs ex H H1 h h1){b:Addr}{ob:Obj}(q:h.get? b=some ob)(n:H b=none)(hx:b ∉ ex):∃sl,h1.get? b=some { ob with slots:=sl }:=by
 by_cases hb:b∈fs
 ·exact u.slot b ob q n hb hx
 ·exact⟨ob.slots,u.keep b ob q n hb hx⟩
theorem Un.trans(a:Un fs ex H H1 h h1)(b:Un fs ex H1 H2 h1 h2):Un fs ex H H2 h h2 where
 keep:=fun c ob q n hc hx=>b.keep c ob (a.keep c ob q n hc hx) (a.free c ob q n hx) hc hx
 slot:=fun c ob q n hc hx=>by
  obtain⟨sl,e1⟩:=a.slot c ob q n hc hx
  obtain⟨sl',e2⟩:=b.slot c _ e1 (a.free c ob q n hx) hc hx
  exact⟨sl',e2⟩
 free:=fun c ob q n hx=>by
  obtain⟨o',e1⟩:=a.there c ob q hx
  exact b.free c o' e1 (a.free c ob q n hx) hx
 there:=fun c ob q hx=>by
  obtain⟨o',e1⟩:=a.there c ob q hx
  exact b.there c o' e1 hx
 tups:=fun c xs q=>b.tups c xs (a.tups c xs q)
 frzs:=fun c ob xs q=>b.frzs c ob xs (a.frzs c ob xs q)
 tbls:=fun c ps q=>by
  obtain⟨m1,e1⟩:=a.tbls c ps q
  obtain⟨m2,e2⟩:=b.tbls c _ e1
  exact⟨m1++m2,by rw[e2,Array.append_assoc]⟩
theorem Un.kept(k:∀b u,h.get? b=some u→h'.get? b=some u):Un fs ex H H h h':=
 ⟨fun b ob q _ _ _=>k b ob q,fun b ob q _ _ _=>⟨ob.slots,k b ob q⟩,fun _ _ _ n _=>n,fun b ob q _=>⟨ob,k b ob q⟩,fun _ _ q=>q,fun _ _ _ q=>q,fun _ ps q=>⟨#[],by rw[q];simp⟩⟩
theorem Un.refl:Un fs ex H H h h:=Un.kept fun _ _ q=>q
theorem Un.laid(k:∀b u,h.get? b=some u→h'.get? b=some u)(hp:h.objs.size≤a)(hn:H a=none):Un fs ex H (upd H a o) h h' where
 keep:=fun b u q _ _ _=>k b u q
 slot:=fun b u q _ _ _=>⟨u.slots,k b u q⟩
 free:=fun b u q n _=>by rw[Af (Nat.ne_of_lt (Nat.lt_of_lt_of_le (Heap.lt_size q) hp))];exact n
 there:=fun b u q _=>⟨u,k b u q⟩
 tups:=fun b xs q=>by rw[Af (Ax q hn)];exact q
 frzs:=fun b u xs q=>by rw[Af (Ax q hn)];exact q
 tbls:=fun b ps q=>⟨#[],by rw[Af (Ax q hn),q];simp⟩
theorem Un.write(mu:Mut (H x))(he:e=x∨H e=some (.own x))(k:∀b u,b≠e→h.get? b=some u→h'.get? b=some u)(heo:∃u,h'.get? e=some u):Un fs ex H (upd H x o) h h':=by
 have hx:∀b,H b=none→b≠x:=fun b n z=>by subst z;rw[n] at mu;exact mu
 have hb:∀b,H b=none→b≠e:=fun b n z=>by
  subst z
  rcases he with r|r
  ·exact hx b n r
  ·rw[n] at r;cases r
 have hm:∀b u,H b=some u→¬Mut (some u)→b≠x:=fun b u q nm z=>by subst z;rw[q] at mu;exact nm mu
 refine⟨fun b u q n _ _=>k b u (hb b n) q,fun b u q n _ _=>⟨u.slots,k b u (hb b n) q⟩,fun b u q n _=>by rw[Af (hx b n)];exact n,fun b u q _=>?_,
  fun b xs q=>by rw[Af (hm b _ q fun z=>z)];exact q,fun b u xs q=>by rw[Af (hm b _ q fun z=>z)];exact q,fun b ps q=>⟨#[],by rw[Af (hm b _ q fun z=>z),q];simp⟩⟩
 by_cases hbe:b=e
 ·subst hbe;exact heo
 ·exact⟨u,k b u hbe q⟩
end
def trk(h:Heap)(H:Hp):List Addr:=(List.range h.objs.size).filter fun a=>(H a).isSome
def Mp(h:Heap)(H:Hp):Heap:=PySem.W.hideAll h (trk h H)
theorem U2(h:Heap)(H:Hp):(Mp h H).objs.size=h.objs.size:=PySem.W.hideAll_size _ _
theorem Yr{h:Heap}{H:Hp}{b:Addr}{o:Obj}(e:h.get? b=some o)(n:H b=none):(Mp h H).get? b=some o:=
 PySem.W.hideAll_get _ e fun hm=>by
  have q:(H b).isSome=true:=(List.mem_filter.mp hm).2
  rw[n] at q;simp at q
theorem Aaj{h:Heap}{H:Hp}{b:Addr}{o:Obj}(e:(Mp h H).get? b=some o):h.get? b=some o∧H b=none:=by
 have e':h.get? b=some o:=PySem.W.of_hideAll (trk h H) e
 refine⟨e',?_⟩
 cases q:H b with
 |none=>rfl
 |some x=>
  have hm:b∈trk h H:=List.mem_filter.mpr ⟨List.mem_range.mpr (Heap.lt_size e'),by simp[q]⟩
  have z:(Mp h H).get? b=none:=PySem.W.hideAll_none (trk h H) hm
  rw[z] at e;cases e

def Aa6(g h:Heap)(L:Addr):List (Addr×Obj):=(List.range h.objs.size).filterMap fun a=>if a=L∨(g.get? a).isSome=true then none else (h.get? a).map fun o=>(a,o)
def rest(g h:Heap)(L d:Addr):List (Addr×Obj):=(Aa6 g h L).filter fun p=>decide (p.1≠d)
end L2
namespace L2
open PySem PySem.Spec PyProof.Rows
structure Mod(K:PySem.W.Frag)(mg:Str→Option Value)(base:Heap):Prop where
 kin:K.In base
 glob:base.Ns mainGlobals mg
 sm:∃mm,base.Ns sysModules mm
 bm:∃bm ob,mg "__builtins__" = some (.ref bm)∧bm≠builtinsNs∧base.get? bm=some ob∧ob.cls=.type "module"∧ob.dict=some builtinsNs∧ob.data=.plain
 blt:∃mb,base.Ns builtinsNs mb∧∀x:Str,x≠"__name__"→mb x=bootBuiltins x
 nolimit:base.NoLimit

structure Cx where
 prog:Program
 w:World
 K:PySem.W.Frag
 mg:Str→Option Value
 base:Heap
 A:Around
 N:List Str
 s₀:Shared
 H₀:Hp
 env:Env
 outer:List Env
 stack:List Env
 ex:List Addr
 fn:Str→Bool
 calm:Bool
 pn:List (Addr×Obj)
 xe:Value→Shared→Prop
def frs(l:List Env):List Addr:=l.filterMap (·.frame)
abbrev Cx.fs(X:Cx):List Addr:=frs X.outer

def Vis(sc:Scope)(x:Str):Prop:=sc.names.lookup x=some .local∨sc.names.lookup x=some .cell∨sc.names.lookup x=some .free
def Loc(sc:Scope)(x:Str):Prop:=sc.names.lookup x=some .local∨sc.names.lookup x=some .cell
def Look(env:Env)(h:Heap)(m:Str→Option Value)(x:Str)(u:Value):Prop:=
 (env.kindOf x=some .local∧m x=some u)∨((env.kindOf x=some .cell∨env.kindOf x=some .free)∧∃c,env.cells.lookup x=some c∧h.IsCell c (some u))

structure Cx.Ok(X:Cx):Prop where
 mod:Mod X.K X.mg X.base
 kind:X.env.scope.kind=.function
 glob:X.env.globals=mainGlobals
 blt:X.env.builtins=builtinsNs
 above:X.s₀.heap.objs.size≤X.env.locals
 inj:∀x y c,X.env.cells.lookup x=some c→X.env.cells.lookup y=some c→x=y
 has:∀x,(X.env.kindOf x=some .cell∨X.env.kindOf x=some .free)→∃c,X.env.cells.lookup x=some c
 cab:∀x c,X.fn x=true→X.env.cells.lookup x=some c→X.s₀.heap.objs.size≤c
 hd:X.calm=true→X.A.handled=none
 frames:X.A.frames=some X.stack
 stk:X.stack=X.outer∨(X.stack=X.env::X.outer∧X.env.frame=some X.env.locals)
 exf:∀b∈X.ex,b≠X.env.locals∧∀x c,X.env.cells.lookup x=some c→c≠b
 bs:∀b o,X.base.get? b=some o→X.s₀.heap.get? b=some o∧X.H₀ b=none
 bsz:X.base.objs.size≤X.s₀.heap.objs.size
 noex:∀b o,X.base.get? b=some o→b ∉ X.ex
 exfs:∀b∈X.ex,b ∉ X.fs
 funs:X.s₀.heap.FunFrames X.base X.outer
 frf:∀b∈X.fs,X.H₀ b=none

structure Inv(X:Cx)(pins:List (Addr×Obj))(σ:List (Option V))(H:Hp)(s:Shared):Prop where
 ok:X.Ok
 os:s.os=X.s₀.os
 bare:AllBare s.gens
 base:Un X.fs X.ex X.H₀ H X.s₀.heap s.heap
 loc:∃m,s.heap.Ns X.env.locals m∧∀(i:Nat) (x:Str) (v:V),X.N[i]? = some x→σ[i]? = some (some v)→Vis X.env.scope x→∃u,RelV v u∧Look X.env s.heap m x u
 cell:∀x c,X.env.cells.lookup x=some c→∃v,s.heap.IsCell c v
 free:H X.env.locals=none
 freeC:∀x c,X.env.cells.lookup x=some c→H c=none
 pin:∀p∈X.pn++pins,s.heap.get? p.1=some p.2∧H p.1=none∧p.1≠X.env.locals∧p.1 ∉ X.fs∧∀v,p.2.data≠.cell v
 hok:HOk X.prog X.w H s.heap
 len:σ.length=X.N.length

section
variable{X:Cx}{pins:List (Addr×Obj)}{σ:List (Option V)}{H H':Hp}{s:Shared}{h':Heap}
theorem Cx.Ok.nofr(ok:X.Ok){b:Addr}{o:Obj}(e:X.base.get? b=some o):b ∉ X.fs:=fun hb=>by
 have:=(ok.funs.mem hb).1
 rw[e] at this;cases this
theorem Inv.bs(I:Inv X pins σ H s):∀b o,X.base.get? b=some o→s.heap.get? b=some o∧H b=none:=fun b o e=>
 ⟨I.base.keep b o (I.ok.bs b o e).1 (I.ok.bs b o e).2 (I.ok.nofr e) (I.ok.noex b o e),I.base.free b o (I.ok.bs b o e).1 (I.ok.bs b o e).2 (I.ok.noex b o e)⟩
theorem Inv.bk(I:Inv X pins σ H s):∀b o,X.base.get? b=some o→s.heap.get? b=some o:=fun b o e=>(I.bs b o e).1
theorem Inv.mod(I:Inv X pins σ H s):Mod X.K X.mg X.base:=I.ok.mod
theorem Inv.kIn(I:Inv X pins σ H s):X.K.In s.heap:=I.ok.mod.kin.keeps I.bk
theorem Inv.lt(I:Inv X pins σ H s):X.env.locals<s.heap.objs.size:=let ⟨_,hn,_⟩:=I.loc;hn.lt
theorem Inv.sz(I:Inv X pins σ H s):X.s₀.heap.objs.size≤s.heap.objs.size:=Nat.le_trans I.ok.above (Nat.le_of_lt I.lt)
theorem Inv.nofs(I:Inv X pins σ H s){a:Addr}(h:s.heap.objs.size≤a):a ∉ X.fs:=fun hb=>by
 obtain⟨_,o,ho,_⟩:=I.ok.funs.mem hb
 exact absurd (Nat.lt_of_lt_of_le (Heap.lt_size ho) (Nat.le_trans I.sz h)) (Nat.lt_irrefl _)
theorem Inv.cne(I:Inv X pins σ H s):∀x c,X.env.cells.lookup x=some c→c≠X.env.locals:=fun x c e z=>by
 obtain⟨v,o,ho,hd⟩:=I.cell x c e
 obtain⟨m,⟨o',es,ep,ho',hd',_⟩,_⟩:=I.loc
 rw[z,ho'] at ho;cases ho;rw[hd'] at hd;cases hd
theorem Inv.funs(I:Inv X pins σ H s):s.heap.FunFrames X.base X.outer:=by
 have all:∀(l:List Env),(∀b∈frs l,b∈X.fs)→X.s₀.heap.FunFrames X.base l→s.heap.FunFrames X.base l:=by
  intro l
  induction l with
  |nil=>intro _ _;trivial
  |cons env r ih=>
   intro hs hl
   obtain⟨hk,⟨L,o,hf,hn,ho,hd⟩,hr⟩:=hl
   have hL:L∈X.fs:=hs L (by unfold frs;rw[List.filterMap_cons,hf];exact List.mem_cons_self)
   obtain⟨sl,e⟩:=I.base.slot L o ho (I.ok.frf L hL) hL fun z=>I.ok.exfs L z hL
   exact⟨hk,⟨L,_,hf,hn,e,hd⟩,ih (fun b hb=>hs b (by unfold frs;rw[List.filterMap_cons,hf];exact List.mem_cons_of_mem _ hb)) hr⟩
 exact all X.outer (fun _ hb=>hb) I.ok.funs

theorem Inv.stack(I:Inv X pins σ H s):s.heap.FunFrames X.base X.stack:=by
 rcases I.ok.stk with e|⟨e,hf⟩
 ·rw[e];exact I.funs
 ·rw[e]
  obtain⟨m,hn,_⟩:=I.loc
  refine .cons (by rw[I.ok.kind];decide) hf hn ?_ I.funs
  exact Heap.get?_none_of_le (Nat.le_trans I.ok.bsz I.ok.above)
theorem Inv.stkSub(I:Inv X pins σ H s):∀b∈frs X.stack,b∈X.env.locals::X.fs:=fun b hb=>by
 rcases I.ok.stk with e|⟨e,hf⟩
 ·rw[e] at hb;exact List.mem_cons_of_mem _ hb
 ·rw[e] at hb
  unfold frs at hb
  rw[List.filterMap_cons,hf] at hb
  exact hb
theorem Inv.stkFree(I:Inv X pins σ H s):∀b∈frs X.stack,H b=none:=fun b hb=>by
 rcases List.mem_cons.mp (I.stkSub b hb) with e|hb
 ·rw[e];exact I.free
 ·obtain⟨_,o,ho,_⟩:=I.ok.funs.mem hb
  exact I.base.free b o ho (I.ok.frf b hb) fun z=>I.ok.exfs b z hb

theorem Inv.step{g':Array GenState}{t':Nat}{d':Drawn}{ch:List Addr}(I:Inv X pins σ H s)(hch:∀b∈ch,(b∈X.ex∨X.s₀.heap.objs.size≤b)∧b≠X.env.locals∧(∀x c,X.env.cells.lookup x=some c→c≠b)∧∀p∈X.pn++pins,p.1≠b)(keep:∀b o,b≠X.env.locals→b ∉ X.fs→b ∉ ch→s.heap.get? b=some o→H b=none→h'.get? b=some o)(slot:∀b o,b≠X.env.locals→b∈X.fs→b ∉ ch→s.heap.get? b=some o→H b=none→∃sl,h'.get? b=some { o with slots:=sl })(free:∀b o,b ∉ ch→s.heap.get? b=some o→H b=none→H' b=none)(there:∀b o,b ∉ ch→s.heap.get? b=some o→∃o',h'.get? b=some o')(tups:∀b xs,H b=some (.tup xs)→H' b=some (.tup xs))(frzs:∀b o u,H b=some (.frz o u)→H' b=some (.frz o u))(tbls:∀b ps,H b=some (.tbl ps)→∃more,H' b=some (.tbl (ps++more)))(ns:∀m,s.heap.Ns X.env.locals m→h'.Ns X.env.locals m)(hok:HOk X.prog X.w H' h')(hg:AllBare g') :
  Inv X pins σ H' { s with heap:=h',gens:=g',drawn:=d',toks:=t' }:=by
 have neL:∀b o,X.s₀.heap.get? b=some o→b≠X.env.locals:=fun b o e=>Nat.ne_of_lt (Nat.lt_of_lt_of_le (Heap.lt_size e) I.ok.above)
 have neC:∀b o,X.s₀.heap.get? b=some o→b ∉ X.ex→b ∉ ch:=fun b o e hx hb=>by
  rcases(hch b hb).1 with z|z
  ·exact hx z
  ·exact absurd (Nat.lt_of_lt_of_le (Heap.lt_size e) z) (Nat.lt_irrefl _)
 have cellK:∀x c,X.env.cells.lookup x=some c→∀v,s.heap.IsCell c v→h'.IsCell c v:=fun x c e v ⟨o,ho,hd⟩=>by
  have nch:c ∉ ch:=fun z=>(hch c z).2.2.1 x c e rfl
  by_cases hc:c∈X.fs
  ·obtain⟨sl,q⟩:=slot c o (I.cne x c e) hc nch ho (I.freeC x c e)
   exact⟨_,q,hd⟩
  ·exact⟨o,keep c o (I.cne x c e) hc nch ho (I.freeC x c e),hd⟩
 refine⟨I.ok,I.os,hg,⟨fun b o e n hb hx=>?_,fun b o e n hb hx=>?_,fun b o e n hx=>?_,fun b o e hx=>?_,fun b xs e=>tups b xs (I.base.tups b xs e),fun b o xs e=>frzs b o xs (I.base.frzs b o xs e),fun b ps e=>?_⟩,?_,fun x c e=>?_,?_,fun x c e=>?_,fun p hp=>?_,hok,I.len⟩
 ·exact keep b o (neL b o e) hb (neC b o e hx) (I.base.keep b o e n hb hx) (I.base.free b o e n hx)
 ·obtain⟨sl,e1⟩:=I.base.slot b o e n hb hx
  obtain⟨sl',e2⟩:=slot b _ (neL b o e) hb (neC b o e hx) e1 (I.base.free b o e n hx)
  exact⟨sl',e2⟩
 ·obtain⟨o',e1⟩:=I.base.there b o e hx
  exact free b o' (neC b o e hx) e1 (I.base.free b o e n hx)
 ·obtain⟨o',e1⟩:=I.base.there b o e hx
  exact there b o' (neC b o e hx) e1
 ·obtain⟨m1,e1⟩:=I.base.tbls b ps e
  obtain⟨m2,e2⟩:=tbls b _ e1
  exact⟨m1++m2,by rw[e2,Array.append_assoc]⟩
 ·obtain⟨m,hn,hl⟩:=I.loc
  refine⟨m,ns m hn,fun i x v e1 e2 e3=>?_⟩
  obtain⟨u,r,l⟩:=hl i x v e1 e2 e3
  refine⟨u,r,?_⟩
  rcases l with l|⟨k,c,e,z⟩
  ·exact .inl l
  ·exact .inr ⟨k,c,e,cellK x c e _ z⟩
 ·obtain⟨v,z⟩:=I.cell x c e
  exact⟨v,cellK x c e v z⟩
 ·obtain⟨m,⟨o,_,_,ho,_⟩,_⟩:=I.loc
  exact free _ o (fun z=>(hch _ z).2.1 rfl) ho I.free
 ·obtain⟨v,o,ho,hd⟩:=I.cell x c e
  exact free c o (fun z=>(hch c z).2.2.1 x c e rfl) ho (I.freeC x c e)
 ·obtain⟨e,n,ne,nf,d⟩:=I.pin p hp
  have nch:p.1 ∉ ch:=fun z=>(hch p.1 z).2.2.2 p hp rfl
  exact⟨keep p.1 p.2 ne nf nch e n,free p.1 p.2 nch e n,ne,nf,d⟩
theorem Inv.un{t':Nat}(I:Inv X pins σ H s)(u:Un X.fs [] H H' s.heap h')(hok:HOk X.prog X.w H' h'):Inv X pins σ H' { s with heap:=h',toks:=t' }:=by
 obtain⟨m,⟨o,es,ep,ho,r⟩,_⟩:=id I.loc
 obtain⟨sl,hL⟩:=u.any ho I.free (by simp)
 exact I.step (g':=s.gens) (d':=s.drawn) (ch:=[]) (fun _ z=>nomatch z) (fun b o _ hb _ e n=>u.keep b o e n hb (by simp)) (fun b o _ hb _ e n=>u.slot b o e n hb (by simp)) (fun b o _ e n=>u.free b o e n (by simp)) (fun b o _ e=>u.there b o e (by simp)) u.tups u.frzs u.tbls (fun m' hm=>by
  obtain⟨o',es',ep',ho',r'⟩:=hm
  rw[ho] at ho';cases ho'
  exact⟨_,es',ep',hL,r'⟩) hok I.bare
theorem Inv.call{g':Array GenState}{t':Nat}{d':Drawn}{ch:List Addr}(I:Inv X pins σ H s)(u:Un (frs X.stack) ch H H' s.heap h')(hok:HOk X.prog X.w H' h')(hg:AllBare g')(hch:∀b∈ch,(b∈X.ex∨X.s₀.heap.objs.size≤b)∧b≠X.env.locals∧(∀x c,X.env.cells.lookup x=some c→c≠b)∧∀p∈X.pn++pins,p.1≠b) :
  Inv X pins σ H' { s with heap:=h',gens:=g',drawn:=d',toks:=t' }:=by
 obtain⟨m,⟨o,es,ep,ho,r⟩,_⟩:=id I.loc
 obtain⟨sl,hL⟩:=u.any ho I.free fun z=>(hch _ z).2.1 rfl
 exact I.step (ch:=ch) hch (fun b o hL hb hc e n=>u.keep b o e n (fun z=>(List.mem_cons.mp (I.stkSub b z)).elim hL hb) hc) (fun b o _ _ hc e n=>u.any e n hc) (fun b o hc e n=>u.free b o e n hc) (fun b o hc e=>u.there b o e hc) u.tups u.frzs u.tbls (fun m' hm=>by
  obtain⟨o',es',ep',ho',r'⟩:=hm
  rw[ho] at ho';cases ho'
  exact⟨_,es',ep',hL,r'⟩) hok hg
theorem Inv.turned{t':Nat}{it:Addr}(I:Inv X pins σ H s)(k:∀b o,b≠it→s.heap.get? b=some o→h'.get? b=some o)(hn:H it=none)(hL:it≠X.env.locals)(h1:it∈X.ex∨X.s₀.heap.objs.size≤it)(h2:∀x c,X.env.cells.lookup x=some c→c≠it)(h3:∀p∈X.pn++pins,p.1≠it):Inv X pins σ H { s with heap:=h',toks:=t' }:=by
 have nit:∀b u,H b=some u→b≠it:=fun b u e z=>by rw[z,hn] at e;cases e
 refine I.step (g':=s.gens) (d':=s.drawn) (ch:=[it]) (fun b hb=>?_) (fun b o _ _ hc e _=>k b o (fun z=>hc (by simp[z])) e) (fun b o _ _ hc e _=>⟨o.slots,k b o (fun z=>hc (by simp[z])) e⟩) (fun _ _ _ _ n=>n)
  (fun b o hc e=>⟨o,k b o (fun z=>hc (by simp[z])) e⟩) (fun _ _ e=>e) (fun _ _ _ e=>e) (fun b ps e=>⟨#[],by rw[e];simp⟩) (fun m hm=>?_) (fun b u e=>?_) I.bare
 ·have e:b=it:=by simpa using hb
  subst e
  exact⟨h1,hL,h2,h3⟩
 ·obtain⟨o,es,ep,ho,r⟩:=hm
  exact⟨o,es,ep,k _ o (Ne.symm hL) ho,r⟩
 ·refine(I.hok b u e).stay (fun c v hc q=>k c v ?_ q) (fun _ q=>q) fun _ _ q=>q
  rcases hc with z|z
  ·rw[z];exact nit b u e
  ·exact nit c _ z
theorem Inv.tok(I:Inv X pins σ H s)(t:Nat):Inv X pins σ H { s with toks:=t }:=I.un (h':=s.heap) (t':=t) Un.refl I.hok
theorem Inv.kept{t':Nat}(I:Inv X pins σ H s)(k:∀b u,s.heap.get? b=some u→h'.get? b=some u):Inv X pins σ H { s with heap:=h',toks:=t' }:=I.un (Un.kept k) (I.hok.kept k)
theorem Inv.laid{a:Addr}{o:HO}{t':Nat}(I:Inv X pins σ H s)(k:∀b u,s.heap.get? b=some u→h'.get? b=some u)(hp:s.heap.objs.size≤a)(new:ObjOk X.prog X.w (upd H a o) h' a o) :
  Inv X pins σ (upd H a o) { s with heap:=h',toks:=t' }:=I.un (Un.laid k hp (I.hok.fresh hp)) (I.hok.laid k hp new)
theorem Inv.write{x e:Addr}{o:HO}{t':Nat}(I:Inv X pins σ H s)(mu:Mut (H x))(he:e=x∨H e=some (.own x))(k:∀b u,b≠e→s.heap.get? b=some u→h'.get? b=some u)(heo:∃u,h'.get? e=some u)(new:ObjOk X.prog X.w (upd H x o) h' x o):Inv X pins σ (upd H x o) { s with heap:=h',toks:=t' }:=I.un (Un.write mu he k heo) (I.hok.write mu he k heo new)
theorem Inv.pins_of{pins':List (Addr×Obj)}(I:Inv X pins σ H s)(h:∀p∈pins',s.heap.get? p.1=some p.2∧H p.1=none∧p.1≠X.env.locals∧p.1 ∉ X.fs∧∀v,p.2.data≠.cell v):Inv X pins' σ H s:=
 ⟨I.ok,I.os,I.bare,I.base,I.loc,I.cell,I.free,I.freeC,fun p hp=>(List.mem_append.mp hp).elim (fun z=>I.pin p (List.mem_append_left _ z)) (h p),I.hok,I.len⟩

theorem Ot{N:List Str}(hN:N.Nodup){i j:Nat}{x:Str}(a:N[i]? = some x)(b:N[j]? = some x):i=j:=by
 obtain⟨h1,e1⟩:=List.getElem?_eq_some_iff.mp a
 obtain⟨h2,e2⟩:=List.getElem?_eq_some_iff.mp b
 exact(List.getElem_inj hN).mp (e1.trans e2.symm)

theorem Hb{M:Model}{A:Around}{E:Value→Shared→Prop}{i:Nat}{x:Str}{v:V}{u:Value}{Q:Unit→Shared→Prop}(I:Inv X pins σ H s)(hN:X.N.Nodup)(hi:X.N[i]? = some x)(hx:Loc X.env.scope x)(r:RelV v u)(h:∀s',Inv X pins (σ.set i (some v)) H s'→(∃a,Heap.SameBut a s.heap s'.heap∧(a=X.env.locals∨X.env.cells.lookup x=some a))→Q () s')(hf:X.fn x=true∨X.env.scope.names.lookup x=some .local:=by first|exact .inl rfl|exact .inr rfl|assumption):wpAny M A (storeName X.env x u) Q E s:=by
 obtain⟨m,hn,hl⟩:=id I.loc
 have hcls:(X.env.scope.kind == .class||(X.env.scope.kind == .module&&X.env.locals != X.env.globals))=false:=by rw[I.ok.kind];rfl
 have hiσ:i<σ.length:=by rw[I.len];exact(List.getElem?_eq_some_iff.mp hi).1
 have cne:=I.cne
 have tracked:∀{a:Addr} {h':Heap},(∃o,s.heap.get? a=some o∧H a=none)→Heap.SameBut a s.heap h'→HOk X.prog X.w H h':=fun {a h'} ha hs b ob e=>by
  obtain⟨_,_,hfree⟩:=ha
  refine(I.hok b ob e).stay (fun c w' hc q=>(hs.2 c ?_).trans q) (fun _ q=>q) fun _ _ q=>q
  rintro rfl
  rcases hc with rfl|hc
  ·rw[hfree] at e;cases e
  ·rw[hfree] at hc;cases hc
 rcases hx with hk|hk
 ·refine wpAny_storeName_local hk hn (fun h' hn' hs=>?_) hcls
  obtain⟨oL,_,_,hoL,_⟩:=id hn
  refine h _ ⟨I.ok,I.os,I.bare,⟨fun b o e n hb hx=>?_,fun b o e n hb hx=>?_,I.base.free,fun b o e hx=>?_,I.base.tups,I.base.frzs,I.base.tbls⟩,⟨_,hn',fun j y v' e1 e2 e3=>?_⟩,fun y c e=>?_,I.free,I.freeC,fun p hp=>?_,tracked ⟨oL,hoL,I.free⟩ hs,by simpa using I.len⟩ ⟨_,hs,.inl rfl⟩
  ·exact(hs.2 b (Nat.ne_of_lt (Nat.lt_of_lt_of_le (Heap.lt_size e) I.ok.above))).trans (I.base.keep b o e n hb hx)
  ·obtain⟨sl,e1⟩:=I.base.slot b o e n hb hx
   exact⟨sl,(hs.2 b (Nat.ne_of_lt (Nat.lt_of_lt_of_le (Heap.lt_size e) I.ok.above))).trans e1⟩
  ·obtain⟨o',e1⟩:=I.base.there b o e hx
   exact⟨o',(hs.2 b (Nat.ne_of_lt (Nat.lt_of_lt_of_le (Heap.lt_size e) I.ok.above))).trans e1⟩
  ·by_cases hj:j=i
   ·subst hj
    rw[hi] at e1;cases e1
    rw[List.getElem?_set_self hiσ] at e2
    cases e2
    exact⟨u,r,.inl ⟨hk,by simp⟩⟩
   ·rw[List.getElem?_set_ne (Ne.symm hj)] at e2
    obtain⟨u',r',q⟩:=hl j y v' e1 e2 e3
    refine⟨u',r',?_⟩
    rcases q with ⟨k,e⟩|⟨k,c,e,z⟩
    ·refine .inl ⟨k,?_⟩
     have:y≠x:=fun e=>hj (Ot hN e1 (e ▸ hi))
     simp[this,e]
    ·exact .inr ⟨k,c,e,z.sameBut hs (cne y c e)⟩
  ·obtain⟨w',z⟩:=I.cell y c e
   exact⟨w',z.sameBut hs (cne y c e)⟩
  ·obtain⟨e,n,ne,nf,d⟩:=I.pin p hp
   exact⟨(hs.2 p.1 ne).trans e,n,ne,nf,d⟩
 ·have hfn:X.fn x=true:=by
   rcases hf with z|z
   ·exact z
   ·rw[z] at hk;cases hk
  obtain⟨c,hc⟩:=I.ok.has x (.inl hk)
  obtain⟨w',z⟩:=I.cell x c hc
  refine wpAny_storeName_cell I.ok.kind hk hc z (fun h' hc' hs=>?_)
  obtain⟨oc,hoc,hocd⟩:=id z
  refine h { s with heap:=h' } ⟨I.ok,I.os,I.bare,⟨fun b o e n hb hx=>?_,fun b o e n hb hx=>?_,I.base.free,fun b o e hx=>?_,I.base.tups,I.base.frzs,I.base.tbls⟩,⟨m,hn.sameBut hs (Ne.symm (cne x c hc)),fun j y v' e1 e2 e3=>?_⟩,fun y c' e=>?_,I.free,I.freeC,fun p hp=>?_,tracked ⟨oc,hoc,I.freeC x c hc⟩ hs,by simpa using I.len⟩ ⟨c,hs,.inr hc⟩
  ·exact(hs.2 b (Nat.ne_of_lt (Nat.lt_of_lt_of_le (Heap.lt_size e) (I.ok.cab x c hfn hc)))).trans (I.base.keep b o e n hb hx)
  ·obtain⟨sl,e1⟩:=I.base.slot b o e n hb hx
   exact⟨sl,(hs.2 b (Nat.ne_of_lt (Nat.lt_of_lt_of_le (Heap.lt_size e) (I.ok.cab x c hfn hc)))).trans e1⟩
  ·obtain⟨o',e1⟩:=I.base.there b o e hx
   exact⟨o',(hs.2 b (Nat.ne_of_lt (Nat.lt_of_lt_of_le (Heap.lt_size e) (I.ok.cab x c hfn hc)))).trans e1⟩
  ·by_cases hj:j=i
   ·subst hj
    rw[hi] at e1;cases e1
    rw[List.getElem?_set_self hiσ] at e2
    cases e2
    exact⟨u,r,.inr ⟨.inl hk,c,hc,hc'⟩⟩
   ·rw[List.getElem?_set_ne (Ne.symm hj)] at e2
    obtain⟨u',r',q⟩:=hl j y v' e1 e2 e3
    refine⟨u',r',?_⟩
    rcases q with q|⟨k,c',e,z'⟩
    ·exact .inl q
    ·refine .inr ⟨k,c',e,z'.sameBut hs ?_⟩
     rintro rfl
     exact hj (Ot hN e1 (I.ok.inj _ _ _ e hc ▸ hi))
  ·by_cases hcc:c'=c
   ·subst hcc;exact⟨_,hc'⟩
   ·obtain⟨w2,z2⟩:=I.cell y c' e
    exact⟨w2,z2.sameBut hs hcc⟩
  ·obtain⟨e,n,ne,nf,d⟩:=I.pin p hp
   refine⟨(hs.2 p.1 ?_).trans e,n,ne,nf,d⟩
   intro q
   rw[q,hoc] at e
   have q':oc=p.2:=Option.some.inj e
   exact d w' (by rw[←q'];exact hocd)
theorem C1{M:Model}{A:Around}{E:Value→Shared→Prop}{i:Nat}{x:Str}{v:V}{u:Value}{Q:Unit→Shared→Prop}(I:Inv X pins σ H s)(hN:X.N.Nodup)(hi:X.N[i]? = some x)(hx:Loc X.env.scope x)(r:RelV v u)(h:∀s',Inv X pins (σ.set i (some v)) H s'→Q () s')(hf:X.fn x=true∨X.env.scope.names.lookup x=some .local:=by first|exact .inl rfl|exact .inr rfl|assumption):wpAny M A (storeName X.env x u) Q E s:=
 Hb I hN hi hx r (fun s' I' _=>h s' I') hf
theorem Inv.call'{s':Shared}{ch:List Addr}(I:Inv X pins σ H s)(ho:s'.os=s.os)(u:Un (frs X.stack) ch H H' s.heap s'.heap)(hok:HOk X.prog X.w H' s'.heap)(hg:AllBare s'.gens)(hch:∀b∈ch,(b∈X.ex∨X.s₀.heap.objs.size≤b)∧b≠X.env.locals∧(∀x c,X.env.cells.lookup x=some c→c≠b)∧∀p∈X.pn++pins,p.1≠b):Inv X pins σ H' s':=by
 obtain⟨h',g',d',t',o'⟩:=s'
 have e:o'=s.os:=ho
 subst e
 exact I.call (g':=g') (t':=t') (d':=d') u hok hg hch
end
abbrev XK:=Value→Option Addr→Hp→Prop
abbrev St:=List (Option V)
abbrev VK:=V→Hp→Prop
abbrev TE:=St→Hp→VK→Prop
abbrev TT:=St→Hp→(Bool→Hp→Prop)→Prop
abbrev TA:=St→Hp→(List V→Hp→Prop)→Prop
structure Ends where
 nx:St→Hp→Prop
 rt:VK
 bk:St→Hp→Prop:=fun _ _=>False
 ct:St→Hp→Prop:=fun _ _=>False
abbrev TS:=Ends→St→Hp→Prop

def EP(X:Cx)(pins:List (Addr×Obj))(σ:St)(Q:VK)(u:Value)(s':Shared):Prop:=∃v H',Inv X pins σ H' s'∧RelV v u∧Q v H'
def TP(X:Cx)(pins:List (Addr×Obj))(σ:St)(Q:Bool→Hp→Prop)(b:Bool)(s':Shared):Prop:=∃H',Inv X pins σ H' s'∧Q b H'
def AP(X:Cx)(pins:List (Addr×Obj))(σ:St)(Q:List V→Hp→Prop)(us:List Value)(s':Shared):Prop:=∃vs H',Inv X pins σ H' s'∧Vals vs us∧Q vs H'
def SP(X:Cx)(pins:List (Addr×Obj))(D:Ends)(f:Flow)(s':Shared):Prop:=
 match f with
 |.next=>∃σ' H',Inv X pins σ' H' s'∧D.nx σ' H'
 |.brk=>∃σ' H',Inv X pins σ' H' s'∧D.bk σ' H'
 |.cont=>∃σ' H',Inv X pins σ' H' s'∧D.ct σ' H'
 |.ret u=>∃v σ' H',Inv X pins σ' H' s'∧RelV v u∧D.rt v H'

def PE(X:Cx)(e:Expr)(t:TE):Prop:=
 ∀(pins:List (Addr×Obj)) (s:Shared) (σ:St) (H:Hp) (Q:VK),Inv X pins σ H s→t σ H Q→wpAny (model X.prog X.w) X.A (eval e X.env) (EP X pins σ Q) X.xe s
def PT(X:Cx)(e:Expr)(t:TT):Prop:=
 ∀(pins:List (Addr×Obj)) (s:Shared) (σ:St) (H:Hp) (Q:Bool→Hp→Prop),Inv X pins σ H s→t σ H Q→wpAny (model X.prog X.w) X.A (isTrue e X.env (eval e X.env)) (TP X pins σ Q) X.xe s
def PW(X:Cx)(e:Expr)(t:TT):Prop:=
 ∀(whole:Sem Value) (pins:List (Addr×Obj)) (s:Shared) (σ:St) (H:Hp) (Q:Bool→Hp→Prop),Inv X pins σ H s→t σ H Q→wpAny (model X.prog X.w) X.A (isTrue e X.env whole) (TP X pins σ Q) X.xe s
theorem PW.pt{X:Cx}{e:Expr}{t:TT}(h:PW X e t):PT X e t:=h _
def PA(X:Cx)(es:List Expr)(t:TA):Prop:=
 ∀(pos:Pos) (pins:List (Addr×Obj)) (s:Shared) (σ:St) (H:Hp) (Q:List V→Hp→Prop),Inv X pins σ H s→t σ H Q→wpAny (model X.prog X.w) X.A (spliced (backTo pos (starEach es X.env))) (AP X pins σ Q) X.xe s
def PS(X:Cx)(st:Stmt)(t:TS):Prop:=
 ∀(pins:List (Addr×Obj)) (s:Shared) (σ:St) (H:Hp) (D:Ends),Inv X pins σ H s→t D σ H→wpAny (model X.prog X.w) X.A (exec st X.env) (SP X pins D) X.xe s
def PSs(X:Cx)(st:List Stmt)(t:TS):Prop:=
 ∀(pins:List (Addr×Obj)) (s:Shared) (σ:St) (H:Hp) (D:Ends),Inv X pins σ H s→t D σ H→wpAny (model X.prog X.w) X.A (execs st X.env) (SP X pins D) X.xe s
theorem thn{α:Type}{t:Sem α}{Q Q':α→Shared→Prop}{M:Model}{A:Around}{E:Value→Shared→Prop}{s:Shared}(h:wpAny M A t Q E s)(hQ:∀a s,Q a s→Q' a s):wpAny M A t Q' E s:=wpAny_mono h hQ fun _ _ x=>x
end L2
namespace L2
open PySem PySem.Spec PyProof.Rows
section
variable{X:Cx}
theorem bin{a b:Expr}{ta tb:TE}(ha:PE X a ta)(hb:PE X b tb){pins:List (Addr×Obj)}{s:Shared}{σ:St}{H:Hp}{R:V→V→Hp→Prop}(I:Inv X pins σ H s)(h:ta σ H fun x H1=>tb σ H1 fun y H2=>R x y H2){α:Type}{Q:α→Shared→Prop}{f:Value→Value→Sem α}(hf:∀v u s2 x y H2,Inv X pins σ H2 s2→RelV x v→RelV y u→R x y H2→wpAny (model X.prog X.w) X.A (f v u) Q X.xe s2) :
  wpAny (model X.prog X.w) X.A (eval a X.env) (fun v s₁=>wpAny (model X.prog X.w) X.A (eval b X.env) (fun u s₂=>wpAny (model X.prog X.w) X.A (f v u) Q X.xe s₂) X.xe s₁) X.xe s:=by
 refine thn (ha pins s σ H _ I h) fun v s1 ⟨x,H1,I1,r1,q1⟩=>?_
 refine thn (hb pins s1 σ H1 _ I1 q1) fun u s2 ⟨y,H2,I2,r2,q2⟩=>?_
 exact hf v u s2 x y H2 I2 r1 r2 q2

def tVar(i:Nat):TE:=fun σ H Q=>∃v,σ[i]? = some (some v)∧Q v H
def tC(v:V):TE:=fun _ H Q=>Q v H
theorem Wi{i:Nat}{x:Str}{pos:Pos}(hN:X.N[i]? = some x)(hv:Vis X.env.scope x)(hd:(x == ("__debug__" : Str))=false:=by decide)(hcd:(x == ("__classdict__" : Str))=false:=by decide):PE X (.Name x pos) (tVar i):=by
 intro pins s σ H Q I h
 obtain⟨v,e,h⟩:=h
 obtain⟨m,hn,hl⟩:=I.loc
 obtain⟨u,r,l⟩:=hl i x v hN e hv
 have fin:EP X pins σ Q u s:=⟨v,H,I,r,h⟩
 rcases l with ⟨hk,hm⟩|⟨hk,c,hc,hcell⟩
 ·exact wpAny_Name (wpAny_loadName_local I.ok.kind hk hn hm fin) hd
 ·rcases hk with hk|hk
  ·exact wpAny_Name (wpAny_loadName_cell I.ok.kind hk hc hcell fin) hd
  ·exact wpAny_Name (wpAny_loadName_free I.ok.kind hk hc hcell fin hcd) hd
theorem Ac9{i j pos}:PE X (.Constant (.int i) j pos) (tC (.int i)):=fun _ _ _ H _ I h=>wpAny_Constant_int ⟨.int i,H,I.tok _,⟨_,rfl⟩,h⟩
theorem pe_bl{b j pos}:PE X (.Constant (.bool b) j pos) (tC (.bl b)):=fun _ _ _ H _ I h=>Constant_bool ⟨.bl b,H,I,rfl,h⟩
theorem Ac6{j pos}:PE X (.Constant .none j pos) (tC .non):=fun _ _ _ H _ I h=>Constant_none ⟨.non,H,I,rfl,h⟩
theorem Ac3{x j pos}:PE X (.Constant (.str x) j pos) (tC (.str x)):=fun _ _ _ H _ I h=>Calls.Constant_str ⟨.str x,H,I.tok _,⟨_,rfl⟩,h⟩

def Gl(X:Cx)(x:Str):Prop:=X.env.kindOf x=some .globalImplicit
theorem M6{E:Value→Shared→Prop}{pins:List (Addr×Obj)}{s:Shared}{σ:St}{H:Hp}{x:Str}{u:Value}{pos:Pos}{Q:Value→Shared→Prop}(I:Inv X pins σ H s)(hg:Gl X x)(hm:X.mg x=some u)(h:Q u s)(hd:(x == ("__debug__" : Str))=false:=by decide):wpAny (model X.prog X.w) X.A (eval (.Name x pos) X.env) Q E s:=
 Calls.Name_function_global I.ok.kind hg (Calls.loadGlobal_global (by rw[I.ok.glob];exact I.mod.glob.keeps I.bk) hm h) hd
theorem D8{E:Value→Shared→Prop}{pins:List (Addr×Obj)}{s:Shared}{σ:St}{H:Hp}{x:Str}{u:Value}{pos:Pos}{Q:Value→Shared→Prop}(I:Inv X pins σ H s)(hg:Gl X x)(hm:X.mg x=none)(hv:bootBuiltins x=some u)(h:Q u s)(hn:x≠"__name__":=by decide)(hd:(x == ("__debug__" : Str))=false:=by decide):wpAny (model X.prog X.w) X.A (eval (.Name x pos) X.env) Q E s:=by
 obtain⟨mb,h1,h2⟩:=I.mod.blt
 exact Calls.Name_function_global I.ok.kind hg (Calls.loadGlobal_builtin (by rw[I.ok.glob];exact I.mod.glob.keeps I.bk) hm (by rw[I.ok.blt];exact h1.keeps I.bk) ((h2 x hn).trans hv) h) hd
theorem S0{x:Str}{v:V}{u:Value}{pos:Pos}(hg:Gl X x)(hm:X.mg x=some u)(r:RelV v u)(hd:(x == ("__debug__" : Str))=false:=by decide):PE X (.Name x pos) (tC v):=
 fun _ _ _ H _ I h=>M6 I hg hm ⟨v,H,I,r,h⟩ hd
theorem Z5{x:Str}{v:V}{u:Value}{pos:Pos}(hg:Gl X x)(hm:X.mg x=none)(hv:bootBuiltins x=some u)(r:RelV v u)(hn:x≠"__name__":=by decide)(hd:(x == ("__debug__" : Str))=false:=by decide):PE X (.Name x pos) (tC v):=
 fun _ _ _ H _ I h=>D8 I hg hm hv ⟨v,H,I,r,h⟩ hn hd

variable{a b:Expr}{ta tb:TE}{pos:Pos}
variable{tA tB':TT}{rest:List Expr}
def tAnd(t u:TT):TT:=fun σ H Q=>t σ H fun c H1=>if c=true then u σ H1 Q else Q false H1
def tOr(t u:TT):TT:=fun σ H Q=>t σ H fun c H1=>if c=true then Q true H1 else u σ H1 Q
def tNot(t:TT):TT:=fun σ H Q=>t σ H fun c H1=>Q (!c) H1
theorem Zq(ha:PT X a tA):PW X (.BoolOp .And [a] pos) tA:=by
 intro wh pins s σ H Q I h
 refine isTrue_and (thn (ha pins s σ H Q I h) fun c s1 e=>?_)
 cases c with
 |true=>exact isTrue_and_nil e
 |false=>exact e
theorem Acp(ha:PT X a tA):PW X (.BoolOp .Or [a] pos) tA:=by
 intro wh pins s σ H Q I h
 refine isTrue_or (thn (ha pins s σ H Q I h) fun c s1 e=>?_)
 cases c with
 |false=>exact isTrue_or_nil e
 |true=>exact e
theorem Acq(ha:PT X a tA)(hb:PW X (.BoolOp .And (b::rest) pos) tB'):PW X (.BoolOp .And (a::b::rest) pos) (tAnd tA tB'):=by
 intro wh pins s σ H Q I h
 refine isTrue_and (thn (ha pins s σ H _ I h) fun c s1 ⟨H1,I1,q1⟩=>?_)
 cases c with
 |true=>exact hb wh pins s1 σ H1 Q I1 q1
 |false=>exact⟨H1,I1,q1⟩
theorem pw_or(ha:PT X a tA)(hb:PW X (.BoolOp .Or (b::rest) pos) tB'):PW X (.BoolOp .Or (a::b::rest) pos) (tOr tA tB'):=by
 intro wh pins s σ H Q I h
 refine isTrue_or (thn (ha pins s σ H _ I h) fun c s1 ⟨H1,I1,q1⟩=>?_)
 cases c with
 |true=>exact⟨H1,I1,q1⟩
 |false=>exact hb wh pins s1 σ H1 Q I1 q1
theorem Acr(ha:PT X a tA):PT X (.UnaryOp .Not a pos) (tNot tA):=by
 intro pins s σ H Q I h
 exact isTrue_not (ha pins s σ H (fun c H1=>Q (!c) H1) I h)
def tAndV(ta tb:TE):TE:=fun σ H Q=>ta σ H fun x H1=>∃c,x=.bl c∧if c=true then tb σ H1 Q else Q (.bl false) H1
def tNotV(ta:TE):TE:=fun σ H Q=>ta σ H fun x H1=>∃c,x=.bl c∧Q (.bl (!c)) H1
theorem Ac4{op}{t:TE}(h:PE X a t):PE X (.BoolOp op [a] pos) t:=fun pins s σ H Q I hw=>BoolOp_one (h pins s σ H Q I hw)
theorem Adb(ha:PE X a ta)(hb:PE X (.BoolOp .And (b::rest) pos) tb):PE X (.BoolOp .And (a::b::rest) pos) (tAndV ta tb):=by
 intro pins s σ H Q I h
 refine BoolOp_and (thn (ha pins s σ H _ I h) fun v s1 ⟨x,H1,I1,r1,q1⟩=>?_)
 obtain⟨c,rfl,q1⟩:=q1
 cases r1
 refine wpAny_truthy_bool ?_
 cases c with
 |true=>exact hb pins s1 σ H1 Q I1 q1
 |false=>exact⟨.bl false,H1,I1,rfl,q1⟩
theorem Ac5(ha:PE X a ta):PE X (.UnaryOp .Not a pos) (tNotV ta):=by
 intro pins s σ H Q I h
 refine UnaryOp_ (thn (ha pins s σ H _ I h) fun v s1 ⟨x,H1,I1,r1,q1⟩=>?_)
 obtain⟨c,rfl,q1⟩:=q1
 cases r1
 exact not_of (wpAny_truthy_bool ⟨.bl (!c),H1,I1,rfl,q1⟩)
def tIf(t:TT)(ta tb:TE):TE:=fun σ H Q=>t σ H fun c H1=>if c=true then ta σ H1 Q else tb σ H1 Q
theorem Xx{c:Expr}(hc:PT X c tA)(ha:PE X a ta)(hb:PE X b tb):PE X (.IfExp c a b pos) (tIf tA ta tb):=by
 intro pins s σ H Q I h
 refine wpAny_IfExp (thn (hc pins s σ H _ I h) fun d s1 ⟨H1,I1,q1⟩=>?_)
 cases d with
 |true=>exact ha pins s1 σ H1 Q I1 q1
 |false=>exact hb pins s1 σ H1 Q I1 q1
end
end L2
namespace L2
open PySem PySem.Spec PyProof.Rows
def SqL(K:PySem.W.Frag)(H:Hp)(a:Addr)(xs:List V):Prop:=
 Rd H a (.lst xs)∨
  ∃(o:Obj) (its:Array Value) (n:Nat),K.lookup a=some o∧o.cls=.type "list"∧o.dict=none∧o.data=.seq its n∧its.size≤sizeLine∧Vals xs its.toList
def SqT(K:PySem.W.Frag)(H:Hp)(a:Addr)(xs:List V):Prop:=
 Rd H a (.tup xs)∨
  ∃(o:Obj) (its:Array Value) (n:Nat),K.lookup a=some o∧o.cls=.type "tuple"∧o.data=.seq its n∧its.size≤sizeLine∧Vals xs its.toList
def absV:Value→Option V
 |.none=>some .non
 |.bool b=>some (.bl b)
 |.int i _=>some (.int i)
 |.str x _=>some (.str x)
 |.bytes b _=>some (.byt b)
 |.float b _=>some (.flt b)
 |.ref a=>some (.ref a)
 |.type n=>some (.ty n)
 |_=>none
theorem RelV.abs{x:V}{u:Value}(r:RelV x u):absV u=some x:=by
 cases x with
 |non=>cases r;rfl
 |bl _=>cases r;rfl
 |int _=>obtain⟨t,rfl⟩:=r;rfl
 |str _=>obtain⟨t,rfl⟩:=r;rfl
 |byt _=>obtain⟨t,rfl⟩:=r;rfl
 |flt _=>obtain⟨t,rfl⟩:=r;rfl
 |ref _=>cases r;rfl
 |ty _=>cases r;rfl
theorem RelV.inj{x y:V}{u:Value}(r:RelV x u)(q:RelV y u):x=y:=Option.some.inj (r.abs.symm.trans q.abs)
theorem Vals.inj:∀{xs ys:List V} {us:List Value},Vals xs us→Vals ys us→xs=ys
 |_,_,_,.nil,.nil=>rfl
 |_,_,_,.cons r t,.cons r' t'=>by rw[r.inj r',Vals.inj t t']
section
variable{X:Cx}{pins:List (Addr×Obj)}{σ:St}{H:Hp}{s:Shared}{a:Addr}{xs ys:List V}
theorem Inv.list(I:Inv X pins σ H s)(h:SqL X.K H a xs):∃its:List Value,Vals xs its∧PlainL s.heap a its.toArray∧xs.length≤sizeLine:=by
 rcases h with h|⟨o,its,n,hk,hc,hd,hs,hz,r⟩
 ·obtain⟨z,its,n,r,e⟩:=h.ok I.hok
  exact⟨its,r,⟨_,n,e,rfl,rfl,rfl⟩,z⟩
 ·refine⟨its.toList,r,⟨o,n,I.kIn a o hk,hc,hd,by simpa using hs⟩,?_⟩
  have e:=r.length
  simp only[Array.length_toList] at e
  omega
theorem Inv.tuple(I:Inv X pins σ H s)(h:SqT X.K H a xs):∃its:List Value,Vals xs its∧IsTup s.heap a its.toArray∧xs.length≤sizeLine:=by
 rcases h with h|⟨o,its,n,hk,hc,hs,hz,r⟩
 ·obtain⟨z,its,r,p⟩:=h.ok I.hok
  exact⟨its,r,p,z⟩
 ·refine⟨its.toList,r,⟨o,I.kIn a o hk,hc,n,by simpa using hs⟩,?_⟩
  have e:=r.length
  simp only[Array.length_toList] at e
  omega
theorem Inv.list_inj(I:Inv X pins σ H s)(h:SqL X.K H a xs)(h':SqL X.K H a ys):xs=ys:=by
 obtain⟨its,r,⟨o,n,e,_,_,d⟩,_⟩:=I.list h
 obtain⟨its',r',⟨o',n',e',_,_,d'⟩,_⟩:=I.list h'
 rw[e] at e';cases e'
 rw[d] at d'
 injection d' with d1 _
 have:its=its':=by simpa using congrArg Array.toList d1
 subst this
 exact r.inj r'
theorem Inv.tuple_inj(I:Inv X pins σ H s)(h:SqT X.K H a xs)(h':SqT X.K H a ys):xs=ys:=by
 obtain⟨its,r,⟨o,e,_,n,d⟩,_⟩:=I.tuple h
 obtain⟨its',r',⟨o',e',_,n',d'⟩,_⟩:=I.tuple h'
 rw[e] at e';cases e'
 rw[d] at d'
 injection d' with d1 _
 have:its=its':=by simpa using congrArg Array.toList d1
 subst this
 exact r.inj r'
end
abbrev Cx.wish(X:Cx)(E:Value→Shared→Prop):Cx:={ X with xe:=E }
abbrev Cx.nox(X:Cx):Cx:=X.wish fun _ _=>False
theorem Cx.Ok.wish{X:Cx}(ok:X.Ok)(E:Value→Shared→Prop):(X.wish E).Ok:=
 ⟨ok.mod,ok.kind,ok.glob,ok.blt,ok.above,ok.inj,ok.has,ok.cab,ok.hd,ok.frames,ok.stk,ok.exf,ok.bs,ok.bsz,ok.noex,ok.exfs,ok.funs,ok.frf⟩
theorem Cx.Ok.unwish{X:Cx}{E:Value→Shared→Prop}(ok:(X.wish E).Ok):X.Ok:=
 ⟨ok.mod,ok.kind,ok.glob,ok.blt,ok.above,ok.inj,ok.has,ok.cab,ok.hd,ok.frames,ok.stk,ok.exf,ok.bs,ok.bsz,ok.noex,ok.exfs,ok.funs,ok.frf⟩
section
variable{X:Cx}{pins:List (Addr×Obj)}{σ:St}{H:Hp}{s:Shared}{E:Value→Shared→Prop}
theorem Inv.wish(I:Inv X pins σ H s)(E:Value→Shared→Prop):Inv (X.wish E) pins σ H s:=⟨I.ok.wish E,I.os,I.bare,I.base,I.loc,I.cell,I.free,I.freeC,I.pin,I.hok,I.len⟩
theorem Inv.unwish(I:Inv (X.wish E) pins σ H s):Inv X pins σ H s:=⟨I.ok.unwish,I.os,I.bare,I.base,I.loc,I.cell,I.free,I.freeC,I.pin,I.hok,I.len⟩
theorem SP.unwish{D:Ends}{f:Flow}{s':Shared}(h:SP (X.wish E) pins D f s'):SP X pins D f s':=by
 cases f with
 |next=>obtain⟨σ',H',I,q⟩:=h;exact⟨σ',H',I.unwish,q⟩
 |brk=>obtain⟨σ',H',I,q⟩:=h;exact⟨σ',H',I.unwish,q⟩
 |cont=>obtain⟨σ',H',I,q⟩:=h;exact⟨σ',H',I.unwish,q⟩
 |ret u=>obtain⟨v,σ',H',I,r,q⟩:=h;exact⟨v,σ',H',I.unwish,r,q⟩
theorem PSs.nox{st:List Stmt}{t:TS}(h:PSs X.nox st t):PSs X st t:=fun pins s σ H D I hw=>
 wpAny_mono (h pins s σ H D (I.wish _) hw) (fun _ _ q=>q.unwish) fun _ _ z=>False.elim z
end
section
variable{X:Cx}{st:Stmt}{rest:List Stmt}{t u:TS}{e:Expr}{te:TE}{pos:Pos}
def tNext:TS:=fun D σ H=>D.nx σ H
def tSeq(t u:TS):TS:=fun D σ H=>t { D with nx:=u D } σ H
theorem pss_nil:PSs X [] tNext:=fun _ _ σ H _ I h=>wpAny_execs_nil ⟨σ,H,I,h⟩
theorem Xp(h1:PS X st t)(h2:PSs X rest u):PSs X (st::rest) (tSeq t u):=by
 intro pins s σ H D I h
 refine wpAny_execs_cons (thn (h1 pins s σ H { D with nx:=u D } I h) fun f s1 q=>?_)
 cases f with
 |next=>
  obtain⟨σ',H',I',q⟩:=q
  exact h2 pins s1 σ' H' D I' q
 |ret v=>exact q
 |brk=>exact q
 |cont=>exact q
theorem Zs(h1:PS X st t):PSs X [st] t:=by
 intro pins s σ H D I h
 refine wpAny_execs_cons (thn (h1 pins s σ H D I h) fun f s1 q=>?_)
 cases f with
 |next=>exact wpAny_execs_nil q
 |ret v=>exact q
 |brk=>exact q
 |cont=>exact q
theorem Inv.quiet{pins:List (Addr×Obj)}{σ:St}{H:Hp}{s:Shared}(I:Inv X pins σ H s):interactive X.env=false:=by simp[interactive,I.ok.kind]
def tDrop(te:TE):TS:=fun D σ H=>te σ H fun _ H1=>D.nx σ H1
theorem Zv(he:PE X e te)(hs:swapsWith e none pos.line X.env=pure false:=by rfl):PS X (.Expr e pos) (tDrop te):=by
 intro pins s σ H D I h
 exact wpAny_Expr_any (thn (he pins s σ H _ I h) fun v s1 ⟨x,H1,I1,r1,q1⟩=>⟨σ,H1,I1,q1⟩) I.quiet hs
def tRet(te:TE):TS:=fun D σ H=>te σ H D.rt
theorem Act(he:PE X e te):PS X (.Return (some e) pos) (tRet te):=by
 intro pins s σ H D I h
 exact wpAny_Return_some (thn (he pins s σ H _ I h) fun v s1 ⟨x,H1,I1,r1,q1⟩=>⟨x,σ,H1,I1,r1,q1⟩)
def tIfS(c:TT)(t u:TS):TS:=fun D σ H=>c σ H fun b H1=>if b=true then t D σ H1 else u D σ H1
theorem Abf{c:Expr}{a b:List Stmt}{tc:TT}(hc:PT X c tc)(ha:PSs X a t)(hb:PSs X b u):PS X (.If c a b pos) (tIfS tc t u):=by
 intro pins s σ H D I h
 refine wpAny_If (thn (hc pins s σ H _ I h) fun d s1 ⟨H1,I1,q1⟩=>?_)
 cases d with
 |true=>exact ha pins s1 σ H1 D I1 q1
 |false=>exact hb pins s1 σ H1 D I1 q1
def Acb:TS:=fun _ _ _=>False
theorem ps_never:PS X st Acb:=fun _ _ _ _ _ _ h=>h.elim
end
abbrev TG:=V→St→Hp→(St→Hp→Prop)→Prop
abbrev TGs:=List V→St→Hp→(St→Hp→Prop)→Prop
def PG(X:Cx)(target:Expr)(t:TG):Prop:=
 ∀(pins:List (Addr×Obj)) (s:Shared) (σ:St) (H:Hp) (v:V) (u:Value) (Q:St→Hp→Prop),Inv X pins σ H s→RelV v u→t v σ H Q→
  wpAny (model X.prog X.w) X.A (assign target X.env u) (fun _ s'=>∃σ' H',Inv X pins σ' H' s'∧Q σ' H') X.xe s
def PGs(X:Cx)(ts:List Expr)(t:TGs):Prop:=
 ∀(pins:List (Addr×Obj)) (s:Shared) (σ:St) (H:Hp) (vs:List V) (us:List Value) (Q:St→Hp→Prop),Inv X pins σ H s→Vals vs us→t vs σ H Q→
  wpAny (model X.prog X.w) X.A (assignInOrder ((assignEach ts X.env).map (·.2)) us) (fun _ s'=>∃σ' H',Inv X pins σ' H' s'∧Q σ' H') X.xe s
abbrev Vu:=V→V→V→Hp→(Hp→Prop)→Prop
def PSet(X:Cx)(t:Vu):Prop:=
 ∀(pins:List (Addr×Obj)) (s:Shared) (σ:St) (H:Hp) (o i v:V) (ov iv u:Value) (Q:Hp→Prop),Inv X pins σ H s→RelV o ov→RelV i iv→RelV v u→t o i v H Q→
  wpAny (model X.prog X.w) X.A (setItem ov iv u) (fun _ s'=>∃H',Inv X pins σ H' s'∧Q H') X.xe s
abbrev TIp:=V→V→Hp→VK→Prop
def PIp(X:Cx)(op:Operator)(t:TIp):Prop:=
 ∀(pins:List (Addr×Obj)) (s:Shared) (σ:St) (H:Hp) (x y:V) (v u:Value) (Q:VK),Inv X pins σ H s→RelV x v→RelV y u→t x y H Q→
  wpAny (model X.prog X.w) X.A (inplaceOp op v u) (EP X pins σ Q) X.xe s
section
variable{X:Cx}{pos:Pos}
def Sh(i:Nat):TG:=fun v σ H Q=>Q (σ.set i (some v)) H
theorem Zy{i:Nat}{x:Str}(hN:X.N.Nodup)(hi:X.N[i]? = some x)(hx:Loc X.env.scope x)(hf:X.fn x=true∨X.env.scope.names.lookup x=some .local:=by first|exact .inl rfl|exact .inr rfl|assumption):PG X (.Name x pos) (Sh i):=by
 intro pins s σ H v u Q I r h
 exact wpAny_assign_Name (C1 I hN hi hx r (fun s' I'=>⟨_,H,I',h⟩) hf)
def gNil:TGs:=fun vs σ H Q=>vs=[]∧Q σ H
def gCons(t:TG)(u:TGs):TGs:=fun vs σ H Q=>∃v r,vs=v::r∧t v σ H fun σ' H'=>u r σ' H' Q
theorem pgs_nil:PGs X [] gNil:=by
 intro pins s σ H vs us Q I r h
 obtain⟨e,h⟩:=h
 subst e
 cases r
 exact assignInOrder_nil ⟨σ,H,I,h⟩
theorem Xu{e:Expr}{es:List Expr}{t:TG}{u:TGs}(h1:PG X e t)(h2:PGs X es u)(hs:(assignEach (e::es) X.env).map (·.2)=assign e X.env::(assignEach es X.env).map (·.2):=by rfl):PGs X (e::es) (gCons t u):=by
 intro pins s σ H vs us Q I r h
 obtain⟨v,vr,e1,h⟩:=h
 subst e1
 cases r with
 |cons r rr=>
  rw[hs]
  refine assignInOrder_cons (thn (h1 pins s σ H _ _ _ I r h) fun _ s1 ⟨σ1,H1,I1,q1⟩=>?_)
  exact h2 pins s1 σ1 H1 _ _ Q I1 rr q1
def gTup(K:PySem.W.Frag)(n:Nat)(t:TGs):TG:=fun v σ H Q=>∃a xs,v=.ref a∧SqT K H a xs∧xs.length=n∧t xs σ H Q
theorem Acy{es:List Expr}{k:Nat}{t:TGs}{n:Nat}(hc:X.calm=true)(h:PGs X es t)(hn:(assignEach es X.env).length=n:=by rfl)(hst:(assignEach es X.env).findIdx? (·.1)=none:=by rfl):PG X (.Tuple es k pos) (gTup X.K n t):=by
 intro pins s σ H v u Q I r hw
 obtain⟨a,xs,e1,hq,hl,hw⟩:=hw
 subst e1
 cases r
 obtain⟨its,rv,ht,hz⟩:=I.tuple hq
 refine assign_Tuple_tuple (I.ok.hd hc) ht (by simp[hn,←hl,rv.length]) hst fun h' hx=>?_
 have I1:Inv X pins σ H { s with heap:=h' }:=I.kept (t':=s.toks) fun b o e=>hx b o (Nat.ne_of_lt (Heap.lt_size e)) e
 exact h pins _ σ H xs _ Q I1 (by simpa using rv) hw
def gSub(to ti:TE)(t:Vu):TG:=fun v σ H Q=>to σ H fun o H1=>ti σ H1 fun i H2=>t o i v H2 fun H3=>Q σ H3
theorem Acz{o i:Expr}{to ti:TE}{t:Vu}(ho:PE X o to)(hi:PE X i ti)(hs:PSet X t)(ha:∀v,assign (.Subscript o i pos) X.env v=(do
   let ov ←holding [v] (eval o X.env)
   let iv ←holding [v,ov] (eval i X.env)
   standAt pos
   holding [v,ov,iv] (setItem ov iv v)
   release [v,ov,iv] []):=by intro _;rfl):PG X (.Subscript o i pos) (gSub to ti t):=by
 intro pins s σ H v u Q I r h
 rw[ha]
 refine wpAny_bind (wpAny_holding (thn (ho pins s σ H _ I h) fun ov s1 ⟨x,H1,I1,r1,q1⟩=>?_))
 refine wpAny_bind (wpAny_holding (thn (hi pins s1 σ H1 _ I1 q1) fun iv s2 ⟨y,H2,I2,r2,q2⟩=>?_))
 refine wpAny_bind (wpAny_standAt (wpAny_bind (wpAny_holding (thn (hs pins s2 σ H2 x y v ov iv u _ I2 r1 r2 r q2) fun _ s3 ⟨H3,I3,q3⟩=>?_))))
 exact wpAny_release ⟨σ,H3,I3,q3⟩
def Vp(te:TE)(g:TG):TS:=fun D σ H=>te σ H fun x H1=>g x σ H1 D.nx
theorem Acx{tg e:Expr}{te:TE}{g:TG}(he:PE X e te)(hg:PG X tg g)(hs:swapsWithSole [tg] e pos.line X.env=pure false:=by rfl)(hw:swappedStores [tg] e X.env=pure none:=by rfl)(h1:(assignEach [tg] X.env).map (·.2)=[assign tg X.env]:=by rfl):PS X (.Assign [tg] e pos) (Vp te g):=by
 intro pins s σ H D I h
 refine wpAny_Assign_stores (thn (he pins s σ H _ I h) fun v s1 ⟨x,H1,I1,r1,q1⟩=>?_) hs hw
 rw[h1]
 exact thn (hg pins s1 σ H1 x v _ I1 r1 q1) fun _ s2 q=>q
theorem Acs{i:Nat}{x:Str}{e:Expr}{te:TE}{pos':Pos}(hN:X.N.Nodup)(hi:X.N[i]? = some x)(hx:Loc X.env.scope x)(he:PE X e te)(hs:swapsWith e (some (.Name x pos')) pos.line X.env=pure false:=by rfl)(hf:X.fn x=true∨X.env.scope.names.lookup x=some .local:=by first|exact .inl rfl|exact .inr rfl|assumption) :
  PS X (.Assign [.Name x pos'] e pos) (Vp te (Sh i)):=by
 intro pins s σ H D I h
 refine wpAny_Assign_Name (thn (he pins s σ H _ I h) fun v s1 ⟨y,H1,I1,r1,q1⟩=>?_) hs
 exact C1 I1 hN hi hx r1 (fun s2 I2=>⟨_,H1,I2,q1⟩) hf
def tPar(i j:Nat)(ta:TA):TS:=fun D σ H=>ta σ H fun vs H1=>∃v w,vs=[v,w]∧D.nx ((σ.set i (some v)).set j (some w)) H1
theorem Acu{i j:Nat}{x y:Str}{a b:Expr}{ta:TA}{px py pt:Pos}{kt k2 pt2}(hc:X.calm=true)(hN:X.N.Nodup)(hi:X.N[i]? = some x)(hj:X.N[j]? = some y)(hij:i≠j)(hx:X.env.scope.names.lookup x=some .local)(hy:X.env.scope.names.lookup y=some .local)(ha:PA X [a,b] ta)(hw:swappedStores [.Tuple [.Name x px,.Name y py] kt pt] (.Tuple [a,b] k2 pt2) X.env=pure (some [x,y]))(hs:swapsWithSole [.Tuple [.Name x px,.Name y py] kt pt] (.Tuple [a,b] k2 pt2) pos.line X.env=pure false:=by rfl) :
  PS X (.Assign [.Tuple [.Name x px,.Name y py] kt pt] (.Tuple [a,b] k2 pt2) pos) (tPar i j ta):=by
 intro pins s σ H D I h
 rw[exec_Assign_arm]
 refine wpAny_bind (wpAny_standAt ?_)
 rw[hs]
 refine wpAny_bind (wpAny_pure ?_)
 rw[if_neg (by decide)]
 refine wpAny_bind (Tuple_ (thn (ha _ pins s σ H _ I h) fun us s1 ⟨vs,H1,I1,r1,q1⟩=>?_))
 obtain⟨v,w,e1,q1⟩:=q1
 subst e1
 obtain⟨u1,u2,rfl,rv,rw'⟩:∃u1 u2,us=[u1,u2]∧RelV v u1∧RelV w u2:=by
  cases r1 with
  |cons p q=>
   cases q with
   |cons p' q'=>
    cases q'
    exact⟨_,_,rfl,p,p'⟩
 refine wpAny_newObj_type ?_ (by show 2≤sizeLine;decide)
 have I2:Inv X pins σ H1 { s1 with heap:=s1.heap.push { cls:=.type "tuple",data:=.seq [u1,u2].toArray } }:=I1.kept (t':=s1.toks) fun b o e=>Heap.get?_push_of_some _ e
 rw[hw]
 refine wpAny_bind (wpAny_pure ?_)
 show wpAny (model X.prog X.w) X.A (do rule "assign.swapped-stores";let items ←unpackItems (.ref s1.heap.objs.size) 2 none;assignInOrder [fun v=>bindName X.env y v,fun v=>bindName X.env x v] items.reverse;pure Flow.next) _ _ _
 refine wpAny_bind (wpAny_rule (wpAny_bind (unpackItems_tuple (items:=#[u1,u2]) (I.ok.hd hc) (IsTup.new s1.heap _) fun h' hx'=>?_)))
 have I3:=I2.kept (h':=h') (t':=s1.toks) fun b o e=>hx' b o (Nat.ne_of_lt (Heap.lt_size e)) e
 show wpAny _ _ (assignInOrder [fun v=>bindName X.env y v,fun v=>bindName X.env x v] [u2,u1] >>= fun _=>pure Flow.next) _ _ _
 refine wpAny_bind (assignInOrder_cons (wpAny_bindName (C1 I3 hN hj (.inl hy) rw' (fun s2 I4=>?_) (.inr hy))))
 refine assignInOrder_cons (wpAny_bindName (C1 I4 hN hi (.inl hx) rv (fun s3 I5=>assignInOrder_nil (wpAny_pure ?_)) (.inr hx)))
 rw[List.set_comm _ _ (Ne.symm hij)] at I5
 exact⟨_,H1,I5,q1⟩
def tAug(i:Nat)(te:TE)(ti:TIp):TS:=fun D σ H=>∃x,σ[i]? = some (some x)∧te σ H fun y H1=>ti x y H1 fun z H2=>D.nx (σ.set i (some z)) H2
theorem Acw{i:Nat}{x:Str}{e:Expr}{te:TE}{op:Operator}{ti:TIp}{pos':Pos}(hN:X.N.Nodup)(hi:X.N[i]? = some x)(hx:Loc X.env.scope x)(he:PE X e te)(ho:PIp X op ti)(hf:X.fn x=true∨X.env.scope.names.lookup x=some .local:=by first|exact .inl rfl|exact .inr rfl|assumption) :
  PS X (.AugAssign (.Name x pos') op e pos) (tAug i te ti):=by
 intro pins s σ H D I h
 obtain⟨v,e1,h⟩:=h
 obtain⟨m,hn,hl⟩:=I.loc
 have vis:Vis X.env.scope x:=by rcases hx with k|k;exact .inl k;exact .inr (.inl k)
 obtain⟨u,r,l⟩:=hl i x v hi e1 vis
 refine wpAny_AugAssign_Name ?_
 have go:wpAny (model X.prog X.w) X.A (eval e X.env) (fun w s₂=>wpAny (model X.prog X.w) X.A (inplaceOp op u w) (fun r s₃=>wpAny (model X.prog X.w) X.A (storeName X.env x r) (fun _=>SP X pins D .next) X.xe s₃) X.xe s₂) X.xe s:=by
  refine thn (he pins s σ H _ I h) fun w s1 ⟨y,H1,I1,r1,q1⟩=>?_
  refine thn (ho pins s1 σ H1 v y u w _ I1 r r1 q1) fun z s2 ⟨zv,H2,I2,r2,q2⟩=>?_
  exact C1 I2 hN hi hx r2 (fun s3 I3=>⟨_,H2,I3,q2⟩) hf
 rcases l with ⟨hk,hm⟩|⟨hk,c,hc,hcell⟩
 ·exact wpAny_loadName_local I.ok.kind hk hn hm go
 ·rcases hk with hk|hk
  ·exact wpAny_loadName_cell I.ok.kind hk hc hcell go
  ·rcases hx with k|k
   ·have:X.env.scope.names.lookup x=some .free:=hk
    rw[k] at this;cases this
   ·have:X.env.scope.names.lookup x=some .free:=hk
    rw[k] at this;cases this
def ipI(f:Int→Int→Int):TIp:=fun x y H Q=>∃i j,x=.int i∧y=.int j∧Q (.int (f i j)) H
theorem Ad1:PIp X .Add (ipI fun i j=>i+j):=by
 intro pins s σ H x y v u Q I r1 r2 h
 obtain⟨i,j,e1,e2,q⟩:=h
 subst e1;subst e2
 obtain⟨t,rfl⟩:=r1
 obtain⟨t',rfl⟩:=r2
 exact iadd_int ⟨.int _,H,I.tok _,⟨_,rfl⟩,q⟩
end
section
variable{X:Cx}{pos:Pos}
def Aca(c:TT)(tb:TS):TS:=fun D σ H=>∃W:Nat→St→Hp→Prop,(∃m,W m σ H)∧∀m σ H,W m σ H→
 c σ H fun b H1=>if b=true then ∃N:St→Hp→Prop,(∀σ' H',N σ' H'→∃m',m'<m∧W m' σ' H')∧tb { D with nx:=N,ct:=N,bk:=D.nx } σ H1 else D.nx σ H1
theorem Xq{c:Expr}{body:List Stmt}{tc:TT}{tb:TS}(hp:PassesOwn (model X.prog X.w) X.A X.env X.xe)(hc:PT X c tc)(hb:PSs X body tb):PS X (.While c body [] pos) (Aca tc tb):=by
 intro pins s σ H D I h
 obtain⟨W,⟨m0,w0⟩,turn⟩:=h
 refine wpAny_While (codeAny_whileLoop (fun n s'=>∃σ' H',Inv X pins σ' H' s'∧W n σ' H') ?_ m0 ⟨σ,H,I,w0⟩)
 rintro n s1 ⟨σ1,H1,I1,w1⟩
 refine wpAny_passesOwn hp (thn (hc pins s1 σ1 H1 _ I1 (turn n σ1 H1 w1)) fun b s2 ⟨H2,I2,q2⟩=>?_)
 cases b with
 |true=>
  obtain⟨N,hN,q2⟩:=q2
  rw[if_pos rfl]
  refine wpAny_passesOwn hp (thn (hb pins s2 σ1 H2 _ I2 q2) fun f s3 q3=>?_)
  cases f with
  |next=>
   obtain⟨σ3,H3,I3,n3⟩:=q3
   obtain⟨m',hm,w3⟩:=hN σ3 H3 n3
   exact⟨m',hm,σ3,H3,I3,w3⟩
  |cont=>
   obtain⟨σ3,H3,I3,n3⟩:=q3
   obtain⟨m',hm,w3⟩:=hN σ3 H3 n3
   exact⟨m',hm,σ3,H3,I3,w3⟩
  |brk=>exact q3
  |ret v=>exact q3
 |false=>
  rw[if_neg Bool.false_ne_true]
  exact wpAny_execs_nil ⟨σ1,H2,I2,q2⟩
end
structure It where
 go:Nat→Hp→Prop
 yld:Nat→Hp→V→Hp→Prop
 stop:Nat→Hp→Prop
def Fd(X:Cx)(pins:List (Addr×Obj))(H:Hp)(b:Addr):Prop:=
 H b=none∧b≠X.env.locals∧b ∉ X.fs∧(b∈X.ex∨X.s₀.heap.objs.size≤b)∧(∀x c,X.env.cells.lookup x=some c→c≠b)∧∀p∈X.pn++pins,p.1≠b
theorem Inv.fpOk{X:Cx}{pins:List (Addr×Obj)}{σ:St}{H H':Hp}{s:Shared}{b:Addr}(I:Inv X pins σ H s)(hb:s.heap.objs.size≤b)(hn:H' b=none):Fd X pins H' b:=by
 refine⟨hn,Nat.ne_of_gt (Nat.lt_of_lt_of_le I.lt hb),I.nofs hb,.inr (Nat.le_trans I.sz hb),fun x c e z=>?_,fun p hp z=>?_⟩
 ·obtain⟨v,q⟩:=I.cell x c e
  exact absurd (Nat.lt_of_lt_of_le q.lt (by rw[z];exact hb)) (Nat.lt_irrefl _)
 ·exact absurd (Nat.lt_of_lt_of_le (Heap.lt_size (I.pin p hp).1) (by rw[z];exact hb)) (Nat.lt_irrefl _)
structure Turn(P:Program)(w:World)(K:PySem.W.Frag)(tg:Expr)(J:It)(fp:List Addr)(it:Addr)(tn:Nat→Heap→Prop):Prop where
 mem:it∈fp
 obj:∀i h,tn i h→∀b∈fp,∃o,h.get? b=some o∧∀v,o.data≠.cell v
 keep:∀i h h',tn i h→(∀b∈fp,∀o,h.get? b=some o→h'.get? b=some o)→tn i h'
 item:∀(X:Cx),X.prog=P→X.w=w→X.K=K→X.calm=true→∀(i:Nat) (pins:List (Addr×Obj)) (s:Shared) (σ:St) (H:Hp) (E:Value→Shared→Prop),Inv X pins σ H s→(∀b∈fp,Fd X pins H b)→tn i s.heap→J.go i H→
  wpAny (model P w) X.A (pyNext (.ref it)) (fun r s1=>∃u,r=some u∧
   wpAny (model P w) X.A (letOwnedTupleGo tg (.ref it) u) (fun _ s2=>∃x H',Inv X pins σ H' s2∧RelV x u∧J.yld i H x H'∧tn (i+1) s2.heap∧∀b∈fp,H' b=none) E s1) E s
 done:∀(X:Cx),X.prog=P→X.w=w→X.K=K→X.calm=true→∀(i:Nat) (pins:List (Addr×Obj)) (s:Shared) (σ:St) (H:Hp) (E:Value→Shared→Prop),Inv X pins σ H s→(∀b∈fp,Fd X pins H b)→tn i s.heap→J.stop i H→
  wpAny (model P w) X.A (pyNext (.ref it)) (fun r s1=>r=none∧Inv X pins σ H s1) E s
 self:∀(A:Around) (i:Nat) (s:Shared) (Q:Value→Shared→Prop) (E:Value→Shared→Prop),tn i s.heap→Q (.ref it) s→wpAny (model P w) A (pyIter (.ref it)) Q E s
abbrev TI:=St→Hp→(It→Hp→Prop)→Prop
def PIE(X:Cx)(pins:List (Addr×Obj))(σ:St)(tg:Expr)(R:It→Hp→Prop)(itv:Value)(s2:Shared):Prop:=
 ∃(it:Addr) (fp:List Addr) (tn:Nat→Heap→Prop) (J:It) (H':Hp),itv=.ref it∧Inv X pins σ H' s2∧Turn X.prog X.w X.K tg J fp it tn∧tn 0 s2.heap∧(∀b∈fp,Fd X pins H' b)∧R J H'
def PI(X:Cx)(tg iter:Expr)(wi:TI):Prop:=
 ∀(pins:List (Addr×Obj)) (s:Shared) (σ:St) (H:Hp) (R:It→Hp→Prop),Inv X pins σ H s→wi σ H R→
  wpAny (model X.prog X.w) X.A (eval iter X.env) (fun v s1=>wpAny (model X.prog X.w) X.A (pyIter v) (PIE X pins σ tg R) X.xe s1) X.xe s

theorem V4 {M:Model} {A:Around} {E:Value→Shared→Prop} {s:Shared} {tg:Expr} {it:Addr} {u:Value} {o:Obj} {n:String} {vs:Array Value} {Q:Unit→Shared→Prop} (ho:s.heap.get? it=some o) (hc:o.cls=.type n) (hd:o.data=.fields vs)
    (hn:["enumerate", "zip", "dict_itemiterator", "dict_reverseitemiterator", "odict_iterator", "itertools.zip_longest", "itertools.pairwise"].contains n=false) (hQ:Q () s):wpAny M A (letOwnedTupleGo tg (.ref it) u) Q E s:=by
  unfold letOwnedTupleGo
  cases tg<;>first
    | exact wpAny_pure hQ
    | (cases u<;>first
        | exact wpAny_pure hQ
        | (refine wpAny_bind (wpAny_load ho ?_)
           rw [hc,hd]
           show wpAny M A (if (["enumerate", "zip", "dict_itemiterator", "dict_reverseitemiterator", "odict_iterator", "itertools.zip_longest", "itertools.pairwise"].contains n&&vs[0]? == some (rawInt _))=true then _ else _) Q E s
           rw [if_neg (by intro h;rw [hn,Bool.false_and] at h;cases h)]
           exact wpAny_pure hQ))

def Itl(K:PySem.W.Frag)(a:Addr):It:=
 ⟨fun i H=>∃xs x,SqL K H a xs∧xs[i]? = some x,fun i H x H'=>H'=H∧∀xs,SqL K H a xs→xs[i]? = some x,fun i H=>∃xs,SqL K H a xs∧xs.length≤i⟩
def Itt(K:PySem.W.Frag)(a:Addr):It:=
 ⟨fun i H=>∃xs x,SqT K H a xs∧xs[i]? = some x,fun i H x H'=>H'=H∧∀xs,SqT K H a xs→xs[i]? = some x,fun i H=>∃xs,SqT K H a xs∧xs.length≤i⟩
def Itr(lo:Int)(n:Nat):It:=⟨fun i _=>i<n,fun i H x H'=>H'=H∧x=.int (lo+i),fun i _=>n≤i⟩
theorem Tw{P:Program}{w:World}{K:W.Frag}{tg:Expr}(a it:Addr):Turn P w K tg (Itl K a) [it] it (fun i h=>h.IsListIter it a i) where
 mem:=by simp
 obj:=fun i h st b hb=>by
  have e:b=it:=by simpa using hb
  subst e
  obtain⟨o,e,c,d⟩:=st
  exact⟨o,e,fun v z=>by rw[d] at z;cases z⟩
 keep:=fun i h h' st k=>st.at fun o e=>k it (by simp) o e
 item:=by
  intro X hP hw hK hc i pins s σ H E I hf st hg
  subst hP hw hK
  obtain⟨xs,x,hq,hx⟩:=hg
  obtain⟨its,rv,p,hz⟩:=I.list hq
  obtain⟨u,hu,ru⟩:=rv.get hx
  obtain⟨f0,f1,f2,f3,f4,f5⟩:=hf it (by simp)
  refine wpAny_pyNext_list_item st p.isList (x:=u) (by simpa using hu) fun h' st' sb=>?_
  have I1:Inv X pins σ H { s with heap:=h' }:=I.turned (t':=s.toks) (fun b o hb e=>(sb.2 b hb).trans e) f0 f1 f3 f4 f5
  obtain⟨o,e,c,d⟩:=id st'
  exact⟨u,rfl,V4 (s:={ s with heap:=h' }) e c d (by decide) ⟨x,H,I1,ru,⟨rfl,fun ys hy=>by rw[I.list_inj hy hq];exact hx⟩,st',fun b hb=>(hf b hb).1⟩⟩
 done:=by
  intro X hP hw hK hc i pins s σ H E I hf st hg
  subst hP hw hK
  obtain⟨xs,hq,hx⟩:=hg
  obtain⟨its,rv,p,hz⟩:=I.list hq
  obtain⟨f0,f1,f2,f3,f4,f5⟩:=hf it (by simp)
  have hl:=rv.length
  exact wpAny_pyNext_list_end (I.ok.hd hc) st p.isList (by simp;omega) fun h' eb=>⟨rfl,I.turned (t':=s.toks) (fun b o hb e=>eb b o hb e) f0 f1 f3 f4 f5⟩
 self:=fun _ _ _ _ _ st h=>wpAny_pyIter_listiter st h
theorem Q0{P:Program}{w:World}{K:W.Frag}{tg:Expr}(a it:Addr):Turn P w K tg (Itt K a) [it] it (fun i h=>h.IsTupleIter it a i) where
 mem:=by simp
 obj:=fun i h st b hb=>by
  have e:b=it:=by simpa using hb
  subst e
  obtain⟨o,e,c,d⟩:=st
  exact⟨o,e,fun v z=>by rw[d] at z;cases z⟩
 keep:=fun i h h' st k=>st.at fun o e=>k it (by simp) o e
 item:=by
  intro X hP hw hK hc i pins s σ H E I hf st hg
  subst hP hw hK
  obtain⟨xs,x,hq,hx⟩:=hg
  obtain⟨its,rv,p,hz⟩:=I.tuple hq
  obtain⟨u,hu,ru⟩:=rv.get hx
  obtain⟨f0,f1,f2,f3,f4,f5⟩:=hf it (by simp)
  refine wpAny_pyNext_tuple_item st (show s.heap.IsTuple a its.toArray from p) (x:=u) (by simpa using hu) fun h' st' sb=>?_
  have I1:Inv X pins σ H { s with heap:=h' }:=I.turned (t':=s.toks) (fun b o hb e=>(sb.2 b hb).trans e) f0 f1 f3 f4 f5
  obtain⟨o,e,c,d⟩:=id st'
  exact⟨u,rfl,V4 (s:={ s with heap:=h' }) e c d (by decide) ⟨x,H,I1,ru,⟨rfl,fun ys hy=>by rw[I.tuple_inj hy hq];exact hx⟩,st',fun b hb=>(hf b hb).1⟩⟩
 done:=by
  intro X hP hw hK hc i pins s σ H E I hf st hg
  subst hP hw hK
  obtain⟨xs,hq,hx⟩:=hg
  obtain⟨its,rv,p,hz⟩:=I.tuple hq
  obtain⟨f0,f1,f2,f3,f4,f5⟩:=hf it (by simp)
  have hl:=rv.length
  exact wpAny_pyNext_tuple_end (I.ok.hd hc) st (show s.heap.IsTuple a its.toArray from p) (by simp;omega) fun h' eb=>⟨rfl,I.turned (t':=s.toks) (fun b o hb e=>eb b o hb e) f0 f1 f3 f4 f5⟩
 self:=fun _ _ _ _ _ st h=>wpAny_pyIter_tupleiter st h
theorem Q1{P:Program}{w:World}{K:W.Frag}{tg:Expr}(it:Addr)(lo:Int)(n:Nat):Turn P w K tg (Itr lo n) [it] it (fun i h=>IsRangeIter h it (lo+(i:Nat)*1) ((n:Int)-(i:Nat)) 1) where
 mem:=by simp
 obj:=fun i h st b hb=>by
  have e:b=it:=by simpa using hb
  subst e
  exact⟨_,st,fun v z=>by
   have z':Data.fields _=Data.cell v:=z
   cases z'⟩
 keep:=fun i h h' st k=>k it (by simp) _ st
 item:=by
  intro X hP hw hK hc i pins s σ H E I hf st hg
  subst hP hw hK
  obtain⟨f0,f1,f2,f3,f4,f5⟩:=hf it (by simp)
  have W:=Walks.range (prog:=X.prog) (w:=X.w) (I.ok.hd hc) it lo 1 n
  refine W.item i s _ _ hg st fun v h' tk hv st' kk=>?_
  obtain⟨t,rfl⟩:=hv
  have I1:Inv X pins σ H { s with heap:=h',toks:=tk }:=I.turned (fun b o hb e=>kk b o (by simpa using hb) e) f0 f1 f3 f4 f5
  refine⟨_,rfl,V4 (s:={ s with heap:=h',toks:=tk }) (n:="range_iterator") st' rfl rfl (by decide) ⟨.int (lo+i),H,I1,⟨t,?_⟩,⟨rfl,rfl⟩,st',fun b hb=>(hf b hb).1⟩⟩
  rw[Int.mul_one]
 done:=by
  intro X hP hw hK hc i pins s σ H E I hf st hg
  subst hP hw hK
  obtain⟨f0,f1,f2,f3,f4,f5⟩:=hf it (by simp)
  exact wpAny_pyNext_range_end (I.ok.hd hc) st (by have:n≤i:=hg;omega) fun h' eb=>⟨rfl,I.turned (t':=s.toks) (fun b o hb e=>eb b o hb e) f0 f1 f3 f4 f5⟩
 self:=fun _ _ _ _ _ st h=>wpAny_pyIter_rangeiter st h
end L2
namespace L2
open PySem PySem.Spec PyProof.Rows
section
variable{X:Cx}{tg:Expr}
theorem Oj{pins:List (Addr×Obj)}{σ:St}{H:Hp}{s:Shared}{R:It→Hp→Prop}{E:Value→Shared→Prop}{lo hi:Int}{t u v:Tok}{tk:Nat}(I:Inv X pins σ H s)(h1 : -(2 ^ 62)≤lo)(h2:lo<2 ^ 62)(h3 : -(2 ^ 62)≤hi)(h4:hi<2 ^ 62)(q:R (Itr lo (hi-lo).toNat) H):wpAny (model X.prog X.w) X.A (pyIter (.ref s.heap.objs.size)) (PIE X pins σ tg R) E { s with heap:=s.heap.push { cls:=.type "range",data:=.fields #[.int lo t,.int hi u,.int 1 v] },toks:=tk }:=by
 refine wpAny_pyIter_range (IsRange.new ..) (small_one h1 h2 h3 h4) ?_
 have I1:Inv X pins σ H { s with heap:=s.heap.push { cls:=.type "range",data:=.fields #[.int lo t,.int hi u,.int 1 v] },toks:=tk }:=I.kept fun b o e=>Heap.get?_push_of_some _ e
 refine⟨(s.heap.push { cls:=.type "range",data:=.fields #[.int lo t,.int hi u,.int 1 v] }).objs.size,[(s.heap.push { cls:=.type "range",data:=.fields #[.int lo t,.int hi u,.int 1 v] }).objs.size],_,_,H,rfl,
  I1.kept (t':=tk) fun b o e=>Heap.get?_push_of_some _ e,Q1 _ lo (hi-lo).toNat,?_,fun b hb=>?_,q⟩
 ·have e1:lo+((0:Nat):Int)*1=lo:=by simp
  have e2:(((hi-lo).toNat:Nat):Int)-((0:Nat):Int)=Builtin.Range.rangeSize lo hi 1:=by rw[rangeSize_one];split<;>omega
  show IsRangeIter _ _ (lo+((0:Nat):Int)*1) ((((hi-lo).toNat:Nat):Int)-((0:Nat):Int)) 1
  rw[e1,e2]
  exact Heap.get?_push_size _ rfl
 ·have e:b=(s.heap.push { cls:=.type "range",data:=.fields #[.int lo t,.int hi u,.int 1 v] }).objs.size:=by simpa using hb
  subst e
  exact I1.fpOk (Nat.le_refl _) (I1.hok.fresh (Nat.le_refl _))
def iRng1(ta:TA):TI:=fun σ H R=>ta σ H fun vs H1=>∃j:Int,vs=[.int j]∧-(2 ^ 62)≤j∧j<2 ^ 62∧R (Itr 0 j.toNat) H1
def iRng2(ta:TA):TI:=fun σ H R=>ta σ H fun vs H1=>∃i j:Int,vs=[.int i,.int j]∧(-(2 ^ 62)≤i∧i<2 ^ 62∧-(2 ^ 62)≤j∧j<2 ^ 62)∧R (Itr i (j-i).toNat) H1
theorem L8{a:Expr}{ta:TA}{p pos:Pos}(hg:Gl X "range")(hm:X.mg "range" = none)(ha:PA X [a] ta)(hs:starEach [a] X.env=[(false,eval a X.env)]:=by rfl):PI X tg (.Call (.Name "range" p) [a] [] pos) (iRng1 ta):=by
 intro pins s σ H R I h
 refine Call_ (D8 I hg hm boot_range (PyProof.Rows.callWith_type1 (thn (ha pos pins s σ H _ I h) fun us s1 ⟨vs,H1,I1,r1,q1⟩=>?_) hs rfl))
 obtain⟨j,e,q1,q2,q⟩:=q1
 subst e
 cases r1 with
 |cons r rr=>
  cases rr
  obtain⟨t,rfl⟩:=r
  exact call_range_1 (Oj I1 (by omega) (by omega) q1 q2 (by simpa using q))
theorem Hj{a b:Expr}{ta:TA}{p pos:Pos}(hg:Gl X "range")(hm:X.mg "range" = none)(ha:PA X [a,b] ta)(hs:starEach [a,b] X.env=[(false,eval a X.env),(false,eval b X.env)]:=by rfl)(hs2:starEach [b] X.env=[(false,eval b X.env)]:=by rfl) :
  PI X tg (.Call (.Name "range" p) [a,b] [] pos) (iRng2 ta):=by
 intro pins s σ H R I h
 refine Call_ (D8 I hg hm boot_range (PyProof.Rows.callWith_type1 (thn (ha pos pins s σ H _ I h) fun us s1 ⟨vs,H1,I1,r1,q1⟩=>?_) (by rw[hs,hs2]) (by rw[hs2];rfl)))
 obtain⟨i,j,e,⟨q1,q2,q3,q4⟩,q⟩:=q1
 subst e
 cases r1 with
 |cons r rr=>
  cases rr with
  |cons r' rr=>
   cases rr
   obtain⟨t,rfl⟩:=r
   obtain⟨t',rfl⟩:=r'
   exact call_range_2 (Oj I1 q1 q2 q3 q4 q)

def tFor(wi:TI)(g:TG)(tb:TS):TS:=fun D σ H=>wi σ H fun J H1=>∃W:Nat→Nat→St→Hp→Prop,(∃m,W 0 m σ H1)∧∀i m σ H,W i m σ H→
 (J.stop i H∧D.nx σ H)∨(J.go i H∧∃N:St→Hp→Prop,(∀σ' H',N σ' H'→∃m',m'<m∧W (i+1) m' σ' H')∧∀x H',J.yld i H x H'→g x σ H' fun σ2 H2=>tb { D with nx:=N,ct:=N,bk:=D.nx } σ2 H2)
def Dw(fp:List Addr)(h:Heap):List (Addr×Obj):=fp.filterMap fun b=>(h.get? b).map fun o=>(b,o)
theorem B0{fp:List Addr}{h:Heap}{b:Addr}{o:Obj}(hb:b∈fp)(e:h.get? b=some o):(b,o)∈Dw fp h:=List.mem_filterMap.mpr ⟨b,hb,by rw[e];rfl⟩
theorem Up{fp:List Addr}{h:Heap}{p:Addr×Obj}(hp:p∈Dw fp h):p.1∈fp∧h.get? p.1=some p.2:=by
 obtain⟨b,hb,e⟩:=List.mem_filterMap.mp hp
 cases q:h.get? b with
 |none=>rw[q] at e;cases e
 |some o=>
  rw[q] at e
  have e':(b,o)=p:=Option.some.inj e
  subst e'
  exact⟨hb,q⟩
theorem Inv.pinned{pins:List (Addr×Obj)}{σ:St}{H:Hp}{s:Shared}{fp:List Addr}(I:Inv X pins σ H s)(hf:∀b∈fp,Fd X pins H b)(ho:∀b∈fp,∃o,s.heap.get? b=some o∧∀v,o.data≠.cell v):Inv X (pins++Dw fp s.heap) σ H s:=
 I.pins_of fun p hp=>(List.mem_append.mp hp).elim (fun z=>I.pin p (List.mem_append_right _ z)) fun z=>by
  obtain⟨hb,e⟩:=Up z
  obtain⟨f0,f1,f2,_⟩:=hf p.1 hb
  obtain⟨o,e',d⟩:=ho p.1 hb
  rw[e] at e';cases e'
  exact⟨e,f0,f1,f2,d⟩
theorem Inv.unpinned{pins pl:List (Addr×Obj)}{σ:St}{H:Hp}{s:Shared}(I:Inv X (pins++pl) σ H s):Inv X pins σ H s:=I.pins_of fun p hp=>I.pin p (List.mem_append_right _ (List.mem_append_left _ hp))
theorem Qp{iter:Expr}{body:List Stmt}{wi:TI}{g:TG}{tb:TS}{pos:Pos}(hp:PassesOwn (model X.prog X.w) X.A X.env X.xe)(hc:X.calm=true)(hi:PI X tg iter wi)(hg:PG X tg g)(hb:PSs X body tb)(hs:∀x,foldedSetIterable iter X.env x=pure x:=by intro _;rfl):PS X (.For tg iter body [] pos) (tFor wi g tb):=by
 intro pins s σ H D I h
 refine wpAny_For (thn (hi pins s σ H _ I h) fun v s1 h1=>thn h1 fun itv s2 h2=>?_) hs
 obtain⟨it,fp,tn,J,H2,e,I2,T,st2,f2,W,⟨m0,w0⟩,turn⟩:=h2
 subst e
 -- what stays true of the iterator's objects through the loop
 have stat:∀{H':Hp},(∀b∈fp,H' b=none)→∀b∈fp,Fd X pins H' b:=fun hn b hb=>⟨hn b hb,(f2 b hb).2⟩
 refine codeAny_forLoop_any (fun n s'=>∃i σ' H',Inv X pins σ' H' s'∧tn i s'.heap∧(∀b∈fp,H' b=none)∧W i n σ' H') ?_ m0 ⟨0,σ,H2,I2,st2,fun b hb=>(f2 b hb).1,w0⟩
 rintro n s3 ⟨i,σ3,H3,I3,st3,fr3,w3⟩
 rcases turn i n σ3 H3 w3 with ⟨stop,qn⟩|⟨go,N,hN,step⟩
 ·refine wpAny_passesOwn hp (thn (T.done X rfl rfl rfl hc i pins s3 σ3 H3 X.xe I3 (stat fr3) st3 stop) fun r s4 ⟨hr,I4⟩=>?_)
  subst hr
  exact wpAny_execs_nil ⟨σ3,H3,I4,qn⟩
 ·refine wpAny_passesOwn hp (thn (T.item X rfl rfl rfl hc i pins s3 σ3 H3 X.xe I3 (stat fr3) st3 go) fun r s4 ⟨u,hr,h4⟩=>?_)
  subst hr
  refine wpAny_passesOwn hp (thn h4 fun _ s5 ⟨x,H5,I5,r5,y5,st5,fr5⟩=>?_)
  have I5':=I5.pinned (stat fr5) (T.obj _ _ st5)
  refine wpAny_passesOwn hp (thn (hg _ s5 σ3 H5 x u _ I5' r5 (step x H5 y5)) fun _ s6 ⟨σ6,H6,I6,q6⟩=>?_)
  refine wpAny_passesOwn hp (thn (hb _ s6 σ6 H6 _ I6 q6) fun f s7 q7=>?_)
  have again:∀{σ7:St} {H7:Hp},Inv X (pins++Dw fp s5.heap) σ7 H7 s7→N σ7 H7→∃m,m<n∧∃i σ' H',Inv X pins σ' H' s7∧tn i s7.heap∧(∀b∈fp,H' b=none)∧W i m σ' H':=fun {σ7 H7} I7 n7=>by
   obtain⟨m',hm,w7⟩:=hN σ7 H7 n7
   refine⟨m',hm,i+1,σ7,H7,I7.unpinned,T.keep _ _ _ st5 fun b hb o e=>(I7.pin (b,o) (List.mem_append_right _ (List.mem_append_right _ (B0 hb e)))).1,fun b hb=>?_,w7⟩
   obtain⟨o,e,d⟩:=T.obj _ _ st5 b hb
   exact(I7.pin (b,o) (List.mem_append_right _ (List.mem_append_right _ (B0 hb e)))).2.1
  cases f with
  |next=>obtain⟨σ7,H7,I7,n7⟩:=q7;exact again I7 n7
  |cont=>obtain⟨σ7,H7,I7,n7⟩:=q7;exact again I7 n7
  |brk=>obtain⟨σ7,H7,I7,q7⟩:=q7;exact⟨σ7,H7,I7.unpinned,q7⟩
  |ret v=>obtain⟨x7,σ7,H7,I7,r7,q7⟩:=q7;exact⟨x7,σ7,H7,I7.unpinned,r7,q7⟩
end
end L2
namespace L2
open PySem PySem.Spec PyProof.Rows
abbrev R2:=V→V→Hp→VK→Prop
def OpR(X:Cx)(f:Value→Value→Sem Value)(r:R2):Prop:=
 ∀(pins:List (Addr×Obj)) (s:Shared) (σ:St) (H:Hp) (x y:V) (v u:Value) (Q:VK),Inv X pins σ H s→RelV x v→RelV y u→r x y H Q→
  wpAny (model X.prog X.w) X.A (f v u) (EP X pins σ Q) X.xe s
def UnR(X:Cx)(f:Value→Sem Value)(r:V→Hp→VK→Prop):Prop:=
 ∀(pins:List (Addr×Obj)) (s:Shared) (σ:St) (H:Hp) (x:V) (v:Value) (Q:VK),Inv X pins σ H s→RelV x v→r x H Q→
  wpAny (model X.prog X.w) X.A (f v) (EP X pins σ Q) X.xe s
def CallR(X:Cx)(f:Value)(r:List V→Hp→VK→Prop):Prop:=
 ∀(pins:List (Addr×Obj)) (s:Shared) (σ:St) (H:Hp) (xs:List V) (us:List Value) (Q:VK),Inv X pins σ H s→Vals xs us→r xs H Q→
  wpAny (model X.prog X.w) X.A (call f us) (EP X pins σ Q) X.xe s
def TruR(X:Cx)(r:V→Hp→(Bool→Hp→Prop)→Prop):Prop:=
 ∀(pins:List (Addr×Obj)) (s:Shared) (σ:St) (H:Hp) (x:V) (v:Value) (Q:Bool→Hp→Prop),Inv X pins σ H s→RelV x v→r x H Q→
  wpAny (model X.prog X.w) X.A (truthy v) (TP X pins σ Q) X.xe s

def tOp(r:R2)(ta tb:TE):TE:=fun σ H Q=>ta σ H fun x H1=>tb σ H1 fun y H2=>r x y H2 Q
def tUn(r:V→Hp→VK→Prop)(ta:TE):TE:=fun σ H Q=>ta σ H fun x H1=>r x H1 Q
def rI(C:Int→Int→Prop)(g:Int→Int→V):R2:=fun x y H Q=>∃i j,x=.int i∧y=.int j∧C i j∧Q (g i j) H
def rI0(g:Int→Int→V):R2:=fun x y H Q=>∃i j,x=.int i∧y=.int j∧Q (g i j) H
def rU(g:Int→V):V→Hp→VK→Prop:=fun x H Q=>∃i,x=.int i∧Q (g i) H

section
variable{X:Cx}{a b c:Expr}{ta tb tc:TE}{pos:Pos}
theorem binT(ha:PE X a ta)(hb:PE X b tb){pins:List (Addr×Obj)}{s:Shared}{σ:St}{H:Hp}{R:V→V→Hp→Prop}(I:Inv X pins σ H s)(h:ta σ H fun x H1=>tb σ H1 fun y H2=>R x y H2){Q:Value→Shared→Prop}{f:Value→Value→Sem Value}(hf:∀v u s2 x y H2,Inv X pins σ H2 s2→RelV x v→RelV y u→R x y H2→wpAny (model X.prog X.w) X.A (f v u) Q X.xe s2) :
  wpAny (model X.prog X.w) X.A (eval a X.env) (fun v s₁=>wpAny (model X.prog X.w) X.A (eval b X.env) (fun u s₂=>wpAny (model X.prog X.w) X.A (f v u) Q X.xe s₂) X.xe s₁) X.xe s:=by
 refine thn (ha pins s σ H _ I h) fun v s1 ⟨x,H1,I1,r1,q1⟩=>?_
 refine thn (hb pins s1 σ H1 _ I1 q1) fun u s2 ⟨y,H2,I2,r2,q2⟩=>?_
 exact hf v u s2 x y H2 I2 r1 r2 q2

theorem pe_op{op:Operator}{r:R2}(ho:OpR X (binaryOp op) r)(ha:PE X a ta)(hb:PE X b tb):PE X (.BinOp a op b pos) (tOp r ta tb):=by
 intro pins s σ H Q I h
 exact wpAny_BinOp (binT ha hb I h fun v u s2 x y H2 I2 rx ry q=>ho pins s2 σ H2 x y v u Q I2 rx ry q)
theorem pe_un{op:UnaryOp}{r:V→Hp→VK→Prop}(ho:UnR X (unaryOp op) r)(ha:PE X a ta):PE X (.UnaryOp op a pos) (tUn r ta):=by
 intro pins s σ H Q I h
 exact UnaryOp_ (thn (ha pins s σ H _ I h) fun v s1 ⟨x,H1,I1,r1,q1⟩=>ho pins s1 σ H1 x v Q I1 r1 q1)
theorem opI{f:Value→Value→Sem Value}{C:Int→Int→Prop}{g:Int→Int→Int}(rule:∀(i j:Int) (t u:Tok) (s:Shared) (Q:Value→Shared→Prop) (E:Value→Shared→Prop),C i j→Q (.int (g i j) s.toks) { s with toks:=s.toks+1 }→wpAny (model X.prog X.w) X.A (f (.int i t) (.int j u)) Q E s) :
  OpR X f (rI C fun i j=>.int (g i j)):=by
 intro pins s σ H x y v u Q I rx ry h
 obtain⟨i,j,rfl,rfl,hc,q⟩:=h
 obtain⟨t,rfl⟩:=rx
 obtain⟨t',rfl⟩:=ry
 exact rule i j t t' s _ _ hc ⟨.int (g i j),H,I.tok _,⟨_,rfl⟩,q⟩
theorem opI0{f:Value→Value→Sem Value}{g:Int→Int→Int}(rule:∀(i j:Int) (t u:Tok) (s:Shared) (Q:Value→Shared→Prop) (E:Value→Shared→Prop),Q (.int (g i j) s.toks) { s with toks:=s.toks+1 }→wpAny (model X.prog X.w) X.A (f (.int i t) (.int j u)) Q E s) :
  OpR X f (rI0 fun i j=>.int (g i j)):=by
 intro pins s σ H x y v u Q I rx ry h
 obtain⟨i,j,rfl,rfl,q⟩:=h
 obtain⟨t,rfl⟩:=rx
 obtain⟨t',rfl⟩:=ry
 exact rule i j t t' s _ _ ⟨.int (g i j),H,I.tok _,⟨_,rfl⟩,q⟩
theorem opB0{f:Value→Value→Sem Value}{g:Int→Int→Bool}(rule:∀(i j:Int) (t u:Tok) (s:Shared) (Q:Value→Shared→Prop) (E:Value→Shared→Prop),Q (.bool (g i j)) s→wpAny (model X.prog X.w) X.A (f (.int i t) (.int j u)) Q E s) :
  OpR X f (rI0 fun i j=>.bl (g i j)):=by
 intro pins s σ H x y v u Q I rx ry h
 obtain⟨i,j,rfl,rfl,q⟩:=h
 obtain⟨t,rfl⟩:=rx
 obtain⟨t',rfl⟩:=ry
 exact rule i j t t' s _ _ ⟨.bl (g i j),H,I,rfl,q⟩

def Qf(i j:Int):Prop:=0<j∧j<1073741824
def CMul(i j:Int):Prop:=(-(2 ^ 64)<i∧i<2 ^ 64)∨(-(2 ^ 64)<j∧j<2 ^ 64)
theorem CMul.ok{i j:Int}(h:CMul i j):IntMulOk i j:=by
 rcases h with ⟨h1,h2⟩|⟨h1,h2⟩
 ·exact .of_left (intBits_le_64 h1 h2)
 ·exact .of_right (intBits_le_64 h1 h2)
theorem Adi:OpR X (binaryOp .Add) (rI0 fun i j=>.int (i+j)):=opI0 fun _ _ _ _ _ _ _ q=>add_int q
theorem Adc:OpR X (binaryOp .Sub) (rI0 fun i j=>.int (i-j)):=opI0 fun _ _ _ _ _ _ _ q=>sub_int q
theorem Adf:OpR X (binaryOp .Mult) (rI CMul fun i j=>.int (i*j)):=opI fun _ _ _ _ _ _ _ hc q=>mul_int q hc.ok
theorem Z6:OpR X (binaryOp .FloorDiv) (rI Qf fun i j=>.int (i / j)):=opI fun i j _ _ _ _ _ hc q=>by
 have h1:(0:Int)<j:=hc.1
 have h2:j<1073741824:=hc.2
 exact floordiv_int (by omega) (by rw[Int.fdiv_eq_ediv_of_nonneg i (by omega)];exact q) (.inl (PyProof.noPylong_small (by omega)))
theorem Adg:OpR X (binaryOp .Mod) (rI (fun _ j=>0<j) fun i j=>.int (i % j)):=opI fun i j _ _ _ _ _ hc q=>by
 have h1:(0:Int)<j:=hc
 exact mod_int' (by omega) (by rw[Int.fmod_eq_emod_of_nonneg i (by omega)];exact q)
theorem unI{f:Value→Sem Value}{g:Int→Int}(rule:∀(i:Int) (t:Tok) (s:Shared) (Q:Value→Shared→Prop) (E:Value→Shared→Prop),Q (.int (g i) s.toks) { s with toks:=s.toks+1 }→wpAny (model X.prog X.w) X.A (f (.int i t)) Q E s) :
  UnR X f (rU fun i=>.int (g i)):=by
 intro pins s σ H x v Q I rx h
 obtain⟨i,rfl,q⟩:=h
 obtain⟨t,rfl⟩:=rx
 exact rule i t s _ _ ⟨.int (g i),H,I.tok _,⟨_,rfl⟩,q⟩
theorem Ab5:UnR X (unaryOp .USub) (rU fun i=>.int (-i)):=unI fun _ _ _ _ _ q=>neg_int q
end
def scal:V→V→Bool
 |.non,.non=>true|.non,.int _=>true|.int _,.non=>true|.non,.bl _=>true|.bl _,.non=>true|.non,.str _=>true|.str _,.non=>true
 |.int _,.int _=>true|.bl _,.bl _=>true|.str _,.str _=>true|.byt _,.byt _=>true
 |.int _,.str _=>true|.str _,.int _=>true|.bl _,.str _=>true|.str _,.bl _=>true
 |_,_=>false
def rEq:R2:=fun x y H Q=>scal x y=true∧Q (.bl (decide (x=y))) H
def rNe:R2:=fun x y H Q=>scal x y=true∧Q (.bl (!decide (x=y))) H

theorem Tl{i j:Int}:decide (V.int i=V.int j)=(i == j):=by
 rw[Bool.eq_iff_iff]
 simp
theorem Ww{i j:Bool}:decide (V.bl i=V.bl j)=(i == j):=by
 rw[Bool.eq_iff_iff]
 simp
theorem Tk{i j:Str}:decide (V.str i=V.str j)=(i == j):=by
 rw[Bool.eq_iff_iff]
 simp
theorem Tm{i j:Array UInt8}:decide (V.byt i=V.byt j)=(i.toList == j.toList):=by
 rw[Bool.eq_iff_iff]
 cases i
 cases j
 simp

section
variable{X:Cx}{a b c:Expr}{ta tb tc:TE}{pos:Pos}
theorem A4{pins:List (Addr×Obj)}{σ:St}{H:Hp}{s:Shared}{Q:VK}{k k':Bool}(I:Inv X pins σ H s)(q:Q (.bl k) H)(e:k=k'):EP X pins σ Q (.bool k') s:=by
 subst e
 exact⟨.bl k,H,I,rfl,q⟩
theorem op_eq:OpR X (compareOp .Eq) rEq:=by
 intro pins s σ H x y v u Q I rx ry h
 obtain⟨hs,q⟩:=h
 cases x with
 |non=>
  cases rx
  cases y with
  |non=>cases ry;exact PySem.EqNone.eq_none_none (A4 I q (by simp))
  |bl j=>cases ry;exact PySem.EqNone.eq_none_bool (A4 I q (by simp))
  |int j=>obtain⟨t',rfl⟩:=ry;exact PySem.EqNone.eq_none_int (A4 I q (by simp))
  |str j=>obtain⟨t',rfl⟩:=ry;exact PySem.EqNone.eq_none_str (A4 I q (by simp))
  |_=>exact absurd (show false=true from hs) Bool.false_ne_true
 |bl i=>
  cases rx
  cases y with
  |non=>cases ry;exact PySem.EqNone.eq_bool_none (A4 I q (by simp))
  |bl j=>cases ry;exact eq_bool (A4 I q Ww)
  |str j=>obtain⟨t',rfl⟩:=ry;exact PySem.EqMixed.eq_bool_str (A4 I q (by simp))
  |_=>exact absurd (show false=true from hs) Bool.false_ne_true
 |int i=>
  obtain⟨t,rfl⟩:=rx
  cases y with
  |non=>cases ry;exact PySem.EqNone.eq_int_none (A4 I q (by simp))
  |int j=>obtain⟨t',rfl⟩:=ry;exact eq_int (A4 I q Tl)
  |str j=>obtain⟨t',rfl⟩:=ry;exact PySem.EqMixed.eq_int_str (A4 I q (by simp))
  |_=>exact absurd (show false=true from hs) Bool.false_ne_true
 |str i=>
  obtain⟨t,rfl⟩:=rx
  cases y with
  |non=>cases ry;exact PySem.EqNone.eq_str_none (A4 I q (by simp))
  |bl j=>cases ry;exact PySem.EqMixed.eq_str_bool (A4 I q (by simp))
  |int j=>obtain⟨t',rfl⟩:=ry;exact PySem.EqMixed.eq_str_int (A4 I q (by simp))
  |str j=>obtain⟨t',rfl⟩:=ry;exact eq_str (A4 I q Tk)
  |_=>exact absurd (show false=true from hs) Bool.false_ne_true
 |byt i=>
  obtain⟨t,rfl⟩:=rx
  cases y with
  |byt j=>obtain⟨t',rfl⟩:=ry;exact PySem.W.eq_bytes (A4 I q Tm)
  |_=>exact absurd (show false=true from hs) Bool.false_ne_true
 |_=>cases y<;>exact absurd (show false=true from hs) Bool.false_ne_true
theorem op_ne:OpR X (compareOp .NotEq) rNe:=by
 intro pins s σ H x y v u Q I rx ry h
 obtain⟨hs,q⟩:=h
 cases x with
 |non=>
  cases rx
  cases y with
  |non=>cases ry;exact PySem.EqNone.ne_none_none (A4 I q (by simp))
  |bl j=>cases ry;exact PySem.EqNone.ne_none_bool (A4 I q (by simp))
  |int j=>obtain⟨t',rfl⟩:=ry;exact PySem.EqNone.ne_none_int (A4 I q (by simp))
  |str j=>obtain⟨t',rfl⟩:=ry;exact PySem.EqNone.ne_none_str (A4 I q (by simp))
  |_=>exact absurd (show false=true from hs) Bool.false_ne_true
 |bl i=>
  cases rx
  cases y with
  |non=>cases ry;exact PySem.EqNone.ne_bool_none (A4 I q (by simp))
  |bl j=>cases ry;exact ne_bool (A4 I q (congrArg not Ww))
  |str j=>obtain⟨t',rfl⟩:=ry;exact PySem.EqMixed.ne_bool_str (A4 I q (by simp))
  |_=>exact absurd (show false=true from hs) Bool.false_ne_true
 |int i=>
  obtain⟨t,rfl⟩:=rx
  cases y with
  |non=>cases ry;exact PySem.EqNone.ne_int_none (A4 I q (by simp))
  |int j=>obtain⟨t',rfl⟩:=ry;exact ne_int (A4 I q (congrArg not Tl))
  |str j=>obtain⟨t',rfl⟩:=ry;exact PySem.EqMixed.ne_int_str (A4 I q (by simp))
  |_=>exact absurd (show false=true from hs) Bool.false_ne_true
 |str i=>
  obtain⟨t,rfl⟩:=rx
  cases y with
  |non=>cases ry;exact PySem.EqNone.ne_str_none (A4 I q (by simp))
  |bl j=>cases ry;exact PySem.EqMixed.ne_str_bool (A4 I q (by simp))
  |int j=>obtain⟨t',rfl⟩:=ry;exact PySem.EqMixed.ne_str_int (A4 I q (by simp))
  |str j=>obtain⟨t',rfl⟩:=ry;exact ne_str (A4 I q (congrArg not Tk))
  |_=>exact absurd (show false=true from hs) Bool.false_ne_true
 |byt i=>
  obtain⟨t,rfl⟩:=rx
  cases y with
  |byt j=>obtain⟨t',rfl⟩:=ry;exact PySem.W.ne_bytes (A4 I q (congrArg not Tm))
  |_=>exact absurd (show false=true from hs) Bool.false_ne_true
 |_=>cases y<;>exact absurd (show false=true from hs) Bool.false_ne_true

theorem op_lt:OpR X (compareOp .Lt) (rI0 fun i j=>.bl (decide (i<j))):=opB0 fun _ _ _ _ _ _ _ q=>lt_int q
theorem op_le:OpR X (compareOp .LtE) (rI0 fun i j=>.bl (decide (i≤j))):=opB0 fun _ _ _ _ _ _ _ q=>le_int q
theorem op_gt:OpR X (compareOp .Gt) (rI0 fun i j=>.bl (decide (j<i))):=opB0 fun _ _ _ _ _ _ _ q=>gt_int q
theorem nomark(b:Expr){op:CmpOp}(h:op≠.In:=by decide)(h2:op≠.NotIn:=by decide):behindInMarks op b=false:=by
 have e1:(op == CmpOp.In)=false:=by cases op<;>first|rfl|exact absurd rfl h
 have e2:(op == CmpOp.NotIn)=false:=by cases op<;>first|rfl|exact absurd rfl h2
 cases b<;>simp[behindInMarks,e1,e2]
theorem Z3{op:CmpOp}{r:R2}(ho:OpR X (compareOp op) r)(ha:PE X a ta)(hb:PE X b tb)(hm:behindInMarks op b=false):PE X (.Compare a [op] [b] pos) (tOp r ta tb):=by
 intro pins s σ H Q I h
 exact wpAny_Compare1 (binT ha hb I h fun v u s2 x y H2 I2 rx ry q=>ho pins s2 σ H2 x y v u Q I2 rx ry q) hm
def Aba(t:TE):TT:=fun σ H Q=>t σ H fun x H'=>∃k,x=.bl k∧Q k H'
theorem Zr{op:CmpOp}{r:R2}(ho:OpR X (compareOp op) r)(ha:PE X a ta)(hb:PE X b tb)(hm:behindInMarks op b=false):PT X (.Compare a [op] [b] pos) (Aba (tOp r ta tb)):=by
 intro pins s σ H Q I h
 refine wpAny_isTrue_Compare1 (thn (ha pins s σ H _ I h) fun v s1 ⟨x,H1,I1,r1,q1⟩=>thn (hb pins s1 σ H1 _ I1 q1) fun u s2 ⟨y,H2,I2,r2,q2⟩=>
  thn (ho pins s2 σ H2 x y v u _ I2 r1 r2 q2) fun c s3 ⟨z,H3,I3,r3,k,e,q3⟩=>?_) hm
 subst e
 cases r3
 exact wpAny_truthy_bool ⟨H3,I3,q3⟩
def Qh(r r':R2)(ta tb tc:TE):TE:=fun σ H Q=>ta σ H fun x H1=>tb σ H1 fun y H2=>r x y H2 fun z H3=>∃k,z=.bl k∧
 (if k=true then tc σ H3 fun w' H4=>r' y w' H4 Q else Q (.bl false) H3)
theorem Xy{op op':CmpOp}{r r':R2}(ho:OpR X (compareOp op) r)(ho':OpR X (compareOp op') r')(ha:PE X a ta)(hb:PE X b tb)(hc:PE X c tc)(hm:lastMarks [op,op'] [b,c]=false:=by with_unfolding_all rfl):PE X (.Compare a [op,op'] [b,c] pos) (Qh r r' ta tb tc):=by
 intro pins s σ H Q I h
 refine Compare_chain (thn (ha pins s σ H _ I h) fun v s1 ⟨x,H1,I1,r1,q1⟩=>chain_link (thn (hb pins s1 σ H1 _ I1 q1) fun u s2 ⟨y,H2,I2,r2,q2⟩=>
  thn (ho pins s2 σ H2 x y v u _ I2 r1 r2 q2) fun d s3 ⟨z,H3,I3,r3,k,e,q3⟩=>?_)) hm
 subst e
 cases r3
 refine wpAny_truthy_bool ?_
 cases k with
 |false=>exact ite_ff ⟨.bl false,H3,I3,rfl,q3⟩
 |true=>exact ite_tt (chain_last (thn (hc pins s3 σ H3 _ I3 q3) fun w' s4 ⟨z',H4,I4,r4,q4⟩=>ho' pins s4 σ H4 y z' u w' Q I4 r2 r4 q4))
theorem Xo{op op':CmpOp}{r r':R2}(ho:OpR X (compareOp op) r)(ho':OpR X (compareOp op') r')(ha:PE X a ta)(hb:PE X b tb)(hc:PE X c tc)(hm:lastMarks [op,op'] [b,c]=false:=by with_unfolding_all rfl):PT X (.Compare a [op,op'] [b,c] pos) (Aba (Qh r r' ta tb tc)):=by
 intro pins s σ H Q I h
 refine isTrue_chain (thn (ha pins s σ H _ I h) fun v s1 ⟨x,H1,I1,r1,q1⟩=>test_link (thn (hb pins s1 σ H1 _ I1 q1) fun u s2 ⟨y,H2,I2,r2,q2⟩=>
  thn (ho pins s2 σ H2 x y v u _ I2 r1 r2 q2) fun d s3 ⟨z,H3,I3,r3,k,e,q3⟩=>?_)) hm
 subst e
 cases r3
 refine wpAny_truthy_bool ?_
 cases k with
 |false=>
  obtain⟨k',e',q'⟩:=q3
  cases e'
  exact ite_ff ⟨H3,I3,q'⟩
 |true=>
  refine ite_tt (test_last (thn (hc pins s3 σ H3 _ I3 q3) fun w' s4 ⟨z',H4,I4,r4,q4⟩=>thn (ho' pins s4 σ H4 y z' u w' _ I4 r2 r4 q4) fun d' s5 ⟨z2,H5,I5,r5,k2,e2,q5⟩=>?_))
  subst e2
  cases r5
  exact wpAny_truthy_bool ⟨H5,I5,q5⟩

def TruV(K:PySem.W.Frag)(x:V)(H:Hp)(k:Bool):Prop:=
 match x with
 |.non=>k=false
 |.bl b=>k=b
 |.int i=>k=(i != 0)
 |.str y=>y.length≤sizeLine∧k=((y.length:Int) != 0)
 |.byt y=>y.size≤sizeLine∧k=((y.size:Int) != 0)
 |.ref p=>(∃xs,SqL K H p xs∧k = !xs.isEmpty)∨(∃xs,SqT K H p xs∧k = !xs.isEmpty)∨∃kvs,H p=some (.dK kvs)∧k = !kvs.isEmpty
 |_=>False
theorem Rp{κ:Type}{kvs:List (κ×V)}{vs:List (κ×Value)}(r:KV kvs vs):(!vs.isEmpty) = !kvs.isEmpty:=by
 cases r<;>rfl
theorem Ku{xs:List V}{its:List Value}(r:Vals xs its):(!its.toArray.isEmpty) = !xs.isEmpty:=by
 cases r<;>simp
theorem Gz:(sizeLine:Nat)<2 ^ 63:=by rw[sizeLine_eq];decide
theorem Ab8:TruR X (fun x H Q=>∃k,TruV X.K x H k∧Q k H):=by
 intro pins s σ H x v Q I rx h
 obtain⟨k,e,q⟩:=h
 have hl:=Gz
 have hs:sizeLine=16777216:=sizeLine_eq
 cases x with
 |non=>
  cases rx
  have e':k=false:=e
  subst e'
  exact truthy_none ⟨H,I,q⟩
 |bl b=>
  cases rx
  have e':k=b:=e
  subst e'
  exact wpAny_truthy_bool ⟨H,I,q⟩
 |int i=>
  obtain⟨t,rfl⟩:=rx
  have e':k=(i != 0):=e
  subst e'
  exact PySem.P.truthy_int ⟨H,I,q⟩
 |str y=>
  obtain⟨t,rfl⟩:=rx
  obtain⟨hy,e'⟩:y.length≤sizeLine∧k=((y.length:Int) != 0):=e
  subst e'
  exact PySem.P.truthy_str (by omega) ⟨H,I.tok _,q⟩
 |byt y=>
  obtain⟨t,rfl⟩:=rx
  obtain⟨hy,e'⟩:y.size≤sizeLine∧k=((y.size:Int) != 0):=e
  subst e'
  exact PySem.W.truthy_bytes (by omega) ⟨H,I.tok _,q⟩
 |ref p=>
  cases rx
  have e':(∃xs,SqL X.K H p xs∧k = !xs.isEmpty)∨(∃xs,SqT X.K H p xs∧k = !xs.isEmpty)∨∃kvs,H p=some (.dK kvs)∧k = !kvs.isEmpty:=e
  rcases e' with ⟨xs,hx,e'⟩|⟨xs,hx,e'⟩|⟨kvs,hx,e'⟩
  ·subst e'
   obtain⟨its,r,pl,hz⟩:=I.list hx
   have hlen:=r.length
   exact wpAny_truthy_list pl.isList (by simp only[List.size_toArray];omega) ⟨H,I.tok _,by rw[Ku r];exact q⟩
  ·subst e'
   obtain⟨its,r,pl,hz⟩:=I.tuple hx
   have hlen:=r.length
   exact truthy_tuple pl (by simp only[List.size_toArray];omega) ⟨H,I.tok _,by rw[Ku r];exact q⟩
  ·subst e'
   obtain⟨hz,hS,vs,r,m⟩:kvs.length≤sizeLine∧(p == sysModules)=false∧∃vs,KV kvs vs∧s.heap.DictOf (A3 X.prog X.w) p vs:=I.hok p _ hx
   have hlen:kvs.length=vs.length:=Paired.length r
   exact wpAny_truthy_dict hS m (by omega) ⟨H,I.tok _,by rw[Rp r];exact q⟩
 |_=>exact(show False from e).elim
theorem Xn(ha:PE X a ta)(he:∀whole,isTrue a X.env whole=(do let v ←whole;standAt a.pos;holding [v] (truthy v))) :
  PT X a (fun σ H Q=>ta σ H fun x H'=>∃k,TruV X.K x H' k∧Q k H'):=by
 intro pins s σ H Q I h
 exact isTrue_plain (thn (ha pins s σ H _ I h) fun v s1 ⟨x,H1,I1,r1,q1⟩=>Ab8 pins s1 σ H1 x v Q I1 r1 q1) (he _)

theorem Fy{x:V}{us:List Value}(r:Vals [x] us):∃u,us=[u]∧RelV x u:=by
 cases r with
 |cons r1 r2=>cases r2;exact⟨_,rfl,r1⟩
theorem Lr{x y:V}{us:List Value}(r:Vals [x,y] us):∃u w',us=[u,w']∧RelV x u∧RelV y w':=by
 cases r with
 |cons r1 r2=>
  cases r2 with
  |cons r3 r4=>cases r4;exact⟨_,_,rfl,r1,r3⟩
theorem call_abs:CallR X (.builtin "abs") (fun xs H Q=>∃i,xs=[.int i]∧Q (.int (if i<0 then -i else i)) H):=by
 intro pins s σ H xs us Q I r h
 obtain⟨i,rfl,q⟩:=h
 obtain⟨u,rfl,t,rfl⟩:=Fy r
 exact call_abs_int fun u tk=>⟨.int (if i<0 then -i else i),H,I.tok _,⟨_,rfl⟩,q⟩
theorem Vc(hc:X.calm=true):CallR X (.builtin "max") (fun xs H Q=>∃i j,xs=[.int i,.int j]∧Q (.int (if j>i then j else i)) H):=by
 intro pins s σ H xs us Q I r h
 obtain⟨i,j,rfl,q⟩:=h
 obtain⟨u,w',rfl,⟨t,rfl⟩,⟨t',rfl⟩⟩:=Lr r
 refine max_two_ints (I.ok.hd hc) fun h' tk k=>⟨_,H,I.kept k,?_,q⟩
 by_cases hj:j>i
 ·rw[if_pos hj,if_pos hj];exact⟨_,rfl⟩
 ·rw[if_neg hj,if_neg hj];exact⟨_,rfl⟩
theorem Vb(hc:X.calm=true):CallR X (.builtin "min") (fun xs H Q=>∃i j,xs=[.int i,.int j]∧Q (.int (if j<i then j else i)) H):=by
 intro pins s σ H xs us Q I r h
 obtain⟨i,j,rfl,q⟩:=h
 obtain⟨u,w',rfl,⟨t,rfl⟩,⟨t',rfl⟩⟩:=Lr r
 refine min_two_ints (I.ok.hd hc) fun h' tk k=>⟨_,H,I.kept k,?_,q⟩
 by_cases hj:j<i
 ·rw[if_pos hj,if_pos hj];exact⟨_,rfl⟩
 ·rw[if_neg hj,if_neg hj];exact⟨_,rfl⟩
def LenV(K:PySem.W.Frag)(x:V)(H:Hp)(n:Nat):Prop:=
 match x with
 |.str y=>y.length≤sizeLine∧n=y.length
 |.byt y=>y.size≤sizeLine∧n=y.size
 |.ref p=>(∃xs,SqL K H p xs∧n=xs.length)∨∃xs,SqT K H p xs∧n=xs.length
 |_=>False
theorem call_len:CallR X (.builtin "len") (fun xs H Q=>∃x n,xs=[x]∧LenV X.K x H n∧Q (.int n) H):=by
 intro pins s σ H xs us Q I r h
 obtain⟨x,n,rfl,e,q⟩:=h
 obtain⟨u,rfl,rx⟩:=Fy r
 have hl:=Gz
 have hs:sizeLine=16777216:=sizeLine_eq
 cases x with
 |str y=>
  obtain⟨t,rfl⟩:=rx
  obtain⟨hy,e'⟩:y.length≤sizeLine∧n=y.length:=e
  subst e'
  exact len_str (by omega) ⟨.int _,H,I.tok _,⟨_,rfl⟩,q⟩
 |byt y=>
  obtain⟨t,rfl⟩:=rx
  obtain⟨hy,e'⟩:y.size≤sizeLine∧n=y.size:=e
  subst e'
  exact PySem.W.len_bytes (by omega) ⟨.int _,H,I.tok _,⟨_,rfl⟩,q⟩
 |ref p=>
  cases rx
  have e':(∃xs,SqL X.K H p xs∧n=xs.length)∨∃xs,SqT X.K H p xs∧n=xs.length:=e
  rcases e' with ⟨xs,hx,e'⟩|⟨xs,hx,e'⟩
  ·subst e'
   obtain⟨its,r',pl,hz⟩:=I.list hx
   have hlen:=r'.length
   exact Calls.call_len_list pl.isList (by simp only[List.size_toArray];omega) ⟨.int xs.length,H,I.tok _,⟨_,by simp only[List.size_toArray];rw[hlen]⟩,q⟩
  ·subst e'
   obtain⟨its,r',pl,hz⟩:=I.tuple hx
   have hlen:=r'.length
   exact len_tuple pl (by simp only[List.size_toArray];omega) ⟨.int xs.length,H,I.tok _,⟨_,by simp only[List.size_toArray];rw[hlen]⟩,q⟩
 |_=>exact(show False from e).elim
theorem call_divmod:CallR X (.builtin "divmod") (fun xs H Q=>∃i j,xs=[.int i,.int j]∧Qf i j∧∀p,H p=none→Q (.ref p) (upd H p (.tup [.int (i / j),.int (i % j)]))):=by
 intro pins s σ H xs us Q I r h
 obtain⟨i,j,rfl,⟨h1,h2⟩,q⟩:=h
 obtain⟨u,w',rfl,⟨t,rfl⟩,⟨t',rfl⟩⟩:=Lr r
 refine divmod_int (by omega) ?_ (.inl (PyProof.noPylong_small (by omega)))
 rw[Int.fdiv_eq_ediv_of_nonneg i (by omega),Int.fmod_eq_emod_of_nonneg i (by omega)]
 have hn:H s.heap.objs.size=none:=I.hok.fresh (Nat.le_refl _)
 refine⟨.ref s.heap.objs.size,_,?_,rfl,q _ hn⟩
 refine I.laid (fun b o e=>Heap.get?_push_of_some _ e) (Nat.le_refl _) ⟨by simp only[List.length_cons,List.length_nil];rw[sizeLine_eq];decide,[.int (i / j) s.toks,.int (i % j) (s.toks+1)],.cons ⟨_,rfl⟩ (.cons ⟨_,rfl⟩ .nil),?_⟩
 exact⟨_,Heap.get?_push_size s.heap rfl,rfl,0,rfl⟩
end
end L2
namespace L2
open PySem PySem.Spec PyProof.Rows
structure ObjM(h:Heap)(x dx C:Addr)(mA:Str→Option Value):Prop where
 obj:h.get? x=some (PySem.W.instObj C dx)
 ns:h.Ns1 dx mA
 ne:dx≠x

theorem Ur{h:Heap}{dx:Addr}{mA:Str→Option Value}(n:h.Ns1 dx mA):∃od,h.get? dx=some od∧∀name,PySem.W.lookIn name od=some (mA name):=by
 obtain⟨o,es,ep,ho,hd,hk,_,hm⟩:=n
 refine⟨o,ho,fun name=>?_⟩
 have e:=hm name
 unfold nsFind findBy at e
 rw[←Array.find?_toList] at e
 unfold PySem.W.lookIn
 rw[hd]
 dsimp only
 split
 ·rename_i y q
  rw[q] at e
  exact congrArg some e
 ·rename_i q
  rw[q] at e
  have a:es.toList.any (·.refKey)=false:=by
   rw[List.any_eq_false]
   intro y hy
   obtain⟨z,t,hkey⟩:=hk y (Array.mem_toList_iff.mp hy)
   simp[DictEntry.refKey,hkey]
  have a':¬es.toList.any (·.refKey)=true:=by rw[a];exact Bool.false_ne_true
  rw[if_neg a']
  exact congrArg some e

theorem ObjM.look{h:Heap}{x dx C:Addr}{mA:Str→Option Value}(I:ObjM h x dx C mA):∃od,PySem.W.InstAt h x (PySem.W.instObj C dx) C (some od)∧∀name,PySem.W.lookIn name od=some (mA name):=
 let ⟨od,ho,hl⟩:=Ur I.ns
 ⟨od,⟨I.obj,rfl,rfl,ho⟩,hl⟩

section
variable{prog:Program}{w:World}{A:Around}{E:Value→Shared→Prop}{s:Shared}{K:W.Frag}{x dx C f:Addr}{mA:Str→Option Value}{name:Str}{v:Value}
theorem Aaw{expr:Bool}{Q:Value→Shared→Prop}(X:K.In s.heap)(I:ObjM s.heap x dx C mA)(hg:PySem.W.plainGet K C name=true)(hh:PySem.W.hasDictIn K C=true)(ha:PySem.W.findIn K (.ref C) name=some none)(hv:mA name=some v)(hv':PySem.W.handedIn v=true)(h:Q v { s with toks:=s.toks+1 }) :
  wpAny (model prog w) A (getAttr (.ref x) name expr) Q E s:=by
 obtain⟨od,J,hl⟩:=I.look
 exact PySem.W.get_value X J (PySem.W.plainGet_of hg).1 (PySem.W.findObj_own hh ha rfl (by rw[hl,hv])) hv' h

theorem Zl{ns:List Str}{Q:Unit→Shared→Prop}(X:K.In s.heap)(I:ObjM s.heap x dx C mA)(hs:PySem.W.findIn K (.ref C) "__setattr__" = some (some (.builtin "object.__setattr__")))(hp:PySem.W.plainOver K C=true)(ht:PySem.W.takerIn K C name=some none)(hh:PySem.W.hasDictIn K C=true)(hw:PySem.Within mA ns)(hsz:ns.length≤sizeLine)(h:∀h',ObjM h' x dx C (fun y=>if y=name then some v else mA y)→Heap.SameBut dx s.heap h'→Q () { s with heap:=h',toks:=s.toks+2 }) :
  wpAny (model prog w) A (setAttr (.ref x) name v) Q E s:=by
 obtain⟨od,J,hl⟩:=I.look
 refine PySem.W.set_plain X J hs (PySem.W.osa_open (s:={ s with toks:=s.toks+1 }) (r:=none) X J hp ht fun b=>?_)
 obtain⟨cd,hc,hd'⟩:=PySem.W.any_some hh
 have hx:s.heap.get? x=some ⟨.ref C,some dx,.plain,#[]⟩:=I.obj
 refine wpAny_bind (wpAny_pure (wpAny_bind (wpAny_bind (wpAny_loadPart hx (wpAny_bind (PySem.W.Looks.here (s:={ s with toks:=s.toks+1 }) (PySem.W.looks_clsIn X hc) ?_))))))
 rw[hd']
 refine wpAny_pure (a:=some dx) (wpAny_bind (wpAny_pure (wpAny_bind ?_)))
 refine wpAny_nsSet1 (s:={ s with toks:=s.toks+1 }) I.ns fun h' hn2 hs2=>?_
 obtain⟨oD,esD,epD,hoD,hdD,hcD⟩:=hn2.count (PySem.Within.cons name v hw)
 refine wpAny_bind (wpAny_lookBehind hoD (by rw[hdD];exact pastItsLine_dict (Nat.le_trans hcD (by rw[List.length_cons];omega))) ?_)
 exact wpAny_pure (h _ ⟨(hs2.2 _ (Ne.symm I.ne)).trans I.obj,hn2,I.ne⟩ hs2)

theorem Yf{R:Result→Shared→Prop}{vs:List Value}{kw:List (Str×Value)}(X:K.In s.heap)(hm:PySem.W.makesIn K C=true)(hi:PySem.W.findIn K (.ref C) "__init__" = some (some (.ref f)))(hf:PySem.W.typeIn K (.ref f)=some (.type "function"))(h:codeAny (model prog w) (A.under (.builtin "type.__call__" ⟨.ref C::vs,kw⟩)) (.call (.ref f) ⟨.ref (s.heap.objs.size+1)::vs,kw⟩) (PySem.W.InitBack (s.heap.objs.size+1) R)
   { s with heap:=(s.heap.push PySem.W.emptyDict).push (PySem.W.instObj C s.heap.objs.size) }) :
  codeAny (model prog w) A (.call (.ref C) ⟨vs,kw⟩) R s:=by
 obtain⟨hh,g,d,t,os⟩:=s
 exact PySem.W.make_core (PySem.W.makes_of X hm) (PySem.W.looks_findIn X hi) (fun self=>PySem.W.bind_fn X self hf) (.inl rfl) h
end
def Eg(f:Str)(v:V):List (Str×V)→List (Str×V)
 |[]=>[(f,v)]
 |(g,x)::r=>if g=f then (g,v)::r else (g,x)::Eg f v r
theorem Im(f g:Str)(v:V):∀fs:List (Str×V),(Eg f v fs).lookup g=if g=f then some v else fs.lookup g
 |[]=>by
  show List.lookup g [(f,v)]=_
  by_cases h:g=f
  ·have hb:(g == f)=true:=beq_iff_eq.mpr h
   simp only[List.lookup,hb,if_pos h]
  ·have hb:(g == f)=false:=beq_eq_false_iff_ne.mpr h
   simp only[List.lookup,hb,if_neg h]
 |(k,x)::r=>by
  have ih:=Im f g v r
  rw[show Eg f v ((k,x)::r)=(if k=f then (k,v)::r else (k,x)::Eg f v r) from rfl]
  by_cases hk:k=f
  ·rw[if_pos hk]
   by_cases h:g=k
   ·have hb:(g == k)=true:=beq_iff_eq.mpr h
    simp only[List.lookup,hb,if_pos (h.trans hk)]
   ·have hb:(g == k)=false:=beq_eq_false_iff_ne.mpr h
    simp only[List.lookup,hb,if_neg (fun e:g=f=>h (e.trans hk.symm))]
  ·rw[if_neg hk]
   by_cases h:g=k
   ·have hb:(g == k)=true:=beq_iff_eq.mpr h
    simp only[List.lookup,hb,if_neg (fun e:g=f=>hk (h.symm.trans e))]
   ·have hb:(g == k)=false:=beq_eq_false_iff_ne.mpr h
    simp only[List.lookup,hb]
    exact ih
theorem Hn(f:Str)(v:V):∀fs:List (Str×V),f∈(Eg f v fs).map (·.1)∧∀g,g∈fs.map (·.1)→g∈(Eg f v fs).map (·.1)
 |[]=>⟨by simp[Eg],fun g h=>by simp at h⟩
 |(k,x)::r=>by
  obtain⟨i1,i2⟩:=Hn f v r
  rw[show Eg f v ((k,x)::r)=(if k=f then (k,v)::r else (k,x)::Eg f v r) from rfl]
  by_cases hk:k=f
  ·rw[if_pos hk]
   subst hk
   exact⟨by simp,fun g h=>by simpa using h⟩
  ·rw[if_neg hk]
   refine⟨?_,fun g h=>?_⟩
   ·rw[List.map_cons]
    exact List.mem_cons_of_mem _ i1
   ·rw[List.map_cons] at h ⊢
    rcases List.mem_cons.mp h with e|e
    ·exact List.mem_cons.mpr (.inl e)
    ·exact List.mem_cons_of_mem _ (i2 g e)
theorem Io(f:Str)(v:V):∀fs:List (Str×V),(Eg f v fs).length≤fs.length+1
 |[]=>by simp[Eg]
 |(k,x)::r=>by
  have ih:=Io f v r
  rw[show Eg f v ((k,x)::r)=(if k=f then (k,v)::r else (k,x)::Eg f v r) from rfl]
  by_cases hk:k=f
  ·rw[if_pos hk,List.length_cons,List.length_cons];omega
  ·rw[if_neg hk,List.length_cons,List.length_cons];omega

theorem RelO.some_of{v:V}{o:Option Value}(r:RelO (some v) o):∃u,o=some u∧RelV v u:=by
 cases o with
 |none=>exact(show False from r).elim
 |some u=>exact⟨u,rfl,r⟩
theorem U3{v:V}{u:Value}(r:RelV v u):PySem.W.handedIn u=true:=by
 cases v with
 |non=>cases(show u=Value.none from r);rfl
 |bl b=>cases(show u=Value.bool b from r);rfl
 |int i=>obtain⟨t,e⟩:=(show ∃t,u=Value.int i t from r);cases e;rfl
 |str x=>obtain⟨t,e⟩:=(show ∃t,u=Value.str x t from r);cases e;rfl
 |byt b=>obtain⟨t,e⟩:=(show ∃t,u=Value.bytes b t from r);cases e;rfl
 |flt b=>obtain⟨t,e⟩:=(show ∃t,u=Value.float b t from r);cases e;rfl
 |ref a=>cases(show u=Value.ref a from r);rfl
 |ty n=>cases(show u=Value.type n from r);rfl

section
variable{P:Program}{w:World}{H H':Hp}{h h':Heap}{a C dx:Addr}{fs fs':List (Str×V)}
theorem ins_get(hok:HOk P w H h)(e:H a=some (.ins C dx fs)):∃mA,ObjM h a dx C mA∧(∀f,RelO (fs.lookup f) (mA f))∧PySem.Within mA (fs.map (·.1))∧fs.length≤1000∧H dx=some (.own a):=by
 obtain⟨d,z,ne,ob,mA,n,r,q⟩:=(show ObjOk P w H h a (.ins C dx fs) from hok a _ e)
 exact⟨mA,⟨ob,n,ne⟩,r,q,z,d⟩
end
structure Cls(K:PySem.W.Frag)(C:Addr):Prop where
 pg:PySem.W.plainGet K C Str.empty=true
 hd:PySem.W.hasDictIn K C=true
 po:PySem.W.plainOver K C=true
 sa:PySem.W.findIn K (.ref C) "__setattr__" = some (some (.builtin "object.__setattr__"))
theorem Cls.get{K:W.Frag}{C:Addr}(c:Cls K C)(f:Str):PySem.W.plainGet K C f=true:=c.pg
def NoAttr(K:PySem.W.Frag)(C:Addr)(f:Str):Prop:=PySem.W.findIn K (.ref C) f=some none
theorem NoAttr.taker{K:W.Frag}{C:Addr}{f:Str}(n:NoAttr K C f):PySem.W.takerIn K C f=some none:=by
 unfold PySem.W.takerIn
 rw[show PySem.W.findIn K (.ref C) f=some none from n]
 rfl
section
variable{X:Cx}{pins:List (Addr×Obj)}{σ:St}{H:Hp}{s:Shared}{a C dx:Addr}{fs:List (Str×V)}{f:Str}{v:V}{A:Around}{E:Value→Shared→Prop}
theorem Rq{b:Bool}{Q:Value→Shared→Prop}(I:Inv X pins σ H s)(e:H a=some (.ins C dx fs))(c:Cls X.K C)(n:NoAttr X.K C f)(l:fs.lookup f=some v)(h:∀u s',Inv X pins σ H s'→RelV v u→Q u s'):wpAny (model X.prog X.w) A (getAttr (.ref a) f b) Q E s:=by
 obtain⟨mA,O,r,_,_,_⟩:=ins_get I.hok e
 obtain⟨u,hu,ru⟩:=RelO.some_of (v:=v) (o:=mA f) (by rw[←l];exact r f)
 exact Aaw I.kIn O (c.get f) c.hd n hu (U3 ru) (h u _ (I.tok _) ru)

theorem Q8{y:V}{u:Value}{Q:Unit→Shared→Prop}(I:Inv X pins σ H s)(e:H a=some (.ins C dx fs))(c:Cls X.K C)(n:NoAttr X.K C f)(hl:fs.length<1000)(ry:RelV y u)(h:∀s',Inv X pins σ (upd H a (.ins C dx (Eg f y fs))) s'→Q () s'):wpAny (model X.prog X.w) A (setAttr (.ref a) f u) Q E s:=by
 obtain⟨mA,O,r,wi,_,ho⟩:=ins_get I.hok e
 have hz:(fs.map (·.1)).length≤sizeLine:=by rw[List.length_map,sizeLine_eq];omega
 refine Zl I.kIn O c.sa c.po n.taker c.hd wi hz fun h' O' sb=>h _ ?_
 have hd:∃o,h'.get? dx=some o:=let ⟨o,_,_,e',_⟩:=O'.ns;⟨o,e'⟩
 refine I.write (x:=a) (e:=dx) (by rw[e];exact True.intro) (.inr ho) (fun b q hb z=>(sb.2 b hb).trans z) hd ?_
 refine⟨by rw[Af O.ne];exact ho,?_,O.ne,O'.obj,_,O'.ns,fun g=>?_,fun g hg=>?_⟩
 ·have:=Io f y fs;omega
 ·show RelO ((Eg f y fs).lookup g) (if g=f then some u else mA g)
  rw[Im]
  by_cases q:g=f
  ·rw[if_pos q,if_pos q];exact ry
  ·rw[if_neg q,if_neg q];exact r g
 ·by_cases q:g=f
  ·rw[q];exact(Hn f y fs).1
  ·refine(Hn f y fs).2 g (wi g fun z=>hg ?_)
   show(if g=f then some u else mA g)=none
   rw[if_neg q];exact z

theorem Inv.made(I:Inv X pins σ H s):Inv X pins σ (upd (upd H s.heap.objs.size (.own (s.heap.objs.size+1))) (s.heap.objs.size+1) (.ins C s.heap.objs.size []))
  { s with heap:=(s.heap.push PySem.W.emptyDict).push (PySem.W.instObj C s.heap.objs.size) }:=by
 have e1:(s.heap.push PySem.W.emptyDict).get? s.heap.objs.size=some PySem.W.emptyDict:=Heap.get?_push_size s.heap rfl
 have e2:((s.heap.push PySem.W.emptyDict).push (PySem.W.instObj C s.heap.objs.size)).get? (s.heap.objs.size+1)=some (PySem.W.instObj C s.heap.objs.size):=by
  have:=Heap.get?_push_size (s.heap.push PySem.W.emptyDict) (o:=PySem.W.instObj C s.heap.objs.size) rfl
  rwa [Heap.size_push] at this
 have e3:(s.heap.push PySem.W.emptyDict).Ns s.heap.objs.size (fun _=>none):=⟨PySem.W.emptyDict,#[],_,e1,rfl,(fun e he=>absurd he (by simp)),fun _=>rfl⟩
 have I1:=I.laid (a:=s.heap.objs.size) (o:=.own (s.heap.objs.size+1)) (h':=s.heap.push PySem.W.emptyDict) (t':=s.toks) (fun b u q=>Heap.get?_push_of_some _ q) (Nat.le_refl _) ⟨_,e1⟩
 refine I1.laid (a:=s.heap.objs.size+1) (o:=.ins C s.heap.objs.size []) (t':=s.toks) (fun b u q=>Heap.get?_push_of_some _ q) (Nat.le_of_eq (Heap.size_push _ _)) ?_
 have ne:s.heap.objs.size≠s.heap.objs.size+1:=Nat.ne_of_lt (Nat.lt_succ_self _)
 refine⟨by rw[Af ne,Ak],Nat.zero_le _,ne,e2,fun _=>none,(Heap.Ns1.of_empty e3).at fun o q=>Heap.get?_push_of_some _ q,fun _=>True.intro,fun y hy=>absurd rfl hy⟩

theorem Aa4{prog:Program}{w:World}{env:Env}{e:Expr}{f:Str}{pos:Pos}{s:Shared}{Q:Value→Shared→Prop}(hb:attributeBase e f env (eval e env)=eval e env)(h:wpAny (model prog w) A (eval e env) (fun o s₁=>wpAny (model prog w) A (getAttr o f true) Q E s₁) E s):wpAny (model prog w) A (eval (.Attribute e f pos) env) Q E s:=
 Attribute_any_ h (by rw[arm_eval_Attribute,hb])
end
def tFld(K:PySem.W.Frag)(ta:TE)(f:Str):TE:=fun σ H Q=>ta σ H fun x H1=>∃a C dx fs v,x=.ref a∧H1 a=some (.ins C dx fs)∧Cls K C∧NoAttr K C f∧fs.lookup f=some v∧Q v H1
def sFld(K:PySem.W.Frag)(ta tv:TE)(f:Str):TS:=fun D σ H=>tv σ H fun y H1=>ta σ H1 fun x H2=>∃a C dx fs,x=.ref a∧H2 a=some (.ins C dx fs)∧Cls K C∧NoAttr K C f∧fs.length<1000∧
 D.nx σ (upd H2 a (.ins C dx (Eg f y fs)))
section
variable{X:Cx}{o e value:Expr}{f:Str}{pos pos' tpos:Pos}{ta tv:TE}
theorem Ada(he:PE X e ta)(hb:attributeBase e f X.env (eval e X.env)=eval e X.env):PE X (.Attribute e f pos) (tFld X.K ta f):=by
 intro pins s σ H Q I h
 refine Aa4 hb (thn (he pins s σ H _ I h) fun u s1 ⟨x,H1,I1,rx,a,C,dx,fs,v,ex,ea,c,n,l,q⟩=>?_)
 subst ex
 obtain rfl:u=Value.ref a:=rx
 exact Rq I1 ea c n l fun u' s2 I2 ru=>⟨v,H1,I2,ru,q⟩
theorem Acv(ha:PE X o ta)(hv:PE X value tv)(hs:swapsWith value (some (.Attribute o f pos')) pos.line X.env=pure false):PS X (.Assign [.Attribute o f pos'] value pos) (sFld X.K ta tv f):=by
 intro pins s σ H D I h
 refine plainObj_wpAny_Assign_Attribute (thn (hv pins s σ H _ I h) fun u s1 ⟨y,H1,I1,ry,q⟩=>thn (ha pins s1 σ H1 _ I1 q) fun ov s2 ⟨x,H2,I2,rx,a,C,dx,fs,ex,ea,c,n,l,q2⟩=>?_) hs
 subst ex
 obtain rfl:ov=Value.ref a:=rx
 exact Q8 I2 ea c n l ry fun s3 I3=>⟨σ,_,I3,q2⟩
end
section
variable{X:Cx}{pins:List (Addr×Obj)}{σ:St}{H:Hp}{s:Shared}{A:Around}{E:Value→Shared→Prop}{Q:Value→Shared→Prop}{c:Value}{b:Bool}
inductive TyOf (K:PySem.W.Frag) (H:Hp):V→Value→Prop where
 |non:TyOf K H .non (.type "NoneType")
 |bl (x:Bool):TyOf K H (.bl x) (.type "bool")
 |int (i:Int):TyOf K H (.int i) (.type "int")
 |str (x:Str):TyOf K H (.str x) (.type "str")
 |flt (x:UInt64):TyOf K H (.flt x) (.type "float")
 |lst {a:Addr} {xs:List V} (e:H a=some (.lst xs)):TyOf K H (.ref a) (.type "list")
 |frz {a:Addr} {o:Obj} {xs:List V} (e:H a=some (.frz o (.lst xs))):TyOf K H (.ref a) (.type "list")
 |tup {a:Addr} {xs:List V} (e:H a=some (.tup xs)):TyOf K H (.ref a) (.type "tuple")
 |dK {a:Addr} {kvs:List (Key×V)} (e:H a=some (.dK kvs)):TyOf K H (.ref a) (.type "dict")
 |dT {a:Addr} {kvs:List (List Key×V)} (e:H a=some (.dT kvs)):TyOf K H (.ref a) (.type "dict")
 |ins {a C dx:Addr} {fs:List (Str×V)} (e:H a=some (.ins C dx fs)) (cl:Cls K C) (ha:PySem.W.findIn K (.ref C) "__class__" = some (some (.builtin "object.__class__")))
   (hn:PySem.W.specialIn K (.builtin "object.__class__") "__get__" = some (some (.builtin "getset_descriptor.__get__"))) (htk:PySem.W.takesIn K (.builtin "object.__class__")=some true)
   (hm:PySem.W.mroIn K C (.type "object")=some true):TyOf K H (.ref a) (.ref C)
theorem Uz{x:V}{u t:Value}(I:Inv X pins σ H s)(rx:RelV x u)(ty:TyOf X.K H x t)(e:PySem.W.kitOne X.K t c=some b)(h:∀tk,Q (.bool b) { s with toks:=tk }) :
  wpAny (model X.prog X.w) A (call (.builtin "isinstance") [u,c]) Q E s:=by
 cases ty with
 |non=>cases(show u=Value.none from rx);exact PySem.W.kia_one PySem.W.kitx_none I.kIn True.intro e (fun z=>nomatch z) h
 |bl y=>cases(show u=Value.bool y from rx);exact PySem.W.kia_one PySem.W.kitx_bool I.kIn True.intro e (fun z=>nomatch z) h
 |int i=>obtain⟨t,q⟩:=(show ∃t,u=Value.int i t from rx);cases q;exact PySem.W.kia_one PySem.W.kitx_int I.kIn True.intro e (fun z=>nomatch z) h
 |str y=>obtain⟨t,q⟩:=(show ∃t,u=Value.str y t from rx);cases q;exact PySem.W.kia_one PySem.W.kitx_str I.kIn True.intro e (fun z=>nomatch z) h
 |flt y=>obtain⟨t,q⟩:=(show ∃t,u=Value.float y t from rx);cases q;exact PySem.W.kia_one PySem.W.kitx_float I.kIn True.intro e (fun z=>nomatch z) h
 |@lst a xs ea=>
  cases(show u=Value.ref a from rx)
  obtain⟨_,_,n,_,h1⟩:=(show ObjOk X.prog X.w H s.heap a (.lst xs) from I.hok a _ ea)
  exact PySem.W.kia_one PySem.W.kitx_list I.kIn ⟨_,h1,rfl⟩ e (fun z=>nomatch z) h
 |@frz a ob xs ea=>
  cases(show u=Value.ref a from rx)
  obtain⟨_,_,_,n,_,h1⟩:=(show ObjOk X.prog X.w H s.heap a (.frz ob (.lst xs)) from I.hok a _ ea)
  exact PySem.W.kia_one PySem.W.kitx_list I.kIn ⟨_,h1,rfl⟩ e (fun z=>nomatch z) h
 |@tup a xs ea=>
  cases(show u=Value.ref a from rx)
  obtain⟨_,_,_,p⟩:=(show ObjOk X.prog X.w H s.heap a (.tup xs) from I.hok a _ ea)
  obtain⟨o,h1,h2,_⟩:=p
  exact PySem.W.kia_one PySem.W.kitx_tuple I.kIn ⟨o,h1,h2⟩ e (fun z=>nomatch z) h
 |@dK a kvs ea=>
  cases(show u=Value.ref a from rx)
  obtain⟨_,_,vs,_,p⟩:=(show ObjOk X.prog X.w H s.heap a (.dK kvs) from I.hok a _ ea)
  obtain⟨o,es,ep,h1,h2,_⟩:=p
  exact PySem.W.kia_one PySem.W.kitx_dict I.kIn ⟨o,h1,h2.1⟩ e (fun z=>nomatch z) h
 |@dT a kvs ea=>
  cases(show u=Value.ref a from rx)
  obtain⟨_,_,xs,_,o,es,ep,h1,h2,_⟩:=(show ObjOk X.prog X.w H s.heap a (.dT kvs) from I.hok a _ ea)
  exact PySem.W.kia_one PySem.W.kitx_dict I.kIn ⟨o,h1,h2.1⟩ e (fun z=>nomatch z) h
 |@ins a C dx fs ea cl ha hn htk hm=>
  cases(show u=Value.ref a from rx)
  obtain⟨mA,O,_⟩:=ins_get I.hok ea
  obtain⟨od,J,_⟩:=O.look
  exact PySem.W.kia_one (PySem.W.kitx_own (cl.get _) cl.hd ha hn htk hm) I.kIn J e (fun z=>nomatch z) h
end
end L2
namespace L2
open PySem PySem.Spec PyProof.Rows
structure Room(k:Nat)(A:Around):Prop where
 hd:A.handled=none
 dp:A.depth+3*k+5<recursionLimit
 un:A.units+16*k+200<cLine
 gd:A.guards=some []
theorem Room.mono{j k:Nat}{A:Around}(r:Room k A)(h:j≤k):Room j A:=⟨r.hd,by have:=r.dp;omega,by have:=r.un;omega,r.gd⟩
theorem Room.deeper{k:Nat}{A:Around}(r:Room (k+1) A)(env:Env):Room k (A.deeper env):=
 ⟨r.hd,by have:=r.dp;show A.depth+1+3*k+5<_;omega,by have:=r.un;show A.units+3+16*k+200<_;omega,r.gd⟩
theorem Rm{A:Around}{C:Addr}{us:List Value}{kw:List (Str×Value)}:(A.under (.builtin "type.__call__" ⟨.ref C::us,kw⟩)).depth=A.depth+1:=by
 first|rfl|simp[Around.under,Code.weight,Code.isCreation,Code.isGuard,Code.isCaller,Code.frames,Code.isFrame,guardIds]
theorem Rl{A:Around}{C:Addr}{us:List Value}{kw:List (Str×Value)}:(A.under (.builtin "type.__call__" ⟨.ref C::us,kw⟩)).units=A.units+1:=by
 first|rfl|simp[Around.under,Code.cUnits,Code.frames,Code.isFrame]
theorem Room.make{k:Nat}{A:Around}(r:Room (k+1) A)(C:Addr)(us:List Value)(kw:List (Str×Value)):Room k (A.under (.builtin "type.__call__" ⟨.ref C::us,kw⟩)):=
 ⟨r.hd,by have:=r.dp;rw[Rm];omega,by have:=r.un;rw[Rl];omega,by first|exact r.gd|(simpa[Around.under,Code.isGuard,guardIds] using r.gd)⟩
theorem Room.depth{k:Nat}{A:Around}(r:Room k A):A.depth<recursionLimit:=by have:=r.dp;omega
def Qc:TA:=fun _ H Q=>Q [] H
def Ls(ta:TE)(tr:TA):TA:=fun σ H Q=>ta σ H fun x H1=>tr σ H1 fun xs H2=>Q (x::xs) H2
section
variable{X:Cx}{e:Expr}{es:List Expr}{te:TE}{t:TA}{pos:Pos}
theorem pa_nil:PA X [] Qc:=fun _ _ _ _ H Q I h=>Calls.spliced_nil ⟨[],H,I,.nil,h⟩
theorem E2(ha:PE X e te)(hr:PA X es t)(hs:starEach (e::es) X.env=(false,eval e X.env)::starEach es X.env:=by rfl):PA X (e::es) (Ls te t):=by
 intro pos pins s σ H Q I h
 rw[hs]
 show wpAny _ _ (spliced ((false,eval e X.env)::backTo pos (starEach es X.env))) _ _ s
 refine Calls.spliced_cons (thn (ha pins s σ H _ I h) fun u s1 ⟨x,H1,I1,r1,q1⟩=>?_)
 exact thn (hr pos pins s1 σ H1 _ I1 q1) fun us s2 ⟨xs,H2,I2,r2,q2⟩=>⟨x::xs,H2,I2,.cons r1 r2,q2⟩

def tTup(t:TA):TE:=fun σ H Q=>t σ H fun xs H1=>xs.length≤sizeLine∧∀p,H1 p=none→Q (.ref p) (upd H1 p (.tup xs))
def tLst(t:TA):TE:=fun σ H Q=>t σ H fun xs H1=>xs.length≤sizeLine∧∀p,H1 p=none→Q (.ref p) (upd H1 p (.lst xs))
theorem Ac2{x1}(h:PA X es t):PE X (.Tuple es x1 pos) (tTup t):=by
 intro pins s σ H Q I hq
 refine wpAny_Tuple_spliced (thn (h pos pins s σ H _ I hq) fun us s1 ⟨xs,H1,I1,r,z,q⟩=>⟨by rw[←r.length];exact z,?_⟩)
 have hf:H1 s1.heap.objs.size=none:=I1.hok.fresh (Nat.le_refl _)
 refine⟨.ref s1.heap.objs.size,upd H1 s1.heap.objs.size (.tup xs),I1.laid (t':=s1.toks) (fun b u e=>Heap.get?_push_of_some _ e) (Nat.le_refl _) ?_,rfl,q _ hf⟩
 exact⟨z,us,r,⟨_,Heap.get?_push_size _ rfl,rfl,_,rfl⟩⟩
theorem Ac7(h:PA X es t):PE X (.List es pos) (tLst t):=by
 intro pins s σ H Q I hq
 refine wpAny_List_spliced (thn (h pos pins s σ H _ I hq) fun us s1 ⟨xs,H1,I1,r,z,q⟩=>⟨by rw[←r.length];exact z,?_⟩)
 have hf:H1 s1.heap.objs.size=none:=I1.hok.fresh (Nat.le_refl _)
 refine⟨.ref s1.heap.objs.size,upd H1 s1.heap.objs.size (.lst xs),I1.laid (t':=s1.toks) (fun b u e=>Heap.get?_push_of_some _ e) (Nat.le_refl _) ?_,rfl,q _ hf⟩
 exact⟨z,us,0,r,Heap.get?_push_size _ rfl⟩
end
abbrev Sp:=List V→Hp→VK→XK→Prop
abbrev CXT:=List Env→Hp→Shared→XK→Value→Shared→Prop

structure Env0(P:Program)(w:World)(K:PySem.W.Frag)(mg:Str→Option Value)(base:Heap)(A:Around)(outer:List Env)(s:Shared)(H:Hp):Prop where
 frames:A.frames=some outer
 mod:Mod K mg base
 bs:∀b o,base.get? b=some o→s.heap.get? b=some o∧H b=none
 bsz:base.objs.size≤s.heap.objs.size
 funs:s.heap.FunFrames base outer
 frf:∀b∈frs outer,H b=none
 hok:HOk P w H s.heap
 bare:AllBare s.gens
def CE(outer:List Env)(P:Program)(w:World)(H:Hp)(s:Shared)(Q:VK)(u:Value)(s':Shared):Prop:=
 ∃v H',s'.os=s.os∧AllBare s'.gens∧Un (frs outer) [] H H' s.heap s'.heap∧HOk P w H' s'.heap∧RelV v u∧Q v H'
def CR(CX:CXT)(outer:List Env)(P:Program)(w:World)(H:Hp)(s:Shared)(Q:VK)(E:XK)(r:Result)(s':Shared):Prop:=
 match r with
 |.ok (.ret u)=>CE outer P w H s Q u s'
 |.ok _=>False
 |.error e=>CX outer H s E e s'
structure FnOk(P:Program)(w:World)(K:PySem.W.Frag)(mg:Str→Option Value)(base:Heap)(CX:CXT)(k:Nat)(f:Addr)(fd:FuncData)(ps:List Str)(sp:Sp):Prop where
 len:∀vs H Q E,sp vs H Q E→vs.length=ps.length
 run:∀(A:Around) (outer:List Env) (s:Shared) (H:Hp) (args:Args) (us:List Value) (vs:List V) (Q:VK) (E:XK),Room k A→Env0 P w K mg base A outer s H→BindsTo s fd args (ps.zip us)→Vals vs us→sp vs H Q E→
  codeAny (model P w) A (.call (.ref f) args) (CR CX outer P w H s Q E) s
theorem Env0.make{P:Program}{w:World}{K:W.Frag}{mg:Str→Option Value}{base:Heap}{A:Around}{outer:List Env}{s:Shared}{H:Hp}(e:Env0 P w K mg base A outer s H)(C:Addr)(us:List Value)(kw:List (Str×Value)) :
  Env0 P w K mg base (A.under (.builtin "type.__call__" ⟨.ref C::us,kw⟩)) outer s H:=⟨by first|exact e.frames|(simpa[Around.under,Code.envs,Code.isFrame,pushEnvs] using e.frames),e.mod,e.bs,e.bsz,e.funs,e.frf,e.hok,e.bare⟩
section
variable{X:Cx}{pins:List (Addr×Obj)}{σ:St}{H:Hp}{s s':Shared}
theorem Inv.env0(I:Inv X pins σ H s):Env0 X.prog X.w X.K X.mg X.base X.A X.stack s H:=
 ⟨I.ok.frames,I.ok.mod,I.bs,Nat.le_trans I.ok.bsz I.sz,I.stack,I.stkFree,I.hok,I.bare⟩
theorem Inv.after{Q:VK}{u:Value}(I:Inv X pins σ H s)(h:CE X.stack X.prog X.w H s Q u s'):EP X pins σ Q u s':=by
 obtain⟨v,H',os,bare,un,hok,r,q⟩:=h
 obtain⟨hh,g,d,t,os'⟩:=s'
 obtain rfl:os'=s.os:=os
 exact⟨v,H',I.call (h':=hh) (g':=g) (d':=d) (t':=t) (ch:=[]) un hok bare (fun b z=>absurd z (by simp)),r,q⟩
end
def tCall(sp:Sp)(dvs:List V)(E:XK)(t:TA):TE:=fun σ H Q=>t σ H fun vs H1=>sp (vs++dvs) H1 Q E
def tMake(C:Addr)(sp:Sp)(dvs:List V)(E:XK)(t:TA):TE:=fun σ H Q=>t σ H fun vs H1=>∀x dx,H1 x=none→H1 dx=none→dx≠x→
 sp (.ref x::(vs++dvs)) (upd (upd H1 dx (.own x)) x (.ins C dx [])) (fun v H2=>v=.non∧Q (.ref x) H2) E

def Binds(K:PySem.W.Frag)(fd:FuncData)(ps:List Str)(ds:List Value):Prop:=
 ∀(s:Shared) (us:List Value),K.In s.heap→(us++ds).length=ps.length→BindsTo s fd ⟨us,[]⟩ (ps.zip (us++ds))
theorem Binds.all{K:W.Frag}{fd:FuncData}{ps:List Str}(h:∀us:List Value,us.length=ps.length→bindArgs fd ⟨us,[]⟩=pure (ps.zip us)):Binds K fd ps []:=fun s us _ hl=>by
 rw[List.append_nil] at hl ⊢
 exact .of_eq (h us hl)

def G0(CX:CXT)(X:Cx)(E:XK):Prop:=∀(pins:List (Addr×Obj)) (σ:St) (H:Hp) (s:Shared) (e:Value) (s':Shared),Inv X pins σ H s→CX X.stack H s E e s'→X.xe e s'

section
variable{X:Cx}{CX:CXT}{k:Nat}{f C:Addr}{fd:FuncData}{ps:List Str}{sp:Sp}{dvs:List V}{ds:List Value}{E:XK}{x m:Str}{p pos apos:Pos}{e o:Expr}{es:List Expr}{ta:TE}{t:TA}
theorem Acj{pins:List (Addr×Obj)}{σ:St}{H:Hp}{s:Shared}{Q:VK}{us:List Value}{vs:List V}(F:FnOk X.prog X.w X.K X.mg X.base CX k f fd ps sp)(hr:Room k X.A)(hb:Binds X.K fd ps ds)(hd:Vals dvs ds)(hx:G0 CX X E)(I:Inv X pins σ H s)(r:Vals vs us)(h:sp (vs++dvs) H Q E):wpAny (model X.prog X.w) X.A (call (.ref f) us) (EP X pins σ Q) X.xe s:=by
 have r2:Vals (vs++dvs) (us++ds):=r.append hd
 have hl:(us++ds).length=ps.length:=by rw[←r2.length];exact F.len _ _ _ _ h
 refine wpAny_call (codeAny_mono (F.run X.A X.stack s H ⟨us,[]⟩ (us++ds) (vs++dvs) Q E hr I.env0 (hb s us I.kIn hl) r2 h) fun r s' hq=>?_)
 cases r with
 |error e=>exact hx pins σ H s e s' I hq
 |ok fl=>
  cases fl with
  |ret u=>exact I.after hq
  |next=>exact False.elim hq
  |brk=>exact False.elim hq
  |cont=>exact False.elim hq

theorem Z4(F:FnOk X.prog X.w X.K X.mg X.base CX k f fd ps sp)(hr:Room k X.A)(hg:Gl X x)(hm:X.mg x=some (.ref f))(hk:PySem.W.keepIn X.K (.ref f)=true)(hb:Binds X.K fd ps ds)(hd:Vals dvs ds)(hx:G0 CX X E)(ha:PA X (e::es) t)(hdb:(x == ("__debug__" : Str))=false:=by decide)(he:starEach (e::es) X.env=(false,eval e X.env)::starEach es X.env:=by rfl)(hpl:(backTo pos (starEach es X.env)).any (·.1)=false:=by rfl) :
  PE X (.Call (.Name x p) (e::es) [] pos) (tCall sp dvs E t):=by
 intro pins s σ H Q I h
 refine wpAny_Call_Name_kw (M6 I hg hm ?_ hdb)
 refine PySem.W.callWith_K (h₀:=X.base) I.ok.mod.kin hk (thn (ha pos pins s σ H _ I h) fun us s1 ⟨vs,H1,I1,r,q⟩=>⟨I1.kIn,?_⟩) he hpl
 exact Acj F hr hb hd hx I1 r q
structure Mk(K:PySem.W.Frag)(C f:Addr):Prop where
 makes:PySem.W.makesIn K C=true
 init:PySem.W.findIn K (.ref C) "__init__" = some (some (.ref f))
 fn:PySem.W.isFn K (.ref f)=true
 kp:PySem.W.keepIn K (.ref C)=true

theorem Xg{pins:List (Addr×Obj)}{σ:St}{H:Hp}{s:Shared}{Q:VK}{us:List Value}{vs:List V}(M:Mk X.K C f)(F:FnOk X.prog X.w X.K X.mg X.base CX k f fd ps sp)(hr:Room (k+1) X.A)(hb:Binds X.K fd ps ds)(hd:Vals dvs ds)(hx:G0 CX X E)(I:Inv X pins σ H s)(r:Vals vs us)(h:∀x dx,H x=none→H dx=none→dx≠x→sp (.ref x::(vs++dvs)) (upd (upd H dx (.own x)) x (.ins C dx [])) (fun v H2=>v=.non∧Q (.ref x) H2) E) :
  wpAny (model X.prog X.w) X.A (call (.ref C) us) (EP X pins σ Q) X.xe s:=by
 have hq:=h (s.heap.objs.size+1) s.heap.objs.size (I.hok.fresh (Nat.le_succ _)) (I.hok.fresh (Nat.le_refl _)) (Nat.ne_of_lt (Nat.lt_succ_self _))
 have I2:=Inv.made (C:=C) I
 have r2:Vals (V.ref (s.heap.objs.size+1)::(vs++dvs)) (Value.ref (s.heap.objs.size+1)::(us++ds)):=.cons rfl (r.append hd)
 have hl:(Value.ref (s.heap.objs.size+1)::us++ds).length=ps.length:=by
  have e:=r2.length
  rw[F.len _ _ _ _ hq] at e
  exact e.symm
 refine wpAny_call (Yf (f:=f) I.kIn M.makes M.init (beq_iff_eq.mp M.fn) (codeAny_mono (F.run _ X.stack _ _ ⟨Value.ref (s.heap.objs.size+1)::us,[]⟩ (Value.ref (s.heap.objs.size+1)::(us++ds)) _ _ E (hr.make C us [])
  (I2.env0.make C us []) (hb _ (Value.ref (s.heap.objs.size+1)::us) I2.kIn hl) r2 hq) fun r s' hq'=>?_))
 cases r with
 |error e=>exact hx pins σ _ _ e s' I2 hq'
 |ok fl=>
  cases fl with
  |ret u=>
   obtain⟨v,H',I3,rv,ev,q3⟩:=I2.after hq'
   subst ev
   exact⟨rv,⟨V.ref (s.heap.objs.size+1),H',I3,rfl,q3⟩⟩
  |next=>exact False.elim hq'
  |brk=>exact False.elim hq'
  |cont=>exact False.elim hq'
theorem Z1(M:Mk X.K C f)(F:FnOk X.prog X.w X.K X.mg X.base CX k f fd ps sp)(hr:Room (k+1) X.A)(hg:Gl X x)(hm:X.mg x=some (.ref C))(hb:Binds X.K fd ps ds)(hd:Vals dvs ds)(hx:G0 CX X E)(ha:PA X (e::es) t)(hdb:(x == ("__debug__" : Str))=false:=by decide)(he:starEach (e::es) X.env=(false,eval e X.env)::starEach es X.env:=by rfl)(hpl:(backTo pos (starEach es X.env)).any (·.1)=false:=by rfl) :
  PE X (.Call (.Name x p) (e::es) [] pos) (tMake C sp dvs E t):=by
 intro pins s σ H Q I h
 refine wpAny_Call_Name_kw (M6 I hg hm ?_ hdb)
 refine PySem.W.callWith_K (h₀:=X.base) I.ok.mod.kin M.kp (thn (ha pos pins s σ H _ I h) fun us s1 ⟨vs,H1,I1,r,q⟩=>⟨I1.kIn,?_⟩) he hpl
 exact Xg M F hr hb hd hx I1 r q
end
def PK(X:Cx)(kws:List Keyword)(t:TA):Prop:=
 ∀(pos:Pos) (pins:List (Addr×Obj)) (s:Shared) (σ:St) (H:Hp) (Q:List V→Hp→Prop),Inv X pins σ H s→t σ H Q→wpAny (model X.prog X.w) X.A (evalAll ((backToKw pos (keywordEach kws X.env)).map (·.2))) (AP X pins σ Q) X.xe s
section
variable{X:Cx}{CX:CXT}{k:Nat}{f C:Addr}{fd:FuncData}{ps ks:List Str}{sp:Sp}{E:XK}{x m:Str}{p pos apos kpos:Pos}{e o:Expr}{es:List Expr}{kws:List Keyword}{te ta:TE}{t tk:TA}{nm:Option Str}
theorem Wh:PK X [] Qc:=fun _ _ _ _ H Q I h=>wpAny_evalAll_nil ⟨[],H,I,.nil,h⟩
theorem Sw(ha:PE X e te)(hr:PK X kws t):PK X (⟨nm,e,kpos⟩::kws) (Ls te t):=by
 intro pos pins s σ H Q I h
 show wpAny _ _ (evalAll ((do let v ←eval e X.env;standAt pos;pure v)::(backToKw pos (keywordEach kws X.env)).map (·.2))) _ _ s
 refine wpAny_evalAll_cons (wpAny_bind (thn (ha pins s σ H _ I h) fun u s1 ⟨x,H1,I1,r1,q1⟩=>wpAny_bind (wpAny_standAt (wpAny_pure ?_))))
 exact thn (hr pos pins s1 σ H1 _ I1 q1) fun us s2 ⟨xs,H2,I2,r2,q2⟩=>⟨x::xs,H2,I2,.cons r1 r2,q2⟩

variable{g:List Value→List Value→List Value}{gV:List V→List V→List V}
end
structure FnScope(N P:List Str)(sc:Scope):Prop where
 kind:sc.kind=.function
 co:sc.isCoroutine=false
 gen:sc.isGenerator=false
 nd:N.Nodup
 pre:N.take P.length=P
 par:∀x∈P,sc.names.lookup x=some .local∨sc.names.lookup x=some .cell
 nofree:∀y∈sc.names,y.2≠.free

theorem Mj{kindOf:Str→Option NameKind}{x:Str}:∀{binds:List (Str×Value)} {m:Str→Option Value},(∀v,(x,v) ∉ binds)→bindL kindOf binds m x=m x
 |[],_,_=>rfl
 |(n,v)::r,m,h=>by
  unfold bindL
  rw[Mj fun w hw=>h w (List.mem_cons_of_mem _ hw)]
  split
  ·have:x≠n:=by rintro rfl;exact h v List.mem_cons_self
   simp[this]
  ·rfl
theorem Mm{kindOf:Str→Option NameKind}{x:Str}:∀{binds:List (Str×Value)} {m:Str→Option Value},(∀v,(x,v) ∉ binds)→bindC kindOf binds m x=m x
 |[],_,_=>rfl
 |(n,v)::r,m,h=>by
  unfold bindC
  rw[Mm fun w hw=>h w (List.mem_cons_of_mem _ hw)]
  split
  ·rfl
  ·have:x≠n:=by rintro rfl;exact h v List.mem_cons_self
   simp[this]
theorem Ml{kindOf:Str→Option NameKind}{x:Str}{v:Value}:∀{P:List Str} {vs:List Value} {i:Nat} {m:Str→Option Value},P.Nodup→P[i]? = some x→vs[i]? = some v→kindOf x=some .local→
  bindL kindOf (P.zip vs) m x=some v
 |[],_,_,_,_,h,_,_=>by simp at h
 |_::_,[],_,_,_,_,h,_=>by simp at h
 |p::P,w::vs,0,m,nd,h1,h2,hk=>by
  simp at h1 h2;subst h1;subst h2
  show bindL kindOf ((p,w)::P.zip vs) m p=_
  unfold bindL
  rw[Mj fun v hv=>(List.nodup_cons.mp nd).1 (List.of_mem_zip hv).1,if_pos hk]
  simp
 |p::P,w::vs,i+1,m,nd,h1,h2,hk=>by
  show bindL kindOf ((p,w)::P.zip vs) m x=_
  unfold bindL
  exact Ml (i:=i) (List.nodup_cons.mp nd).2 (by simpa using h1) (by simpa using h2) hk
theorem Mn{kindOf:Str→Option NameKind}{x:Str}{v:Value}:∀{P:List Str} {vs:List Value} {i:Nat} {m:Str→Option Value},P.Nodup→P[i]? = some x→vs[i]? = some v→kindOf x≠some .local→
  bindC kindOf (P.zip vs) m x=some v
 |[],_,_,_,_,h,_,_=>by simp at h
 |_::_,[],_,_,_,_,h,_=>by simp at h
 |p::P,w::vs,0,m,nd,h1,h2,hk=>by
  simp at h1 h2;subst h1;subst h2
  show bindC kindOf ((p,w)::P.zip vs) m p=_
  unfold bindC
  rw[Mm fun v hv=>(List.nodup_cons.mp nd).1 (List.of_mem_zip hv).1,if_neg hk]
  simp
 |p::P,w::vs,i+1,m,nd,h1,h2,hk=>by
  show bindC kindOf ((p,w)::P.zip vs) m x=_
  unfold bindC
  exact Mn (i:=i) (List.nodup_cons.mp nd).2 (by simpa using h1) (by simpa using h2) hk

def start(N:List Str)(vs:List V):St:=vs.map some++List.replicate (N.length-vs.length) none

def Mq(CX:CXT)(P:Program)(w:World)(K:PySem.W.Frag)(mg:Str→Option Value)(base:Heap)(N:List Str)(qual:Str)(scope:Scope)(f:Addr)(cd:Value)(A:Around)(outer:List Env)(s:Shared)(H:Hp)(E:XK):Cx where
 prog:=P
 w:=w
 K:=K
 mg:=mg
 base:=base
 A:=A.deeper (envOfC qual scope s.heap.objs.size f cd)
 N:=N
 s₀:=s
 H₀:=H
 env:=envOfC qual scope s.heap.objs.size f cd
 outer:=outer
 stack:=envOfC qual scope s.heap.objs.size f cd::outer
 ex:=[]
 calm:=true
 fn:=fun _=>true
 pn:=[]
 xe:=fun e s'=>wpAny (model P w) (A.deeper (envOfC qual scope s.heap.objs.size f cd)) (leaving (envOfC qual scope s.heap.objs.size f cd) e) (fun _ s''=>CX outer H s E e s'') (fun e' s''=>CX outer H s E e' s'') s'

theorem O9{sc:Scope}{n:Nat}{x:Str}(h:sc.names.lookup x=some .cell):∃c,(cellsFrom n sc.names []).lookup x=some c:=by
 have q:=PySem.W.cellsFrom_some sc.names n [] (.inl h)
 exact Option.isSome_iff_exists.mp q

theorem U0{CX:CXT}{P:Program}{w:World}{K:W.Frag}{mg:Str→Option Value}{base:Heap}{N ps:List Str}{qual:Str}{scope:Scope}{f:Addr}{cd:Value}{A:Around}{outer:List Env}{s s1:Shared}{H:Hp}{E:XK}{us:List Value}{vs:List V}(S:FnScope N ps scope)(hd:A.handled=none)(e0:Env0 P w K mg base A outer s H)(hl:vs.length=ps.length)(r:Vals vs us)(x:InCallC s s.heap.objs.size (bindL (envOfC qual scope s.heap.objs.size f cd).kindOf (ps.zip us) fun _=>none) (cellsFrom (s.heap.objs.size+1) scope.names []) (bindC (envOfC qual scope s.heap.objs.size f cd).kindOf (ps.zip us) fun _=>none) s1) :
  Inv (Mq CX P w K mg base N qual scope f cd A outer s H E) [] (start N vs) H s1:=by
 have hpl:ps.length≤N.length:=by have:=congrArg List.length S.pre;rw[List.length_take] at this;omega
 obtain⟨h1,tk,rfl,hk⟩:=x.done
 have noA:∀b:Addr,b ∉ (Mq CX P w K mg base N qual scope f cd A outer s H E).ex:=fun b z=>absurd (show b∈([]:List Addr) from z) (by simp)
 refine⟨⟨e0.mod,S.kind,rfl,rfl,Nat.le_refl _,fun y z c h1 h2=>?_,fun y hy=>?_,fun y c _ h=>?_,fun _=>hd,Around.frames_deeper e0.frames,.inr ⟨rfl,rfl⟩,fun b z=>absurd z (noA b),e0.bs,e0.bsz,fun b _ _=>noA b,fun b z=>absurd z (noA b),e0.funs,e0.frf⟩,
  rfl,e0.bare,Un.kept hk,⟨_,x.toInCall.ns,fun i y v h1 h2 h3=>?_⟩,fun y c h=>⟨_,x.cell y c h⟩,e0.hok.fresh (Nat.le_refl _),fun y c h=>?_,fun p hp=>absurd (show p∈([]:List (Addr×Obj)) from hp) (by simp),e0.hok.kept hk,?_⟩
 ·exact name_of_addr x.apart (PySem.mem_of_lookup h1) (PySem.mem_of_lookup h2)
 ·have hy:scope.names.lookup y=some .cell∨scope.names.lookup y=some .free:=hy
  rcases hy with hy|hy
  ·exact O9 hy
  ·exact absurd rfl (S.nofree _ (PySem.mem_of_lookup hy))
 ·exact Nat.le_of_lt (x.above y c (PySem.mem_of_lookup h))
 ·have hi:i<vs.length:=by
   unfold start at h2
   by_cases hi:i<vs.length
   ·exact hi
   ·rw[List.getElem?_append_right (by simpa using hi)] at h2
    rw[List.getElem?_replicate] at h2
    split at h2<;>cases h2
  have ha:vs[i]? = some v:=by
   unfold start at h2
   rw[List.getElem?_append_left (by simpa using hi),List.getElem?_map] at h2
   cases e:vs[i]? with
   |none=>rw[e] at h2;cases h2
   |some a=>rw[e] at h2;cases h2;rfl
  obtain⟨u,hu,rv⟩:=r.get ha
  have hp:ps[i]? = some y:=by
   rw[←S.pre,List.getElem?_take_of_lt (by omega)];exact h1
  have ndP:ps.Nodup:=by rw[←S.pre];exact S.nd.sublist (List.take_sublist _ _)
  refine⟨u,rv,?_⟩
  rcases S.par y (List.mem_of_getElem? hp) with k|k
  ·exact .inl ⟨k,Ml ndP hp hu k⟩
  ·obtain⟨c,e⟩:=O9 (n:=s.heap.objs.size+1) k
   refine .inr ⟨.inl k,c,e,?_⟩
   have q:=x.cell y c e
   rw[Mn ndP hp hu (by show scope.names.lookup y≠_;rw[k];decide)] at q
   exact q
 ·exact e0.hok.fresh (Nat.le_of_lt (x.above y c (PySem.mem_of_lookup h)))
 ·unfold start
  show _=N.length
  rw[List.length_append,List.length_map,List.length_replicate]
  omega

theorem Abr{CX:CXT}{P:Program}{w:World}{K:W.Frag}{mg:Str→Option Value}{base:Heap}{k:Nat}{f:Addr}{name qual:Str}{params:Arguments}{body:List Stmt}{scope:Scope}{dV kV doc pm cdv ct oc:Value}{an od:Option Addr}{osl:Array (Option Value)}{N ps:List Str}{sp:Sp}(lk:K.lookup f=some ⟨oc,od,.func (PySem.W.fnOf name qual params body scope dV kV doc pm an cdv ct),osl⟩)(hcd:PySem.W.codeIn K cdv qual=true)(S:FnScope N ps scope)(len:∀vs H Q E,sp vs H Q E→vs.length=ps.length)(hbody:∀(A:Around) (outer:List Env) (s:Shared) (H:Hp) (vs:List V) (Q:VK) (E:XK),Room k (A.deeper (envOfC qual scope s.heap.objs.size f cdv))→sp vs H Q E→
   ∃t,PSs (Mq CX P w K mg base N qual scope f cdv A outer s H E) body t∧t { nx:=fun _ H'=>Q .non H',rt:=Q } (start N vs) H) :
  FnOk P w K mg base CX (k+1) f (PySem.W.fnOf name qual params body scope dV kV doc pm an cdv ct) ps sp:=by
 refine⟨len,fun A outer s H args us vs Q E hr e0 hb r hsp=>?_⟩
 have hl:=len _ _ _ _ hsp
 have KX:K.In s.heap:=e0.mod.kin.keeps fun b o e=>(e0.bs b o e).1
 have lim:s.heap.NoLimit:=e0.mod.nolimit.keeps fun b o e=>(e0.bs b o e).1
 have hkind:∀y∈ps.zip us,scope.names.lookup y.1=some .local∨(scope.names.lookup y.1=some .cell∧((cellsFrom (s.heap.objs.size+1) scope.names []).lookup y.1).isSome=true):=fun⟨n,v⟩ hy=>by
  rcases S.par n (List.of_mem_zip hy).1 with q|q
  ·exact .inl q
  ·exact .inr ⟨q,PySem.W.cellsFrom_some _ _ _ (.inl q)⟩
 refine codeAny_call_function hr.depth (KX _ _ lk) rfl S.co S.gen rfl (PySem.W.codeRec_of KX hcd) (hb _ _ _ _ ?_)
 refine wpAny_newFunctionEnv_cells S.kind hkind fun env he s1 x=>?_
 subst he
 refine⟨lim.keeps x.toInCall.keep,codeAny_func ?_⟩
 obtain⟨t,ht,hq⟩:=hbody A outer s H vs Q E (hr.deeper _) hsp
 have I:Inv (Mq CX P w K mg base N qual scope f cdv A outer s H E) [] (start N vs) H s1:=U0 S hr.hd e0 hl r x
 refine wpAny_mono (ht [] s1 (start N vs) H _ I hq) (fun fl s' hs=>?_) fun e s' hs=>hs
 have fin:∀{σ':St} {H':Hp} {v:V} {u:Value},Inv (Mq CX P w K mg base N qual scope f cdv A outer s H E) [] σ' H' s'→RelV v u→Q v H'→CE outer P w H s Q u s':=
  fun {σ' H' v u} J rv q=>⟨v,H',J.os,J.bare,J.base,J.hok,rv,q⟩
 cases fl with
 |ret u=>
  obtain⟨v,σ',H',J,rv,q⟩:=hs
  exact fin J rv q
 |next=>
  obtain⟨σ',H',J,q⟩:=hs
  exact fin (v:=V.non) (u:=Value.none) J rfl q
 |brk=>
  obtain⟨_,_,_,q⟩:=hs
  exact False.elim q
 |cont=>
  obtain⟨_,_,_,q⟩:=hs
  exact False.elim q
end L2
namespace L2
open PySem PySem.Spec PyProof.Rows
section
variable{X:Cx}{x:Str}{p pos:Pos}{e:Expr}{es:List Expr}{t:TA}{id T:String}{r:List V→Hp→VK→Prop}
def tCB(r:List V→Hp→VK→Prop)(t:TA):TE:=fun σ H Q=>t σ H fun vs H1=>r vs H1 Q
theorem Oo(hc:CallR X (.builtin id) r)(hg:Gl X x)(hm:X.mg x=none)(hv:bootBuiltins x=some (.builtin id))(ha:PA X (e::es) t)(hn:x≠"__name__":=by decide)(hdb:(x == ("__debug__" : Str))=false:=by decide)(he:starEach (e::es) X.env=(false,eval e X.env)::starEach es X.env:=by rfl)(hpl:(backTo pos (starEach es X.env)).any (·.1)=false:=by rfl):PE X (.Call (.Name x p) (e::es) [] pos) (tCB r t):=by
 intro pins s σ H Q I h
 refine wpAny_Call_Name_kw (D8 I hg hm hv ?_ hn hdb)
 exact PyProof.Rows.callWith_builtin1 (thn (ha pos pins s σ H _ I h) fun us s1 ⟨vs,H1,I1,r1,q1⟩=>hc pins s1 σ H1 vs us Q I1 r1 q1) he hpl
theorem Hk(hc:CallR X (.type T) r)(hg:Gl X x)(hm:X.mg x=none)(hv:bootBuiltins x=some (.type T))(ha:PA X (e::es) t)(hn:x≠"__name__":=by decide)(hdb:(x == ("__debug__" : Str))=false:=by decide)(he:starEach (e::es) X.env=(false,eval e X.env)::starEach es X.env:=by rfl)(hpl:(backTo pos (starEach es X.env)).any (·.1)=false:=by rfl):PE X (.Call (.Name x p) (e::es) [] pos) (tCB r t):=by
 intro pins s σ H Q I h
 refine wpAny_Call_Name_kw (D8 I hg hm hv ?_ hn hdb)
 exact PyProof.Rows.callWith_type1 (thn (ha pos pins s σ H _ I h) fun us s1 ⟨vs,H1,I1,r1,q1⟩=>hc pins s1 σ H1 vs us Q I1 r1 q1) he hpl
end
end L2
namespace HT
open PySem PyProof.Rows
section
open PySem.SeqAt
open PySem.AutoSeq1 (wpAny_loadPart')
open PySem.MeetsSeq PySem.MeetsSeq2 PySem.MeetsSeq3
end
section
variable{prog:Program}{w:World}{A:Around}{E:Value→Shared→Prop}{s:Shared}
theorem cat_tup{t b:Addr}{vs ws:List Value}{Q:Value→Shared→Prop}(ht:IsTup s.heap t vs.toArray)(hb:IsTup s.heap b ws.toArray)(hv:vs≠[])(h1:ws=[]→Q (.ref t) s)(h2:ws≠[]→Q (.ref s.heap.objs.size) { s with heap:=s.heap.push { cls:=.type "tuple",data:=.seq (vs++ws).toArray } })(hsz:vs.length+ws.length≤sizeLine):wpAny (model prog w) A (binaryOp .Add (.ref t) (.ref b)) Q E s:=by
 obtain⟨⟨cls,dd,data,sl⟩,ho,hc,n,hd⟩:=id ht
 obtain⟨⟨cls2,dd2,data2,sl2⟩,ho2,hc2,n2,hd2⟩:=id hb
 simp only at hc hd hc2 hd2
 subst hc hd hc2 hd2
 have e:vs.toArray++ws.toArray=(vs++ws).toArray:=by simp
 by_cases hw:ws=[]
 ·exact concat_meets ⟨_,ho,rfl⟩ ⟨_,ho2,rfl⟩ noFill_tuple_add seq_tuple_add PySem.F.slot_tuple_add PySem.F.entry_tuple_add (PySem.F.args_tuple_add_2 _ _)
   (tuple_addW1 t b vs.toArray ws.toArray n n2 dd dd2 sl sl2 (by simpa using hv) (by simp[hw])) ⟨ho,ho2,h1 hw⟩
 ·refine concat_meets ⟨_,ho,rfl⟩ ⟨_,ho2,rfl⟩ noFill_tuple_add seq_tuple_add PySem.F.slot_tuple_add PySem.F.entry_tuple_add (PySem.F.args_tuple_add_2 _ _)
   (tuple_addW2 t b vs.toArray ws.toArray n n2 dd dd2 sl sl2 (by simpa using hv) (by simpa using hw) (by rw[List.size_toArray,List.size_toArray];exact hsz)) ⟨ho,ho2,?_⟩
  rw[e]
  exact h2 hw

def sIx(n d:Nat):Option Int→Nat
 |none=>d
 |some v=>if v<0 then (v+(n:Int)).toNat else min v.toNat n
theorem Aci(n d:Nat)(hd:d≤n)(o:Option Int):sIx n d o≤n:=by
 cases o with
 |none=>exact hd
 |some v=>
  show(if v<0 then (v+(n:Int)).toNat else min v.toNat n)≤n
  by_cases hv:v<0
  ·rw[if_pos hv];omega
  ·rw[if_neg hv];exact Nat.min_le_right _ _
theorem To(v:Int)(n d:Nat):(if v<0 then max (v+(n:Int)) 0 else min v (n:Int))=((sIx n d (some v):Nat):Int):=by
 show(if v<0 then max (v+(n:Int)) 0 else min v (n:Int))=(((if v<0 then (v+(n:Int)).toNat else min v.toNat n):Nat):Int)
 by_cases hv:v<0
 ·simp only[if_pos hv];omega
 ·simp only[if_neg hv];omega
theorem R0(lo hi:Option Int)(n:Nat):Builtin.Slice.sliceAdjust lo hi 1 (n:Int)=(((sIx n 0 lo:Nat):Int),((sIx n n hi:Nat):Int)):=by
 have h1:¬((1:Int)<0):=by omega
 unfold Builtin.Slice.sliceAdjust
 simp only[h1,if_false]
 refine Prod.ext ?_ ?_
 ·cases lo with
  |none=>rfl
  |some v=>exact To v n 0
 ·cases hi with
  |none=>rfl
  |some v=>exact To v n n
theorem Rb(i j:Nat):Builtin.Slice.slicePlaces (i:Int) (j:Int) 1=j-i:=by
 unfold Builtin.Slice.slicePlaces
 have h1:(1:Int)>0:=by omega
 simp only[h1,if_true,Int.ediv_one]
 split<;>omega
theorem slicePart_{v:Value}{o:Option Int}{Q:Option Int→Shared→Prop}(p:IsPart v o)(h:Q o s):wpAny (model prog w) A (Builtin.Slice.slicePartIndex v) Q E s:=by
 cases p with
 |none=>exact slicePart_none h
 |int i t=>exact slicePart_int h
theorem sliceApplied_gen{sl:Addr}{vl vu:Value}{lo hi:Option Int}{n:Nat}{Q:Int×Int×Nat→Shared→Prop}(hs:s.heap.IsSliceOf sl vl vu .none)(pl:IsPart vl lo)(pu:IsPart vu hi)(h:Q (((sIx n 0 lo:Nat):Int),1,sIx n n hi-sIx n 0 lo) s):wpAny (model prog w) A (Builtin.Slice.sliceApplied (.ref sl) (pure (n:Int))) Q E s:=by
 obtain⟨os,hos,hcs,hds⟩:=id hs
 unfold Builtin.Slice.sliceApplied Builtin.Slice.sliceFields
 refine wpAny_bind (wpAny_bind (wpAny_field hos hds (x:=vl) rfl (wpAny_bind (wpAny_field hos hds (x:=vu) rfl (wpAny_bind (wpAny_field hos hds (x:=.none) rfl (wpAny_pure ?_)))))))
 refine wpAny_bind (slicePart_none ?_)
 show wpAny _ _ (if ((1:Int) == 0)=true then _ else _) _ _ s
 rw[if_neg (by decide)]
 refine wpAny_bind (slicePart_ pl (wpAny_bind (slicePart_ pu (wpAny_bind (wpAny_pure ?_)))))
 show wpAny _ _ (match Builtin.Slice.sliceAdjust lo hi 1 (n:Int) with|(lo,hi)=>pure (lo,(1:Int),Builtin.Slice.slicePlaces lo hi 1)) _ _ s
 rw[R0 lo hi n]
 show wpAny _ _ (pure (((sIx n 0 lo:Nat):Int),(1:Int),Builtin.Slice.slicePlaces ((sIx n 0 lo:Nat):Int) ((sIx n n hi:Nat):Int) 1)) _ _ s
 rw[Rb]
 exact wpAny_pure h
theorem Xt(xs:Array Value)(i k:Nat):((List.range k).filterMap fun(m:Nat)=>xs[((i:Int)+(m:Int)*1).toNat]?).toArray=((xs.toList.drop i).take k).toArray:=by
 have e:(fun(m:Nat)=>xs[((i:Int)+(m:Int)*1).toNat]?)=fun m=>xs[i+m]?:=by
  funext m
  have:((i:Int)+(m:Int)*1).toNat=i+m:=by omega
  rw[this]
 rw[e]
 have:=pick_run xs i k
 rw[List.filterMap_map] at this
 have e2:((fun x=>xs[x]?) ∘ fun x=>i+x)=fun m=>xs[i+m]?:=rfl
 rw[e2] at this
 rw[this]

theorem getItem_tuple_cut{t sl:Addr}{items:Array Value}{vl vu:Value}{lo hi:Option Int}{Q:Value→Shared→Prop}(ht:IsTup s.heap t items)(hs:s.heap.IsSliceOf sl vl vu .none)(pl:IsPart vl lo)(pu:IsPart vu hi)(hw:¬(sIx items.size 0 lo=0∧sIx items.size items.size hi=items.size))(h:Q (.ref s.heap.objs.size) { s with heap:=s.heap.push { cls:=.type "tuple",data:=.seq ((items.toList.drop (sIx items.size 0 lo)).take (sIx items.size items.size hi-sIx items.size 0 lo)).toArray } })(hsz:items.size≤sizeLine):wpAny (model prog w) A (getItem (.ref t) (.ref sl)) Q E s:=by
 have htake:sizeOk (.seq ((items.toList.drop (sIx items.size 0 lo)).take (sIx items.size items.size hi-sIx items.size 0 lo)).toArray):=by
  show((items.toList.drop (sIx items.size 0 lo)).take (sIx items.size items.size hi-sIx items.size 0 lo)).toArray.size≤sizeLine
  rw[List.size_toArray,List.length_take,List.length_drop,Array.length_toList]
  omega
 have hj:sIx items.size items.size hi≤items.size:=Aci _ _ (Nat.le_refl _) hi
 obtain⟨os,hos,hcs,hds⟩:=id hs
 have hTs:s.TypeIs (.ref sl) "slice":=⟨os,hos,hcs⟩
 unfold getItem
 try with_reducible refine wpAny_holding ?_
 first|refine wpAny_bind (wpAny_pure ?_)|skip
 refine wpAny_bind (wpAny_sequenceKey ht.typeIs (by decide) ?_)
 refine wpAny_bind (wpAny_callSpecial?_slot (name:=Str.ofString "__getitem__") ht.typeIs PyProof.Rows.slot_tuple_getitem
  (wpAny_call_entry PyProof.Rows.slot_tuple_getitem ht.typeIs entry_tuple_getitem ?_ (args_tuple_getitem _ _)))
 show wpAny _ _ (Builtin.Tuple.tupleItemsOf (.ref t) >>= _) _ _ s
 refine wpAny_bind (tupleItemsOf_ ht ?_)
 refine wpAny_bind (wpAny_typeOf hTs ?_)
 rw[if_pos (by decide)]
 refine wpAny_bind (sliceApplied_gen hs pl pu ?_)
 have hno:¬((((sIx items.size 0 lo:Nat):Int) == 0&&(1:Int) == 1&&(sIx items.size items.size hi-sIx items.size 0 lo) == items.size)=true):=by
  intro q
  rw[Bool.and_eq_true,Bool.and_eq_true] at q
  have q1:((sIx items.size 0 lo:Nat):Int)=0:=eq_of_beq q.1.1
  have q2:sIx items.size items.size hi-sIx items.size 0 lo=items.size:=eq_of_beq q.2
  exact hw ⟨by omega,by omega⟩
 show wpAny _ _ (if (((sIx items.size 0 lo:Nat):Int) == 0&&(1:Int) == 1&&(sIx items.size items.size hi-sIx items.size 0 lo) == items.size)=true then _ else _) _ _ s
 rw[if_neg hno,Xt]
 first
  |exact wpAny_bind (m:=Builtin.Tuple.tupleExact _) (wpAny_newObj_type (wpAny_pure ⟨_,rfl,wpAny_pure h⟩) htake)
  |exact wpAny_bind (m:=Builtin.Tuple.tupleExact _) (wpAny_newObj_type (wpAny_bind (wpAny_pure (wpAny_pure ⟨_,rfl,wpAny_pure h⟩))) htake)
  |exact wpAny_bind (wpAny_bind (m:=Builtin.Tuple.tupleExact _) (wpAny_newObj_type (wpAny_pure (wpAny_pure ⟨_,rfl,wpAny_pure h⟩)) htake))
  |exact wpAny_bind (wpAny_bind (m:=Builtin.Tuple.tupleExact _) (wpAny_newObj_type (wpAny_pure ⟨_,rfl,wpAny_pure h⟩) htake))
end
end HT
namespace L2
open PySem PySem.Spec PyProof.Rows
abbrev TO:=St→Hp→(Option Int→Hp→Prop)→Prop
def PO(X:Cx)(e:Option Expr)(t:TO):Prop:=
 ∀(pins:List (Addr×Obj)) (s:Shared) (σ:St) (H:Hp) (Q:Option Int→Hp→Prop),Inv X pins σ H s→t σ H Q→
  wpAny (model X.prog X.w) X.A (evalPart e X.env) (fun u s'=>∃o H',Inv X pins σ H' s'∧IsPart u o∧Q o H') X.xe s
def Zh:TO:=fun _ H Q=>Q none H
def tPart(t:TE):TO:=fun σ H Q=>t σ H fun x H1=>∃i,x=.int i∧Q (some i) H1

section
variable{X:Cx}{e:Expr}{te:TE}{lo hi:Option Expr}{tl th:TO}{pos p2:Pos}
theorem po_none:PO X none Zh:=by
 intro pins s σ H Q I h
 rw[evalPart_none]
 exact wpAny_pure ⟨none,H,I,.none,h⟩
theorem Zw(h:PE X e te):PO X (some e) (tPart te):=by
 intro pins s σ H Q I hw
 rw[evalPart_some]
 refine thn (h pins s σ H _ I hw) fun u s1 ⟨x,H1,I1,r1,q1⟩=>?_
 obtain⟨i,rfl,q⟩:=q1
 obtain⟨t,rfl⟩:=r1
 exact⟨some i,H1,I1,.int i t,q⟩

def SlR(X:Cx)(r:V→Option Int→Option Int→Hp→VK→Prop):Prop:=
 ∀(pins:List (Addr×Obj)) (s:Shared) (σ:St) (H:Hp) (x:V) (v vl vu:Value) (lo hi:Option Int) (sl:Addr) (Q:VK),Inv X pins σ H s→RelV x v→s.heap.IsSliceOf sl vl vu .none→IsPart vl lo→IsPart vu hi→r x lo hi H Q→
  ∃T id,typeLookup (.type T) "__getitem__" = pure (some (.builtin id))∧s.TypeIs v T∧wpAny (model X.prog X.w) X.A (getItem v (.ref sl)) (EP X pins σ Q) X.xe s
def tSl(r:V→Option Int→Option Int→Hp→VK→Prop)(te:TE)(tl th:TO):TE:=fun σ H Q=>te σ H fun x H1=>tl σ H1 fun l H2=>th σ H2 fun u H3=>r x l u H3 Q
theorem Xv{r:V→Option Int→Option Int→Hp→VK→Prop}(hr:SlR X r)(he:PE X e te)(hl:PO X lo tl)(hu:PO X hi th):PE X (.Subscript e (.Slice lo hi none p2) pos) (tSl r te tl th):=by
 intro pins s σ H Q I h
 refine Subscript_ (thn (he pins s σ H _ I h) fun v s1 ⟨x,H1,I1,r1,q1⟩=>?_)
 refine wpAny_Slice (thn (hl pins s1 σ H1 _ I1 q1) fun vl s2 ⟨l,H2,I2,pl,q2⟩=>thn (hu pins s2 σ H2 _ I2 q2) fun vu s3 ⟨u,H3,I3,pu,q3⟩=>?_)
 rw[evalPart_none]
 refine wpAny_pure ?_
 have I4:Inv X pins σ H3 { s3 with heap:=s3.heap.push { cls:=.type "slice",data:=.fields #[vl,vu,.none] } }:=I3.kept (t':=s3.toks) fun b ob q=>Heap.get?_push_of_some _ q
 obtain⟨T,id,hT,ht,hg⟩:=hr pins { s3 with heap:=s3.heap.push { cls:=.type "slice",data:=.fields #[vl,vu,.none] } } σ H3 x v vl vu l u s3.heap.objs.size Q I4 r1 (Heap.IsSliceOf.new ..) pl pu q3
 show wpAny (model X.prog X.w) X.A (subscriptTail e (.Slice lo hi none p2) v (.ref s3.heap.objs.size)) (EP X pins σ Q) X.xe { s3 with heap:=s3.heap.push { cls:=.type "slice",data:=.fields #[vl,vu,.none] } }
 exact tail_any (ops:=[.ref s3.heap.objs.size,v]) ht hT hg (by with_unfolding_all rfl)

def N2(xs:List V)(lo hi:Option Int):List V:=(xs.drop (HT.sIx xs.length 0 lo)).take (HT.sIx xs.length xs.length hi-HT.sIx xs.length 0 lo)
theorem Ip(xs:List V)(lo hi:Option Int):(N2 xs lo hi).length≤xs.length:=by
 unfold N2
 rw[List.length_take,List.length_drop]
 omega
def rSlT(K:PySem.W.Frag):V→Option Int→Option Int→Hp→VK→Prop:=fun x lo hi H Q=>∃a xs,x=.ref a∧SqT K H a xs∧
 ¬(HT.sIx xs.length 0 lo=0∧HT.sIx xs.length xs.length hi=xs.length)∧∀p,H p=none→Q (.ref p) (upd H p (.tup (N2 xs lo hi)))
theorem Ace:SlR X (rSlT X.K):=by
 intro pins s σ H x v vl vu lo hi sl Q I rx hs pl pu h
 obtain⟨a,xs,rfl,hx,hw,q⟩:=h
 cases rx
 obtain⟨its,r,ht,hz⟩:=I.tuple hx
 have hlen:its.toArray.size=xs.length:=by rw[List.size_toArray];exact r.length.symm
 refine⟨"tuple",_,PyProof.Rows.slot_tuple_getitem.lookup,ht.typeIs,?_⟩
 refine HT.getItem_tuple_cut ht hs pl pu (by rw[hlen];exact hw) ?_ (by rw[hlen];exact hz)
 rw[hlen]
 refine⟨.ref s.heap.objs.size,_,I.laid (t':=s.toks) (o:=.tup (N2 xs lo hi)) (fun b ob q=>Heap.get?_push_of_some _ q) (Nat.le_refl _) ?_,rfl,q _ (I.hok.fresh (Nat.le_refl _))⟩
 exact⟨Nat.le_trans (Ip xs lo hi) hz,_,(r.drop (HT.sIx xs.length 0 lo)).take (HT.sIx xs.length xs.length hi-HT.sIx xs.length 0 lo),IsTup.new _ _⟩

def rCatT(K:PySem.W.Frag):R2:=fun x y H Q=>∃a b xs ys,x=.ref a∧y=.ref b∧SqT K H a xs∧SqT K H b ys∧xs≠[]∧xs.length+ys.length≤sizeLine∧
 (ys=[]→Q (.ref a) H)∧(ys≠[]→∀p,H p=none→Q (.ref p) (upd H p (.tup (xs++ys))))
theorem Vals.nil_iff{xs:List V}{us:List Value}(r:Vals xs us):us=[]↔xs=[]:=by
 cases r with
 |nil=>simp
 |cons _ _=>simp
theorem Z7:OpR X (binaryOp .Add) (rCatT X.K):=by
 intro pins s σ H x y v u Q I rx ry h
 obtain⟨a,b,xs,ys,rfl,rfl,ha,hb,hx,hz,q1,q2⟩:=h
 cases rx
 cases ry
 obtain⟨its,r1,p1,_⟩:=I.tuple ha
 obtain⟨its2,r2,p2,_⟩:=I.tuple hb
 refine HT.cat_tup p1 p2 (fun z=>hx (r1.nil_iff.mp z)) (fun z=>⟨.ref a,H,I,rfl,q1 (r2.nil_iff.mp z)⟩) (fun z=>?_) (by rw[←r1.length,←r2.length];exact hz)
 refine⟨.ref s.heap.objs.size,_,I.laid (t':=s.toks) (o:=.tup (xs++ys)) (fun b ob q=>Heap.get?_push_of_some _ q) (Nat.le_refl _) ?_,rfl,q2 (fun w=>z (r2.nil_iff.mpr w)) _ (I.hok.fresh (Nat.le_refl _))⟩
 exact⟨by rw[List.length_append];exact hz,_,r1.append r2,IsTup.new _ _⟩
end
end L2
namespace L2
open PySem PySem.Spec PyProof.Rows
def ixN(n:Nat)(i:Int):Option Nat:=if 0≤i then (if i<n then some i.toNat else none) else if -(n:Int)≤i then some (i+n).toNat else none
def atI{α:Type}(xs:List α)(i:Int):Option α:=(ixN xs.length i).bind fun j=>xs[j]?
theorem Tc{n:Nat}{i:Int}{j:Nat}(h:ixN n i=some j):seqIndex? i n=some j∧j<n∧-(n:Int)≤i∧i<n:=by
 unfold ixN at h
 by_cases h0:0≤i
 ·rw[if_pos h0] at h
  by_cases h1:i<n
  ·rw[if_pos h1] at h
   have e:i.toNat=j:=Option.some.inj h
   exact⟨by rw[seqIndex_of h0 h1,e],by omega,by omega,h1⟩
  ·rw[if_neg h1] at h;cases h
 ·rw[if_neg h0] at h
  by_cases h1 : -(n:Int)≤i
  ·rw[if_pos h1] at h
   have e:(i+n).toNat=j:=Option.some.inj h
   exact⟨by rw[seqIndex_neg (by omega) h1,e],by omega,h1,by omega⟩
  ·rw[if_neg h1] at h;cases h
theorem Nc{α:Type}{xs:List α}{i:Int}{v:α}(h:atI xs i=some v):∃j,seqIndex? i xs.length=some j∧xs[j]? = some v∧j<xs.length∧-(xs.length:Int)≤i∧i<xs.length:=by
 unfold atI at h
 cases e:ixN xs.length i with
 |none=>rw[e] at h;cases h
 |some j=>
  rw[e] at h
  obtain⟨h1,h2,h3,h4⟩:=Tc e
  exact⟨j,h1,h,h2,h3,h4⟩
theorem Dc{α:Type}{xs:List α}{j:Nat}{v:α}(h:xs[j]? = some v):atI xs (j:Int)=some v:=by
 have hj:j<xs.length:=(List.getElem?_eq_some_iff.mp h).1
 have e:ixN xs.length (j:Int)=some j:=by
  unfold ixN
  rw[if_pos (by omega),if_pos (by omega)];simp
 unfold atI;rw[e];exact h
def Tq(b:Expr):Prop:=∀o i,subscripted b false o i=operate [o,i] (getItem o i)
def IxR(X:Cx)(r:R2):Prop:=
 ∀(value slice:Expr) (pins:List (Addr×Obj)) (s:Shared) (σ:St) (H:Hp) (x y:V) (v u:Value) (Q:VK),Inv X pins σ H s→RelV x v→RelV y u→r x y H Q→
  subscripted slice false v u=operate [v,u] (getItem v u)→wpAny (model X.prog X.w) X.A (subscriptTail value slice v u) (EP X pins σ Q) X.xe s
def MtR(X:Cx)(id:String)(r:V→List V→Hp→VK→Prop):Prop:=
 ∀(pins:List (Addr×Obj)) (s:Shared) (σ:St) (H:Hp) (x:V) (xs:List V) (v:Value) (us:List Value) (Q:VK),Inv X pins σ H s→RelV x v→Vals xs us→r x xs H Q→
  wpAny (model X.prog X.w) X.A (call (.builtin id) (v::us)) (EP X pins σ Q) X.xe s
section
variable{X:Cx}{a b:Expr}{ta tb:TE}{pos:Pos}
theorem IxR.or{r r':R2}(h:IxR X r)(h':IxR X r'):IxR X (fun x y H Q=>r x y H Q∨r' x y H Q):=by
 intro value slice pins s σ H x y v u Q I rx ry q hs
 rcases q with q|q
 ·exact h value slice pins s σ H x y v u Q I rx ry q hs
 ·exact h' value slice pins s σ H x y v u Q I rx ry q hs
theorem pe_ix{r:R2}(hr:IxR X r)(ha:PE X a ta)(hb:PE X b tb)(hs:Tq b):PE X (.Subscript a b pos) (tOp r ta tb):=by
 intro pins s σ H Q I h
 exact Subscript_ (binT ha hb I h fun v u s2 x y H2 I2 rx ry q=>hr a b pins s2 σ H2 x y v u Q I2 rx ry q (hs _ _))

def rIxL(K:PySem.W.Frag):R2:=fun x y H Q=>∃p xs i v,x=.ref p∧y=.int i∧SqL K H p xs∧atI xs i=some v∧Q v H
def rIxT(K:PySem.W.Frag):R2:=fun x y H Q=>∃p xs i v,x=.ref p∧y=.int i∧SqT K H p xs∧atI xs i=some v∧Q v H
def rIxS:R2:=fun x y H Q=>∃z i c,x=.str z∧y=.int i∧z.length≤sizeLine∧atI z.cps.toList i=some c∧Q (.str ⟨#[c]⟩) H
theorem ix_list:IxR X (rIxL X.K):=by
 intro value slice pins s σ H x y v u Q I rx ry h hs
 obtain⟨p,xs,i,z,rfl,rfl,hq,he,q⟩:=h
 cases rx
 obtain⟨t,rfl⟩:=ry
 obtain⟨its,r,pl,hz⟩:=I.list hq
 obtain⟨j,h1,h2,h3,h4,h5⟩:=Nc he
 obtain⟨w,ew,rw'⟩:=r.get h2
 have hl:=r.length
 have hn:=Gz
 have fin:EP X pins σ Q w s:=⟨z,H,I,rw',q⟩
 by_cases h0:0≤i
 ·have hj:i.toNat=j:=by
   rw[seqIndex_of h0 h5] at h1
   exact Option.some.inj h1
  exact item_listR pl.isList h0 (by omega) (by rw[hj];simpa using ew) fin hs
 ·have hj:(i+(its.toArray.size:Int)).toNat=j:=by
   rw[seqIndex_neg (by omega) h4] at h1
   rw[List.size_toArray,←hl]
   exact Option.some.inj h1
  exact subscriptTail_builtinR (x:=w) pl.isList.typeIs slot_list_getitem.lookup
   (wpAny_getItem_list_neg (Q:=fun r s'=>r=w∧EP X pins σ Q r s') pl.isList (by omega) (by rw[List.size_toArray]<;>omega) (by omega) (by rw[hj];simpa using ew) ⟨rfl,fin⟩) hs
theorem ix_tup:IxR X (rIxT X.K):=by
 intro value slice pins s σ H x y v u Q I rx ry h hs
 obtain⟨p,xs,i,z,rfl,rfl,hq,he,q⟩:=h
 cases rx
 obtain⟨t,rfl⟩:=ry
 obtain⟨its,r,pl,hz⟩:=I.tuple hq
 obtain⟨j,h1,h2,h3,h4,h5⟩:=Nc he
 obtain⟨w,ew,rw'⟩:=r.get h2
 have hl:=r.length
 have hn:=Gz
 have fin:EP X pins σ Q w s:=⟨z,H,I,rw',q⟩
 exact subscriptTail_builtinR (x:=w) pl.typeIs slot_tuple_getitem.lookup
  (getItem_tuple (j:=j) (Q:=fun r s'=>r=w∧EP X pins σ Q r s') pl (by omega) (by omega) (by rw[List.size_toArray,←hl];exact h1) (by simpa using ew) ⟨rfl,fin⟩) hs
theorem Ad0:IxR X rIxS:=by
 intro value slice pins s σ H x y v u Q I rx ry h hs
 obtain⟨z,i,c,rfl,rfl,hz,he,q⟩:=h
 obtain⟨t,rfl⟩:=rx
 obtain⟨t',rfl⟩:=ry
 obtain⟨j,h1,h2,h3,h4,h5⟩:=Nc he
 have hl:z.cps.toList.length=z.length:=by simp[Str.length]
 rw[hl] at h1 h4 h5
 have hn:=Gz
 exact tail_any (typeIs_str s z t) slot_str_getitem.lookup (getItem_str (c:=c) (by
  have e1:decide (i < -(2 ^ 63:Int))=false:=decide_eq_false (by omega)
  have e2:decide (i ≥ 2 ^ 63)=false:=decide_eq_false (by omega)
  rw[e1,e2,Bool.or_false]) (by rw[h1];simpa using h2) ⟨.str ⟨#[c]⟩,H,I.tok _,⟨_,rfl⟩,q⟩) hs
def rIx(K:PySem.W.Frag):R2:=fun x y H Q=>rIxL K x y H Q∨rIxT K x y H Q∨rIxS x y H Q
theorem ix_seq:IxR X (rIx X.K):=ix_list.or (ix_tup.or Ad0)

theorem Rk(its:List Value)(n j:Nat)(u:Value):Obj.mapSeq (·.setIfInBounds j u) { cls:=.type "list",data:=.seq its.toArray n }={ cls:=.type "list",data:=.seq (its.set j u).toArray n }:=by
 simp[Obj.mapSeq]
theorem Inv.lst{pins:List (Addr×Obj)}{σ:St}{H:Hp}{s:Shared}{p:Addr}{xs:List V}(I:Inv X pins σ H s)(h:H p=some (.lst xs)) :
  ∃(its:List Value) (n:Nat),Vals xs its∧s.heap.get? p=some { cls:=.type "list",data:=.seq its.toArray n }∧xs.length≤sizeLine:=by
 obtain⟨z,its,n,r,e⟩:=I.hok p _ h
 exact⟨its,n,r,e,z⟩
theorem Inv.lstUpd{pins:List (Addr×Obj)}{σ:St}{H:Hp}{s:Shared}{p:Addr}{xs ys:List V}{its its':List Value}{n n':Nat}{f:Obj→Obj}(I:Inv X pins σ H s)(h:H p=some (.lst xs))(ho:s.heap.get? p=some { cls:=.type "list",data:=.seq its.toArray n })(hf:f { cls:=.type "list",data:=.seq its.toArray n }={ cls:=.type "list",data:=.seq its'.toArray n' })(r:Vals ys its')(hz:ys.length≤sizeLine)(t:Nat) :
  Inv X pins σ (upd H p (.lst ys)) { s with heap:=s.heap.update p f,toks:=t }:=by
 have e:(s.heap.update p f).get? p=some { cls:=.type "list",data:=.seq its'.toArray n' }:=by
  rw[Heap.get?_update_self f ho (by rw[hf]<;>rfl),hf]
 refine I.write (x:=p) (e:=p) (by rw[h];trivial) (.inl rfl) (fun b u hb q=>(Heap.get?_update_other _ _ (Ne.symm hb)).trans q) ⟨_,e⟩ ?_
 exact⟨hz,its',n',r,e⟩
def rSetL:V→V→V→Hp→(Hp→Prop)→Prop:=fun o i v H Q=>∃p xs k j,o=.ref p∧i=.int k∧H p=some (.lst xs)∧ixN xs.length k=some j∧Q (upd H p (.lst (xs.set j v)))
theorem set_list:PSet X rSetL:=by
 intro pins s σ H o i v ov iv u Q I ro ri rv h
 obtain⟨p,xs,k,j,rfl,rfl,hp,hj,q⟩:=h
 cases ro
 obtain⟨t,rfl⟩:=ri
 obtain⟨its,n,r,ho,hz⟩:=I.lst hp
 obtain⟨h1,h2,h3,h4⟩:=Tc hj
 have hl:=r.length
 have hn:=Gz
 have I':Inv X pins σ (upd H p (.lst (xs.set j v))) { s with heap:=s.heap.update p (Obj.mapSeq (·.setIfInBounds j u)) }:=
  I.lstUpd hp ho (Rk its n j u) (r.set rv j) (by rw[List.length_set];exact hz) s.toks
 by_cases h0:0≤k
 ·have hk:k.toNat=j:=by
   rw[seqIndex_of h0 h4] at h1
   exact Option.some.inj h1
  exact PySem.W.ki_setAt ho h0 (by omega) (by rw[List.size_toArray,←hl];exact h4) (by rw[hk];exact⟨_,I',q⟩)
 ·have hk:(k+(its.toArray.size:Int)).toNat=j:=by
   rw[seqIndex_neg (by omega) h3] at h1
   rw[List.size_toArray,←hl]
   exact Option.some.inj h1
  exact PySem.W.ki_setBack ho (by omega) (by rw[List.size_toArray,←hl];exact h3) (by omega) (by rw[hk];exact⟨_,I',q⟩)

theorem Nf(lo hi:Option Int)(n:Nat):(sliceBounds lo hi none n).1=((HT.sIx n 0 lo:Nat):Int)∧(sliceBounds lo hi none n).2.1=((HT.sIx n n hi:Nat):Int)∧(sliceBounds lo hi none n).2.2=1:=by
 refine⟨?_,?_,rfl⟩
 ·cases lo with
  |none=>simp[sliceBounds,HT.sIx]
  |some i=>
   simp only[sliceBounds,HT.sIx,Option.getD_none,show(1:Int)>0 by decide,if_true]
   by_cases h:i<0
   ·simp only[h,if_true]<;>omega
   ·simp only[h,if_false]<;>omega
 ·cases hi with
  |none=>simp[sliceBounds,HT.sIx]
  |some i=>
   simp only[sliceBounds,HT.sIx,Option.getD_none,show(1:Int)>0 by decide,if_true]
   by_cases h:i<0
   ·simp only[h,if_true]<;>omega
   ·simp only[h,if_false]<;>omega
theorem K9(its:List Value)(lo hi:Option Int):slicePick its.toArray lo hi none=((its.drop (HT.sIx its.length 0 lo)).take (HT.sIx its.length its.length hi-HT.sIx its.length 0 lo)).toArray:=by
 obtain⟨h1,h2,h3⟩:=Nf lo hi its.toArray.size
 unfold slicePick
 rw[h1,h2,h3]
 simp only[sliceRange_one,pick_run,List.size_toArray]<;>rfl
def rSlL(K:PySem.W.Frag):V→Option Int→Option Int→Hp→VK→Prop:=fun x lo hi H Q=>∃a xs,x=.ref a∧SqL K H a xs∧∀p,H p=none→Q (.ref p) (upd H p (.lst (N2 xs lo hi)))
theorem Zk:SlR X (rSlL X.K):=by
 intro pins s σ H x v vl vu lo hi sl Q I rx hs pl pu h
 obtain⟨a,xs,rfl,hx,q⟩:=h
 cases rx
 obtain⟨its,r,ht,hz⟩:=I.list hx
 have hlen:=r.length
 refine⟨"list",_,slot_list_getitem.lookup,ht.isList.typeIs,?_⟩
 refine wpAny_getItem_list_slice ht.isList hs pl pu .none (by simp) ?_ (by rw[List.size_toArray]<;>omega)
 rw[K9,←hlen]
 refine⟨.ref s.heap.objs.size,_,I.laid (t':=s.toks) (o:=.lst (N2 xs lo hi)) (fun b ob q=>Heap.get?_push_of_some _ q) (Nat.le_refl _) ?_,rfl,q _ (I.hok.fresh (Nat.le_refl _))⟩
 exact⟨Nat.le_trans (Ip xs lo hi) hz,_,0,(r.drop (HT.sIx xs.length 0 lo)).take (HT.sIx xs.length xs.length hi-HT.sIx xs.length 0 lo),Heap.get?_push_size _ rfl⟩

theorem call_tuple_of:CallR X (.type "tuple") (fun xs H Q=>∃p ys,xs=[.ref p]∧((SqL X.K H p ys∧∀l,H l=none→Q (.ref l) (upd H l (.tup ys)))∨(SqT X.K H p ys∧Q (.ref p) H))):=by
 intro pins s σ H xs us Q I r h
 obtain⟨p,ys,rfl,h⟩:=h
 obtain⟨u,rfl,rx⟩:=Fy r
 cases rx
 rcases h with ⟨hq,q⟩|⟨hq,q⟩
 ·obtain⟨its,r',pl,hz⟩:=I.list hq
  have hlen:=r'.length
  refine call_tuple_list pl.isList (fun h' kp=>?_) (by simp only[List.size_toArray]<;>omega)
  have I1:Inv X pins σ H { s with heap:=h' }:=I.kept (t':=s.toks) kp
  have I2:Inv X pins σ (upd H h'.objs.size (.tup ys)) { s with heap:=h'.push { cls:=.type "tuple",data:=.seq its.toArray } }:=
   I1.laid (t':=s.toks) (fun b o e=>Heap.get?_push_of_some _ e) (Nat.le_refl _) (show ObjOk X.prog X.w _ _ _ (.tup ys) from⟨hz,its,r',IsTup.new _ _⟩)
  exact⟨.ref h'.objs.size,_,I2,rfl,q _ (I1.hok.fresh (Nat.le_refl _))⟩
 ·obtain⟨its,r',pl,hz⟩:=I.tuple hq
  exact call_tuple_same pl ⟨.ref p,H,I,rfl,q⟩

def tyV(K:PySem.W.Frag)(T:String)(x:V)(H:Hp):Prop:=match x with
 |.str _=>T = "str"
 |.int _=>T = "int"
 |.ref p=>(T = "list"∧∃xs,SqL K H p xs)∨(T = "tuple"∧∃o,K.lookup p=some o∧o.cls=.type "tuple"∧o.dict=none)∨
   (T = "dict"∧((∃kvs,H p=some (.dK kvs))∨∃kvs,H p=some (.dT kvs)))∨(T = "set"∧∃S n,H p=some (.set S n))
 |_=>False
theorem Ab7{pins:List (Addr×Obj)}{σ:St}{H:Hp}{s:Shared}{T:String}{x:V}{v:Value}(I:Inv X pins σ H s)(r:RelV x v)(ty:tyV X.K T x H) :
  s.TypeIs v T∧∀a,v=.ref a→∃ob,s.heap.get? a=some ob∧ob.dict=none:=by
 cases x with
 |str z=>
  obtain⟨t,rfl⟩:=r
  cases(show T = "str" from ty)
  exact⟨typeIs_str s z t,fun _ e=>nomatch e⟩
 |int i=>
  obtain⟨t,rfl⟩:=r
  cases(show T = "int" from ty)
  exact⟨typeIs_int s i t,fun _ e=>nomatch e⟩
 |ref p=>
  cases r
  rcases ty with ⟨rfl,xs,hq⟩|⟨rfl,o,hk,hc,hd⟩|⟨rfl,hk⟩|⟨rfl,S,n,hk⟩
  ·obtain⟨its,_,pl,_⟩:=I.list hq
   refine⟨pl.isList.typeIs,fun a e=>?_⟩
   cases e
   obtain⟨o,n,e,c,hd,_⟩:=pl
   exact⟨o,e,hd⟩
  ·refine⟨⟨o,I.kIn p o hk,hc⟩,fun a e=>?_⟩
   cases e
   exact⟨o,I.kIn _ o hk,hd⟩
  ·have z:∃o,s.heap.get? p=some o∧o.ExactDict:=by
    rcases hk with ⟨kvs,hk⟩|⟨kvs,hk⟩
    ·obtain⟨_,_,_,_,o,_,_,e,ex,_⟩:=I.hok p _ hk
     exact⟨o,e,ex⟩
    ·obtain⟨_,_,_,_,o,_,_,e,ex,_⟩:=I.hok p _ hk
     exact⟨o,e,ex⟩
   obtain⟨o,e,ex⟩:=z
   refine⟨⟨o,e,ex.1⟩,fun a e2=>?_⟩
   cases e2
   exact⟨o,e,ex.2.1⟩
  ·obtain⟨o,_,_,_,e,ex,_⟩:=I.hok p _ hk
   refine⟨⟨o,e,ex.1⟩,fun a e2=>?_⟩
   cases e2
   exact⟨o,e,ex.2.1⟩
 |_=>exact False.elim ty
def tBM(K:PySem.W.Frag)(T:String)(r:V→List V→Hp→VK→Prop)(to:TE)(t:TA):TE:=fun σ H Q=>to σ H fun x H1=>tyV K T x H1∧t σ H1 fun xs H2=>r x xs H2 Q
variable{o e:Expr}{es:List Expr}{to:TE}{t:TA}{name:Str}{apos cpos:Pos}{T id:String}{r:V→List V→Hp→VK→Prop}
theorem pe_bm(pa:PlainAttrs T)(slot:Slot T name id)(hty:typeOf (.builtin id)=pure (.type "method_descriptor"))(hm:MtR X id r)(ho:PE X o to)(ha:PA X (e::es) t)(hbase:attributeBase o name X.env (eval o X.env)=eval o X.env:=by rfl)(hfew:((backTo cpos (starEach (e::es) X.env)).all (fun x=>!x.1)&&(backToKw cpos (keywordEach [] X.env)).all (fun x=>x.1.isSome)
   && decide ((e::es).length+([]:List Keyword).length+(if ([]:List Keyword).isEmpty then 0 else 1)<30))=true:=by rfl)(hline:(apos.endLine == cpos.line)=true:=by rfl)(hs:starEach (e::es) X.env=(false,eval e X.env)::starEach es X.env:=by rfl)(hplain:(backTo cpos (starEach es X.env)).any (·.1)=false:=by rfl) :
  PE X (.Call (.Attribute o name apos) (e::es) [] cpos) (tBM X.K T r to t):=by
 intro pins s σ H Q I h
 refine wpAny_Call_method_late hbase hfew hline rfl (thn (ho pins s σ H _ I h) fun v s1 ⟨x,H1,I1,r1,ty,q1⟩=>?_)
 obtain⟨h1,h2⟩:=Ab7 I1 r1 ty
 refine⟨T,id,pa,slot,hty,h1,h2,?_⟩
 have hA:=ha cpos pins s1 σ H1 _ I1 q1
 rw[hs] at hA ⊢
 refine Calls.callWith_builtin (by show(false||(backTo cpos (starEach es X.env)).any (·.1))=false;rw[hplain]<;>rfl) (Calls.evalArgs_plain ?_)
 exact thn hA fun us s2 ⟨vs,H2,I2,r2,q2⟩=>hm pins s2 σ H2 x vs v us Q I2 r1 r2 q2
end
end L2
namespace L2
open PySem PySem.Spec PyProof.Rows
def MtM(X:Cx)(id:String)(r:V→List V→Hp→VK→Prop):Prop:=
 ∀(pins:List (Addr×Obj)) (s:Shared) (σ:St) (H:Hp) (x:V) (xs:List V) (v:Value) (us:List Value) (Q:VK),Inv X pins σ H s→RelV x v→Vals xs us→r x xs H Q→
  wpAny (model X.prog X.w) X.A (call (.builtin id) (v::us)) (EP X pins σ Q) X.xe s

theorem Vals.one:∀{x:V} {us:List Value},Vals [x] us→∃u,us=[u]∧RelV x u
 |_,_,.cons r .nil=>⟨_,rfl,r⟩
theorem Vals.rep{xs:List V}{us:List Value}(h:Vals xs us):∀k:Nat,Vals (List.replicate k xs).flatten (List.replicate k us).flatten
 |0=>.nil
 |k+1=>by
  rw[List.replicate_succ,List.replicate_succ,List.flatten_cons,List.flatten_cons]
  exact Vals.append h (Vals.rep h k)
theorem E8(its:List Value):∀(k:Nat) (acc:List Value),
  List.foldl (fun x1 x2=>x1++x2) acc.toArray (List.replicate k its.toArray)=(acc++(List.replicate k its).flatten).toArray
 |0,acc=>by simp
 |k+1,acc=>by
  have e:acc.toArray++its.toArray=(acc++its).toArray:=by simp
  have e2:(acc++its)++(List.replicate k its).flatten=acc++(List.replicate (k+1) its).flatten:=by
   rw[List.replicate_succ,List.flatten_cons,List.append_assoc]
  rw[←e2,←E8 its k (acc++its),←e,List.replicate_succ,List.foldl_cons]

section
variable{X:Cx}{pins:List (Addr×Obj)}{σ:St}{H:Hp}{s:Shared}{l b:Addr}{xs ys zs:List V}
theorem Inv.lset{its its':List Value}{n:Nat}{f:Array Value→Array Value}{t':Nat}(I:Inv X pins σ H s)(hH:H l=some (.lst xs))(e:s.heap.get? l=some { cls:=.type "list",data:=.seq its.toArray n })(hf:f its.toArray=its'.toArray)(hv:Vals ys its')(hz:ys.length≤sizeLine) :
  Inv X pins σ (upd H l (.lst ys)) { s with heap:=s.heap.update l (Obj.mapSeq f),toks:=t' }:=by
 have q:=PySem.IsL.update e f
 rw[hf] at q
 refine I.write (x:=l) (e:=l) (by rw[hH];exact trivial) (.inl rfl) (fun b' u hb hu=>(Heap.get?_update_other s.heap (Obj.mapSeq f) (Ne.symm hb)).trans hu) ⟨_,q⟩ ?_
 exact⟨hz,its',_,hv,q⟩
theorem Inv.lnew{its:List Value}{t':Nat}(I:Inv X pins σ H s)(hv:Vals ys its)(hz:ys.length≤sizeLine) :
  Inv X pins σ (upd H s.heap.objs.size (.lst ys)) { s with heap:=s.heap.push { cls:=.type "list",data:=.seq its.toArray },toks:=t' }:=
 I.laid (fun _ _ q=>Heap.get?_push_of_some _ q) (Nat.le_refl _) ⟨hz,its,0,hv,Heap.get?_push_size _ rfl⟩
theorem Inv.fresh(I:Inv X pins σ H s):H s.heap.objs.size=none:=I.hok.fresh (Nat.le_refl _)
theorem Inv.lstM(I:Inv X pins σ H s)(hH:H l=some (.lst xs)):xs.length≤sizeLine∧∃(its:List Value) (n:Nat),Vals xs its∧xs.length=its.length∧s.heap.get? l=some { cls:=.type "list",data:=.seq its.toArray n }:=by
 obtain⟨z,its,n,r,e⟩:=I.hok l _ hH
 exact⟨z,its,n,r,r.length,e⟩

theorem Os{n:Nat}(h:n≤sizeLine):Builtin.List.listTooLong n=false:=by
 unfold Builtin.List.listTooLong
 exact decide_eq_false (by omega)
end
section
variable{X:Cx}
def Zo:V→List V→Hp→VK→Prop:=fun x vs H Q=>∃l xs y,x=.ref l∧vs=[y]∧H l=some (.lst xs)∧xs.length<sizeLine∧Q .non (upd H l (.lst (xs++[y])))
theorem Hl:MtM X "list.append" Zo:=by
 intro pins s σ H x vs v us Q I rx rv h
 obtain⟨l,xs,y,rfl,rfl,hH,hz,q⟩:=h
 cases rx
 obtain⟨u,rfl,ru⟩:=rv.one
 obtain⟨z,its,n,r,hl,e⟩:=I.lstM hH
 refine call_meets F.slot_list_append ⟨_,e,rfl⟩ F.entry_list_append (F.args_list_append_2 _ _) (PySem.list_append l its.toArray n u (by rw[List.size_toArray];omega)) ⟨e,?_⟩
 refine⟨.non,_,I.lset (its':=its++[u]) hH e (by simp) (r.append (.cons ru .nil)) ?_,rfl,q⟩
 rw[List.length_append,List.length_singleton]
 omega

def Zn:V→List V→Hp→VK→Prop:=fun x vs H Q=>∃l b xs zs,x=.ref l∧vs=[.ref b]∧H l=some (.lst xs)∧H b=some (.lst zs)∧xs.length+zs.length≤sizeLine∧Q .non (upd H l (.lst (xs++zs)))
theorem Aea:MtM X "list.extend" Zn:=by
 intro pins s σ H x vs v us Q I rx rv h
 obtain⟨l,b,xs,zs,rfl,rfl,hH,hB,hz,q⟩:=h
 cases rx
 obtain⟨u,rfl,ru⟩:=rv.one
 cases ru
 obtain⟨z,its,n,r,hl,e⟩:=I.lstM hH
 obtain⟨z2,its2,n2,r2,hl2,e2⟩:=I.lstM hB
 have hsz:its.toArray.size+its2.toArray.size≤sizeLine:=by rw[List.size_toArray,List.size_toArray];omega
 have hlong:¬(!its.toArray.isEmpty&&Builtin.List.listTooLong (its.toArray.size+its2.toArray.size))=true:=by
  rw[Os hsz,Bool.and_false]
  exact Bool.false_ne_true
 refine call_meets F.slot_list_extend ⟨_,e,rfl⟩ F.entry_list_extend (F.args_list_extend_2 _ _)
  (AutoSeq1.list_extend_list_list_0 l its.toArray n b its2.toArray n2 hlong (by rw[List.size_toArray];omega) (by omega)) ⟨e,e2,?_⟩
 refine⟨.non,_,I.lset (its':=its++its2) hH e (by simp) (r.append r2) ?_,rfl,q⟩
 rw[List.length_append]
 omega

def rCat:R2:=fun x y H Q=>∃l b xs zs,x=.ref l∧y=.ref b∧H l=some (.lst xs)∧H b=some (.lst zs)∧xs.length+zs.length≤sizeLine∧∀p,H p=none→Q (.ref p) (upd H p (.lst (xs++zs)))
theorem Adh:OpR X (binaryOp .Add) rCat:=by
 intro pins s σ H x y v u Q I rx ry h
 obtain⟨l,b,xs,zs,rfl,rfl,hH,hB,hz,q⟩:=h
 cases rx
 cases ry
 obtain⟨z,its,n,r,hl,e⟩:=I.lstM hH
 obtain⟨z2,its2,n2,r2,hl2,e2⟩:=I.lstM hB
 refine PySem.P.add_list e e2 ?_ (by rw[List.size_toArray,List.size_toArray];omega)
 have ea:its.toArray++its2.toArray=(its++its2).toArray:=by simp
 rw[ea]
 exact⟨.ref _,_,I.lnew (t':=s.toks) (r.append r2) (by rw[List.length_append];omega),rfl,q _ I.fresh⟩
def rRep:R2:=fun x y H Q=>∃l k xs,x=.ref l∧y=.int k∧H l=some (.lst xs)∧-(2 ^ 63)≤k∧k<2 ^ 63∧xs.length*k.toNat≤sizeLine∧
 ∀p,H p=none→Q (.ref p) (upd H p (.lst (List.replicate k.toNat xs).flatten))
theorem M5{α:Type}(xs:List α)(k:Nat):(List.replicate k xs).flatten.length=k*xs.length:=by
 induction k with
 |zero=>simp
 |succ k ih=>rw[List.replicate_succ,List.flatten_cons,List.length_append,ih,Nat.succ_mul,Nat.add_comm]
theorem Ade:OpR X (binaryOp .Mult) rRep:=by
 intro pins s σ H x y v u Q I rx ry h
 obtain⟨l,k,xs,rfl,rfl,hH,h1,h2,hz,q⟩:=h
 cases rx
 obtain⟨t,rfl⟩:=ry
 obtain⟨z,its,n,r,hl,e⟩:=I.lstM hH
 have hlen:its.toArray.size*k.toNat≤sizeLine:=by rw[List.size_toArray,←hl];exact hz
 have hcap:¬its.toArray.size*k.toNat>(2 ^ 63-1) / 8:=by
  have:(sizeLine:Nat)≤(2 ^ 63-1) / 8:=by decide
  omega
 have hfit:¬(!Builtin.List.listFitsIndex k)=true:=by
  rw[fitsIndex_both h1 h2]
  exact Bool.false_ne_true
 have hlong:¬Builtin.List.listTooLong (its.toArray.size*k.toNat)=true:=by
  rw[Os hlen]
  exact Bool.false_ne_true
 have hnew:List.foldl (fun x1 x2=>x1++x2) #[] (List.replicate (if its.toArray.isEmpty=true then 0 else k.toNat) its.toArray)=(List.replicate k.toNat its).flatten.toArray:=by
  have f0:∀m:Nat,List.foldl (fun x1 x2=>x1++x2) #[] (List.replicate m its.toArray)=(List.replicate m its).flatten.toArray:=fun m=>by
   have:=E8 its m []
   rw[List.nil_append] at this
   exact this
  rw[f0]
  cases its with
  |nil=>simp
  |cons a r'=>rw[if_neg (by simp)]
 refine wpAny_binaryOp_repeat_ref (T:="list") (U:="int") (by decide) ⟨_,e,rfl⟩ (fun s'=>typeIs_int s' k t) noFill_list_mul F.fills_int_mul F.slot_int_rmul repeat_list F.slot_int_index.lookup
  (call_meets F.slot_int_rmul (typeIs_int s k t) F.entry_int_rmul (F.args_int_rmul_2 _ _) (int___rmul___int_list k t l its.toArray n)
   ⟨e,rfl,⟨_,e,rfl⟩,call_meets F.slot_list_mul ⟨_,e,rfl⟩ F.entry_list_mul (F.args_list_mul_2 _ _) (AutoListH.list___mul___list_int_3 l its.toArray n k t hfit hcap hlong) ⟨e,?_⟩⟩)
 rw[hnew]
 exact⟨.ref _,_,I.lnew (t':=s.toks) (r.rep k.toNat) (by rw[M5,Nat.mul_comm];exact hz),rfl,q _ I.fresh⟩

end
section
variable{prog:Program}{w:World}{A:Around}{E:Value→Shared→Prop}{s:Shared}
end
section
variable{X:Cx}
end
end L2
namespace L2
open PySem PySem.Spec PyProof.Rows
section
variable{κ:Type}[DecidableEq κ]
def Dv(kvs:List (κ×V))(k:κ):Option V:=(kvs.find? fun kv=>decide (kv.1=k)).map (·.2)
def Fx(kvs:List (κ×V))(k:κ)(v:V):List (κ×V):=
 if (kvs.any fun kv=>decide (kv.1=k))=true then kvs.map (fun kv=>if kv.1=k then (kv.1,v) else kv) else kvs++[(k,v)]
theorem W7{p:κ×V}{r:List (κ×V)}{k:κ}(e:p.1=k):Dv (p::r) k=some p.2:=by simp[Dv,List.find?_cons,e]
theorem W8{p:κ×V}{r:List (κ×V)}{k:κ}(e:¬p.1=k):Dv (p::r) k=Dv r k:=by simp[Dv,List.find?_cons,e]
theorem Ps(kvs:List (κ×V))(k:κ)(v:V):(Fx kvs k v).length≤kvs.length+1:=by
 unfold Fx
 split
 ·rw[List.length_map];omega
 ·rw[List.length_append,List.length_cons,List.length_nil];omega
theorem RelO.isSome_eq{o:Option V}{u:Option Value}(r:RelO o u):o.isSome=u.isSome:=by
 cases o with
 |none=>cases u with
  |none=>rfl
  |some _=>exact(show False from r).elim
 |some _=>cases u with
  |none=>exact(show False from r).elim
  |some _=>rfl
theorem KV.val{kvs:List (κ×V)}{vs:List (κ×Value)}(r:KV kvs vs)(k:κ):RelO (Dv kvs k) (valueAt vs k):=by
 unfold KV at r
 induction r with
 |nil=>exact True.intro
 |@cons p q ps qs h t ih=>
  obtain⟨h1,h2⟩:=h
  by_cases e:p.1=k
  ·have e':q.1=k:=h1.symm.trans e
   have b:valueAt (q::qs) k=some q.2:=by simp[valueAt,List.find?_cons,e']
   rw[W7 e,b];exact h2
  ·have e':¬q.1=k:=fun z=>e (h1.trans z)
   have b:valueAt (q::qs) k=valueAt qs k:=by simp[valueAt,List.find?_cons,e']
   rw[W8 e,b];exact ih
theorem KV.any{kvs:List (κ×V)}{vs:List (κ×Value)}(r:KV kvs vs)(k:κ):(kvs.any fun kv=>decide (kv.1=k))=vs.any fun kv=>decide (kv.1=k):=by
 unfold KV at r
 induction r with
 |nil=>rfl
 |cons h t ih=>rw[List.any_cons,List.any_cons,ih,h.1]
theorem KV.repl{kvs:List (κ×V)}{vs:List (κ×Value)}(r:KV kvs vs)(k:κ){y:V}{u:Value}(ry:RelV y u) :
  KV (kvs.map fun kv=>if kv.1=k then (kv.1,y) else kv) (vs.map fun kv=>if kv.1=k then (kv.1,u) else kv):=by
 unfold KV at r ⊢
 induction r with
 |nil=>exact .nil
 |@cons p q ps qs h t ih=>
  rw[List.map_cons,List.map_cons]
  refine .cons ?_ ih
  obtain⟨h1,h2⟩:=h
  by_cases e:p.1=k
  ·rw[if_pos e,if_pos (h1.symm.trans e)];exact⟨h1,ry⟩
  ·rw[if_neg e,if_neg (fun z=>e (h1.trans z))];exact⟨h1,h2⟩
theorem KV.put{kvs:List (κ×V)}{vs:List (κ×Value)}(r:KV kvs vs)(k:κ){y:V}{u:Value}(ry:RelV y u):KV (Fx kvs k y) (stored vs k u):=by
 unfold Fx stored
 rw[r.any k]
 by_cases e:(vs.any fun kv=>decide (kv.1=k))=true
 ·rw[if_pos e,if_pos e];exact r.repl k ry
 ·rw[if_neg e,if_neg e];exact Paired.snoc r ⟨rfl,ry⟩
theorem KV.length{kvs:List (κ×V)}{vs:List (κ×Value)}(r:KV kvs vs):kvs.length=vs.length:=Paired.length r
end
theorem Lz{P:Program}{w:World}{k:Key}{u:Value}(r:RelV (kV k) u):(A3 P w).is k u=true:=by
 cases k with
 |inl i=>obtain⟨t,e⟩:=(show ∃t,u=Value.int i t from r);subst e;exact Pr P w i t
 |inr x=>obtain⟨t,e⟩:=(show ∃t,u=Value.str x t from r);subst e;exact Pq P w x t
theorem Md{P:Program}{w:World}:∀{ks:List Key} {us:List Value},Vals (ks.map kV) us→ItemsAre (A3 P w) ks us
 |[],_,r=>by rw[List.map_nil] at r;cases r;exact .nil
 |k::ks,_,r=>by
  rw[List.map_cons] at r
  cases r with
  |cons h t=>exact .cons (Lz h) (Md t)

abbrev KT(H:Hp):List (List Key×V)→List (List Key×Addr×Value)→Prop:=Paired fun p q=>p.1=q.1∧H q.2.1=some (.tup (p.1.map kV))∧RelV p.2 q.2.2
theorem KT.keeps{H H':Hp}{kvs:List (List Key×V)}{xs:List (List Key×Addr×Value)}(r:KT H kvs xs)(ht:∀b ys,H b=some (.tup ys)→H' b=some (.tup ys)):KT H' kvs xs:=
 Paired.mapP r fun _ _ z=>⟨z.1,ht _ _ z.2.1,z.2.2⟩

section
variable{P:Program}{w:World}{H:Hp}{h:Heap}{a:Addr}
theorem Abc{u:HO}(ok:HOk P w H h)(e:Rd H a u):ObjOk P w H h a u:=e.ok ok
theorem Abs{kvs:List (Key×V)}(ok:HOk P w H h)(e:Rd H a (.dK kvs)):kvs.length≤sizeLine∧(a == sysModules)=false∧∃vs,KV kvs vs∧h.DictOf (A3 P w) a vs:=
 show ObjOk P w H h a (.dK kvs) from Abc ok e
theorem L0{kvs:List (Key×V)}(ok:HOk P w H h)(e:H a=some (.dK kvs)):kvs.length≤sizeLine∧(a == sysModules)=false∧∃vs,KV kvs vs∧h.DictOf (A3 P w) a vs:=Abs ok (.inl e)
theorem Adw{ks:List Key}(ok:HOk P w H h)(e:H a=some (.tup (ks.map kV))):(tupleKind (A3 P w)).is h ks a:=by
 obtain⟨_,its,r,o,h1,h2,n,h3⟩:=(show ObjOk P w H h a (.tup (ks.map kV)) from ok a _ e)
 exact⟨o,its.toArray,n,h1,h2,h3,by simpa using Md r⟩
theorem dt_rd{kvs:List (List Key×V)}(ok:HOk P w H h)(e:Rd H a (.dT kvs)):kvs.length≤sizeLine∧(a == sysModules)=false∧
  ∃xs,KT H kvs xs∧h.DictOfH (tupleKind (A3 P w)) a xs:=by
 obtain⟨z,y,xs,r,o,es,ep,h1,h2,h3,h4,h5⟩:=(show ObjOk P w H h a (.dT kvs) from Abc ok e)
 refine⟨z,y,xs,r,o,es,ep,h1,h2,h3,h4,fun x hx=>?_,h5⟩
 have all:∀{l:List (List Key×V)} {m:List (List Key×Addr×Value)},KT H l m→∀x∈m,(tupleKind (A3 P w)).is h x.1 x.2.1:=by
  intro l m q
  induction q with
  |nil=>intro x hx;exact nomatch hx
  |@cons p q ps qs hq t ih=>
   intro x hx
   rcases List.mem_cons.mp hx with e|hx
   ·subst e
    exact Adw ok (by rw[←hq.1];exact hq.2.1)
   ·exact ih x hx
 exact all r x hx
end
def DGet(H:Hp)(a:Addr)(y:V)(r:Option V):Prop:=
 (∃kvs k,Rd H a (.dK kvs)∧y=kV k∧r=Dv kvs k)∨∃kvs k b,Rd H a (.dT kvs)∧y=.ref b∧H b=some (.tup (k.map kV))∧r=Dv kvs k
def DPut(H:Hp)(a:Addr)(y v:V)(H':Hp):Prop:=
 (∃kvs k,H a=some (.dK kvs)∧y=kV k∧kvs.length<sizeLine∧H'=upd H a (.dK (Fx kvs k v)))∨
 ∃kvs k b,H a=some (.dT kvs)∧y=.ref b∧H b=some (.tup (k.map kV))∧kvs.length<sizeLine∧H'=upd H a (.dT (Fx kvs k v))
theorem DGet.k{H:Hp}{a:Addr}{kvs:List (Key×V)}{k:Key}(e:H a=some (.dK kvs)):DGet H a (kV k) (Dv kvs k):=.inl ⟨kvs,k,.inl e,rfl,rfl⟩
theorem DGet.t{H:Hp}{a b:Addr}{kvs:List (List Key×V)}{k:List Key}(e:H a=some (.dT kvs))(eb:H b=some (.tup (k.map kV))):DGet H a (.ref b) (Dv kvs k):=.inr ⟨kvs,k,b,.inl e,rfl,eb,rfl⟩
theorem DPut.k{H:Hp}{a:Addr}{kvs:List (Key×V)}{k:Key}{v:V}(e:H a=some (.dK kvs))(hl:kvs.length<sizeLine):DPut H a (kV k) v (upd H a (.dK (Fx kvs k v))):=.inl ⟨kvs,k,e,rfl,hl,rfl⟩
theorem DPut.t{H:Hp}{a b:Addr}{kvs:List (List Key×V)}{k:List Key}{v:V}(e:H a=some (.dT kvs))(eb:H b=some (.tup (k.map kV)))(hl:kvs.length<sizeLine) :
  DPut H a (.ref b) v (upd H a (.dT (Fx kvs k v))):=.inr ⟨kvs,k,b,e,rfl,eb,hl,rfl⟩


section
variable{X:Cx}{pins:List (Addr×Obj)}{σ:St}{H:Hp}{s:Shared}{a:Addr}{y v:V}{u r:Value}{o:Option V}{A:Around}{E:Value→Shared→Prop}
theorem Inv.big(I:Inv X pins σ H s):sysModules<s.heap.objs.size:=by
 have h:mainGlobals<s.heap.objs.size:=(I.mod.glob.keeps I.bk).lt
 exact Nat.lt_trans (by decide) h

theorem Aaz{h':Heap}{t':Nat}{ob:HO}(I:Inv X pins σ H s)(mu:Mut (H a))(hs:Heap.SameBut a s.heap h')(he:∃q,h'.get? a=some q)(new:ObjOk X.prog X.w (upd H a ob) h' a ob) :
  Inv X pins σ (upd H a ob) { s with heap:=h',toks:=t' }:=
 I.write (x:=a) (e:=a) mu (.inl rfl) (fun b q hb z=>(hs.2 b hb).trans z) he new
theorem Ad4{P:Program}{w:World}{H':Hp}{h':Heap}{kvs:List (Key×V)}{vs:List (Key×Value)}(z:kvs.length≤sizeLine)(hd:(a == sysModules)=false)(rel:KV kvs vs)(dd:h'.DictOf (A3 P w) a vs) :
  ObjOk P w H' h' a (.dK kvs):=⟨z,hd,vs,rel,dd⟩
end
section
variable{X:Cx}{pins:List (Addr×Obj)}{σ:St}{H:Hp}{s:Shared}{a:Addr}{kvs:List (Key×V)}{k:Key}{u:Value}{A:Around}{E:Value→Shared→Prop}
end
def NoSl(i:Expr):Prop:=∀ov iv,subscripted i false ov iv=operate [ov,iv] (getItem ov iv)
theorem Zi{prog:Program}{w:World}{A:Around}{E:Value→Shared→Prop}{s:Shared}{env:Env}{value slice:Expr}{pos:Pos}{T id:String}{Q:Value→Shared→Prop}(hl:typeLookup (.type T) "__getitem__" = pure (some (.builtin id)))(hs:NoSl slice)(h:wpAny (model prog w) A (eval value env) (fun o s₁=>wpAny (model prog w) A (eval slice env) (fun i s₂=>s₂.TypeIs o T∧wpAny (model prog w) A (getItem o i) Q E s₂) E s₁) E s) :
  wpAny (model prog w) A (eval (.Subscript value slice pos) env) Q E s:=by
 refine Subscript_ (wpAny_mono h (fun o s₁ h₁=>wpAny_mono h₁ (fun i s₂ h₂=>?_) fun _ _ x=>x) fun _ _ x=>x)
 obtain⟨hT,h₂⟩:=h₂
 unfold subscriptTail
 refine wpAny_bind ?_
 rw[getitemInPython_of_ne hT.not_modules]
 refine wpAny_bind (wpAny_specialOf hT hl ?_)
 have fin:wpAny (model prog w) A (subscripted slice false o i) (fun r s₃=>wpAny (model prog w) A (letTemporaryGo value o r >>= fun _=>pure r) Q E s₃) E s₂:=by
  rw[hs o i]
  exact wpAny_operating (wpAny_mono h₂ (fun r s₃ h₃=>wpAny_bind (wpAny_letTemporaryGo (wpAny_pure h₃))) fun _ _ x=>x)
 first
  |exact wpAny_pure (wpAny_bind fin)
  |exact wpAny_bind (wpAny_pure (wpAny_bind fin))
  |exact wpAny_bind fin

section
variable{X:Cx}{o i e value:Expr}{pos pos' tpos:Pos}{td ty tv:TE}
end
theorem O6{P:Program}{w:World}{H:Hp}(h:Heap)(hb:sysModules<h.objs.size):ObjOk P w H (h.push { cls:=.type "dict",data:=.dict #[] }) h.objs.size (.dK []):=
 ⟨Nat.zero_le _,beq_eq_false_iff_ne.mpr (Ne.symm (Nat.ne_of_lt hb)),[],.nil,Heap.DictOf.new h⟩
def Acc:TE:=fun _ H Q=>∀p,H p=none→Q (.ref p) (upd H p (.dK []))
section
variable{X:Cx}{pos:Pos}
theorem pe_dnewK:PE X (.Dict [] [] pos) Acc:=fun pins s σ H Q I h=>
 wpAny_Dict_empty ⟨.ref s.heap.objs.size,_,I.laid (a:=s.heap.objs.size) (o:=.dK []) (t':=s.toks) (fun _ _ q=>Heap.get?_push_of_some _ q) (Nat.le_refl _) (O6 s.heap I.big),rfl,h _ (I.hok.fresh (Nat.le_refl _))⟩
end
def IsD(H:Hp)(a:Addr):Prop:=(∃kvs,Rd H a (.dK kvs))∨∃kvs,Rd H a (.dT kvs)
theorem Ws{X:Cx}{pins:List (Addr×Obj)}{σ:St}{H:Hp}{s:Shared}{a:Addr}(I:Inv X pins σ H s)(d:IsD H a) :
  s.TypeIs (.ref a) "dict"∧(∀b,Value.ref a=.ref b→∃ob,s.heap.get? b=some ob∧ob.dict=none)∧(a == sysModules)=false:=by
 rcases d with ⟨kvs,e⟩|⟨kvs,e⟩
 ·obtain⟨_,hd,vs,_,dd⟩:=Abs I.hok e
  refine⟨dd.typeIs,fun b q=>?_,hd⟩
  cases q
  obtain⟨ob,_,_,h1,h2,_⟩:=dd
  exact⟨ob,h1,h2.2.1⟩
 ·obtain⟨_,hd,xs,_,dd⟩:=dt_rd I.hok e
  refine⟨dd.typeIs,fun b q=>?_,hd⟩
  cases q
  obtain⟨ob,_,_,h1,h2,_⟩:=dd
  exact⟨ob,h1,h2.2.1⟩

section
variable{X:Cx}{pins:List (Addr×Obj)}{σ:St}{H:Hp}{s:Shared}{a:Addr}{y d:V}{u r:Value}{o:Option V}{A:Around}{E:Value→Shared→Prop}
end
section
variable{X:Cx}{o e f:Expr}{apos cpos:Pos}{td ty tx:TE}
end
section
variable{X:Cx}{pins:List (Addr×Obj)}{σ:St}{H:Hp}{s:Shared}{a:Addr}{kvs:List (Key×V)}{A:Around}{E:Value→Shared→Prop}
end
section
variable{X:Cx}{pins:List (Addr×Obj)}{σ:St}{H:Hp}{s:Shared}{a:Addr}{y:V}{u:Value}{A:Around}{E:Value→Shared→Prop}
end
end L2
namespace Att
open PySem PySem.W PySem.Calls PyProof.Rows
theorem Ja{P:Params}{h:Heap}:∀(ns:List Int) (vs:List Value),WellAll P h vs (ns.map WData.int)→IntsAre vs ns:=by
 intro ns
 induction ns with
 |nil=>
  intro vs w
  rw[List.map_nil] at w
  cases w
  exact .nil
 |cons n ns ih=>
  intro vs w
  rw[List.map_cons] at w
  cases w with
  |cons a b=>
   cases a
   exact .cons _ _ (ih _ b)

theorem Tz{l:OpenLaw}{n:Nat}(hn:l.most=some n){P:Params}{h:Heap}{args:List WData}{vals:List Value}(hpre:l.row.toRowW.claim.pre args=true)(hwl:WellAll P h vals args) :
  ∃a vs ns,vals=[Value.ref a]∧args=[WData.list (ns.map WData.int)]∧h.get? a=some { cls:=.type "list",data:=.seq vs.toArray }∧IntsAre vs ns∧ns.length≤n:=by
 have hsh:WShape.hasAll [] args [.list .int]=true:=(pre_splitW hpre).1
 have hc:l.pre.holds [] { args:=args }=true:=(pre_splitW hpre).2
 obtain⟨d,r,rfl,h1,h2⟩:=hasAllW_cons hsh
 obtain rfl:=hasAllW_nil h2
 obtain⟨xs,rfl,h3⟩:=hasW_list h1
 obtain⟨ns,rfl⟩:=items_int h3
 have hlen:ns.length≤n:=by
  unfold OpenLaw.pre at hc
  have h4:(WTm.not (.lt (.lit (.int (n:Int))) (.len (.arg 0)))).holds [] { args:=[.list (ns.map .int)] }=true:=by
   have h4:=(holds_andW hc).1
   rw[hn] at h4
   exact h4
  have h5:=condW_of h4 (w_not (w_lt w_lit (w_len_list (w_arg rfl))))
  rw[List.length_map] at h5
  refine Nat.le_of_not_lt fun q=>?_
  have q':(n:Int)<((ns.length:Nat):Int):=by omega
  first
   |(rw[decide_eq_true q'] at h5;exact absurd h5 (by decide))
   |(simp at h5;omega)
 cases hwl with
 |cons w1 w2=>
  cases w2
  cases w1 with
  |list ho hall=>exact⟨_,_,ns,rfl,rfl,ho,Ja ns _ hall,hlen⟩

theorem Ua(l:OpenLaw)(args:List WData):l.row.toRowW.claim.post args (.bool true) args=true:=
 postW_of (r:=l.row.toRowW) (X:=(true == true))
  (show WShape.has [] (.bool true) .bool=true by first|rfl|decide|simp[WShape.has,WShape.arms,WShape.armsAll])
  (show(WTm.eq .res (.lit (.bool true))).value [] { args:=args,res:=some (.bool true),after:=args }=some (.bool (true == true)) from w_eq_bool (w_res rfl) w_lit) rfl

theorem attach_call{l:OpenLaw}{n:Nat}{q:Program}{loose:List Str}{XP:(Str→Option Value)→Heap→Prop}{YP:World→Heap→Prop}{d:DefRec}(hn:l.most=some n)(hdf:d.params.defaults=[])(call:∀(w:World) (s₀ s₁:Shared) (mg mb:Str→Option Value) (fa:Addr) (o:Obj) (pm cd doc:Value) (a:Addr) (vs:List Value) (ns:List Int),
   Ground q loose [] XP w s₀ mg mb s₁.heap→YP w s₁.heap→
   s₁.heap.get? fa=some o→o.data=.func (docDef d.name d.params d.body d.scope pm cd doc)→s₁.heap.CodeRec cd d.name→mg d.name=some (.ref fa)→
   s₁.heap.get? a=some { cls:=.type "list",data:=.seq vs.toArray }→IntsAre vs ns→ns.length≤n→s₁.gens=#[]→
   codeAny (model l.prog w) callerA (.call (.ref fa) ⟨[.ref a],[]⟩) (fun r s'=>r=.ok (.ret (.bool true))∧OldK s₁.heap s'.heap∧s'.os=s₁.os∧AllBare s'.gens) s₁) :
  WalkO q loose XP YP l.row.toRowW d [] (fun f vs=>PySem.call f vs):=by
 intro w s₀ s₁ mg mb G Y fa o pm cd doc dV kV ho hd hcd hD hmg hg args vals as hpre hlay hrd hwl hlo
 obtain rfl:dV=.none:=Dflts.none hD hdf
 obtain rfl:kV=.none:=Dflts.noKw hD
 obtain⟨a,vs,ns,rfl,rfl,hobj,hints,hlen⟩:=Tz hn hpre hwl
 refine enter_call (codeAny_mono (call w s₀ s₁ mg mb fa o pm cd doc a vs ns G Y ho (fd_plain hd) hcd hmg hobj hints hlen hg) fun r s' hq=>?_)
 obtain⟨rfl,h2,h3,h4⟩:=hq
 exact⟨.inl ⟨.bool true,.bool true,[],rfl,fun _=>rfl,.bool true,Ua l _,fun _=>⟨List.Pairwise.nil,fun _ hm=>(nomatch hm)⟩⟩,h2,h3,h4⟩

section
variable{prog:Program}{w:World}{A:Around}{E:Value→Shared→Prop}{s:Shared}{K:Frag}
end
end Att
namespace L2
open PySem PySem.Spec PyProof.Rows
theorem vals_ints:∀{vs:List Value} {ns:List Int},IntsAre vs ns→Vals (ns.map V.int) vs
 |_,_,.nil=>.nil
 |_,_,.cons n t h=>.cons ⟨t,rfl⟩ (vals_ints h)

end L2
namespace L2
open PySem PySem.Spec PyProof.Rows
abbrev KOf{K:W.Frag}{h:Heap}(_:K.In h):PySem.W.Frag:=K

end L2
namespace L2
open PySem PySem.Spec PyProof.Rows
def defArgs(s:Stmt):Arguments:=match s with
 |.FunctionDef _ a _ _ _ _ _ _ _ _=>a
 |_=>{ posonlyargs:=[],args:=[],vararg:=none,kwonlyargs:=[],kw_defaults:=[],kwarg:=none,defaults:=[] }
def defBody(s:Stmt):List Stmt:=match s with
 |.FunctionDef _ _ b _ _ _ _ _ _ _=>b
 |_=>[]
def defScope(s:Stmt):Scope:=match s with
 |.FunctionDef _ _ _ _ _ _ sc _ _ _=>sc
 |_=>{ kind:=.function,names:=[],isGenerator:=false,isCoroutine:=false }

abbrev CX0:CXT:=fun _ _ _ _ _ _=>False
abbrev E0:XK:=fun _ _ _=>False
structure Fun(K:PySem.W.Frag)(x qual:Str)(st:Stmt)(f:Addr)(fd:FuncData):Prop where
 ex:∃(oc:Value) (od:Option Addr) (kV doc pm:Value) (an:Option Addr) (cdv ct:Value) (osl:Array (Option Value)),
  fd=PySem.W.fnOf x qual (defArgs st) (defBody st) (defScope st) .none kV doc pm an cdv ct∧K.lookup f=some ⟨oc,od,.func fd,osl⟩∧PySem.W.codeIn K cdv qual=true
 kp:PySem.W.keepIn K (.ref f)=true
section
variable{P:Program}{w:World}{K:W.Frag}{mg:Str→Option Value}{base:Heap}
theorem Fun.ok{x qual:Str}{st:Stmt}{f:Addr}{fd:FuncData}{N ps:List Str}{k:Nat}{sp:Sp}(F:Fun K x qual st f fd)(S:FnScope N ps (defScope st))(len:∀vs H Q E,sp vs H Q E→vs.length=ps.length)(hbody:∀(cdv:Value) (A:Around) (outer:List Env) (s:Shared) (H:Hp) (vs:List V) (Q:VK) (E:XK),Room k (A.deeper (envOfC qual (defScope st) s.heap.objs.size f cdv))→sp vs H Q E→
   ∃t,PSs (Mq CX0 P w K mg base N qual (defScope st) f cdv A outer s H E).nox (defBody st) t∧t { nx:=fun _ H'=>Q .non H',rt:=Q } (start N vs) H):FnOk P w K mg base CX0 (k+1) f fd ps sp:=by
 obtain⟨oc,od,kV,doc,pm,an,cdv,ct,osl,rfl,lk,hcd⟩:=F.ex
 refine Abr lk hcd S len fun A outer s H vs Q E hr hsp=>?_
 obtain⟨t,h,q⟩:=hbody cdv A outer s H vs Q E hr hsp
 exact⟨t,h.nox,q⟩
theorem Fun.binds{x qual:Str}{st:Stmt}{f:Addr}{fd:FuncData}{ps:List Str}(F:Fun K x qual st f fd)(h:∀(kV doc pm:Value) (an:Option Addr) (cdv ct:Value) (us:List Value),us.length=ps.length→bindArgs (PySem.W.fnOf x qual (defArgs st) (defBody st) (defScope st) .none kV doc pm an cdv ct) ⟨us,[]⟩=pure (ps.zip us)):Binds K fd ps []:=by
 obtain⟨oc,od,kV,doc,pm,an,cdv,ct,osl,rfl,lk,hcd⟩:=F.ex
 exact .all (h kV doc pm an cdv ct)
theorem Qw{x qual:Str}{st:Stmt}{f:Addr}{oc:Value}{od an:Option Addr}{osl:Array (Option Value)}{kV doc pm cdv ct:Value}(l:K.lookup f=some ⟨oc,od,.func (PySem.W.fnOf x qual (defArgs st) (defBody st) (defScope st) .none kV doc pm an cdv ct),osl⟩)(c:PySem.W.codeIn K cdv qual=true)(k:PySem.W.keepIn K (.ref f)=true):Fun K x qual st f (PySem.W.fnOf x qual (defArgs st) (defBody st) (defScope st) .none kV doc pm an cdv ct):=⟨⟨oc,od,kV,doc,pm,an,cdv,ct,osl,rfl,l,c⟩,k⟩
end
theorem Ty{n:Nat}(h:n≤1000):n<sizeLine:=Nat.lt_of_le_of_lt h (by decide)

section
variable{X:Cx}
theorem pv(i:Nat){x:Str}{pos:Pos}(hN:X.N[i]? = some x:=by rfl)(hv:Vis X.env.scope x:=by first|exact Or.inl rfl|exact Or.inr (Or.inl rfl)|exact Or.inr (Or.inr rfl))(hd:(x == ("__debug__" : Str))=false:=by decide)(hcd:(x == ("__classdict__" : Str))=false:=by decide):PE X (.Name x pos) (tVar i):=Wi hN hv hd hcd
end
def Same(H H':Hp):Prop:=∀b o,H b=some o→H' b=some o
theorem Same.trans{H H1 H2:Hp}(a:Same H H1)(b:Same H1 H2):Same H H2:=fun c o h=>b c o (a c o h)
theorem Same.free{H H':Hp}(e:Same H H'){l:Addr}(h:H' l=Option.none):H l=Option.none:=by
 cases q:H l with
 |none=>rfl
 |some o=>
  rw[e l o q] at h
  cases h
section
variable{X:Cx}
end
section
variable{κ:Type}[DecidableEq κ]
end
end L2
namespace D3
open PySem PySem.Spec
open PyProof.Rows hiding St
open L2 hiding St
inductive D where
 |non|bl (b:Bool)|int (i:Int)|str (x:Str)|tup (ds:List D)|ref (a:Addr)|ty (n:String)|lint (ns:List Int)
 deriving Inhabited

def RdI(K:PySem.W.Frag)(H:Hp)(a:Addr)(xs:List V):Prop:=(∃o,H a=some (.frz o (.lst xs)))∨
 ∃(o:Obj) (its:Array Value) (n:Nat),K.lookup a=some o∧o.cls=.type "list"∧o.dict=none∧o.data=.seq its n∧its.size≤sizeLine∧Vals xs its.toList
theorem RdI.sq{K:W.Frag}{H:Hp}{a:Addr}{xs:List V}(h:RdI K H a xs):SqL K H a xs:=h.elim (fun⟨o,e⟩=>.inl (.inr ⟨o,e⟩)) .inr
mutual
inductive DV (K:PySem.W.Frag) (H:Hp):D→V→Prop where
 |non:DV K H .non .non
 |bl (b:Bool):DV K H (.bl b) (.bl b)
 |int (i:Int):DV K H (.int i) (.int i)
 |str (x:Str):DV K H (.str x) (.str x)
 |ref (a:Addr):DV K H (.ref a) (.ref a)
 |ty (n:String):DV K H (.ty n) (.ty n)
 |lint {ns:List Int} {a:Addr} (e:RdI K H a (ns.map V.int)):DV K H (.lint ns) (.ref a)
 |tup {ds:List D} {a:Addr} {xs:List V} (e:H a=some (.tup xs)) (r:DVs K H ds xs):DV K H (.tup ds) (.ref a)
inductive DVs (K:PySem.W.Frag) (H:Hp):List D→List V→Prop where
 |nil:DVs K H [] []
 |cons {d:D} {v:V} {ds:List D} {vs:List V} (h:DV K H d v) (t:DVs K H ds vs):DVs K H (d::ds) (v::vs)
end
structure Ext(H H':Hp):Prop where
 tup:∀b xs,H b=some (.tup xs)→H' b=some (.tup xs)
 frz:∀b o u,H b=some (.frz o u)→H' b=some (.frz o u)
theorem Ext.refl(H:Hp):Ext H H:=⟨fun _ _ h=>h,fun _ _ _ h=>h⟩
theorem Ext.trans{H H1 H2:Hp}(a:Ext H H1)(b:Ext H1 H2):Ext H H2:=⟨fun c xs h=>b.tup c xs (a.tup c xs h),fun c o u h=>b.frz c o u (a.frz c o u h)⟩
theorem Ext.fresh{H:Hp}{p:Addr}{o:HO}(h:H p=none):Ext H (upd H p o):=⟨fun b xs e=>by
 rw[Af (Ax e h)];exact e,fun b ob u e=>by rw[Af (Ax e h)];exact e⟩
theorem Ext.write{H:Hp}{p:Addr}{o u:HO}(h:H p=some u)(n:∀xs,u≠.tup xs)(m:∀ob w,u≠.frz ob w):Ext H (upd H p o):=⟨fun b xs e=>by
 rw[Af (Ej e h fun z=>n xs z.symm)];exact e,fun b ob w e=>by rw[Af (Ej e h fun z=>m ob w z.symm)];exact e⟩
theorem RdI.ext{K:W.Frag}{H H':Hp}{a:Addr}{xs:List V}(h:RdI K H a xs)(x:Ext H H'):RdI K H' a xs:=h.elim (fun⟨o,e⟩=>.inl ⟨o,x.frz _ _ _ e⟩) .inr
section
variable{K:W.Frag}
mutual
theorem DV.ext{H H':Hp}(x:Ext H H'):∀{d:D} {v:V},DV K H d v→DV K H' d v
 |_,_,.non=>.non
 |_,_,.bl b=>.bl b
 |_,_,.int i=>.int i
 |_,_,.str s=>.str s
 |_,_,.ref a=>.ref a
 |_,_,.ty n=>.ty n
 |_,_,.lint e=>.lint (e.ext x)
 |_,_,.tup e r=>.tup (x.tup _ _ e) (DVs.ext x r)
theorem DVs.ext{H H':Hp}(x:Ext H H'):∀{ds:List D} {vs:List V},DVs K H ds vs→DVs K H' ds vs
 |_,_,.nil=>.nil
 |_,_,.cons h t=>.cons (DV.ext x h) (DVs.ext x t)
end
theorem DVs.length{H:Hp}:∀{ds:List D} {vs:List V},DVs K H ds vs→ds.length=vs.length
 |_,_,.nil=>rfl
 |_,_,.cons _ t=>congrArg (· + 1) t.length
theorem DVs.get{H:Hp}:∀{ds:List D} {vs:List V} {i:Nat} {d:D},DVs K H ds vs→ds[i]? = some d→∃v,vs[i]? = some v∧DV K H d v
 |_,_,_,_,.nil,e=>by simp at e
 |_,_,0,_,.cons h _,e=>by simp at e;subst e;exact⟨_,rfl,h⟩
 |_,_,i+1,d,.cons _ t,e=>by
  obtain⟨v,h1,h2⟩:=DVs.get (i:=i) (d:=d) t (by simpa using e)
  exact⟨v,by simpa using h1,h2⟩
theorem DVs.get'{H:Hp}:∀{ds:List D} {vs:List V} {i:Nat} {v:V},DVs K H ds vs→vs[i]? = some v→∃d,ds[i]? = some d∧DV K H d v
 |_,_,_,_,.nil,e=>by simp at e
 |_,_,0,_,.cons h _,e=>by simp at e;subst e;exact⟨_,rfl,h⟩
 |_,_,i+1,d,.cons _ t,e=>by
  obtain⟨v,h1,h2⟩:=DVs.get' (i:=i) (v:=d) t (by simpa using e)
  exact⟨v,by simpa using h1,h2⟩
theorem DVs.append{H:Hp}:∀{ds es:List D} {vs ws:List V},DVs K H ds vs→DVs K H es ws→DVs K H (ds++es) (vs++ws)
 |_,_,_,_,.nil,s=>s
 |_,_,_,_,.cons h t,s=>.cons h (t.append s)
theorem DVs.set{H:Hp}{d:D}{v:V}(r:DV K H d v):∀{ds:List D} {vs:List V} (i:Nat),DVs K H ds vs→DVs K H (ds.set i d) (vs.set i v)
 |_,_,_,.nil=>.nil
 |_,_,0,.cons _ t=>.cons r t
 |_,_,i+1,.cons h t=>.cons h (DVs.set r i t)
theorem DVs.take{H:Hp}:∀{ds:List D} {vs:List V} (n:Nat),DVs K H ds vs→DVs K H (ds.take n) (vs.take n)
 |_,_,0,_=>.nil
 |_,_,_+1,.nil=>.nil
 |_,_,n+1,.cons h t=>.cons h (t.take n)
theorem DVs.drop{H:Hp}:∀{ds:List D} {vs:List V} (n:Nat),DVs K H ds vs→DVs K H (ds.drop n) (vs.drop n)
 |_,_,0,r=>r
 |_,_,_+1,.nil=>.nil
 |_,_,n+1,.cons _ t=>t.drop n
theorem DVs.ints{H:Hp}:∀{ns:List Int},DVs K H (ns.map D.int) (ns.map V.int)
 |[]=>.nil
 |_::_=>.cons (.int _) DVs.ints
theorem DVs.one{H:Hp}{d:D}{vs:List V}(r:DVs K H [d] vs):∃v,vs=[v]∧DV K H d v:=by
 cases r with|cons h t=>cases t;exact⟨_,rfl,h⟩
theorem DVs.two{H:Hp}{d e:D}{vs:List V}(r:DVs K H [d,e] vs):∃v w,vs=[v,w]∧DV K H d v∧DV K H e w:=by
 cases r with|cons h t=>cases t with|cons h' t'=>cases t';exact⟨_,_,rfl,h,h'⟩

end
inductive GO where
 |lst (ds:List D)
 |dct (kvs:List (List Key×D))
 |dkk (kvs:List (Key×D))
 /-- an instance of the class at C,its attributes -/
 |ins (C:Addr) (fs:List (Str×D))
 /-- the codes that were made within a def;q: how they are called -/
 |tbl (q:Str)
abbrev Gp:=Addr→Option GO
def Ab(G:Gp)(a:Addr)(o:GO):Gp:=fun b=>if b=a then some o else G b
theorem Aa{G:Gp}{a:Addr}{o:GO}:Ab G a o a=some o:=if_pos rfl
theorem Ae{G:Gp}{a b:Addr}{o:GO}(h:b≠a):Ab G a o b=G b:=if_neg h
theorem As{G:Gp}{a:Addr}{o u:GO}:Ab (Ab G a o) a u=Ab G a u:=by
 funext b;unfold Ab;split<;>rfl
theorem gne{G:Gp}{a b:Addr}{o:GO}(h:G a=some o)(h':G b=none):a≠b:=by
 intro e;subst e;rw[h] at h';cases h'

def W1(o:Obj)(q:Str):Prop:=∃vs t,o.data=.fields vs∧vs[1]? = some (.str q t)
def GOk(K:PySem.W.Frag)(H:Hp)(a:Addr):GO→Prop
 |.lst ds=>∃xs,H a=some (.lst xs)∧DVs K H ds xs
 |.dct kvs=>∃ks,H a=some (.dT ks)∧Paired (fun(p:List Key×D) (q:List Key×V)=>p.1=q.1∧DV K H p.2 q.2) kvs ks
 |.dkk kvs=>∃ks,H a=some (.dK ks)∧Paired (fun(p:Key×D) (q:Key×V)=>p.1=q.1∧DV K H p.2 q.2) kvs ks
 |.ins C fs=>∃dx ks,H a=some (.ins C dx ks)∧Paired (fun(p:Str×D) (q:Str×V)=>p.1=q.1∧DV K H p.2 q.2) fs ks
 |.tbl q=>∃ps,H a=some (.tbl ps)∧TriplesOk ps.toList∧∀pos cv,codeAmong pos ps.toList=some cv→∃c o u,cv=.ref c∧H c=some (.frz o u)∧W1 o q
def RelG(K:PySem.W.Frag)(H:Hp)(G:Gp):Prop:=∀a o,G a=some o→GOk K H a o

theorem GOk.upd{K:W.Frag}{H:Hp}{a p:Addr}{o:GO}{u:HO}(h:GOk K H a o)(x:Ext H (L2.upd H p u))(n:H p=none∨a≠p):GOk K (L2.upd H p u) a o:=by
 have ne:∀u,H a=some u→a≠p:=fun u e=>n.elim (fun z=>Ax e z) id
 cases o with
 |lst ds=>obtain⟨xs,e,r⟩:=h;exact⟨xs,by rw[Af (ne _ e)];exact e,r.ext x⟩
 |dct kvs=>obtain⟨ks,e,r⟩:=h;exact⟨ks,by rw[Af (ne _ e)];exact e,L2.Paired.mapP r fun _ _ z=>⟨z.1,z.2.ext x⟩⟩
 |dkk kvs=>obtain⟨ks,e,r⟩:=h;exact⟨ks,by rw[Af (ne _ e)];exact e,L2.Paired.mapP r fun _ _ z=>⟨z.1,z.2.ext x⟩⟩
 |ins C fs=>obtain⟨dx,ks,e,r⟩:=h;exact⟨dx,ks,by rw[Af (ne _ e)];exact e,L2.Paired.mapP r fun _ _ z=>⟨z.1,z.2.ext x⟩⟩
 |tbl q=>obtain⟨ps,e,t,r⟩:=h;exact⟨ps,by rw[Af (ne _ e)];exact e,t,fun pos cv h1=>let ⟨c,o,u,a1,a2,a3⟩:=r pos cv h1;⟨c,o,u,a1,x.frz _ _ _ a2,a3⟩⟩
theorem RelG.free{K:W.Frag}{H:Hp}{G:Gp}(r:RelG K H G){p:Addr}(h:H p=none):G p=none:=by
 cases q:G p with
 |none=>rfl
 |some o=>
  have z:=r p o q
  cases o with
  |lst ds=>obtain⟨_,e,_⟩:=z;rw[h] at e;cases e
  |dct ds=>obtain⟨_,e,_⟩:=z;rw[h] at e;cases e
  |dkk ds=>obtain⟨_,e,_⟩:=z;rw[h] at e;cases e
  |ins C fs=>obtain⟨_,_,e,_⟩:=z;rw[h] at e;cases e
  |tbl q=>obtain⟨_,e,_⟩:=z;rw[h] at e;cases e
theorem RelG.tup{K:W.Frag}{H:Hp}{G:Gp}(r:RelG K H G){p:Addr}{u:HO}(h:H p=none):RelG K (upd H p u) G:=fun a o e=>(r a o e).upd (Ext.fresh h) (.inl h)
theorem RelG.ext'{K:W.Frag}{H:Hp}{G G':Gp}(r:RelG K H G)(s:∀a o,G' a=some o→G a=some o):RelG K H G':=fun a o e=>r a o (s a o e)

abbrev DSt:=List (Option D)
abbrev St:=L2.St
def RelS(K:PySem.W.Frag)(H:Hp)(σD:DSt)(σ:St):Prop:=σD.length=σ.length∧∀(i:Nat) d,σD[i]? = some (some d)→∃v,σ[i]? = some (some v)∧DV K H d v
theorem RelS.ext{K:W.Frag}{H H':Hp}{σD:DSt}{σ:St}(r:RelS K H σD σ)(x:Ext H H'):RelS K H' σD σ:=⟨r.1,fun i d e=>let ⟨v,h1,h2⟩:=r.2 i d e;⟨v,h1,h2.ext x⟩⟩
theorem RelS.set{K:W.Frag}{H:Hp}{σD:DSt}{σ:St}(r:RelS K H σD σ){d:D}{v:V}(h:DV K H d v)(i:Nat):RelS K H (σD.set i (some d)) (σ.set i (some v)):=by
 refine⟨by rw[List.length_set,List.length_set];exact r.1,fun j e q=>?_⟩
 by_cases hj:i=j
 ·subst hj
  rw[List.getElem?_set] at q ⊢
  rw[if_pos rfl] at q ⊢
  have hl:=r.1
  split at q
  ·rename_i hi
   cases q
   exact⟨v,by rw[if_pos (by omega)],h⟩
  ·cases q
 ·rw[List.getElem?_set_ne hj] at q ⊢
  exact r.2 j e q

abbrev DK:=D→Gp→Prop
abbrev DTE:=DSt→Gp→DK→Prop
abbrev DTT:=DSt→Gp→(Bool→Gp→Prop)→Prop
abbrev DTA:=DSt→Gp→(List D→Gp→Prop)→Prop
structure DEnds where
 nx:DSt→Gp→Prop
 rt:DK
 bk:DSt→Gp→Prop:=fun _ _=>False
 ct:DSt→Gp→Prop:=fun _ _=>False
abbrev DTS:=DEnds→DSt→Gp→Prop

def Fwd(K:PySem.W.Frag)(H:Hp)(G':Gp)(Q:Hp→Prop):Prop:=∀H',Ext H H'→RelG K H' G'→Q H'
theorem Fwd.go{K:W.Frag}{H H1:Hp}{G':Gp}{Q:Hp→Prop}(f:Fwd K H G' Q)(x:Ext H H1):Fwd K H1 G' Q:=fun H' y r=>f H' (x.trans y) r

def B5(K:PySem.W.Frag)(t:DTE):TE:=fun σ H Q=>∃σD G Q',RelS K H σD σ∧RelG K H G∧t σD G Q'∧∀d G',Q' d G'→Fwd K H G' fun H'=>∀v,DV K H' d v→Q v H'
def Ef(K:PySem.W.Frag)(t:DTT):TT:=fun σ H Q=>∃σD G Q',RelS K H σD σ∧RelG K H G∧t σD G Q'∧∀b G',Q' b G'→Fwd K H G' fun H'=>Q b H'
def Abp(K:PySem.W.Frag)(t:DTA):TA:=fun σ H Q=>∃σD G Q',RelS K H σD σ∧RelG K H G∧t σD G Q'∧∀ds G',Q' ds G'→Fwd K H G' fun H'=>∀vs,DVs K H' ds vs→Q vs H'
structure DEnds.Reach(K:PySem.W.Frag)(H:Hp)(D:DEnds)(E:Ends):Prop where
 nx:∀σD G',D.nx σD G'→Fwd K H G' fun H'=>∀σ,RelS K H' σD σ→E.nx σ H'
 rt:∀d G',D.rt d G'→Fwd K H G' fun H'=>∀v,DV K H' d v→E.rt v H'
 bk:∀σD G',D.bk σD G'→Fwd K H G' fun H'=>∀σ,RelS K H' σD σ→E.bk σ H'
 ct:∀σD G',D.ct σD G'→Fwd K H G' fun H'=>∀σ,RelS K H' σD σ→E.ct σ H'
theorem DEnds.Reach.go{K:W.Frag}{H H1:Hp}{D:DEnds}{E:Ends}(r:D.Reach K H E)(x:Ext H H1):D.Reach K H1 E:=
 ⟨fun σ G h=>(r.nx σ G h).go x,fun d G h=>(r.rt d G h).go x,fun σ G h=>(r.bk σ G h).go x,fun σ G h=>(r.ct σ G h).go x⟩
def Ih(K:PySem.W.Frag)(t:DTS):TS:=fun E σ H=>∃σD G D,RelS K H σD σ∧RelG K H G∧t D σD G∧D.Reach K H E

def QE(X:Cx)(e:Expr)(t:DTE):Prop:=PE X e (B5 X.K t)
def QT(X:Cx)(e:Expr)(t:DTT):Prop:=PT X e (Ef X.K t)
def QW(X:Cx)(e:Expr)(t:DTT):Prop:=PW X e (Ef X.K t)
def QA(X:Cx)(es:List Expr)(t:DTA):Prop:=PA X es (Abp X.K t)
def QS(X:Cx)(s:Stmt)(t:DTS):Prop:=PS X s (Ih X.K t)
def QSs(X:Cx)(s:List Stmt)(t:DTS):Prop:=PSs X s (Ih X.K t)

theorem _root_.L2.PE.imp{X:Cx}{e:Expr}{t t':TE}(h:PE X e t)(f:∀σ H Q,t' σ H Q→t σ H Q):PE X e t':=fun pins s σ H Q I q=>h pins s σ H Q I (f σ H Q q)
theorem _root_.L2.PT.imp{X:Cx}{e:Expr}{t t':TT}(h:PT X e t)(f:∀σ H Q,t' σ H Q→t σ H Q):PT X e t':=fun pins s σ H Q I q=>h pins s σ H Q I (f σ H Q q)
theorem _root_.L2.PW.imp{X:Cx}{e:Expr}{t t':TT}(h:PW X e t)(f:∀σ H Q,t' σ H Q→t σ H Q):PW X e t':=fun w pins s σ H Q I q=>h w pins s σ H Q I (f σ H Q q)
theorem _root_.L2.PA.imp{X:Cx}{e:List Expr}{t t':TA}(h:PA X e t)(f:∀σ H Q,t' σ H Q→t σ H Q):PA X e t':=fun p pins s σ H Q I q=>h p pins s σ H Q I (f σ H Q q)
theorem _root_.L2.PS.imp{X:Cx}{e:Stmt}{t t':TS}(h:PS X e t)(f:∀D σ H,t' D σ H→t D σ H):PS X e t':=fun pins s σ H D I q=>h pins s σ H D I (f D σ H q)
theorem _root_.L2.PSs.imp{X:Cx}{e:List Stmt}{t t':TS}(h:PSs X e t)(f:∀D σ H,t' D σ H→t D σ H):PSs X e t':=fun pins s σ H D I q=>h pins s σ H D I (f D σ H q)

section
variable{X:Cx}{a b c e:Expr}{ta tb tc te:DTE}{pos:Pos}
def Am(i:Nat):DTE:=fun σ G Q=>∃d,σ[i]? = some (some d)∧Q d G
def nC(d:D):DTE:=fun _ G Q=>Q d G
theorem Abd{i:Nat}{x:Str}(hN:X.N[i]? = some x:=by rfl)(hv:Vis X.env.scope x:=by first|exact Or.inl rfl|exact Or.inr (Or.inl rfl)|exact Or.inr (Or.inr rfl))(hd:(x == ("__debug__" : Str))=false:=by decide)(hcd:(x == ("__classdict__" : Str))=false:=by decide):QE X (.Name x pos) (Am i):=(Wi hN hv hd hcd).imp fun σ H Q ⟨σD,G,Q',rs,rg,⟨d,e,q⟩,cl⟩=>by
 obtain⟨v,e1,r⟩:=rs.2 i d e
 exact⟨v,e1,cl d G q H (Ext.refl H) rg v r⟩
theorem Lw{v:V}{d:D}(h:PE X e (tC v))(r:∀H,DV X.K H d v):QE X e (nC d):=h.imp fun σ H Q ⟨σD,G,Q',rs,rg,q,cl⟩=>cl d G q H (Ext.refl H) rg v (r H)
theorem q_int{i j pos}:QE X (.Constant (.int i) j pos) (nC (.int i)):=Lw Ac9 fun _=>.int i
theorem q_bl{b j pos}:QE X (.Constant (.bool b) j pos) (nC (.bl b)):=Lw pe_bl fun _=>.bl b
theorem Jw{x j pos}:QE X (.Constant (.str x) j pos) (nC (.str x)):=Lw Ac3 fun _=>.str x
theorem Aco{x:Str}{i:Int}{t:Tok}(hm:X.mg x=some (.int i t))(hg:Gl X x:=by rfl)(hd:(x == ("__debug__" : Str))=false:=by decide):QE X (.Name x pos) (nC (.int i)):=Lw (v:=.int i) (S0 hg hm ⟨t,rfl⟩ hd) fun _=>.int i
theorem q_globty{x:Str}{n:String}(hm:X.mg x=none)(hv:bootBuiltins x=some (.type n))(hg:Gl X x:=by rfl)(hn:x≠"__name__":=by decide)(hd:(x == ("__debug__" : Str))=false:=by decide):QE X (.Name x pos) (nC (.ty n)):=
 Lw (v:=.ty n) (Z5 hg hm hv rfl hn hd) fun _=>.ty n

abbrev DR2:=D→D→Gp→DK→Prop
def Lx(K:PySem.W.Frag)(r:DR2):R2:=fun x y H Q=>∃dx dy G Q',DV K H dx x∧DV K H dy y∧RelG K H G∧r dx dy G Q'∧∀d G',Q' d G'→Fwd K H G' fun H'=>∀v,DV K H' d v→Q v H'
def QOp(X:Cx)(f:Value→Value→Sem Value)(r:DR2):Prop:=OpR X f (Lx X.K r)
theorem _root_.L2.OpR.imp{f:Value→Value→Sem Value}{r r':R2}(h:OpR X f r)(g:∀x y H Q,r' x y H Q→r x y H Q):OpR X f r':=fun pins s σ H x y v u Q I rx ry q=>h pins s σ H x y v u Q I rx ry (g x y H Q q)
def nOp(r:DR2)(ta tb:DTE):DTE:=fun σ G Q=>ta σ G fun x G1=>tb σ G1 fun y G2=>r x y G2 Q
theorem Jq{K:W.Frag}{r:DR2}{σ:St}{H:Hp}{Q:VK}(h:B5 K (nOp r ta tb) σ H Q):tOp (Lx K r) (B5 K ta) (B5 K tb) σ H Q:=by
 obtain⟨σD,G,Q',rs,rg,h,cl⟩:=h
 refine⟨σD,G,_,rs,rg,h,fun x G1 h1 H1 x1 rg1 v1 d1=>?_⟩
 refine⟨σD,G1,_,rs.ext x1,rg1,h1,fun y G2 h2 H2 x2 rg2 v2 d2=>?_⟩
 exact⟨x,y,G2,Q',d1.ext x2,d2,rg2,h2,fun d G' q=>(cl d G' q).go (x1.trans x2)⟩
theorem q_op{op:Operator}{r:DR2}(ho:QOp X (binaryOp op) r)(ha:QE X a ta)(hb:QE X b tb):QE X (.BinOp a op b pos) (nOp r ta tb):=(pe_op ho ha hb).imp fun _ _ _ h=>Jq h
def dI(C:Int→Int→Prop)(g:Int→Int→D):DR2:=fun x y G Q=>∃i,x=.int i∧∃j,y=.int j∧C i j∧Q (g i j) G
def dI0(g:Int→Int→D):DR2:=fun x y G Q=>∃i,x=.int i∧∃j,y=.int j∧Q (g i j) G
theorem Vy{f:Value→Value→Sem Value}{C:Int→Int→Prop}{g:Int→Int→V}{g':Int→Int→D}(h:OpR X f (rI C g))(e:∀H i j,DV X.K H (g' i j) (g i j)):QOp X f (dI C g'):=L2.OpR.imp h fun x y H Q ⟨dx,dy,G,Q',hx,hy,rg,⟨i,ei,j,ej,c,q⟩,cl⟩=>by
 subst ei ej
 cases hx;cases hy
 exact⟨i,j,rfl,rfl,c,cl _ G q H (Ext.refl H) rg _ (e H i j)⟩
theorem My{f:Value→Value→Sem Value}{g:Int→Int→V}{g':Int→Int→D}(h:OpR X f (rI0 g))(e:∀H i j,DV X.K H (g' i j) (g i j)):QOp X f (dI0 g'):=L2.OpR.imp h fun x y H Q ⟨dx,dy,G,Q',hx,hy,rg,⟨i,ei,j,ej,q⟩,cl⟩=>by
 subst ei ej
 cases hx;cases hy
 exact⟨i,j,rfl,rfl,cl _ G q H (Ext.refl H) rg _ (e H i j)⟩
theorem C8:QOp X (binaryOp .Sub) (dI0 fun i j=>.int (i-j)):=My Adc fun _ _ _=>.int _
theorem F0:QOp X (binaryOp .Mult) (dI CMul fun i j=>.int (i*j)):=Vy Adf fun _ _ _=>.int _
theorem Qt:QOp X (binaryOp .FloorDiv) (dI Qf fun i j=>.int (i / j)):=Vy Z6 fun _ _ _=>.int _
theorem N8:QOp X (binaryOp .Mod) (dI (fun _ j=>0<j) fun i j=>.int (i % j)):=Vy Adg fun _ _ _=>.int _
theorem o_lt:QOp X (compareOp .Lt) (dI0 fun i j=>.bl (decide (i<j))):=My op_lt fun _ _ _=>.bl _
theorem o_le:QOp X (compareOp .LtE) (dI0 fun i j=>.bl (decide (i≤j))):=My op_le fun _ _ _=>.bl _
theorem Za:QOp X (compareOp .Gt) (dI0 fun i j=>.bl (decide (j<i))):=My op_gt fun _ _ _=>.bl _
end
end D3
namespace D3
open PySem PySem.Spec
open PyProof.Rows hiding St
open L2 hiding St
section
variable{K:W.Frag}
theorem RelG.lst{H:Hp}{G:Gp}(r:RelG K H G){p:Addr}{ds:List D}{xs:List V}(hp:H p=none)(rv:DVs K H ds xs):RelG K (upd H p (.lst xs)) (Ab G p (.lst ds)):=fun a o e=>by
 by_cases h:a=p
 ·subst h
  rw[Aa] at e;cases e
  exact⟨xs,Ak,rv.ext (Ext.fresh hp)⟩
 ·rw[Ae h] at e
  exact(r a o e).upd (Ext.fresh hp) (.inl hp)
theorem E4{H:Hp}{p:Addr}{xs:List V}{o:HO}(h:H p=some (.lst xs)):Ext H (upd H p o):=Ext.write h (fun _ z=>nomatch z) fun _ _ z=>nomatch z
theorem RelG.lstw{H:Hp}{G:Gp}(r:RelG K H G){p:Addr}{ds:List D}{xs ys:List V}(hp:H p=some (.lst ys))(rv:DVs K H ds xs):RelG K (upd H p (.lst xs)) (Ab G p (.lst ds)):=fun a o e=>by
 by_cases h:a=p
 ·subst h
  rw[Aa] at e;cases e
  exact⟨xs,Ak,rv.ext (E4 hp)⟩
 ·rw[Ae h] at e
  exact(r a o e).upd (E4 hp) (.inr h)
end
section
variable{X:Cx}{a b c e:Expr}{ta tb tc te:DTE}{pos:Pos}
def Bw(t:DTE):DTT:=fun σ G Q=>t σ G fun x G'=>∃k,x=.bl k∧Q k G'
theorem Mb{K:W.Frag}{t:DTE}{σ:St}{H:Hp}{Q:Bool→Hp→Prop}(h:Ef K (Bw t) σ H Q):B5 K t σ H fun x H'=>∃k,x=.bl k∧Q k H':=by
 obtain⟨σD,G,Q',rs,rg,h,cl⟩:=h
 refine⟨σD,G,_,rs,rg,h,fun d G' ⟨k,ek,q⟩ H' x r v dv=>?_⟩
 subst ek;cases dv
 exact⟨k,rfl,cl k G' q H' x r⟩
theorem q_cmp{op:CmpOp}{r:DR2}(ho:QOp X (compareOp op) r)(ha:QE X a ta)(hb:QE X b tb)(hm:behindInMarks op b=false):QE X (.Compare a [op] [b] pos) (nOp r ta tb):=(Z3 ho ha hb hm).imp fun _ _ _ h=>Jq h
theorem qt_cmp{op:CmpOp}{r:DR2}(ho:QOp X (compareOp op) r)(ha:QE X a ta)(hb:QE X b tb)(hm:behindInMarks op b=false):QT X (.Compare a [op] [b] pos) (Bw (nOp r ta tb)):=
 (Zr ho ha hb hm).imp fun _ _ _ h=>Jq (Mb h)
def D7(r r':DR2)(ta tb tc:DTE):DTE:=fun σ G Q=>ta σ G fun x G1=>tb σ G1 fun y G2=>r x y G2 fun z G3=>∃k,z=.bl k∧
 (if k=true then tc σ G3 fun w' G4=>r' y w' G4 Q else Q (.bl false) G3)
theorem Kt{K:W.Frag}{r r':DR2}{σ:St}{H:Hp}{Q:VK}(h:B5 K (D7 r r' ta tb tc) σ H Q):Qh (Lx K r) (Lx K r') (B5 K ta) (B5 K tb) (B5 K tc) σ H Q:=by
 obtain⟨σD,G,Q',rs,rg,h,cl⟩:=h
 refine⟨σD,G,_,rs,rg,h,fun x G1 h1 H1 x1 rg1 v1 d1=>?_⟩
 refine⟨σD,G1,_,rs.ext x1,rg1,h1,fun y G2 h2 H2 x2 rg2 v2 d2=>?_⟩
 refine⟨x,y,G2,_,d1.ext x2,d2,rg2,h2,fun z G3 h3 H3 x3 rg3 v3 d3=>?_⟩
 obtain⟨k,ek,h3⟩:=h3
 subst ek;cases d3
 refine⟨k,rfl,?_⟩
 cases k with
 |true=>
  rw[if_pos rfl] at h3 ⊢
  refine⟨σD,G3,_,rs.ext (x1.trans (x2.trans x3)),rg3,h3,fun w4 G4 h4 H4 x4 rg4 v4 d4=>?_⟩
  exact⟨y,w4,G4,Q',d2.ext (x3.trans x4),d4,rg4,h4,fun d G' q=>(cl d G' q).go (x1.trans (x2.trans (x3.trans x4)))⟩
 |false=>
  rw[if_neg Bool.false_ne_true] at h3 ⊢
  exact cl _ G3 h3 H3 (x1.trans (x2.trans x3)) rg3 _ (.bl false)
theorem Zp{op op':CmpOp}{r r':DR2}(ho:QOp X (compareOp op) r)(ho':QOp X (compareOp op') r')(ha:QE X a ta)(hb:QE X b tb)(hc:QE X c tc)(hm:lastMarks [op,op'] [b,c]=false:=by with_unfolding_all rfl):QE X (.Compare a [op,op'] [b,c] pos) (D7 r r' ta tb tc):=(Xy ho ho' ha hb hc hm).imp fun _ _ _ h=>Kt h
theorem qt_chain{op op':CmpOp}{r r':DR2}(ho:QOp X (compareOp op) r)(ho':QOp X (compareOp op') r')(ha:QE X a ta)(hb:QE X b tb)(hc:QE X c tc)(hm:lastMarks [op,op'] [b,c]=false:=by with_unfolding_all rfl):QT X (.Compare a [op,op'] [b,c] pos) (Bw (D7 r r' ta tb tc)):=(Xo ho ho' ha hb hc hm).imp fun _ _ _ h=>Kt (Mb h)

def eqS:D→D→Option Bool
 |.int i,.int j=>some (decide (i=j))
 |.bl i,.bl j=>some (decide (i=j))
 |.str i,.str j=>some (decide (i=j))
 |.non,.non=>some true
 |.non,.int _=>some false|.int _,.non=>some false|.non,.bl _=>some false|.bl _,.non=>some false|.non,.str _=>some false|.str _,.non=>some false
 |.int _,.str _=>some false|.str _,.int _=>some false|.bl _,.str _=>some false|.str _,.bl _=>some false
 |_,_=>none
theorem O3{H:Hp}{K:W.Frag}{x y:D}{v u:V}{k:Bool}(h:eqS x y=some k)(hx:DV K H x v)(hy:DV K H y u):scal v u=true∧decide (v=u)=k:=by
 cases hx<;>cases hy<;>simp only[eqS,Option.some.injEq,reduceCtorEq] at h<;>subst h<;>refine⟨rfl,?_⟩<;>simp
def dEq:DR2:=fun x y G Q=>∃k,eqS x y=some k∧Q (.bl k) G
def dNe:DR2:=fun x y G Q=>∃k,eqS x y=some k∧Q (.bl (!k)) G
theorem o_eq:QOp X (compareOp .Eq) dEq:=L2.OpR.imp op_eq fun x y H Q ⟨dx,dy,G,Q',hx,hy,rg,⟨k,ek,q⟩,cl⟩=>by
 obtain⟨h1,h2⟩:=O3 ek hx hy
 refine⟨h1,?_⟩
 rw[h2]
 exact cl _ G q H (Ext.refl H) rg _ (.bl k)
theorem o_ne:QOp X (compareOp .NotEq) dNe:=L2.OpR.imp op_ne fun x y H Q ⟨dx,dy,G,Q',hx,hy,rg,⟨k,ek,q⟩,cl⟩=>by
 obtain⟨h1,h2⟩:=O3 ek hx hy
 refine⟨h1,?_⟩
 rw[h2]
 exact cl _ G q H (Ext.refl H) rg _ (.bl (!k))
variable{t u:DTT}{rest:List Expr}
def Vs(t u:DTT):DTT:=fun σ G Q=>t σ G fun c G1=>if c=true then u σ G1 Q else Q false G1
def nOr(t u:DTT):DTT:=fun σ G Q=>t σ G fun c G1=>if c=true then Q true G1 else u σ G1 Q
def Dh(t:DTT):DTT:=fun σ G Q=>t σ G fun c G1=>Q (!c) G1
theorem qw_and1(ha:QT X a t):QW X (.BoolOp .And [a] pos) t:=Zq ha
theorem qw_or1(ha:QT X a t):QW X (.BoolOp .Or [a] pos) t:=Acp ha
theorem qw_and(ha:QT X a t)(hb:QW X (.BoolOp .And (b::rest) pos) u):QW X (.BoolOp .And (a::b::rest) pos) (Vs t u):=(Acq ha hb).imp fun σ H Q ⟨σD,G,Q',rs,rg,h,cl⟩=>by
 refine⟨σD,G,_,rs,rg,h,fun k G1 h1 H1 x1 rg1=>?_⟩
 cases k with
 |true=>rw[if_pos rfl] at h1 ⊢;exact⟨σD,G1,Q',rs.ext x1,rg1,h1,fun b G' q=>(cl b G' q).go x1⟩
 |false=>rw[if_neg Bool.false_ne_true] at h1 ⊢;exact cl _ G1 h1 H1 x1 rg1
theorem Dt(ha:QT X a t)(hb:QW X (.BoolOp .Or (b::rest) pos) u):QW X (.BoolOp .Or (a::b::rest) pos) (nOr t u):=(pw_or ha hb).imp fun σ H Q ⟨σD,G,Q',rs,rg,h,cl⟩=>by
 refine⟨σD,G,_,rs,rg,h,fun k G1 h1 H1 x1 rg1=>?_⟩
 cases k with
 |true=>rw[if_pos rfl] at h1 ⊢;exact cl _ G1 h1 H1 x1 rg1
 |false=>rw[if_neg Bool.false_ne_true] at h1 ⊢;exact⟨σD,G1,Q',rs.ext x1,rg1,h1,fun b G' q=>(cl b G' q).go x1⟩
theorem qt_of(h:QW X e t):QT X e t:=h.pt
theorem qt_not(ha:QT X a t):QT X (.UnaryOp .Not a pos) (Dh t):=(Acr ha).imp fun σ H Q ⟨σD,G,Q',rs,rg,h,cl⟩=>
 ⟨σD,G,_,rs,rg,h,fun k G1 h1 H1 x1 rg1=>cl _ G1 h1 H1 x1 rg1⟩
def Se(ta tb:DTE):DTE:=fun σ G Q=>ta σ G fun x G1=>∃c,x=.bl c∧if c=true then tb σ G1 Q else Q (.bl false) G1
def Abk(ta:DTE):DTE:=fun σ G Q=>ta σ G fun x G1=>∃c,x=.bl c∧Q (.bl (!c)) G1
theorem q_one{op}(h:QE X a ta):QE X (.BoolOp op [a] pos) ta:=Ac4 h
theorem q_and(ha:QE X a ta)(hb:QE X (.BoolOp .And (b::rest) pos) tb):QE X (.BoolOp .And (a::b::rest) pos) (Se ta tb):=(Adb ha hb).imp fun σ H Q ⟨σD,G,Q',rs,rg,h,cl⟩=>by
 refine⟨σD,G,_,rs,rg,h,fun d G1 ⟨k,ek,h1⟩ H1 x1 rg1 v dv=>?_⟩
 subst ek;cases dv
 refine⟨k,rfl,?_⟩
 cases k with
 |true=>rw[if_pos rfl] at h1 ⊢;exact⟨σD,G1,Q',rs.ext x1,rg1,h1,fun b G' q=>(cl b G' q).go x1⟩
 |false=>rw[if_neg Bool.false_ne_true] at h1 ⊢;exact cl _ G1 h1 H1 x1 rg1 _ (.bl false)
theorem q_not(ha:QE X a ta):QE X (.UnaryOp .Not a pos) (Abk ta):=(Ac5 ha).imp fun σ H Q ⟨σD,G,Q',rs,rg,h,cl⟩=>by
 refine⟨σD,G,_,rs,rg,h,fun d G1 ⟨k,ek,h1⟩ H1 x1 rg1 v dv=>?_⟩
 subst ek;cases dv
 exact⟨k,rfl,cl _ G1 h1 H1 x1 rg1 _ (.bl _)⟩
def nIf(t:DTT)(ta tb:DTE):DTE:=fun σ G Q=>t σ G fun c G1=>if c=true then ta σ G1 Q else tb σ G1 Q
theorem M3(hc:QT X c t)(ha:QE X a ta)(hb:QE X b tb):QE X (.IfExp c a b pos) (nIf t ta tb):=(Xx hc ha hb).imp fun σ H Q ⟨σD,G,Q',rs,rg,h,cl⟩=>by
 refine⟨σD,G,_,rs,rg,h,fun k G1 h1 H1 x1 rg1=>?_⟩
 cases k with
 |true=>rw[if_pos rfl] at h1 ⊢;exact⟨σD,G1,Q',rs.ext x1,rg1,h1,fun b G' q=>(cl b G' q).go x1⟩
 |false=>rw[if_neg Bool.false_ne_true] at h1 ⊢;exact⟨σD,G1,Q',rs.ext x1,rg1,h1,fun b G' q=>(cl b G' q).go x1⟩
def Y7(G:Gp):D→Option Bool
 |.non=>some false
 |.bl b=>some b
 |.int i=>some (i != 0)
 |.str y=>if y.length≤sizeLine then some ((y.length:Int) != 0) else none
 |.tup ds=>some (!ds.isEmpty)
 |.lint ns=>some (!ns.isEmpty)
 |.ref a=>match G a with
  |some (.lst ds)=>some (!ds.isEmpty)
  |some (.dkk kvs)=>some (!kvs.isEmpty)
  |_=>none
 |_=>none
theorem isE{K:W.Frag}{H:Hp}{ds:List D}{vs:List V}(r:DVs K H ds vs):ds.isEmpty=vs.isEmpty:=by cases r<;>rfl
theorem Zf{K:W.Frag}{H:Hp}{G:Gp}{d:D}{v:V}{k:Bool}(rg:RelG K H G)(h:Y7 G d=some k)(r:DV K H d v):TruV K v H k:=by
 cases r with
 |non=>cases h;rfl
 |bl b=>cases h;rfl
 |int i=>cases h;rfl
 |str y=>
  simp only[Y7] at h
  split at h
  ·rename_i hy;cases h;exact⟨hy,rfl⟩
  ·cases h
 |tup e r=>
  cases h
  exact .inr (.inl ⟨_,.inl (.inl e),by rw[isE r]⟩)
 |@lint ns a e=>
  cases h
  exact .inl ⟨_,e.sq,by cases ns<;>rfl⟩
 |ref a=>
  simp only[Y7] at h
  split at h
  ·rename_i ds q
   obtain⟨xs,e,r⟩:=rg a _ q
   cases h
   exact .inl ⟨xs,.inl (.inl e),by rw[isE r]⟩
  ·rename_i kvs q
   obtain⟨xs,e,r⟩:=rg a _ q
   cases h
   exact .inr (.inr ⟨xs,e,by cases r<;>rfl⟩)
  ·cases h
 |ty n=>cases h
def C0(t:DTE):DTT:=fun σ G Q=>t σ G fun x G'=>∃k,Y7 G' x=some k∧Q k G'
theorem qt_tru(ha:QE X a ta)(he:∀whole,isTrue a X.env whole=(do let v ←whole;standAt a.pos;holding [v] (truthy v)):=by intro _;rfl):QT X a (C0 ta):=(Xn ha he).imp fun σ H Q ⟨σD,G,Q',rs,rg,h,cl⟩=>by
 refine⟨σD,G,_,rs,rg,h,fun d G1 ⟨k,ek,h1⟩ H1 x1 rg1 v dv=>?_⟩
 exact⟨k,Zf rg1 ek dv,cl _ G1 h1 H1 x1 rg1⟩

variable{es:List Expr}{tA:DTA}
def Aq:DTA:=fun _ G Q=>Q [] G
def Aj(ta:DTE)(tr:DTA):DTA:=fun σ G Q=>ta σ G fun x G1=>tr σ G1 fun xs G2=>Q (x::xs) G2
theorem qa_nil:QA X [] Aq:=pa_nil.imp fun σ H Q ⟨σD,G,Q',rs,rg,h,cl⟩=>cl _ G h H (Ext.refl H) rg _ .nil
theorem Su(ha:QE X e te)(hr:QA X es tA)(hs:starEach (e::es) X.env=(false,eval e X.env)::starEach es X.env:=by rfl):QA X (e::es) (Aj te tA):=(E2 ha hr hs).imp fun σ H Q ⟨σD,G,Q',rs,rg,h,cl⟩=>by
 refine⟨σD,G,_,rs,rg,h,fun x G1 h1 H1 x1 rg1 v1 d1=>?_⟩
 refine⟨σD,G1,_,rs.ext x1,rg1,h1,fun ys G2 h2 H2 x2 rg2 v2 d2=>?_⟩
 exact cl _ G2 h2 H2 (x1.trans x2) rg2 _ (.cons (d1.ext x2) d2)
def Qe(t:DTA):DTE:=fun σ G Q=>t σ G fun xs G1=>xs.length≤sizeLine∧Q (.tup xs) G1
def Fn(t:DTA):DTE:=fun σ G Q=>t σ G fun xs G1=>xs.length≤sizeLine∧∀p,G1 p=none→Q (.ref p) (Ab G1 p (.lst xs))
theorem Ie{x1}(h:QA X es tA):QE X (.Tuple es x1 pos) (Qe tA):=(Ac2 h).imp fun σ H Q ⟨σD,G,Q',rs,rg,h,cl⟩=>by
 refine⟨σD,G,_,rs,rg,h,fun ds G1 ⟨hl,q⟩ H1 x1 rg1 vs dv=>⟨by rw[←dv.length];exact hl,fun p hp=>?_⟩⟩
 exact cl _ G1 q _ (x1.trans (Ext.fresh hp)) (rg1.tup hp) _ (.tup Ak (dv.ext (Ext.fresh hp)))
theorem q_lst(h:QA X es tA):QE X (.List es pos) (Fn tA):=(Ac7 h).imp fun σ H Q ⟨σD,G,Q',rs,rg,h,cl⟩=>by
 refine⟨σD,G,_,rs,rg,h,fun ds G1 ⟨hl,q⟩ H1 x1 rg1 vs dv=>⟨by rw[←dv.length];exact hl,fun p hp=>?_⟩⟩
 exact cl _ _ (q p (rg1.free hp)) _ (x1.trans (Ext.fresh hp)) (rg1.lst hp dv) _ (.ref p)

def El(G:Gp)(x:D)(i:Int):Option D:=match x with
 |.tup ds=>atI ds i
 |.lint ns=>atI (ns.map D.int) i
 |.ref a=>match G a with
  |some (.lst ds)=>atI ds i
  |_=>none
 |_=>none
theorem Nd{K:W.Frag}{H:Hp}{ds:List D}{vs:List V}{i:Int}{d:D}(r:DVs K H ds vs)(h:atI ds i=some d):∃v,atI vs i=some v∧DV K H d v:=by
 unfold atI at h ⊢
 rw[←r.length]
 cases e:ixN ds.length i with
 |none=>rw[e] at h;cases h
 |some j=>rw[e] at h;exact r.get h
def dIx:DR2:=fun x y G Q=>∃i,y=.int i∧∃d,El G x i=some d∧Q d G
theorem _root_.L2.IxR.imp{r r':R2}(h:IxR X r)(g:∀x y H Q,r' x y H Q→r x y H Q):IxR X r':=fun va sl pins s σ H x y v u Q I rx ry q hs=>h va sl pins s σ H x y v u Q I rx ry (g x y H Q q) hs
theorem o_ix:IxR X (Lx X.K dIx):=ix_seq.imp fun x y H Q ⟨dx,dy,G,Q',hx,hy,rg,⟨i,ei,d,ed,q⟩,cl⟩=>by
 subst ei;cases hy
 cases hx with
 |@tup ds a xs e r=>
  obtain⟨v,ev,dv⟩:=Nd r (show atI ds i=some d from ed)
  exact .inr (.inl ⟨a,xs,i,v,rfl,rfl,.inl (.inl e),ev,cl _ G q H (Ext.refl H) rg _ dv⟩)
 |@lint ns a e=>
  obtain⟨v,ev,dv⟩:=Nd (K:=X.K) (H:=H) DVs.ints (show atI (ns.map D.int) i=some d from ed)
  exact .inl ⟨a,_,i,v,rfl,rfl,e.sq,ev,cl _ G q H (Ext.refl H) rg _ dv⟩
 |ref a=>
  simp only[El] at ed
  split at ed
  ·rename_i ds g
   obtain⟨xs,e,r⟩:=rg a _ g
   obtain⟨v,ev,dv⟩:=Nd r ed
   exact .inl ⟨a,xs,i,v,rfl,rfl,.inl (.inl e),ev,cl _ G q H (Ext.refl H) rg _ dv⟩
  ·cases ed
 |_=>cases ed
theorem C4(ha:QE X a ta)(hb:QE X b tb)(hs:Tq b:=by intro _ _;rfl):QE X (.Subscript a b pos) (nOp dIx ta tb):=(pe_ix o_ix ha hb hs).imp fun _ _ _ h=>Jq h
end
end D3
namespace D3
open PySem PySem.Spec
open PyProof.Rows hiding St
open L2 hiding St
section
variable{X:Cx}{a b c e:Expr}{ta tb tc te:DTE}{pos:Pos}{st:Stmt}{rest body orelse:List Stmt}{t u:DTS}
def Bm:DTS:=fun D σ G=>D.nx σ G
def Bj(t u:DTS):DTS:=fun D σ G=>t { D with nx:=u D } σ G
theorem qss_nil:QSs X [] Bm:=pss_nil.imp fun E σ H ⟨σD,G,D,rs,rg,h,cl⟩=>cl.nx σD G h H (Ext.refl H) rg σ rs
theorem Yg{K:W.Frag}{E:Ends}{σ:St}{H:Hp}(h:Ih K (Bj t u) E σ H):tSeq (Ih K t) (Ih K u) E σ H:=by
 obtain⟨σD,G,D,rs,rg,h,cl⟩:=h
 refine⟨σD,G,_,rs,rg,h,⟨fun σ1 G1 h1 H1 x1 rg1 σ' rs1=>⟨σ1,G1,D,rs1,rg1,h1,cl.go x1⟩,cl.rt,cl.bk,cl.ct⟩⟩
theorem qss_cons(h1:QS X st t)(h2:QSs X rest u):QSs X (st::rest) (Bj t u):=(Xp h1 h2).imp fun _ _ _ h=>Yg h
theorem qss_one(h1:QS X st t):QSs X [st] t:=Zs h1
def Fj(te:DTE):DTS:=fun D σ G=>te σ G fun _ G1=>D.nx σ G1
theorem Cg(he:QE X e te)(hs:swapsWith e none pos.line X.env=pure false:=by rfl):QS X (.Expr e pos) (Fj te):=(Zv he hs).imp fun E σ H ⟨σD,G,D,rs,rg,h,cl⟩=>
 ⟨σD,G,_,rs,rg,h,fun d G1 h1 H1 x1 rg1 v dv=>cl.nx σD G1 h1 H1 x1 rg1 σ (rs.ext x1)⟩
def Bc(te:DTE):DTS:=fun D σ G=>te σ G D.rt
theorem qs_ret(he:QE X e te):QS X (.Return (some e) pos) (Bc te):=(Act he).imp fun E σ H ⟨σD,G,D,rs,rg,h,cl⟩=>⟨σD,G,_,rs,rg,h,cl.rt⟩
def Cq(c:DTT)(t u:DTS):DTS:=fun D σ G=>c σ G fun b G1=>if b=true then t D σ G1 else u D σ G1
theorem qs_if{tc:DTT}(hc:QT X c tc)(ha:QSs X body t)(hb:QSs X orelse u):QS X (.If c body orelse pos) (Cq tc t u):=(Abf hc ha hb).imp fun E σ H ⟨σD,G,D,rs,rg,h,cl⟩=>by
 refine⟨σD,G,_,rs,rg,h,fun k G1 h1 H1 x1 rg1=>?_⟩
 cases k with
 |true=>rw[if_pos rfl] at h1 ⊢;exact⟨σD,G1,D,rs.ext x1,rg1,h1,cl.go x1⟩
 |false=>rw[if_neg Bool.false_ne_true] at h1 ⊢;exact⟨σD,G1,D,rs.ext x1,rg1,h1,cl.go x1⟩
def Wq:DTS:=fun _ _ _=>False
theorem qs_never:QS X st Wq:=ps_never.imp fun E σ H ⟨σD,G,D,rs,rg,h,cl⟩=>h
abbrev DTG:=D→DSt→Gp→(DSt→Gp→Prop)→Prop
abbrev N4:=List D→DSt→Gp→(DSt→Gp→Prop)→Prop
def Ek(K:PySem.W.Frag)(t:DTG):TG:=fun v σ H Q=>∃d σD G Q',DV K H d v∧RelS K H σD σ∧RelG K H G∧t d σD G Q'∧∀σD' G',Q' σD' G'→Fwd K H G' fun H'=>∀σ',RelS K H' σD' σ'→Q σ' H'
def Adr(K:PySem.W.Frag)(t:N4):TGs:=fun vs σ H Q=>∃ds σD G Q',DVs K H ds vs∧RelS K H σD σ∧RelG K H G∧t ds σD G Q'∧∀σD' G',Q' σD' G'→Fwd K H G' fun H'=>∀σ',RelS K H' σD' σ'→Q σ' H'
def QG(X:Cx)(e:Expr)(g:DTG):Prop:=PG X e (Ek X.K g)
def QGs(X:Cx)(es:List Expr)(g:N4):Prop:=PGs X es (Adr X.K g)
theorem _root_.L2.PG.imp{X:Cx}{e:Expr}{t t':TG}(h:PG X e t)(f:∀v σ H Q,t' v σ H Q→t v σ H Q):PG X e t':=fun pins s σ H v u Q I r q=>h pins s σ H v u Q I r (f v σ H Q q)
theorem _root_.L2.PGs.imp{X:Cx}{e:List Expr}{t t':TGs}(h:PGs X e t)(f:∀v σ H Q,t' v σ H Q→t v σ H Q):PGs X e t':=fun pins s σ H v u Q I r q=>h pins s σ H v u Q I r (f v σ H Q q)
def Aw(i:Nat):DTG:=fun d σ G Q=>Q (σ.set i (some d)) G
theorem qg_name{i:Nat}{x:Str}(hN:X.N.Nodup)(hi:X.N[i]? = some x:=by rfl)(hx:Loc X.env.scope x:=by first|exact Or.inl rfl|exact Or.inr rfl)(hf:X.fn x=true∨X.env.scope.names.lookup x=some .local:=by first|exact .inl rfl|exact .inr rfl|assumption):QG X (.Name x pos) (Aw i):=
 (Zy hN hi hx hf).imp fun v σ H Q ⟨d,σD,G,Q',dv,rs,rg,h,cl⟩=>cl _ G h H (Ext.refl H) rg _ (rs.set dv i)
def Fc:N4:=fun ds σ G Q=>ds=[]∧Q σ G
def C9(t:DTG)(u:N4):N4:=fun ds σ G Q=>∃v r,ds=v::r∧t v σ G fun σ' G'=>u r σ' G' Q
theorem qgs_nil:QGs X [] Fc:=pgs_nil.imp fun v σ H Q ⟨d,σD,G,Q',dv,rs,rg,⟨e,h⟩,cl⟩=>by
 subst e;cases dv
 exact⟨rfl,cl _ G h H (Ext.refl H) rg _ rs⟩
theorem qgs_cons{es:List Expr}{t:DTG}{u:N4}(h1:QG X e t)(h2:QGs X es u)(hs:(assignEach (e::es) X.env).map (·.2)=assign e X.env::(assignEach es X.env).map (·.2):=by rfl):QGs X (e::es) (C9 t u):=(Xu h1 h2 hs).imp fun v σ H Q ⟨d,σD,G,Q',dv,rs,rg,⟨d1,r,e,h⟩,cl⟩=>by
 subst e
 cases dv with
 |@cons _ v1 _ vs h1 t1=>
  refine⟨v1,vs,rfl,d1,σD,G,_,h1,rs,rg,h,fun σ1 G1 q1 H1 x1 rg1 σ' rs1=>?_⟩
  exact⟨r,σ1,G1,Q',t1.ext x1,rs1,rg1,q1,fun σ2 G2 q=>(cl σ2 G2 q).go x1⟩
def Fb(n:Nat)(t:N4):DTG:=fun d σ G Q=>∃ds,d=.tup ds∧ds.length=n∧t ds σ G Q
theorem qg_tup{es:List Expr}{k:Nat}{t:N4}{n:Nat}(hc:X.calm=true)(h:QGs X es t)(hn:(assignEach es X.env).length=n:=by rfl)(hst:(assignEach es X.env).findIdx? (·.1)=none:=by rfl):QG X (.Tuple es k pos) (Fb n t):=(Acy hc h hn hst).imp fun v σ H Q ⟨d,σD,G,Q',dv,rs,rg,⟨ds,e,hl,h⟩,cl⟩=>by
 subst e
 cases dv with
 |@tup _ a xs e r=>exact⟨a,xs,rfl,.inl (.inl e),by rw[←r.length];exact hl,ds,σD,G,Q',r,rs,rg,h,cl⟩
abbrev Oa:=D→D→D→Gp→(Gp→Prop)→Prop
def Aap(K:PySem.W.Frag)(t:Oa):Vu:=fun o i v H Q=>∃d1 d2 d3 G Q',DV K H d1 o∧DV K H d2 i∧DV K H d3 v∧RelG K H G∧t d1 d2 d3 G Q'∧∀G',Q' G'→Fwd K H G' Q
def QSet(X:Cx)(t:Oa):Prop:=PSet X (Aap X.K t)
theorem _root_.L2.PSet.imp{X:Cx}{t t':Vu}(h:PSet X t)(f:∀o i v H Q,t' o i v H Q→t o i v H Q):PSet X t':=fun pins s σ H o i v ov iv u Q I r1 r2 r3 q=>h pins s σ H o i v ov iv u Q I r1 r2 r3 (f o i v H Q q)
def V5:Oa:=fun o i v G Q=>∃p,o=.ref p∧∃k,i=.int k∧∃ds,G p=some (.lst ds)∧∃j,ixN ds.length k=some j∧Q (Ab G p (.lst (ds.set j v)))
theorem Wd:QSet X V5:=set_list.imp fun o i v H Q ⟨d1,d2,d3,G,Q',h1,h2,h3,rg,⟨p,e1,k,e2,ds,eg,j,ej,q⟩,cl⟩=>by
 subst e1 e2
 cases h1;cases h2
 obtain⟨xs,ex,r⟩:=rg p _ eg
 exact⟨p,xs,k,j,rfl,rfl,ex,by rw[←r.length];exact ej,cl _ q _ (E4 ex) (rg.lstw ex (r.set h3 j))⟩
def mSub(to ti:DTE)(t:Oa):DTG:=fun v σ G Q=>to σ G fun o G1=>ti σ G1 fun i G2=>t o i v G2 fun G3=>Q σ G3
theorem Wg{o i:Expr}{to ti:DTE}{t:Oa}(ho:QE X o to)(hi:QE X i ti)(hs:QSet X t)(ha:∀v,assign (.Subscript o i pos) X.env v=(do
   let ov ←holding [v] (eval o X.env)
   let iv ←holding [v,ov] (eval i X.env)
   standAt pos
   holding [v,ov,iv] (setItem ov iv v)
   release [v,ov,iv] []):=by intro _;rfl):QG X (.Subscript o i pos) (mSub to ti t):=(Acz ho hi hs ha).imp fun v σ H Q ⟨d,σD,G,Q',dv,rs,rg,h,cl⟩=>by
 refine⟨σD,G,_,rs,rg,h,fun x G1 h1 H1 x1 rg1 v1 d1=>?_⟩
 refine⟨σD,G1,_,rs.ext x1,rg1,h1,fun y G2 h2 H2 x2 rg2 v2 d2=>?_⟩
 exact⟨x,y,d,G2,_,d1.ext x2,d2,dv.ext (x1.trans x2),rg2,h2,fun G3 q H3 x3 rg3=>cl σD G3 q H3 (x1.trans (x2.trans x3)) rg3 σ (rs.ext (x1.trans (x2.trans x3)))⟩
def Br(te:DTE)(g:DTG):DTS:=fun D σ G=>te σ G fun x G1=>g x σ G1 D.nx
theorem Yh{K:W.Frag}{g:DTG}{E:Ends}{σ:St}{H:Hp}(h:Ih K (Br te g) E σ H):Vp (B5 K te) (Ek K g) E σ H:=by
 obtain⟨σD,G,D,rs,rg,h,cl⟩:=h
 refine⟨σD,G,_,rs,rg,h,fun d G1 h1 H1 x1 rg1 v dv=>?_⟩
 exact⟨d,σD,G1,_,dv,rs.ext x1,rg1,h1,fun σ2 G2 q=>(cl.go x1).nx σ2 G2 q⟩
theorem Dn{tg:Expr}{g:DTG}(he:QE X e te)(hg:QG X tg g)(hs:swapsWithSole [tg] e pos.line X.env=pure false:=by rfl)(hw:swappedStores [tg] e X.env=pure none:=by rfl)(h1:(assignEach [tg] X.env).map (·.2)=[assign tg X.env]:=by rfl):QS X (.Assign [tg] e pos) (Br te g):=(Acx he hg hs hw h1).imp fun _ _ _ h=>Yh h
theorem qs_set{i:Nat}{x:Str}{pos':Pos}(hN:X.N.Nodup)(he:QE X e te)(hi:X.N[i]? = some x:=by rfl)(hx:Loc X.env.scope x:=by first|exact Or.inl rfl|exact Or.inr rfl)(hs:swapsWith e (some (.Name x pos')) pos.line X.env=pure false:=by rfl)(hf:X.fn x=true∨X.env.scope.names.lookup x=some .local:=by first|exact .inl rfl|exact .inr rfl|assumption) :
  QS X (.Assign [.Name x pos'] e pos) (Br te (Aw i)):=(Acs hN hi hx he hs hf).imp fun E σ H ⟨σD,G,D,rs,rg,h,cl⟩=>
 ⟨σD,G,_,rs,rg,h,fun d G1 h1 H1 x1 rg1 v dv=>cl.nx _ G1 h1 H1 x1 rg1 _ ((rs.ext x1).set dv i)⟩
def nPar(i j:Nat)(ta:DTA):DTS:=fun D σ G=>ta σ G fun vs G1=>∃v w,vs=[v,w]∧D.nx ((σ.set i (some v)).set j (some w)) G1
theorem Ack{i j:Nat}{x y:Str}{tA:DTA}{px py pt:Pos}{kt k2 pt2}(hc:X.calm=true)(hN:X.N.Nodup)(ha:QA X [a,b] tA)(hi:X.N[i]? = some x:=by rfl)(hj:X.N[j]? = some y:=by rfl)(hij:i≠j:=by decide)(hx:X.env.scope.names.lookup x=some .local:=by rfl)(hy:X.env.scope.names.lookup y=some .local:=by rfl)(hw:swappedStores [.Tuple [.Name x px,.Name y py] kt pt] (.Tuple [a,b] k2 pt2) X.env=pure (some [x,y]):=by rfl)(hs:swapsWithSole [.Tuple [.Name x px,.Name y py] kt pt] (.Tuple [a,b] k2 pt2) pos.line X.env=pure false:=by rfl) :
  QS X (.Assign [.Tuple [.Name x px,.Name y py] kt pt] (.Tuple [a,b] k2 pt2) pos) (nPar i j tA):=(Acu hc hN hi hj hij hx hy ha hw hs).imp fun E σ H ⟨σD,G,D,rs,rg,h,cl⟩=>by
 refine⟨σD,G,_,rs,rg,h,fun ds G1 ⟨d1,d2,e,h1⟩ H1 x1 rg1 vs dv=>?_⟩
 subst e
 obtain⟨v,w,rfl,r1,r2⟩:=dv.two
 exact⟨v,w,rfl,cl.nx _ G1 h1 H1 x1 rg1 _ (((rs.ext x1).set r1 i).set r2 j)⟩
def nAug(i:Nat)(te:DTE)(r:DR2):DTS:=fun D σ G=>∃x,σ[i]? = some (some x)∧te σ G fun y G1=>r x y G1 fun z G2=>D.nx (σ.set i (some z)) G2
def QIp(X:Cx)(op:Operator)(r:DR2):Prop:=PIp X op (Lx X.K r)
theorem Ad2{op:Operator}{f:Int→Int→Int}(h:PIp X op (ipI f)):QIp X op (dI0 fun i j=>.int (f i j)):=fun pins s σ H x y v u Q I rx ry ⟨dx,dy,G,Q',hx,hy,rg,⟨i,ei,j,ej,q⟩,cl⟩=>by
 subst ei ej;cases hx;cases hy
 exact h pins s σ H _ _ v u Q I rx ry ⟨i,j,rfl,rfl,cl _ G q H (Ext.refl H) rg _ (.int _)⟩
theorem Wu:QIp X .Add (dI0 fun i j=>.int (i+j)):=Ad2 Ad1
theorem Wf{i:Nat}{x:Str}{op:Operator}{r:DR2}{pos':Pos}(hN:X.N.Nodup)(ho:QIp X op r)(he:QE X e te)(hi:X.N[i]? = some x:=by rfl)(hx:Loc X.env.scope x:=by first|exact Or.inl rfl|exact Or.inr rfl)(hf:X.fn x=true∨X.env.scope.names.lookup x=some .local:=by first|exact .inl rfl|exact .inr rfl|assumption) :
  QS X (.AugAssign (.Name x pos') op e pos) (nAug i te r):=(Acw hN hi hx he ho hf).imp fun E σ H ⟨σD,G,D,rs,rg,⟨d,ed,h⟩,cl⟩=>by
 obtain⟨v,ev,dv⟩:=rs.2 i d ed
 refine⟨v,ev,σD,G,_,rs,rg,h,fun y G1 h1 H1 x1 rg1 v1 d1=>?_⟩
 exact⟨d,y,G1,_,dv.ext x1,d1,rg1,h1,fun z G2 q H2 x2 rg2 v2 d2=>cl.nx _ G2 q H2 (x1.trans x2) rg2 _ ((rs.ext (x1.trans x2)).set d2 i)⟩

def Sub(G G':Gp):Prop:=∀a o,G a=some o→G' a=some o
theorem Sub.refl(G:Gp):Sub G G:=fun _ _ h=>h
theorem Sub.trans{G G1 G2:Gp}(a:Sub G G1)(b:Sub G1 G2):Sub G G2:=fun c o h=>b c o (a c o h)
theorem Sub.new{G:Gp}{p:Addr}{o:GO}(h:G p=none):Sub G (Ab G p o):=fun a u e=>by rw[Ae (gne e h)];exact e
theorem Sub.upd{G G':Gp}(s:Sub G G')(a:Addr)(o:GO):Sub (Ab G a o) (Ab G' a o):=fun b u e=>by
 by_cases h:b=a
 ·subst h;rw[Aa] at e ⊢;exact e
 ·rw[Ae h] at e ⊢;exact s b u e
theorem Sub.none{G G':Gp}(s:Sub G G'){p:Addr}(h:G' p=Option.none):G p=Option.none:=by
 cases e:G p with
 |none=>rfl
 |some o=>rw[s p o e] at h;cases h
theorem Sub.skip{G G':Gp}(s:Sub G G'){p:Addr}{o:GO}(h:G' p=Option.none):Sub G (Ab G' p o):=s.trans (Sub.new h)
def Fs(P:DSt→Gp→Prop)(σ:DSt)(G:Gp):Prop:=∃G',Sub G' G∧P σ G'
theorem Fs.of{P:DSt→Gp→Prop}{σ:DSt}{G:Gp}(h:P σ G):Fs P σ G:=⟨G,Sub.refl G,h⟩
def Wp(c:DTT)(tb:DTS):DTS:=fun D σ G=>∃W:Nat→DSt→Gp→Prop,(∃m,W m σ G)∧∀m σ G,W m σ G→
 c σ G fun b G1=>if b=true then ∃N:DSt→Gp→Prop,(∀σ' G',N σ' G'→∃m',m'<m∧W m' σ' G')∧tb { D with nx:=Fs N,ct:=Fs N,bk:=D.nx } σ G1 else D.nx σ G1
theorem Xi{tc:DTT}{tb:DTS}(hp:PassesOwn (model X.prog X.w) X.A X.env X.xe)(hc:QT X c tc)(hb:QSs X body tb):QS X (.While c body [] pos) (Wp tc tb):=(Xq hp hc hb).imp fun E σ H ⟨σD,G,D,rs,rg,⟨W,⟨m0,w0⟩,turn⟩,cl⟩=>by
 refine⟨fun m σ' H'=>∃σD' G',RelS X.K H' σD' σ'∧RelG X.K H' G'∧Ext H H'∧W m σD' G',⟨m0,σD,G,rs,rg,Ext.refl H,w0⟩,?_⟩
 rintro m σ1 H1 ⟨σD1,G1,rs1,rg1,x1,w1⟩
 refine⟨σD1,G1,_,rs1,rg1,turn m σD1 G1 w1,fun k G2 h2 H2 x2 rg2=>?_⟩
 cases k with
 |true=>
  rw[if_pos rfl] at h2 ⊢
  obtain⟨N,hN,h2⟩:=h2
  refine⟨fun σ' H'=>∃σD' G',RelS X.K H' σD' σ'∧RelG X.K H' G'∧Ext H H'∧N σD' G',fun σ' H' ⟨σD',G',r1,r2,r3,n⟩=>?_,?_⟩
  ·obtain⟨m',hm,w'⟩:=hN σD' G' n
   exact⟨m',hm,σD',G',r1,r2,r3,w'⟩
  ·have xx:=x1.trans x2
   exact⟨σD1,G2,_,rs1.ext x2,rg2,h2,⟨fun s3 G3 ⟨G4,sb,n⟩ H3 x3 rg3 σ3 rs3=>⟨s3,G4,rs3,rg3.ext' sb,xx.trans x3,n⟩,(cl.go xx).rt,(cl.go xx).nx,fun s3 G3 ⟨G4,sb,n⟩ H3 x3 rg3 σ3 rs3=>⟨s3,G4,rs3,rg3.ext' sb,xx.trans x3,n⟩⟩⟩
 |false=>
  rw[if_neg Bool.false_ne_true] at h2 ⊢
  exact cl.nx _ G2 h2 H2 (x1.trans x2) rg2 _ (rs1.ext x2)

def Av(G:Gp):D→Option (List D)
 |.tup ds=>some ds
 |.lint ns=>some (ns.map .int)
 |.ref a=>match G a with
  |some (.lst ds)=>some ds
  |_=>none
 |_=>none
def iSeq(K:PySem.W.Frag)(tl:TE):TI:=fun σ H R=>tl σ H fun x H1=>∃a,x=.ref a∧(((∃xs,SqL K H1 a xs)∧R (Itl K a) H1)∨((∃xs,SqT K H1 a xs)∧R (Itt K a) H1))
theorem Qr{tg l:Expr}{tl:TE}(hl:PE X l tl):PI X tg l (iSeq X.K tl):=by
 intro pins s σ H R I h
 refine thn (hl pins s σ H _ I h) fun v s1 ⟨x,H1,I1,r1,q1⟩=>?_
 obtain⟨a,e,q1⟩:=q1
 subst e
 cases r1
 have fin:∀(b:Addr),b∈[s1.heap.objs.size]→Fd X pins H1 b:=fun b hb=>by
  have e:b=s1.heap.objs.size:=by simpa using hb
  subst e
  exact I1.fpOk (Nat.le_refl _) (I1.hok.fresh (Nat.le_refl _))
 rcases q1 with ⟨⟨xs,hq⟩,q⟩|⟨⟨xs,hq⟩,q⟩
 ·obtain⟨its,rv,p,hz⟩:=I1.list hq
  refine wpAny_pyIter_list p.isList ?_
  exact⟨s1.heap.objs.size,[s1.heap.objs.size],_,_,H1,rfl,I1.kept (t':=s1.toks) fun b o e=>Heap.get?_push_of_some _ e,Tw a _,⟨_,Heap.get?_push_size _ rfl,rfl,rfl⟩,fin,q⟩
 ·obtain⟨its,rv,p,hz⟩:=I1.tuple hq
  refine wpAny_pyIter_tuple (show s1.heap.IsTuple a its.toArray from p) ?_
  exact⟨s1.heap.objs.size,[s1.heap.objs.size],_,_,H1,rfl,I1.kept (t':=s1.toks) fun b o e=>Heap.get?_push_of_some _ e,Q0 a _,⟨_,Heap.get?_push_size _ rfl,rfl,rfl⟩,fin,q⟩
structure Items(K:PySem.W.Frag)(J:It)(G:Gp)(H:Hp)(ds:List D):Prop where
 go:∀i,i<ds.length→J.go i H
 yl:∀i x H',i<ds.length→J.yld i H x H'→H'=H∧∃d,ds[i]? = some d∧DV K H d x
 st:J.stop ds.length H
theorem Mc{K:W.Frag}{H:Hp}{G:Gp}{a:Addr}{ds:List D}{xs:List V}(e:SqL K H a xs)(r:DVs K H ds xs):Items K (Itl K a) G H ds:=by
 refine⟨fun i hi=>?_,fun i x H' hi y=>?_,⟨xs,e,by rw[←r.length];exact Nat.le_refl _⟩⟩
 ·rw[r.length] at hi
  exact⟨xs,xs[i],e,by simp[hi]⟩
 ·obtain⟨e1,e2⟩:=y
  exact⟨e1,r.get' (e2 xs e)⟩
theorem Ux{K:W.Frag}{H:Hp}{G:Gp}{a:Addr}{ds:List D}{xs:List V}(e:H a=some (.tup xs))(r:DVs K H ds xs):Items K (Itt K a) G H ds:=by
 refine⟨fun i hi=>?_,fun i x H' hi y=>?_,⟨xs,.inl (.inl e),by rw[←r.length];exact Nat.le_refl _⟩⟩
 ·rw[r.length] at hi
  exact⟨xs,xs[i],.inl (.inl e),by simp[hi]⟩
 ·obtain⟨e1,e2⟩:=y
  exact⟨e1,r.get' (e2 xs (.inl (.inl e)))⟩
end
end D3
namespace D3
open PySem PySem.Spec
open PyProof.Rows hiding St
open L2 hiding St
section
variable{X:Cx}{a b c e:Expr}{ta tb tc te:DTE}{pos:Pos}{st:Stmt}{rest body orelse:List Stmt}{t u:DTS}
def jOf(K:PySem.W.Frag)(d:D)(a:Addr):It:=match d with
 |.tup _=>Itt K a
 |_=>Itl K a
theorem Gi{K:W.Frag}{H:Hp}{G:Gp}{d:D}{ds:List D}{a:Addr}(rg:RelG K H G)(h:Av G d=some ds)(dv:DV K H d (.ref a)):Items K (jOf K d a) G H ds:=by
 cases dv with
 |tup e r=>cases h;exact Ux e r
 |lint e=>cases h;exact Mc e.sq DVs.ints
 |ref=>
  simp only[Av] at h
  split at h
  ·rename_i ds' q
   cases h
   obtain⟨xs,e,r⟩:=rg a _ q
   exact Mc (.inl (.inl e)) r
  ·cases h
theorem Kd{K:W.Frag}{H:Hp}{G:Gp}{d:D}{ds:List D}{v:V}(h:Av G d=some ds)(dv:DV K H d v):∃a,v=.ref a:=by
 cases dv<;>first|exact⟨_,rfl⟩|cases h
def N3(ds:List D)(same:Gp→Prop)(g:DTG)(tb:DTS)(D:DEnds)(σ:DSt)(G:Gp):Prop:=∃P:Nat→DSt→Gp→Prop,P 0 σ G∧(∀i σ G,i≤ds.length→P i σ G→same G)∧
 (∀i x σ G,ds[i]? = some x→P i σ G→g x σ G fun σ2 G2=>tb { D with nx:=Fs (P (i+1)),ct:=Fs (P (i+1)),bk:=D.nx } σ2 G2)∧∀σ G,P ds.length σ G→D.nx σ G
theorem Hm{K:W.Frag}{J:It}{ds:List D}{same:Gp→Prop}{g:DTG}{tb:DTS}{D:DEnds}{E:Ends}{σD:DSt}{σ:St}{G:Gp}{H:Hp}(rs:RelS K H σD σ)(rg:RelG K H G)(cl:D.Reach K H E)(hJ:∀H' G',Ext H H'→RelG K H' G'→same G'→Items K J G' H' ds)(h:N3 ds same g tb D σD G) :
  ∃W:Nat→Nat→St→Hp→Prop,(∃m,W 0 m σ H)∧∀i m σ H,W i m σ H→
   (J.stop i H∧E.nx σ H)∨(J.go i H∧∃N:St→Hp→Prop,(∀σ' H',N σ' H'→∃m',m'<m∧W (i+1) m' σ' H')∧∀x H',J.yld i H x H'→Ek K g x σ H' fun σ2 H2=>Ih K tb { E with nx:=N,ct:=N,bk:=E.nx } σ2 H2):=by
 obtain⟨P,p0,keep,step,fin⟩:=h
 refine⟨fun i m σ' H'=>m=ds.length-i∧i≤ds.length∧∃σD' G',RelS K H' σD' σ'∧RelG K H' G'∧Ext H H'∧P i σD' G',⟨ds.length,rfl,Nat.zero_le _,σD,G,rs,rg,Ext.refl H,p0⟩,?_⟩
 rintro i m σ1 H1 ⟨rfl,hi,σD1,G1,rs1,rg1,x1,p1⟩
 have I:=hJ H1 G1 x1 rg1 (keep i σD1 G1 hi p1)
 by_cases hlt:i<ds.length
 ·refine .inr ⟨I.go i hlt,fun σ' H'=>∃σD' G',RelS K H' σD' σ'∧RelG K H' G'∧Ext H H'∧P (i+1) σD' G',fun σ' H' ⟨s2,G2,r1,r2,r3,p⟩=>⟨ds.length-(i+1),by omega,rfl,hlt,s2,G2,r1,r2,r3,p⟩,fun x H' y=>?_⟩
  obtain⟨e,d,ed,dv⟩:=I.yl i x H' hlt y
  subst e
  refine⟨d,σD1,G1,_,dv,rs1,rg1,step i d σD1 G1 ed p1,fun σ2 G2 h2 H2 x2 rg2 σ' rs2=>?_⟩
  have xx:=x1.trans x2
  exact⟨σ2,G2,_,rs2,rg2,h2,⟨fun s3 G3 ⟨G4,sb,n⟩ H3 x3 rg3 σ3 rs3=>⟨s3,G4,rs3,rg3.ext' sb,xx.trans x3,n⟩,(cl.go xx).rt,(cl.go xx).nx,fun s3 G3 ⟨G4,sb,n⟩ H3 x3 rg3 σ3 rs3=>⟨s3,G4,rs3,rg3.ext' sb,xx.trans x3,n⟩⟩⟩
 ·have e:i=ds.length:=by omega
  subst e
  exact .inl ⟨I.st,cl.nx _ G1 (fin σD1 G1 p1) H1 x1 rg1 _ rs1⟩
def Vr(te:DTE)(g:DTG)(tb:DTS):DTS:=fun D σ G=>te σ G fun d G1=>∃ds,Av G1 d=some ds∧N3 ds (fun G'=>Av G' d=some ds) g tb D σ G1
theorem qs_for{tg iter:Expr}{g:DTG}{tb:DTS}(hp:PassesOwn (model X.prog X.w) X.A X.env X.xe)(hc:X.calm=true)(hi:QE X iter te)(hg:QG X tg g)(hb:QSs X body tb)(hs:∀x,foldedSetIterable iter X.env x=pure x:=by intro _;rfl):QS X (.For tg iter body [] pos) (Vr te g tb):=(Qp hp hc (Qr hi) hg hb hs).imp fun E σ H ⟨σD,G,D,rs,rg,h,cl⟩=>by
 refine⟨σD,G,_,rs,rg,h,fun d G1 ⟨ds,ei,L⟩ H1 x1 rg1 v dv=>?_⟩
 obtain⟨a,rfl⟩:=Kd ei dv
 refine⟨a,rfl,?_⟩
 have lp:=Hm (J:=jOf X.K d a) (rs.ext x1) rg1 (cl.go x1) (fun H' G' x' rg' s'=>Gi rg' s' (dv.ext x')) L
 have I0:=Gi rg1 ei dv
 cases dv with
 |tup e r=>exact .inr ⟨⟨_,.inl (.inl e)⟩,lp⟩
 |lint e=>exact .inl ⟨⟨_,e.sq⟩,lp⟩
 |ref=>
  simp only[Av] at ei
  split at ei
  ·rename_i ds' q
   obtain⟨xs,e,r⟩:=rg1 a _ q
   exact .inl ⟨⟨_,.inl (.inl e)⟩,lp⟩
  ·cases ei
def K8(n:Nat):List D:=(List.range n).map fun i=>D.int (i:Nat)
theorem Ck(n:Nat):(K8 n).length=n:=by simp[K8]
theorem J5{n i:Nat}(h:i<n):(K8 n)[i]? = some (.int (i:Nat)):=by simp[K8,h]
def Ig(tA:DTA)(g:DTG)(tb:DTS):DTS:=fun D σ G=>tA σ G fun ds G1=>∃j,ds=[.int j]∧(-(2 ^ 62)≤j∧j<2 ^ 62)∧N3 (K8 j.toNat) (fun _=>True) g tb D σ G1
theorem Ea{tg:Expr}{g:DTG}{tb:DTS}{tA:DTA}{p p2:Pos}(hp:PassesOwn (model X.prog X.w) X.A X.env X.xe)(hc:X.calm=true)(hm:X.mg "range" = none)(ha:QA X [a] tA)(hg:QG X tg g)(hb:QSs X body tb)(hgl:Gl X "range":=by rfl)(hst:starEach [a] X.env=[(false,eval a X.env)]:=by rfl)(hs:∀x,foldedSetIterable (.Call (.Name "range" p) [a] [] p2) X.env x=pure x:=by intro _;rfl) :
  QS X (.For tg (.Call (.Name "range" p) [a] [] p2) body [] pos) (Ig tA g tb):=(Qp hp hc (L8 hgl hm ha hst) hg hb hs).imp fun E σ H ⟨σD,G,D,rs,rg,h,cl⟩=>by
 refine⟨σD,G,_,rs,rg,h,fun ds G1 ⟨j,ej,⟨j1,j2⟩,L⟩ H1 x1 rg1 vs dv=>?_⟩
 subst ej
 obtain⟨v,rfl,r⟩:=dv.one
 cases r
 refine⟨j,rfl,j1,j2,Hm (J:=Itr 0 j.toNat) (rs.ext x1) rg1 (cl.go x1) (fun H' G' x' rg' _=>?_) L⟩
 refine⟨fun i hi=>by rw[Ck] at hi;exact hi,fun i x H2 hi y=>?_,by show j.toNat≤_;rw[Ck];exact Nat.le_refl _⟩
 rw[Ck] at hi
 obtain⟨e1,e2⟩:=y
 refine⟨e1,_,J5 hi,?_⟩
 rw[e2,Int.zero_add]
 exact .int _

abbrev DX:=Value→Gp→Prop
abbrev DSp:=List D→Gp→DK→DX→Prop
def V3(K:PySem.W.Frag)(E:DX):XK:=fun c _ H'=>∃G',RelG K H' G'∧E c G'
def liftSp(K:PySem.W.Frag)(sp:DSp):Sp:=fun vs H Q E=>∃ds G Q' E',DVs K H ds vs∧RelG K H G∧sp ds G Q' E'∧(∀d G',Q' d G'→Fwd K H G' fun H'=>∀v,DV K H' d v→Q v H')∧∀c G',E' c G'→Fwd K H G' fun H'=>∀ad,E c ad H'
structure Def(P:Program)(w:World)(K:PySem.W.Frag)(mg:Str→Option Value)(base:Heap)(CX:CXT)(k:Nat)(x:Str)(ps:List Str)(sp:DSp):Prop where
 ex:∃f fd,FnOk P w K mg base CX k f fd ps (liftSp K sp)∧mg x=some (.ref f)∧PySem.W.keepIn K (.ref f)=true∧Binds K fd ps []
def Ar(sp:DSp)(E:DX)(t:DTA):DTE:=fun σ G Q=>t σ G fun ds G1=>sp ds G1 Q E
abbrev noX:DX:=fun _ _=>False
theorem q_call{CX:CXT}{k:Nat}{x:Str}{ps:List Str}{sp:DSp}{E:DX}{es:List Expr}{p:Pos}{tA:DTA}(F:Def X.prog X.w X.K X.mg X.base CX k x ps sp)(hr:Room k X.A)(hx:G0 CX X (V3 X.K E))(ha:QA X (e::es) tA)(hg:Gl X x:=by rfl)(hdb:(x == ("__debug__" : Str))=false:=by decide)(he:starEach (e::es) X.env=(false,eval e X.env)::starEach es X.env:=by rfl)(hpl:(backTo pos (starEach es X.env)).any (·.1)=false:=by rfl) :
  QE X (.Call (.Name x p) (e::es) [] pos) (Ar sp E tA):=by
 obtain⟨f,fd,F,hm,hk,hb⟩:=F.ex
 refine(Z4 (ds:=[]) (dvs:=[]) F hr hg hm hk hb .nil hx ha hdb he hpl).imp fun σ H Q ⟨σD,G,Q',rs,rg,h,cl⟩=>?_
 refine⟨σD,G,_,rs,rg,h,fun ds G1 h1 H1 x1 rg1 vs dv=>?_⟩
 show liftSp X.K sp (vs++[]) H1 Q (V3 X.K E)
 rw[List.append_nil]
 exact⟨ds,G1,Q',E,dv,rg1,h1,fun d G' q=>(cl d G' q).go x1,fun c G' q H2 x2 rg2 ad=>⟨G',rg2,q⟩⟩
theorem passN{E:DX}:G0 CX0 X (V3 X.K E):=fun _ _ _ _ _ _ _ h=>h.elim

def Ah(N:List Str)(ds:List D):DSt:=ds.map some++List.replicate (N.length-ds.length) none
def Fq(Q:DK)(d:D)(G:Gp):Prop:=∃G',Sub G' G∧Q d G'
theorem Fq.of{Q:DK}{d:D}{G:Gp}(h:Q d G):Fq Q d G:=⟨G,Sub.refl G,h⟩
theorem L5{K:W.Frag}{H:Hp}{N:List Str}{ds:List D}{vs:List V}(r:DVs K H ds vs):RelS K H (Ah N ds) (L2.start N vs):=by
 have hl:=r.length
 refine⟨by simp[Ah,L2.start,hl],fun i d e=>?_⟩
 unfold Ah at e
 unfold L2.start
 by_cases hi:i<ds.length
 ·rw[List.getElem?_append_left (by simpa using hi),List.getElem?_map] at e
  rw[List.getElem?_append_left (by simpa[←hl] using hi),List.getElem?_map]
  cases q:ds[i]? with
  |none=>rw[q] at e;cases e
  |some d'=>
   rw[q] at e;cases e
   obtain⟨v,ev,dv⟩:=r.get q
   exact⟨v,by rw[ev];rfl,dv⟩
 ·rw[List.getElem?_append_right (by simpa using hi),List.getElem?_replicate] at e
  split at e<;>cases e
section
variable{P:Program}{w:World}{K:W.Frag}{mg:Str→Option Value}{base:Heap}
theorem okD{x qual:Str}{st:Stmt}{f:Addr}{fd:FuncData}{N ps:List Str}{k:Nat}{sp:DSp}(F:Fun K x qual st f fd)(S:FnScope N ps (defScope st))(len:∀ds G Q E,sp ds G Q E→ds.length=ps.length)(hbody:∀(cdv:Value) (A:Around) (outer:List Env) (s:Shared) (H:Hp) (XE:XK) (ds:List D) (G:Gp) (Q:DK) (E:DX),Room k (A.deeper (envOfC qual (defScope st) s.heap.objs.size f cdv))→sp ds G Q E→
   ∃t,QSs (Mq CX0 P w K mg base N qual (defScope st) f cdv A outer s H XE).nox (defBody st) t∧t { nx:=fun _ G'=>Fq Q .non G',rt:=Fq Q } (Ah N ds) G):FnOk P w K mg base CX0 (k+1) f fd ps (liftSp K sp):=by
 refine F.ok S (fun vs H Q E ⟨ds,G,Q',E',dv,rg,h,_⟩=>by rw[←dv.length];exact len ds G Q' E' h) fun cdv A outer s H vs Q E hr ⟨ds,G,Q',E',dv,rg,h,cl,_⟩=>?_
 obtain⟨t,ht,hq⟩:=hbody cdv A outer s H E ds G Q' E' hr h
 refine⟨_,ht,Ah N ds,G,_,L5 dv,rg,hq,⟨fun σD G1 ⟨G2,sb,q⟩ H1 x1 rg1 σ rs=>cl _ G2 q H1 x1 (rg1.ext' sb) _ .non,fun d G1 ⟨G2,sb,q⟩ H1 x1 rg1 v dv=>cl _ G2 q H1 x1 (rg1.ext' sb) _ dv,fun _ _ z=>z.elim,fun _ _ z=>z.elim⟩⟩
end
abbrev DRC:=List D→Gp→DK→Prop
def Abo(K:PySem.W.Frag)(r:DRC):List V→Hp→VK→Prop:=fun xs H Q=>∃ds G Q',DVs K H ds xs∧RelG K H G∧r ds G Q'∧∀d G',Q' d G'→Fwd K H G' fun H'=>∀v,DV K H' d v→Q v H'
def QC(X:Cx)(f:Value)(r:DRC):Prop:=CallR X f (Abo X.K r)
theorem _root_.L2.CallR.imp{f:Value}{r r':List V→Hp→VK→Prop}(h:CallR X f r)(g:∀xs H Q,r' xs H Q→r xs H Q):CallR X f r':=fun pins s σ H xs us Q I rx q=>h pins s σ H xs us Q I rx (g xs H Q q)
def nCB(r:DRC)(t:DTA):DTE:=fun σ G Q=>t σ G fun vs G1=>r vs G1 Q
theorem Ta{K:W.Frag}{r:DRC}{tA:DTA}{σ:St}{H:Hp}{Q:VK}(h:B5 K (nCB r tA) σ H Q):tCB (Abo K r) (Abp K tA) σ H Q:=by
 obtain⟨σD,G,Q',rs,rg,h,cl⟩:=h
 exact⟨σD,G,_,rs,rg,h,fun ds G1 h1 H1 x1 rg1 vs dv=>⟨ds,G1,Q',dv,rg1,h1,fun d G' q=>(cl d G' q).go x1⟩⟩
theorem q_callB{x:Str}{id:String}{r:DRC}{es:List Expr}{p:Pos}{tA:DTA}(hc:QC X (.builtin id) r)(hm:X.mg x=none)(hv:bootBuiltins x=some (.builtin id))(ha:QA X (e::es) tA)(hg:Gl X x:=by rfl)(hn:x≠"__name__":=by decide)(hdb:(x == ("__debug__" : Str))=false:=by decide)(he:starEach (e::es) X.env=(false,eval e X.env)::starEach es X.env:=by rfl)(hpl:(backTo pos (starEach es X.env)).any (·.1)=false:=by rfl):QE X (.Call (.Name x p) (e::es) [] pos) (nCB r tA):=(Oo hc hg hm hv ha hn hdb he hpl).imp fun _ _ _ h=>Ta h
theorem q_callTy{x:Str}{T:String}{r:DRC}{es:List Expr}{p:Pos}{tA:DTA}(hc:QC X (.type T) r)(hm:X.mg x=none)(hv:bootBuiltins x=some (.type T))(ha:QA X (e::es) tA)(hg:Gl X x:=by rfl)(hn:x≠"__name__":=by decide)(hdb:(x == ("__debug__" : Str))=false:=by decide)(he:starEach (e::es) X.env=(false,eval e X.env)::starEach es X.env:=by rfl)(hpl:(backTo pos (starEach es X.env)).any (·.1)=false:=by rfl):QE X (.Call (.Name x p) (e::es) [] pos) (nCB r tA):=(Hk hc hg hm hv ha hn hdb he hpl).imp fun _ _ _ h=>Ta h
theorem Abt:QC X (.builtin "abs") (fun ds G Q=>∃i,ds=[.int i]∧Q (.int (if i<0 then -i else i)) G):=call_abs.imp fun xs H Q ⟨ds,G,Q',dv,rg,⟨i,e,q⟩,cl⟩=>by
 subst e
 obtain⟨v,rfl,r⟩:=dv.one
 cases r
 exact⟨i,rfl,cl _ G q H (Ext.refl H) rg _ (.int _)⟩
theorem Wy(hc:X.calm=true):QC X (.builtin "max") (fun ds G Q=>∃i j,ds=[.int i,.int j]∧Q (.int (if j>i then j else i)) G):=(Vc hc).imp fun xs H Q ⟨ds,G,Q',dv,rg,⟨i,j,e,q⟩,cl⟩=>by
 subst e
 obtain⟨v,w,rfl,r,r'⟩:=dv.two
 cases r;cases r'
 exact⟨i,j,rfl,cl _ G q H (Ext.refl H) rg _ (.int _)⟩
theorem Qy(hc:X.calm=true):QC X (.builtin "min") (fun ds G Q=>∃i j,ds=[.int i,.int j]∧Q (.int (if j<i then j else i)) G):=(Vb hc).imp fun xs H Q ⟨ds,G,Q',dv,rg,⟨i,j,e,q⟩,cl⟩=>by
 subst e
 obtain⟨v,w,rfl,r,r'⟩:=dv.two
 cases r;cases r'
 exact⟨i,j,rfl,cl _ G q H (Ext.refl H) rg _ (.int _)⟩
theorem Yw:QC X (.builtin "divmod") (fun ds G Q=>∃i j,ds=[.int i,.int j]∧Qf i j∧Q (.tup [.int (i / j),.int (i % j)]) G):=call_divmod.imp fun xs H Q ⟨ds,G,Q',dv,rg,⟨i,j,e,hc,q⟩,cl⟩=>by
 subst e
 obtain⟨v,w,rfl,r,r'⟩:=dv.two
 cases r;cases r'
 refine⟨i,j,rfl,hc,fun p hp=>?_⟩
 exact cl _ G q _ (Ext.fresh hp) (rg.tup hp) _ (.tup Ak (.cons (.int _) (.cons (.int _) .nil)))
def Dj(G:Gp):D→Option Nat
 |.tup ds=>some ds.length
 |.lint ns=>some ns.length
 |.str y=>if y.length≤sizeLine then some y.length else none
 |.ref a=>match G a with
  |some (.lst ds)=>some ds.length
  |_=>none
 |_=>none
theorem c_len:QC X (.builtin "len") (fun ds G Q=>∃d,ds=[d]∧∃n,Dj G d=some n∧Q (.int (n:Nat)) G):=call_len.imp fun xs H Q ⟨ds,G,Q',dv,rg,⟨d,e,n,en,q⟩,cl⟩=>by
 subst e
 obtain⟨v,rfl,r⟩:=dv.one
 refine⟨v,n,rfl,?_,cl _ G q H (Ext.refl H) rg _ (.int _)⟩
 cases r with
 |tup e r=>cases en;exact .inr ⟨_,.inl (.inl e),r.length⟩
 |@lint ns a e=>cases en;exact .inl ⟨_,e.sq,by simp⟩
 |str y=>
  simp only[Dj] at en
  split at en
  ·rename_i hy;cases en;exact⟨hy,rfl⟩
  ·cases en
 |ref a=>
  simp only[Dj] at en
  split at en
  ·rename_i ds g
   cases en
   obtain⟨xs,e,r⟩:=rg a _ g
   exact .inl ⟨xs,.inl (.inl e),r.length⟩
  ·cases en
 |_=>cases en
theorem c_tuple:QC X (.type "tuple") (fun ds G Q=>∃d,ds=[d]∧∃es,Av G d=some es∧Q (.tup es) G):=call_tuple_of.imp fun xs H Q ⟨ds,G,Q',dv,rg,⟨d,e,es,en,q⟩,cl⟩=>by
 subst e
 obtain⟨v,rfl,r⟩:=dv.one
 cases r with
 |tup e r=>cases en;exact⟨_,_,rfl,.inr ⟨.inl (.inl e),cl _ G q H (Ext.refl H) rg _ (.tup e r)⟩⟩
 |@lint ns a e=>cases en;exact⟨_,_,rfl,.inl ⟨e.sq,fun p hp=>cl _ G q _ (Ext.fresh hp) (rg.tup hp) _ (.tup Ak DVs.ints)⟩⟩
 |ref a=>
  simp only[Av] at en
  split at en
  ·rename_i ds g
   cases en
   obtain⟨xs,e,r⟩:=rg a _ g
   exact⟨a,xs,rfl,.inl ⟨.inl (.inl e),fun p hp=>cl _ G q _ (Ext.fresh hp) (rg.tup hp) _ (.tup Ak (r.ext (Ext.fresh hp)))⟩⟩
  ·cases en
 |_=>cases en
def Tr(to:DTE)(ta:DTE):DTE:=fun σ G Q=>to σ G fun x G1=>∃p,x=.ref p∧(∃ds,G1 p=some (.lst ds))∧ta σ G1 fun y G2=>∃ds,G2 p=some (.lst ds)∧ds.length<sizeLine∧Q .non (Ab G2 p (.lst (ds++[y])))
theorem N7{o:Expr}{to:DTE}{apos cpos:Pos}(ho:QE X o to)(ha:QE X e ta)(hbase:attributeBase o "append" X.env (eval o X.env)=eval o X.env:=by rfl)(hfew:((backTo cpos (starEach [e] X.env)).all (fun x=>!x.1)&&(backToKw cpos (keywordEach [] X.env)).all (fun x=>x.1.isSome)
   && decide (([e]:List Expr).length+([]:List Keyword).length+(if ([]:List Keyword).isEmpty then 0 else 1)<30))=true:=by rfl)(hline:(apos.endLine == cpos.line)=true:=by rfl)(hs:starEach [e] X.env=(false,eval e X.env)::starEach [] X.env:=by rfl)(hplain:(backTo cpos (starEach [] X.env)).any (·.1)=false:=by rfl) :
  QE X (.Call (.Attribute o "append" apos) [e] [] cpos) (Tr to ta):=
 (pe_bm PySem.F.plainAttrs_list PySem.F.slot_list_append PySem.F.type_list_append Hl ho (Su ha qa_nil hs) hbase hfew hline hs hplain).imp fun σ H Q ⟨σD,G,Q',rs,rg,h,cl⟩=>by
 refine⟨σD,G,_,rs,rg,h,fun d G1 ⟨p,ep,⟨ds,eg⟩,h1⟩ H1 x1 rg1 v dv=>?_⟩
 subst ep;cases dv
 obtain⟨xs,ex,r⟩:=rg1 p _ eg
 refine⟨.inl ⟨rfl,xs,.inl (.inl ex)⟩,σD,G1,fun ds' G2=>∃y,ds'=[y]∧∃ds,G2 p=some (.lst ds)∧ds.length<sizeLine∧Q' .non (Ab G2 p (.lst (ds++[y]))),rs.ext x1,rg1,?_,?_⟩
 ·show ta σD G1 fun x G1=>Aq σD G1 fun xs G2=>_
  exact cast (by congr 1;funext y G2;simp[Aq]) h1
 ·rintro ds' G2 ⟨y,rfl,ds2,eg2,hl,q⟩ H2 x2 rg2 vs dvs
  obtain⟨v,rfl,dv⟩:=dvs.one
  obtain⟨xs2,ex2,r2⟩:=rg2 p _ eg2
  exact⟨p,xs2,v,rfl,rfl,ex2,by rw[←r2.length];exact hl,cl _ _ q _ ((x1.trans x2).trans (E4 ex2)) (rg2.lstw ex2 (r2.append (.cons dv .nil))) _ .non⟩
end
end D3
namespace D3
open PySem PySem.Spec
open PyProof.Rows hiding St
open L2 hiding St
theorem B1{n:Nat}{g:DTG}{tb:DTS}{D:DEnds}{σ:DSt}{G:Gp}(P:Nat→DSt→Gp→Prop)(h0:P 0 σ G)(hs:∀i σ G,i<n→P i σ G→g (.int (i:Nat)) σ G fun σ2 G2=>tb { D with nx:=Fs (P (i+1)),ct:=Fs (P (i+1)),bk:=D.nx } σ2 G2)(hd:∀σ G,P n σ G→D.nx σ G):N3 (K8 n) (fun _=>True) g tb D σ G:=by
 refine⟨P,h0,fun _ _ _ _ _=>trivial,fun i x σ G hx p=>?_,fun σ G p=>hd σ G (by rw[Ck] at p;exact p)⟩
 have hi:i<n:=by
  have:=(List.getElem?_eq_some_iff.mp hx).1
  rw[Ck] at this;exact this
 rw[J5 hi] at hx
 cases hx
 exact hs i σ G hi p
theorem q_globx{X:Cx}{x:Str}{i:Int}{pos:Pos}(hm:∃t,X.mg x=some (.int i t))(hg:Gl X x:=by rfl)(hd:(x == ("__debug__" : Str))=false:=by decide):QE X (.Name x pos) (nC (.int i)):=
 let ⟨_,h⟩:=hm;Aco h hg hd
theorem it0{P:Prop}[Decidable P]{A B:Prop}(h:P)(a:A):if P then A else B:=by rw[if_pos h];exact a
theorem it1{P:Prop}[Decidable P]{A B:Prop}(h:¬P)(b:B):if P then A else B:=by rw[if_neg h];exact b
theorem exI{p:Int→Prop}{j:Int}:(∃i,D.int j=D.int i∧p i)↔p j:=⟨fun⟨i,e,h⟩=>by cases e;exact h,fun h=>⟨j,rfl,h⟩⟩
theorem exB{p:Bool→Prop}{j:Bool}:(∃i,D.bl j=D.bl i∧p i)↔p j:=⟨fun⟨i,e,h⟩=>by cases e;exact h,fun h=>⟨j,rfl,h⟩⟩
theorem exR{p:Addr→Prop}{j:Addr}:(∃i,D.ref j=D.ref i∧p i)↔p j:=⟨fun⟨i,e,h⟩=>by cases e;exact h,fun h=>⟨j,rfl,h⟩⟩
theorem exT{p:List D→Prop}{j:List D}:(∃i,D.tup j=D.tup i∧p i)↔p j:=⟨fun⟨i,e,h⟩=>by cases e;exact h,fun h=>⟨j,rfl,h⟩⟩
theorem exS{α:Type}{p:α→Prop}{j:α}:(∃i,some j=some i∧p i)↔p j:=⟨fun⟨i,e,h⟩=>by cases e;exact h,fun h=>⟨j,rfl,h⟩⟩
theorem exSS{α:Type}{p:α→Prop}{j:α}:(∃i,some (some j)=some (some i)∧p i)↔p j:=⟨fun⟨i,e,h⟩=>by cases e;exact h,fun h=>⟨j,rfl,h⟩⟩
theorem ex1{p:D→Prop}{j:D}:(∃i,[j]=[i]∧p i)↔p j:=⟨fun⟨i,e,h⟩=>by cases e;exact h,fun h=>⟨j,rfl,h⟩⟩
theorem ex1I{p:Int→Prop}{j:Int}:(∃i,[D.int j]=[D.int i]∧p i)↔p j:=⟨fun⟨i,e,h⟩=>by cases e;exact h,fun h=>⟨j,rfl,h⟩⟩
theorem ex2{p:D→D→Prop}{j k:D}:(∃x y,[j,k]=[x,y]∧p x y)↔p j k:=⟨fun⟨_,_,e,h⟩=>by cases e;exact h,fun h=>⟨j,k,rfl,h⟩⟩
theorem ex2I{p:Int→Int→Prop}{j k:Int}:(∃x y,[D.int j,D.int k]=[D.int x,D.int y]∧p x y)↔p j k:=⟨fun⟨_,_,e,h⟩=>by cases e;exact h,fun h=>⟨j,k,rfl,h⟩⟩
theorem Uq{ds:List D}{same:Gp→Prop}{g:DTG}{tb:DTS}{D:DEnds}{σ:DSt}{G:Gp}(P:Nat→DSt→Gp→Prop)(h0:P 0 σ G)(hk:∀i σ G,i≤ds.length→P i σ G→same G)(hs:∀i x σ G,ds[i]? = some x→P i σ G→g x σ G fun σ2 G2=>tb { D with nx:=Fs (P (i+1)),ct:=Fs (P (i+1)),bk:=D.nx } σ2 G2)(hd:∀σ G,P ds.length σ G→D.nx σ G):N3 ds same g tb D σ G:=⟨P,h0,hk,hs,hd⟩
theorem exCons{p:D→List D→Prop}{j:D}{r:List D}:(∃x y,j::r=x::y∧p x y)↔p j r:=⟨fun⟨_,_,e,h⟩=>by cases e;exact h,fun h=>⟨j,r,rfl,h⟩⟩
theorem Zc{α:Type}{x:α}{r:List α}:atI (x::r) 0=some x:=Dc (j:=0) rfl
theorem atI1{α:Type}{x y:α}{r:List α}:atI (x::y::r) 1=some y:=Dc (j:=1) rfl
theorem Kc{G:Gp}{ds:List D}{i:Int}:El G (.tup ds) i=atI ds i:=rfl
theorem Uy{G:Gp}{ns:List Int}{i:Int}:El G (.lint ns) i=atI (ns.map D.int) i:=rfl
theorem Dq{G:Gp}{a:Addr}{ds:List D}{i:Int}(h:G a=some (.lst ds)):El G (.ref a) i=atI ds i:=by simp only[El,h]
theorem M4{G:Gp}{ds:List D}:Dj G (.tup ds)=some ds.length:=rfl
theorem Ov{G:Gp}{ns:List Int}:Dj G (.lint ns)=some ns.length:=rfl
theorem Jr{G:Gp}{a:Addr}{ds:List D}(h:G a=some (.lst ds)):Dj G (.ref a)=some ds.length:=by simp only[Dj,h]
theorem A0{G:Gp}{a:Addr}{ds:List D}(h:G a=some (.lst ds)):Av G (.ref a)=some ds:=by simp only[Av,h]
theorem Kb{G:Gp}{ds:List D}:Av G (.tup ds)=some ds:=rfl
theorem ix0{n:Nat}:ixN (n+1) 0=some 0:=by unfold ixN;rw[if_pos (by omega),if_pos (by omega)];rfl
def Zb(c:DTT)(t u:DTS):DTS:=fun D σ G=>∃M:DSt→Gp→Prop,(c σ G fun b G1=>if b=true then t { D with nx:=Fs M } σ G1 else u { D with nx:=Fs M } σ G1)∧∀σ' G',M σ' G'→D.nx σ' G'
theorem qs_ifM{X:Cx}{c:Expr}{body orelse:List Stmt}{pos:Pos}{tc:DTT}{t u:DTS}(hc:QT X c tc)(ha:QSs X body t)(hb:QSs X orelse u):QS X (.If c body orelse pos) (Zb tc t u):=(Abf hc ha hb).imp fun E σ H ⟨σD,G,D,rs,rg,⟨M,h,hM⟩,cl⟩=>by
 refine⟨σD,G,_,rs,rg,h,fun k G1 h1 H1 x1 rg1=>?_⟩
 have cl':DEnds.Reach X.K H1 { D with nx:=Fs M } E:=⟨fun s2 G2 ⟨G3,sb,m⟩ H2 x2 rg2=>(cl.go x1).nx s2 G3 (hM s2 G3 m) H2 x2 (rg2.ext' sb),(cl.go x1).rt,(cl.go x1).bk,(cl.go x1).ct⟩
 dsimp only at h1 ⊢
 cases k with
 |true=>rw[if_pos rfl] at h1 ⊢;exact⟨σD,G1,_,rs.ext x1,rg1,h1,cl'⟩
 |false=>rw[if_neg Bool.false_ne_true] at h1 ⊢;exact⟨σD,G1,_,rs.ext x1,rg1,h1,cl'⟩
theorem Ad8{α:Type}{xs:List α}{k:Nat}{x:α}(h:xs[k]? = some x):atI xs (k:Int)=some x:=Dc h
theorem szl{n:Nat}(h:n≤1000):n≤sizeLine:=Nat.le_of_lt (Ty h)
end D3
namespace D3
open PySem PySem.Spec
open PyProof.Rows hiding St
open L2 hiding St
def Qd(T:List Str)(σ:St):St:=List.replicate T.length none++σ

def Jy(ifs:List Expr)(env:Env):Sem Bool:=forIn ifs true fun c r=>if r=true then do let ok ←isTrue c env (eval c env);pure (ForInStep.yield ok) else pure (ForInStep.yield r)
def PF(X:Cx)(ifs:List Expr)(t:TT):Prop:=
 ∀(pins:List (Addr×Obj)) (s:Shared) (σ:St) (H:Hp) (Q:Bool→Hp→Prop),Inv X pins σ H s→t σ H Q→wpAny (model X.prog X.w) X.A (Jy ifs X.env) (TP X pins σ Q) X.xe s
theorem Ac1{X:Cx}:PF X [] (fun _ H Q=>Q true H):=fun pins s σ H Q I h=>by
 unfold Jy
 rw[List.forIn_nil]
 exact wpAny_pure ⟨H,I,h⟩
theorem Ac0{X:Cx}{c:Expr}{t:TT}(h:PT X c t):PF X [c] t:=fun pins s σ H Q I q=>by
 unfold Jy
 rw[List.forIn_cons]
 refine wpAny_bind ?_
 rw[if_pos rfl]
 refine wpAny_bind (thn (h pins s σ H Q I q) fun b s1 hb=>wpAny_pure ?_)
 show wpAny _ _ (forIn [] b _) _ _ s1
 rw[List.forIn_nil]
 exact wpAny_pure hb

def Bz(cells:List (Str×Addr)):List (Str×NameKind)→List (Str×Addr)→List (Str×Addr)
 |[],cs=>cs
 |(n,k)::r,cs=>if (k == .free)=true then match cells.lookup n with
   |some c=>Bz cells r ((n,c)::cs)
   |none=>Bz cells r cs
  else Bz cells r cs
theorem Aa2{env:Env}:∀(names:List (Str×NameKind)) (cs:List (Str×Addr)),(names.all fun y=>!(y.2 == .free)||(env.cells.lookup y.1).isSome)=true→
  (forIn names cs fun(x:Str×NameKind) (r:List (Str×Addr))=>(if (x.2 == NameKind.free)=true then do let __do_lift ←cellOf env x.1;pure (ForInStep.yield ((x.1,__do_lift)::r)) else pure (ForInStep.yield r):Sem (ForInStep (List (Str×Addr)))))=pure (Bz env.cells names cs):=by
 intro names
 induction names with
 |nil=>intro cs _;rw[List.forIn_nil];rfl
 |cons y r ih=>
  intro cs h
  obtain⟨n,k⟩:=y
  rw[List.all_cons,Bool.and_eq_true] at h
  rw[List.forIn_cons]
  by_cases hk:(k == NameKind.free)=true
  ·have hs:(env.cells.lookup n).isSome=true:=by
    have h1:=h.1
    simp only[hk,Bool.not_true,Bool.false_or] at h1
    exact h1
   obtain⟨c,hc⟩:=Option.isSome_iff_exists.mp hs
   simp only[hk,if_true,Bz,hc,cellOf]
   exact ih _ h.2
  ·simp only[hk,Bz]
   exact ih _ h.2
theorem E9{cells:List (Str×Addr)}:∀(names:List (Str×NameKind)) (cs:List (Str×Addr)),(∀x c,cs.lookup x=some c→cells.lookup x=some c)→∀x c,(Bz cells names cs).lookup x=some c→cells.lookup x=some c
 |[],cs,h,x,c,e=>h x c e
 |(n,k)::r,cs,h,x,c,e=>by
  unfold Bz at e
  split at e
  ·split at e
   ·rename_i c' hc
    refine E9 r _ (fun y d z=>?_) x c e
    by_cases hy:y=n
    ·subst hy
     rw[List.lookup_cons_self] at z
     cases z
     exact hc
    ·rw[List.lookup_cons,beq_false_of_ne hy] at z
     exact h y d z
   ·exact E9 r _ h x c e
  ·exact E9 r _ h x c e
theorem Hr{cells:List (Str×Addr)}:∀(names:List (Str×NameKind)) (cs:List (Str×Addr)) (x:Str),(names.all fun y=>!(y.2 == .free)||(cells.lookup y.1).isSome)=true→((x,NameKind.free)∈names∨∃c,cs.lookup x=some c)→∃c,(Bz cells names cs).lookup x=some c
 |[],cs,x,_,h=>h.elim (fun z=>nomatch z) id
 |(n,k)::r,cs,x,ha,h=>by
  rw[List.all_cons,Bool.and_eq_true] at ha
  unfold Bz
  by_cases hk:(k == NameKind.free)=true
  ·have hs:(cells.lookup n).isSome=true:=by
    have h1:=ha.1
    simp only[hk,Bool.not_true,Bool.false_or] at h1
    exact h1
   obtain⟨c,hc⟩:=Option.isSome_iff_exists.mp hs
   rw[if_pos hk,hc]
   refine Hr r _ x ha.2 ?_
   by_cases hx:x=n
   ·subst hx;exact .inr ⟨c,List.lookup_cons_self⟩
   ·rcases h with h|⟨d,h⟩
    ·rcases List.mem_cons.mp h with z|z
     ·cases z;exact absurd rfl hx
     ·exact .inl z
    ·exact .inr ⟨d,by rw[List.lookup_cons,beq_false_of_ne hx];exact h⟩
  ·rw[if_neg hk]
   refine Hr r _ x ha.2 (h.imp (fun z=>?_) id)
   rcases List.mem_cons.mp z with z|z
   ·cases z;exact absurd rfl hk
   ·exact z
def Fg(P:Gp→Prop)(G:Gp):Prop:=∃G',Sub G' G∧P G'
theorem Fg.of{P:Gp→Prop}{G:Gp}(h:P G):Fg P G:=⟨G,Sub.refl G,h⟩
def V7(n:Nat)(σ σ2:DSt):Prop:=∃pre,pre.length=n∧σ2=pre++σ
def Ii(n:Nat)(p:Addr)(ds:List D)(same:Gp→Prop)(g:DTG)(tf:DTT)(te:DTE)(σ:DSt)(G:Gp)(Q:DK):Prop:=∃P:Nat→List D→Gp→Prop,P 0 [] G∧(∀i ys G,i≤ds.length→P i ys G→same G∧G p=some (.lst ys))∧
 (∀i x ys G,ds[i]? = some x→P i ys G→g x (List.replicate n none++σ) G fun σ2 G2=>V7 n σ σ2∧tf σ2 G2 fun b G3=>if b=true then te σ2 G3 fun y G4=>G4 p=some (.lst ys)∧ys.length<sizeLine∧Fg (P (i+1) (ys++[y])) (Ab G4 p (.lst (ys++[y]))) else Fg (P (i+1) ys) G3)∧
 ∀ys G,P ds.length ys G→Q (.ref p) G
theorem S1{K:W.Frag}{H:Hp}{σD:DSt}{σ:St}(n:Nat)(r:RelS K H σD σ):RelS K H (List.replicate n none++σD) (List.replicate n none++σ):=by
 refine⟨by simp[r.1],fun i d e=>?_⟩
 by_cases hi:i<n
 ·rw[List.getElem?_append_left (by simpa using hi),List.getElem?_replicate,if_pos hi] at e
  cases e
 ·rw[List.getElem?_append_right (by simpa using hi)] at e ⊢
  simp only[List.length_replicate] at e ⊢
  exact r.2 _ d e
section
variable{X:Cx}{elt iter:Expr}{x:Str}{px:Pos}{ifs:List Expr}{scope:Scope}{pos:Pos}{ti te:DTE}{tf:DTT}{T:List Str}
def QF(X:Cx)(ifs:List Expr)(t:DTT):Prop:=PF X ifs (Ef X.K t)
def Co:DTT:=fun _ G Q=>Q true G
theorem qf_nil:QF X [] Co:=fun pins s σ H Q I ⟨σD,G,Q',rs,rg,h,cl⟩=>Ac1 pins s σ H Q I (cl _ G h H (Ext.refl H) rg)
theorem qf_one{c:Expr}{t:DTT}(h:QT X c t):QF X [c] t:=Ac0 h
end
end D3
namespace D3
open PySem PySem.Spec
open PyProof.Rows hiding St
open L2 hiding St
def B9(G:Gp):D→Option String
 |.non=>some "NoneType"
 |.bl _=>some "bool"
 |.int _=>some "int"
 |.str _=>some "str"
 |.tup _=>some "tuple"
 |.ref a=>match G a with
  |some (.lst _)=>some "list"
  |some (.dct _)=>some "dict"
  |some (.dkk _)=>some "dict"
  |_=>none
 |_=>none
theorem Ab6{G:Gp}{i:Str}:B9 G (.str i)=some "str":=rfl
theorem Wb{G:Gp}{i:List D}:B9 G (.tup i)=some "tuple":=rfl
def pyIs(t c:String):Bool:=t == c||(t == "bool" && c == "int")
def Abq(t c:String):Option Bool:=if (Value.type t == Value.type c)=true then some true else if PySem.W.kitMeta c=true then (fastBuiltinMro t).map (·.contains (.type c)) else none
theorem Adt(K:PySem.W.Frag)(t c:String):PySem.W.kitOne K (.type t) (.type c)=Abq t c:=rfl
abbrev tNames:List String:=["NoneType", "bool", "int", "str", "tuple", "list", "dict"]
abbrev cNames:List String:=["int", "bool", "tuple", "list", "str", "dict"]
theorem Yo:(tNames.all fun t=>cNames.all fun c=>Abq t c == some (pyIs t c))=true:=by decide +kernel
theorem Km{G:Gp}{d:D}{t:String}(h:B9 G d=some t):t∈tNames:=by
 cases d<;>simp only[B9] at h<;>first
  |(cases h;decide)
  |(split at h<;>first|(cases h;decide)|cases h)
  |cases h
theorem Ze{K:W.Frag}{H:Hp}{G:Gp}{d:D}{v:V}{t:String}(rg:RelG K H G)(h:B9 G d=some t)(dv:DV K H d v):TyOf K H v (.type t):=by
 cases dv with
 |non=>cases h;exact .non
 |bl b=>cases h;exact .bl b
 |int i=>cases h;exact .int i
 |str x=>cases h;exact .str x
 |tup e r=>cases h;exact .tup e
 |ty n=>cases h
 |lint e=>cases h
 |ref a=>
  simp only[B9] at h
  split at h
  ·rename_i ds q;cases h;obtain⟨xs,e,_⟩:=rg a _ q;exact .lst e
  ·rename_i ds q;cases h;obtain⟨xs,e,_⟩:=rg a _ q;exact .dT e
  ·rename_i ds q;cases h;obtain⟨xs,e,_⟩:=rg a _ q;exact .dK e
  ·cases h
theorem Ad5:("int"∈cNames)=True:=by decide
theorem Aa1:("bool"∈cNames)=True:=by decide
theorem Dr:("tuple"∈cNames)=True:=by decide
theorem Aa0:("list"∈cNames)=True:=by decide
def Kn(G:Gp)(d:D):Prop:=∃t,B9 G d=some t
def KnT(G:Gp):Nat→D→Prop
 |0,d=>Kn G d
 |n+1,d=>Kn G d∧∀ds,d=.tup ds→∀x∈ds,KnT G n x
theorem KnT.kn{G:Gp}:∀{n:Nat} {d:D},KnT G n d→Kn G d
 |0,_,h=>h
 |_+1,_,h=>h.1
theorem Kn.new{G:Gp}{d:D}(h:Kn G d){p:Addr}{o:GO}(hp:G p=none):Kn (Ab G p o) d:=by
 obtain⟨t,h⟩:=h
 refine⟨t,?_⟩
 cases d<;>first|exact h|skip
 rename_i a
 simp only[B9] at h ⊢
 by_cases e:a=p
 ·subst e;rw[hp] at h;cases h
 ·rw[Ae e];exact h
theorem KnT.new{G:Gp}{p:Addr}{o:GO}(hp:G p=none):∀{n:Nat} {d:D},KnT G n d→KnT (Ab G p o) n d
 |0,_,h=>Kn.new h hp
 |_+1,_,h=>⟨Kn.new h.1 hp,fun ds e x hx=>KnT.new hp (h.2 ds e x hx)⟩
theorem Ms{G:Gp}{d:D}(h:B9 G d=some "tuple"):∃ds,d=.tup ds:=by
 cases d<;>simp only[B9] at h<;>first|exact⟨_,rfl⟩|(exact absurd (Option.some.inj h) (by decide))|(split at h<;>first|(exact absurd (Option.some.inj h) (by decide))|cases h)|cases h
section
variable{X:Cx}
theorem c_isinst:QC X (.builtin "isinstance") (fun ds G Q=>∃x c,ds=[x,.ty c]∧c∈cNames∧∃t,B9 G x=some t∧Q (.bl (pyIs t c)) G):=by
 intro pins s σ H xs us Q I r ⟨ds,G,Q',dv,rg,⟨x,c,e,hc,t,ht,q⟩,cl⟩
 subst e
 obtain⟨v,w,rfl,d1,d2⟩:=dv.two
 cases d2
 obtain⟨u1,u2,rfl,r1,r2⟩:=Lr r
 cases r2
 have hk:PySem.W.kitOne X.K (.type t) (.type c)=some (pyIs t c):=by
  rw[Adt]
  have h1:=List.all_eq_true.mp Yo t (Km ht)
  have h2:=List.all_eq_true.mp h1 c hc
  exact beq_iff_eq.mp h2
 refine Uz I r1 (Ze rg ht d1) hk fun tk=>?_
 exact⟨.bl (pyIs t c),H,I.tok _,rfl,cl _ G q H (Ext.refl H) rg _ (.bl _)⟩

theorem Vd(hc:X.calm=true):CallR X (.builtin "all") (fun xs H Q=>∃(a:Addr) (bs:List Bool),xs=[.ref a]∧SqL X.K H a (bs.map V.bl)∧Q (.bl (bs.all id)) H):=by
 intro pins s σ H xs us Q I r h
 obtain⟨a,bs,rfl,hq,q⟩:=h
 obtain⟨u,rfl,ru⟩:=Fy r
 cases ru
 obtain⟨its,rv,p,hz⟩:=I.list hq
 refine call_all_walk ?_
 refine wpAny_pyIter_list p.isList ?_
 have hlt:a<s.heap.objs.size:=by obtain⟨_,_,e,_⟩:=p;exact Heap.lt_size e
 refine⟨s.heap.objs.size,_,_,_,_,_,fun i=>(bs[i]?).getD true,rfl,Walks.list (A:=X.A.in1) (I.ok.hd hc) _ _ (Nat.ne_of_lt hlt) its.toArray,⟨⟨_,Heap.get?_push_size _ rfl,rfl,rfl⟩,p.isList.push _⟩,?_,?_⟩
 ·intro i v s' Q' E' hP hQ
  have hv:its[i]? = some v:=by simpa using hP
  have hb:∃b,bs[i]? = some b∧v=Value.bool b:=by
   have key:∀(bs:List Bool) (its:List Value),Vals (bs.map V.bl) its→∀(i:Nat) (v:Value),its[i]? = some v→∃b,bs[i]? = some b∧v=Value.bool b:=by
    intro bs
    induction bs with
    |nil=>intro its r i v e;cases r;simp at e
    |cons b bs ih=>
     intro its r i v e
     rw[List.map_cons] at r
     cases r with
     |cons r1 r2=>
      cases i with
      |zero=>simp at e;subst e;cases r1;exact⟨b,rfl,rfl⟩
      |succ i=>simpa using ih _ r2 i v (by simpa using e)
   exact key bs its rv i v hv
  obtain⟨b,eb,rfl⟩:=hb
  refine wpAny_truthy_bool ?_
  have:(bs[i]?).getD true=b:=by rw[eb];rfl
  dsimp only at hQ;rw[this] at hQ;exact hQ
 ·intro h' tk hk
  have hl:=rv.length
  rw[List.length_map] at hl
  have e:((List.range its.toArray.size).all fun i=>(bs[i]?).getD true)=bs.all id:=by
   rw[List.size_toArray,←hl,Bool.eq_iff_iff,List.all_eq_true,List.all_eq_true]
   constructor
   ·intro h b hb
    obtain⟨i,hi,e⟩:=List.getElem_of_mem hb
    have:=h i (List.mem_range.mpr hi)
    rw[List.getElem?_eq_getElem hi,e] at this
    exact this
   ·intro h i hi
    have hi:=List.mem_range.mp hi
    rw[List.getElem?_eq_getElem hi]
    exact h _ (List.getElem_mem hi)
  refine⟨.bl (bs.all id),H,I.kept (t':=tk) fun b o eb=>hk b o (fun z=>?_) (Heap.get?_push_of_some _ eb),by rw[e];rfl,q⟩
  have:b=s.heap.objs.size:=by simpa using z
  subst this
  exact absurd (Heap.lt_size eb) (Nat.lt_irrefl _)
theorem Wz{K:W.Frag}{H:Hp}:∀{bs:List Bool} {vs:List V},DVs K H (bs.map D.bl) vs→vs=bs.map V.bl
 |[],_,r=>by cases r;rfl
 |b::bs,_,r=>by
  cases r with
  |cons h t=>cases h;rw[Wz t];rfl
theorem c_all(hc:X.calm=true):QC X (.builtin "all") (fun ds G Q=>∃a,ds=[.ref a]∧∃bs:List Bool,G a=some (.lst (bs.map D.bl))∧Q (.bl (bs.all id)) G):=(Vd hc).imp fun xs H Q ⟨ds,G,Q',dv,rg,⟨a,e,bs,eg,q⟩,cl⟩=>by
 subst e
 obtain⟨v,rfl,r⟩:=dv.one
 cases r
 obtain⟨ys,ey,ry⟩:=rg a _ eg
 have:=Wz ry
 subst this
 exact⟨a,bs,rfl,.inl (.inl ey),cl _ G q H (Ext.refl H) rg _ (.bl _)⟩
theorem Ay{n i0:Nat}{p:Addr}{ds:List D}{same:Gp→Prop}{tf:DTT}{te:DTE}{σ:DSt}{G:Gp}{Q:DK}(f:D→D)(c:D→Bool)(hz:ds.length<sizeLine)(hsm:∀ys,same (Ab G p (.lst ys)))(h0:i0<n)(hs:∀x ys,x∈ds→ys.length<sizeLine→∀(R1:D→Gp→Prop) (R2:Gp→Prop),(c x=true→R1 (f x) (Ab G p (.lst (ys++[f x]))))→(c x=false→R2 (Ab G p (.lst ys)))→
   tf ((List.replicate n none++σ).set i0 (some x)) (Ab G p (.lst ys)) fun b G3=>if b=true then te ((List.replicate n none++σ).set i0 (some x)) G3 fun y G4=>G4 p=some (.lst ys)∧ys.length<sizeLine∧Fg (R1 y) (Ab G4 p (.lst (ys++[y]))) else Fg R2 G3)(hq:Q (.ref p) (Ab G p (.lst ((ds.filter c).map f)))):Ii n p ds same (Aw i0) tf te σ (Ab G p (.lst [])) Q:=by
 refine⟨fun i ys G'=>ys=((ds.take i).filter c).map f∧Ab G p (.lst ys)=G',⟨rfl,rfl⟩,?_,?_,?_⟩
 ·rintro i ys _ _ ⟨_,rfl⟩
  exact⟨hsm ys,Aa⟩
 ·rintro i x ys _ hx ⟨e,rfl⟩
  have hi:=(List.getElem?_eq_some_iff.mp hx).1
  have hl:ys.length<sizeLine:=by
   rw[e,List.length_map]
   refine Nat.lt_of_le_of_lt (List.length_filter_le _ _) ?_
   rw[List.length_take];omega
  have tk:ds.take (i+1)=ds.take i++[x]:=by rw[List.take_add_one,hx];rfl
  refine⟨⟨(List.replicate n none).set i0 (some x),by simp,by rw[List.set_append_left _ _ (by simpa using h0)]⟩,?_⟩
  refine hs x ys (List.mem_of_getElem? hx) hl (fun y G'=>ys++[y]=((ds.take (i+1)).filter c).map f∧Ab G p (.lst (ys++[y]))=G') (fun G'=>ys=((ds.take (i+1)).filter c).map f∧Ab G p (.lst ys)=G') (fun hc=>⟨?_,rfl⟩) (fun hc=>⟨?_,rfl⟩)
  ·rw[tk,List.filter_append,List.map_append,←e];simp[hc]
  ·rw[tk,List.filter_append,List.map_append,←e];simp[hc]
 ·rintro ys _ ⟨e,rfl⟩
  rw[List.take_length] at e
  rw[e];exact hq
end
end D3
namespace D3
open PySem PySem.Spec
open PyProof.Rows hiding St
open L2 hiding St
mutual
inductive RepD (G:Gp):D→PyData→Prop where
 |non:RepD G .non .none
 |bl (b:Bool):RepD G (.bl b) (.bool b)
 |int (i:Int):RepD G (.int i) (.int i)
 |str (x:Str):RepD G (.str x) (.str x)
 |tup {ds:List D} {ps:List PyData} (r:RepDs G ds ps):RepD G (.tup ds) (.tuple ps)
 |lst {a:Addr} {ds:List D} {ps:List PyData} (e:G a=some (.lst ds)) (r:RepDs G ds ps):RepD G (.ref a) (.list ps)
 |dct0 {a:Addr} (e:G a=some (.dkk [])):RepD G (.ref a) (.dict [])
inductive RepDs (G:Gp):List D→List PyData→Prop where
 |nil:RepDs G [] []
 |cons {d:D} {p:PyData} {ds:List D} {ps:List PyData} (h:RepD G d p) (t:RepDs G ds ps):RepDs G (d::ds) (p::ps)
end
section
variable{P:Program}{w:World}{K:W.Frag}{H:Hp}{G:Gp}{h:Heap}
mutual
theorem C2(rg:RelG K H G)(ok:HOk P w H h):∀{d:D} {p:PyData} {v:V} {u:Value},RepD G d p→DV K H d v→RelV v u→∃as,Reads h u p as∧∀b∈as,H b≠none
 |_,_,_,_,.non,dv,r=>by cases dv;cases r;exact⟨_,.none,by simp⟩
 |_,_,_,_,.bl b,dv,r=>by cases dv;cases r;exact⟨_,.bool b,by simp⟩
 |_,_,_,_,.int i,dv,r=>by cases dv;obtain⟨t,rfl⟩:=r;exact⟨_,.int i t,by simp⟩
 |_,_,_,_,.str x,dv,r=>by cases dv;obtain⟨t,rfl⟩:=r;exact⟨_,.str x t,by simp⟩
 |_,_,_,_,.tup rs,dv,r=>by
  cases dv with
  |@tup _ a xs e ds=>
   cases r
   obtain⟨_,its,rv,o,h1,h2,n,h3⟩:=(show ObjOk P w H h a (.tup xs) from ok a _ e)
   obtain⟨as,ra,hb⟩:=Ew rg ok rs ds rv
   exact⟨_,.tuple h1 h2 h3 (by simpa using ra),hb⟩
 |_,_,_,_,@RepD.lst _ a _ _ e rs,dv,r=>by
  cases dv with
  |ref=>
   cases r
   obtain⟨xs,ex,ds⟩:=rg _ _ e
   obtain⟨_,its,n,rv,h1⟩:=(show ObjOk P w H h a (.lst xs) from ok a _ ex)
   obtain⟨as,ra,hb⟩:=Ew rg ok rs ds rv
   refine⟨_,.list h1 rfl rfl (by simpa using ra),fun b hm=>?_⟩
   rcases List.mem_cons.mp hm with z|z
   ·subst z;rw[ex];simp
   ·exact hb b z
 |_,_,_,_,@RepD.dct0 _ a e,dv,r=>by
  cases dv with
  |ref=>
   cases r
   obtain⟨ks,ex,ds⟩:=rg _ _ e
   cases ds
   obtain⟨_,_,vs,rv,o,es,ep,h1,h2,h3,_,h4,_⟩:=(show ObjOk P w H h a (.dK []) from ok a _ ex)
   cases rv
   have he:es.toList=[]:=by
    revert h4
    cases es.toList with
    |nil=>intro _;rfl
    |cons x r=>intro h4;exact absurd h4 (by intro z;cases z)
   refine⟨_,.dict (kvs:=[]) h1 h2.1 h3 (by rw[he];exact .nil) (by rw[he];exact .nil),fun b hm=>?_⟩
   have:b=a:=by simpa using hm
   subst this
   rw[ex];simp
theorem Ew(rg:RelG K H G)(ok:HOk P w H h):∀{ds:List D} {ps:List PyData} {vs:List V} {us:List Value},RepDs G ds ps→DVs K H ds vs→Vals vs us→∃as,ReadsAll h us ps as∧∀b∈as,H b≠none
 |_,_,_,_,.nil,dv,r=>by cases dv;cases r;exact⟨_,.nil,by simp⟩
 |_,_,_,_,.cons hd tl,dv,r=>by
  cases dv with
  |cons d1 d2=>
   cases r with
   |cons r1 r2=>
    obtain⟨as,a,ha⟩:=C2 rg ok hd d1 r1
    obtain⟨bs,b,hb⟩:=Ew rg ok tl d2 r2
    exact⟨_,.cons a b,fun x hx=>(List.mem_append.mp hx).elim (ha x) (hb x)⟩
end
end
section
variable{X:Cx}{k:Nat}
def dEqD:DR2:=fun x y G Q=>∃p q,RepD G x p∧RepD G y q∧p.canLay0=true∧q.canLay0=true∧min p.depth q.depth≤100∧Q (.bl (PyData.eqv p q)) G
def dNeD:DR2:=fun x y G Q=>∃p q,RepD G x p∧RepD G y q∧p.canLay0=true∧q.canLay0=true∧min p.depth q.depth≤100∧Q (.bl (!PyData.eqv p q)) G
theorem Jm{A:Around}(hr:Room k A){n:Nat}(h:n≤100):A.units+n<cLine:=by have:=hr.un;omega
theorem o_eqD(hr:Room k X.A):QOp X (compareOp .Eq) dEqD:=by
 intro pins s σ H x y v u Q I rx ry ⟨dx,dy,G,Q',hx,hy,rg,⟨p,q,rp,rq,c1,c2,hd,h⟩,cl⟩
 obtain⟨as,ra,hfa⟩:=C2 rg I.hok rp hx rx
 obtain⟨bs,rb,hfb⟩:=C2 rg I.hok rq hy ry
 exact SeqAt.compareEq_reads ra rb c1 c2 (Jm hr hd) ⟨.bl _,H,I,rfl,cl _ G h H (Ext.refl H) rg _ (.bl _)⟩
theorem Abg(hr:Room k X.A):QOp X (compareOp .NotEq) dNeD:=by
 intro pins s σ H x y v u Q I rx ry ⟨dx,dy,G,Q',hx,hy,rg,⟨p,q,rp,rq,c1,c2,hd,h⟩,cl⟩
 obtain⟨as,ra,hfa⟩:=C2 rg I.hok rp hx rx
 obtain⟨bs,rb,hfb⟩:=C2 rg I.hok rq hy ry
 exact SeqAt.compareNe_reads ra rb c1 c2 (Jm hr hd) ⟨.bl _,H,I,rfl,cl _ G h H (Ext.refl H) rg _ (.bl _)⟩
def dInD(neg:Bool):DR2:=fun x y G Q=>∃p ps,RepD G x p∧(RepD G y (.list ps)∨RepD G y (.tuple ps))∧p.canLay0=true∧PyData.canLayAll0 ps=true∧1+min (PyData.depthAll ps) p.depth≤100∧Q (.bl (if neg then !(ps.any fun y=>PyData.eqv y p) else ps.any fun y=>PyData.eqv y p)) G
theorem o_inD(hr:Room k X.A):QOp X (compareOp .In) (dInD false):=by
 intro pins s σ H x y v u Q I rx ry ⟨dx,dy,G,Q',hx,hy,rg,⟨p,ps,rp,rq,c1,c2,hd,h⟩,cl⟩
 obtain⟨as,ra,hfa⟩:=C2 rg I.hok rp hx rx
 have fin:EP X pins σ Q (.bool (ps.any fun y=>PyData.eqv y p)) s:=⟨.bl _,H,I,rfl,cl _ G h H (Ext.refl H) rg _ (.bl _)⟩
 rcases rq with rq|rq
 ·obtain⟨bs,rb,hfb⟩:=C2 rg I.hok rq hy ry
  exact SeqAt.in_list_reads rb ra c2 c1 (by have:=Jm hr hd;omega) fin
 ·obtain⟨bs,rb,hfb⟩:=C2 rg I.hok rq hy ry
  exact SeqAt.in_tuple_reads rb ra c2 c1 (by have:=Jm hr hd;omega) fin
end
end D3
namespace D3
open PySem PySem.Spec
open PyProof.Rows hiding St
open L2 hiding St
section
variable{prog:Program}{w:World}{A:Around}{E:Value→Shared→Prop}{s:Shared}
theorem Gs{t sl:Addr}{items:Array Value}{vl vu:Value}{lo hi:Option Int}{Q:Value→Shared→Prop}(ht:IsTup s.heap t items)(hs:s.heap.IsSliceOf sl vl vu .none)(pl:IsPart vl lo)(pu:IsPart vu hi)(hw:HT.sIx items.size 0 lo=0∧HT.sIx items.size items.size hi=items.size)(h:Q (.ref t) s):wpAny (model prog w) A (getItem (.ref t) (.ref sl)) Q E s:=by
 obtain⟨os,hos,hcs,hds⟩:=id hs
 have hTs:s.TypeIs (.ref sl) "slice":=⟨os,hos,hcs⟩
 unfold getItem
 try with_reducible refine wpAny_holding ?_
 first|refine wpAny_bind (wpAny_pure ?_)|skip
 refine wpAny_bind (wpAny_sequenceKey ht.typeIs (by decide) ?_)
 refine wpAny_bind (wpAny_callSpecial?_slot (name:=Str.ofString "__getitem__") ht.typeIs PyProof.Rows.slot_tuple_getitem
  (wpAny_call_entry PyProof.Rows.slot_tuple_getitem ht.typeIs entry_tuple_getitem ?_ (args_tuple_getitem _ _)))
 show wpAny _ _ (Builtin.Tuple.tupleItemsOf (.ref t) >>= _) _ _ s
 refine wpAny_bind (tupleItemsOf_ ht ?_)
 refine wpAny_bind (wpAny_typeOf hTs ?_)
 rw[if_pos (by decide)]
 refine wpAny_bind (HT.sliceApplied_gen hs pl pu ?_)
 show wpAny _ _ (if (((HT.sIx items.size 0 lo:Nat):Int) == 0&&(1:Int) == 1&&(HT.sIx items.size items.size hi-HT.sIx items.size 0 lo) == items.size)=true then _ else _) _ _ s
 rw[if_pos (by rw[hw.1,hw.2];simp)]
 refine wpAny_bind ?_
 unfold Builtin.Tuple.tupleIsExact
 refine wpAny_bind (wpAny_typeOf ht.typeIs (wpAny_pure ?_))
 rw[if_pos (by decide)]
 refine wpAny_bind (wpAny_rule ?_)
 exact wpAny_pure ⟨_,rfl,wpAny_pure h⟩
end
section
variable{X:Cx}{a b c e:Expr}{ta tb tc te:DTE}{pos p2:Pos}{lo hi:Option Expr}
def Ir(xs:List D)(lo hi:Option Int):List D:=(xs.drop (HT.sIx xs.length 0 lo)).take (HT.sIx xs.length xs.length hi-HT.sIx xs.length 0 lo)
theorem Wx{K:W.Frag}{H:Hp}{ds:List D}{vs:List V}(r:DVs K H ds vs)(lo hi:Option Int):DVs K H (Ir ds lo hi) (N2 vs lo hi):=by
 unfold Ir N2;rw[r.length];exact(r.drop _).take _
theorem U7{ds:List D}{lo hi:Option Int}(h:HT.sIx ds.length 0 lo=0∧HT.sIx ds.length ds.length hi=ds.length):Ir ds lo hi=ds:=by
 unfold Ir;rw[h.1,h.2];simp
abbrev DTO:=DSt→Gp→(Option Int→Gp→Prop)→Prop
def liftO(K:PySem.W.Frag)(t:DTO):TO:=fun σ H Q=>∃σD G Q',RelS K H σD σ∧RelG K H G∧t σD G Q'∧∀o G',Q' o G'→Fwd K H G' fun H'=>Q o H'
def QO(X:Cx)(e:Option Expr)(t:DTO):Prop:=PO X e (liftO X.K t)
def F5:DTO:=fun _ G Q=>Q none G
def N9(t:DTE):DTO:=fun σ G Q=>t σ G fun x G1=>∃i,x=.int i∧Q (some i) G1
theorem _root_.L2.PO.imp{X:Cx}{e:Option Expr}{t t':TO}(h:PO X e t)(f:∀σ H Q,t' σ H Q→t σ H Q):PO X e t':=fun pins s σ H Q I q=>h pins s σ H Q I (f σ H Q q)
theorem F3:QO X none F5:=po_none.imp fun σ H Q ⟨σD,G,Q',rs,rg,h,cl⟩=>cl _ G h H (Ext.refl H) rg
theorem F2(h:QE X e te):QO X (some e) (N9 te):=(Zw h).imp fun σ H Q ⟨σD,G,Q',rs,rg,h,cl⟩=>by
 refine⟨σD,G,_,rs,rg,h,fun d G1 ⟨i,ei,h1⟩ H1 x1 rg1 v dv=>?_⟩
 subst ei;cases dv
 exact⟨i,rfl,cl _ G1 h1 H1 x1 rg1⟩
def Em(G:Gp)(x:D)(lo hi:Option Int)(Q:DK):Prop:=match x with
 |.tup ds=>Q (.tup (Ir ds lo hi)) G
 |.ref a=>match G a with
  |some (.lst ds)=>∀p,G p=none→Q (.ref p) (Ab G p (.lst (Ir ds lo hi)))
  |_=>False
 |_=>False
def rSl(K:PySem.W.Frag):V→Option Int→Option Int→Hp→VK→Prop:=fun x lo hi H Q=>∃d G Q',DV K H d x∧RelG K H G∧Em G d lo hi Q'∧∀d G',Q' d G'→Fwd K H G' fun H'=>∀v,DV K H' d v→Q v H'
theorem Ach:SlR X (rSl X.K):=by
 intro pins s σ H x v vl vu lo hi sl Q I rx hs pl pu ⟨d,G,Q',dv,rg,h,cl⟩
 cases dv with
 |@tup ds a xs e r=>
  have h:Q' (.tup (Ir ds lo hi)) G:=h
  by_cases hw:HT.sIx xs.length 0 lo=0∧HT.sIx xs.length xs.length hi=xs.length
  ·cases rx
   obtain⟨its,rv,ht,hz⟩:=I.tuple (.inl (.inl e))
   have hlen:its.toArray.size=xs.length:=by rw[List.size_toArray];exact rv.length.symm
   refine⟨"tuple",_,PyProof.Rows.slot_tuple_getitem.lookup,ht.typeIs,Gs ht hs pl pu (by rw[hlen];exact hw) ⟨.ref a,H,I,rfl,?_⟩⟩
   rw[U7 (by rw[r.length];exact hw)] at h
   exact cl _ G h H (Ext.refl H) rg _ (.tup e r)
  ·exact Ace pins s σ H _ v vl vu lo hi sl Q I rx hs pl pu ⟨a,xs,rfl,.inl (.inl e),hw,fun p hp=>cl _ G h _ (Ext.fresh hp) (rg.tup hp) _ (.tup Ak ((Wx r lo hi).ext (Ext.fresh hp)))⟩
 |ref a=>
  simp only[Em] at h
  split at h
  ·rename_i ds g
   obtain⟨xs,e,r⟩:=rg a _ g
   exact Zk pins s σ H _ v vl vu lo hi sl Q I rx hs pl pu ⟨a,xs,rfl,.inl (.inl e),fun p hp=>cl _ _ (h p (rg.free hp)) _ (Ext.fresh hp) (rg.lst hp (Wx r lo hi)) _ (.ref p)⟩
  ·exact h.elim
 |_=>exact h.elim
def nSl(te:DTE)(tl th:DTO):DTE:=fun σ G Q=>te σ G fun x G1=>tl σ G1 fun l G2=>th σ G2 fun u G3=>Em G3 x l u Q
theorem F4{tl th:DTO}(he:QE X e te)(hl:QO X lo tl)(hu:QO X hi th):QE X (.Subscript e (.Slice lo hi none p2) pos) (nSl te tl th):=(Xv Ach he hl hu).imp fun σ H Q ⟨σD,G,Q',rs,rg,h,cl⟩=>by
 refine⟨σD,G,_,rs,rg,h,fun x G1 h1 H1 x1 rg1 v1 d1=>?_⟩
 refine⟨σD,G1,_,rs.ext x1,rg1,h1,fun l G2 h2 H2 x2 rg2=>?_⟩
 refine⟨σD,G2,_,rs.ext (x1.trans x2),rg2,h2,fun u G3 h3 H3 x3 rg3=>?_⟩
 exact⟨x,G3,Q',d1.ext (x2.trans x3),rg3,h3,fun d G' q=>(cl d G' q).go (x1.trans (x2.trans x3))⟩

theorem Oz{α:Type}(xs:List α):(List.range xs.length).filterMap (fun k=>xs[k]?)=xs:=by
 induction xs with
 |nil=>rfl
 |cons x r ih=>
  rw[List.length_cons,List.range_succ_eq_map,List.filterMap_cons]
  simp only[List.getElem?_cons_zero,List.filterMap_map]
  congr 1
theorem Ft{α β:Type}{f g:α→Option β}:∀{l:List α},(∀x∈l,f x=g x)→l.filterMap f=l.filterMap g
 |[],_=>rfl
 |x::r,h=>by
  rw[List.filterMap_cons,List.filterMap_cons,h x (by simp),Ft fun y hy=>h y (by simp[hy])]
theorem Xs(its:List Value):slicePick its.toArray none none (some (-1))=its.reverse.toArray:=by
 unfold slicePick
 have hb:sliceBounds none none (some (-1)) its.toArray.size=((its.length:Int)-1,-1,-1):=by
  simp[sliceBounds]
 rw[hb]
 congr 1
 show(sliceRange ((its.length:Int)-1) (-1) (-1)).filterMap (its.toArray[·]?)=its.reverse
 have hr:sliceRange ((its.length:Int)-1) (-1) (-1)=(List.range its.length).map fun k=>its.length-1-k:=by
  unfold sliceRange
  have hc:(if (-1:Int)>0 then (if (its.length:Int)-1 < -1 then (-1-((its.length:Int)-1) + -1-1) / -1 else 0) else (if (its.length:Int)-1 > -1 then ((its.length:Int)-1 - -1 - -1-1) / (- -1) else 0))=(its.length:Int):=by
   rw[if_neg (by decide)]
   by_cases h:(its.length:Int)-1 > -1
   ·rw[if_pos h];show(_:Int) / 1=_;rw[Int.ediv_one];omega
   ·rw[if_neg h];omega
  simp only[hc,Int.toNat_natCast]
  refine List.map_congr_left fun k hk=>?_
  have:=List.mem_range.mp hk
  omega
 rw[hr,List.filterMap_map]
 have e:=Oz its.reverse
 rw[List.length_reverse] at e
 rw[←e]
 refine Ft fun k hk=>?_
 have:=List.mem_range.mp hk
 simp only[Function.comp,List.getElem?_toArray]
 rw[List.getElem?_reverse this]

theorem Gr{prog:Program}{w:World}{A:Around}{E:Value→Shared→Prop}{s:Shared}{t sl:Addr}{its:List Value}{vs:Value}{Q:Value→Shared→Prop}(ht:IsTup s.heap t its.toArray)(hs:s.heap.IsSliceOf sl .none .none vs)(ps:IsPart vs (some (-1)))(hz:its.length≤sizeLine)(h:Q (.ref s.heap.objs.size) { s with heap:=s.heap.push { cls:=.type "tuple",data:=.seq its.reverse.toArray } }):wpAny (model prog w) A (getItem (.ref t) (.ref sl)) Q E s:=by
 obtain⟨os,hos,hcs,hds⟩:=id hs
 have hTs:s.TypeIs (.ref sl) "slice":=⟨os,hos,hcs⟩
 unfold getItem
 try with_reducible refine wpAny_holding ?_
 first|refine wpAny_bind (wpAny_pure ?_)|skip
 refine wpAny_bind (wpAny_sequenceKey ht.typeIs (by decide) ?_)
 refine wpAny_bind (wpAny_callSpecial?_slot (name:=Str.ofString "__getitem__") ht.typeIs PyProof.Rows.slot_tuple_getitem
  (wpAny_call_entry PyProof.Rows.slot_tuple_getitem ht.typeIs entry_tuple_getitem ?_ (args_tuple_getitem _ _)))
 show wpAny _ _ (Builtin.Tuple.tupleItemsOf (.ref t) >>= _) _ _ s
 refine wpAny_bind (tupleItemsOf_ ht ?_)
 refine wpAny_bind (wpAny_typeOf hTs ?_)
 rw[if_pos (by decide)]
 refine wpAny_bind ?_
 unfold Builtin.Slice.sliceApplied Builtin.Slice.sliceFields
 refine wpAny_bind (wpAny_bind (wpAny_field hos hds (x:=.none) rfl (wpAny_bind (wpAny_field hos hds (x:=.none) rfl (wpAny_bind (wpAny_field hos hds (x:=vs) rfl (wpAny_pure ?_)))))))
 refine wpAny_bind (HT.slicePart_ ps ?_)
 show wpAny _ _ (if ((-1:Int) == 0)=true then _ else _) _ _ s
 rw[if_neg (by decide)]
 refine wpAny_bind (HT.slicePart_ .none (wpAny_bind (HT.slicePart_ .none (wpAny_bind (wpAny_pure ?_)))))
 have ha:Builtin.Slice.sliceAdjust none none (-1) ((its.toArray.size:Nat):Int)=((its.length:Int)-1,-1):=by simp[Builtin.Slice.sliceAdjust]
 show wpAny _ _ (match Builtin.Slice.sliceAdjust none none (-1) ((its.toArray.size:Nat):Int) with|(lo,hi)=>pure (lo,(-1:Int),Builtin.Slice.slicePlaces lo hi (-1))) _ _ s
 rw[ha]
 have hp:Builtin.Slice.slicePlaces ((its.length:Int)-1) (-1) (-1)=its.length:=by
  unfold Builtin.Slice.slicePlaces
  rw[if_neg (by decide)]
  by_cases h:(its.length:Int)-1 > -1
  ·rw[if_pos h];show((_:Int) / 1+1).toNat=_;rw[Int.ediv_one];omega
  ·rw[if_neg h];show(0:Int).toNat=_;simp;omega
 show wpAny _ _ (pure ((its.length:Int)-1,(-1:Int),Builtin.Slice.slicePlaces ((its.length:Int)-1) (-1) (-1))) _ _ s
 rw[hp]
 refine wpAny_pure ?_
 show wpAny _ _ (if (((its.length:Int)-1) == 0&&(-1:Int) == 1&&its.length == its.toArray.size)=true then _ else _) _ _ s
 rw[if_neg (by simp)]
 have hr:((List.range its.length).filterMap fun(k:Nat)=>its.toArray[(((its.length:Int)-1)+(k:Int)*(-1)).toNat]?)=its.reverse:=by
  have e:=Oz its.reverse
  rw[List.length_reverse] at e
  rw[←e]
  refine Ft fun k hk=>?_
  have:=List.mem_range.mp hk
  rw[List.getElem?_reverse this,List.getElem?_toArray]
  congr 1;omega
 rw[hr]
 have htake:sizeOk (.seq its.reverse.toArray):=by
  show its.reverse.toArray.size≤sizeLine
  rw[List.size_toArray,List.length_reverse];exact hz
 first
  |exact wpAny_bind (m:=Builtin.Tuple.tupleExact _) (wpAny_newObj_type (wpAny_pure ⟨_,rfl,wpAny_pure h⟩) htake)
  |exact wpAny_bind (m:=Builtin.Tuple.tupleExact _) (wpAny_newObj_type (wpAny_bind (wpAny_pure (wpAny_pure ⟨_,rfl,wpAny_pure h⟩))) htake)
  |exact wpAny_bind (wpAny_bind (m:=Builtin.Tuple.tupleExact _) (wpAny_newObj_type (wpAny_pure (wpAny_pure ⟨_,rfl,wpAny_pure h⟩)) htake))
  |exact wpAny_bind (wpAny_bind (m:=Builtin.Tuple.tupleExact _) (wpAny_newObj_type (wpAny_pure ⟨_,rfl,wpAny_pure h⟩) htake))
theorem DVs.rev{K:W.Frag}{H:Hp}:∀{ds:List D} {vs:List V},DVs K H ds vs→DVs K H ds.reverse vs.reverse
 |_,_,.nil=>.nil
 |_,_,.cons h t=>by rw[List.reverse_cons,List.reverse_cons];exact(DVs.rev t).append (.cons h .nil)
theorem J4:∀{xs:List V} {us:List Value},Vals xs us→Vals xs.reverse us.reverse
 |_,_,.nil=>.nil
 |_,_,.cons h t=>by rw[List.reverse_cons,List.reverse_cons];exact Vals.append (J4 t) (.cons h .nil)
def Vq(G:Gp)(x:D)(Q:DK):Prop:=match x with
 |.tup ds=>Q (.tup ds.reverse) G
 |.ref a=>match G a with
  |some (.lst ds)=>∀p,G p=none→Q (.ref p) (Ab G p (.lst ds.reverse))
  |_=>False
 |_=>False
def nRev(te:DTE)(ts:DTE):DTE:=fun σ G Q=>te σ G fun x G1=>ts σ G1 fun y G2=>y=.int (-1)∧Vq G2 x Q
theorem q_rev(he:QE X e te)(hb:QE X b tb):QE X (.Subscript e (.Slice none none (some b) p2) pos) (nRev te tb):=by
 intro pins s σ H Q I ⟨σD,G,Q',rs,rg,h,cl⟩
 refine Subscript_ (thn (he pins s σ H (fun xv H1=>∃x G1,DV X.K H1 x xv∧(tb σD G1 fun y G2=>y=.int (-1)∧Vq G2 x Q')∧RelG X.K H1 G1∧Ext H H1) I ⟨σD,G,_,rs,rg,h,fun x G1 h1 H1 x1 rg1 v1 d1=>⟨x,G1,d1,h1,rg1,x1⟩⟩) fun v s1 ⟨xv,H1,I1,r1,x,G1,d1,h1,rg1,x1⟩=>?_)
 refine wpAny_Slice ?_
 rw[evalPart_none]
 refine wpAny_pure (wpAny_pure ?_)
 rw[evalPart_some]
 refine thn (hb pins s1 σ H1 (fun yv H2=>∃y G2,DV X.K H2 y yv∧(y=.int (-1)∧Vq G2 x Q')∧RelG X.K H2 G2∧Ext H1 H2) I1 ⟨σD,G1,_,rs.ext x1,rg1,h1,fun y G2 h2 H2 x2 rg2 v2 d2=>⟨y,G2,d2,h2,rg2,x2⟩⟩) fun vst s3 ⟨yv,H3,I3,r3,y,G2,d2,⟨ey,h2⟩,rg2,x2⟩=>?_
 subst ey;cases d2
 obtain⟨tk,rfl⟩:=r3
 have I4:Inv X pins σ H3 { s3 with heap:=s3.heap.push { cls:=.type "slice",data:=.fields #[.none,.none,.int (-1) tk] } }:=I3.kept (t':=s3.toks) fun b ob q=>Heap.get?_push_of_some _ q
 have hsl:({ s3 with heap:=s3.heap.push { cls:=.type "slice",data:=.fields #[.none,.none,.int (-1) tk] } }:Shared).heap.IsSliceOf s3.heap.objs.size .none .none (.int (-1) tk):=Heap.IsSliceOf.new ..
 show wpAny (model X.prog X.w) X.A (subscriptTail e (.Slice none none (some b) p2) v (.ref s3.heap.objs.size)) (EP X pins σ Q) X.xe { s3 with heap:=s3.heap.push { cls:=.type "slice",data:=.fields #[.none,.none,.int (-1) tk] } }
 have cl2:=fun d G' q=>(cl d G' q).go (x1.trans x2)
 cases d1.ext x2 with
 |@tup ds a xs ea ra=>
  cases r1
  have h2:Q' (.tup ds.reverse) G2:=h2
  obtain⟨its,rv,ht,hz⟩:=I4.tuple (.inl (.inl ea))
  refine tail_any (ops:=[.ref a,.ref s3.heap.objs.size]) ht.typeIs PyProof.Rows.slot_tuple_getitem.lookup (Gr ht hsl (.int _ _) (by rw[←rv.length];exact hz) ?_) (by with_unfolding_all rfl)
  refine⟨.ref _,_,I4.laid (t':=s3.toks) (o:=.tup xs.reverse) (fun b ob q=>Heap.get?_push_of_some _ q) (Nat.le_refl _) ⟨by rw[List.length_reverse];exact hz,_,J4 rv,IsTup.new _ _⟩,rfl,?_⟩
  have hp:=I4.hok.fresh (Nat.le_refl _)
  exact cl2 _ G2 h2 _ (Ext.fresh hp) (rg2.tup hp) _ (.tup Ak (ra.rev.ext (Ext.fresh hp)))
 |ref a=>
  cases r1
  simp only[Vq] at h2
  split at h2
  ·rename_i ds g
   obtain⟨xs,ea,ra⟩:=rg2 a _ g
   obtain⟨its,rv,ht,hz⟩:=I4.list (.inl (.inl ea))
   have hlen:=rv.length
   refine tail_any (ops:=[.ref a,.ref s3.heap.objs.size]) ht.isList.typeIs slot_list_getitem.lookup (wpAny_getItem_list_slice ht.isList hsl .none .none (.int _ _) (by simp) ?_ (by rw[List.size_toArray]<;>omega)) (by with_unfolding_all rfl)
   rw[Xs]
   refine⟨.ref _,_,I4.laid (t':=s3.toks) (o:=.lst xs.reverse) (fun b ob q=>Heap.get?_push_of_some _ q) (Nat.le_refl _) ⟨by rw[List.length_reverse];exact hz,_,0,J4 rv,Heap.get?_push_size _ rfl⟩,rfl,?_⟩
   have hp:=I4.hok.fresh (Nat.le_refl _)
   exact cl2 _ _ (h2 _ (rg2.free hp)) _ (Ext.fresh hp) (rg2.lst hp ra.rev) _ (.ref _)
  ·exact h2.elim
 |_=>exact h2.elim
theorem rev_t{G:Gp}{ds:List D}{Q:DK}:Vq G (.tup ds) Q=Q (.tup ds.reverse) G:=rfl
theorem Yu{prog:Program}{w:World}{A:Around}{E:Value→Shared→Prop}{s:Shared}{t b:Addr}{ws:List Value}{Q:Value→Shared→Prop}(ht:IsTup s.heap t #[])(hb:IsTup s.heap b ws.toArray)(h1:Q (.ref b) s) :
  wpAny (model prog w) A (binaryOp .Add (.ref t) (.ref b)) Q E s:=by
 obtain⟨⟨cls,dd,data,sl⟩,ho,hc,n,hd⟩:=id ht
 obtain⟨⟨cls2,dd2,data2,sl2⟩,ho2,hc2,n2,hd2⟩:=id hb
 simp only at hc hd hc2 hd2
 subst hc hd hc2 hd2
 exact concat_meets ⟨_,ho,rfl⟩ ⟨_,ho2,rfl⟩ noFill_tuple_add seq_tuple_add PySem.F.slot_tuple_add PySem.F.entry_tuple_add (PySem.F.args_tuple_add_2 _ _)
   (tuple_addW0 t b #[] ws.toArray n n2 dd dd2 sl sl2 rfl) ⟨ho,ho2,h1⟩
def Vt:DR2:=fun x y G Q=>match x,y with
 |.int i,.int j=>Q (.int (i+j)) G
 |.tup xs,.tup ys=>xs.length+ys.length≤sizeLine∧Q (.tup (xs++ys)) G
 |.ref a,.ref b=>match G a,G b with
  |some (.lst xs),some (.lst ys)=>xs.length+ys.length≤sizeLine∧∀p,G p=none→Q (.ref p) (Ab G p (.lst (xs++ys)))
  |_,_=>False
 |_,_=>False
theorem o_addD:QOp X (binaryOp .Add) Vt:=by
 intro pins s σ H x y v u Q I rx ry ⟨dx,dy,G,Q',hx,hy,rg,h,cl⟩
 cases hx with
 |int i=>
  cases hy with
  |int j=>exact Adi pins s σ H _ _ v u Q I rx ry ⟨i,j,rfl,rfl,cl _ G h H (Ext.refl H) rg _ (.int _)⟩
  |_=>exact h.elim
 |@tup xs a vs ea ra=>
  cases hy with
  |@tup ys b ws eb rb=>
   obtain⟨hl,h⟩:=h
   by_cases hne:vs=[]
   ·subst hne
    cases ra
    cases rx;cases ry
    obtain⟨its,r1,p1,_⟩:=I.tuple (.inl (.inl ea))
    obtain⟨its2,r2,p2,_⟩:=I.tuple (.inl (.inl eb))
    cases r1
    exact Yu p1 p2 ⟨.ref b,H,I,rfl,cl _ G h H (Ext.refl H) rg _ (.tup eb rb)⟩
   ·refine Z7 pins s σ H _ _ v u Q I rx ry ⟨a,b,vs,ws,rfl,rfl,.inl (.inl ea),.inl (.inl eb),hne,by rw[←ra.length,←rb.length];exact hl,?_,fun _ p hp=>cl _ G h _ (Ext.fresh hp) (rg.tup hp) _ (.tup Ak ((ra.append rb).ext (Ext.fresh hp)))⟩
    intro z
    subst z;cases rb
    rw[List.append_nil] at h
    exact cl _ G h H (Ext.refl H) rg _ (.tup ea ra)
  |_=>exact h.elim
 |ref a=>
  cases hy with
  |ref b=>
   simp only[Vt] at h
   split at h
   ·rename_i xs ys ga gb
    obtain⟨hl,h⟩:=h
    obtain⟨vs,ea,ra⟩:=rg a _ ga
    obtain⟨ws,eb,rb⟩:=rg b _ gb
    exact Adh pins s σ H _ _ v u Q I rx ry ⟨a,b,vs,ws,rfl,rfl,ea,eb,by rw[←ra.length,←rb.length];exact hl,fun p hp=>cl _ _ (h p (rg.free hp)) _ (Ext.fresh hp) (rg.lst hp (ra.append rb)) _ (.ref p)⟩
   ·exact h.elim
  |_=>exact h.elim
 |_=>exact h.elim
theorem Bl{i j:Int}{G:Gp}{Q:DK}:Vt (.int i) (.int j) G Q=Q (.int (i+j)) G:=rfl
theorem Qz{a b:Addr}{xs ys:List D}{G:Gp}{Q:DK}(ha:G a=some (.lst xs))(hb:G b=some (.lst ys)):Vt (.ref a) (.ref b) G Q=(xs.length+ys.length≤sizeLine∧∀p,G p=none→Q (.ref p) (Ab G p (.lst (xs++ys)))):=by
 simp only[Vt,ha,hb]
theorem F1{G:Gp}{ds:List D}{lo hi:Option Int}{Q:DK}:Em G (.tup ds) lo hi Q=Q (.tup (Ir ds lo hi)) G:=rfl
def V0:DTE:=fun _ G Q=>∀p,G p=none→Q (.ref p) (Ab G p (.dkk []))
theorem RelG.new{K:W.Frag}{H:Hp}{G:Gp}(r:RelG K H G){p:Addr}{u:HO}{o:GO}(h:H p=none)(n:GOk K (upd H p u) p o):RelG K (upd H p u) (Ab G p o):=fun a q e=>by
 by_cases z:a=p
 ·subst z
  rw[Aa] at e;cases e
  exact n
 ·rw[Ae z] at e
  exact(r a q e).upd (Ext.fresh h) (.inr z)
theorem Qo:QE X (.Dict [] [] pos) V0:=pe_dnewK.imp fun σ H Q ⟨σD,G,Q',rs,rg,h,cl⟩=>fun p hp=>
 cl _ _ (h p (rg.free hp)) _ (Ext.fresh hp) (rg.new hp ⟨[],Ak,.nil⟩) _ (.ref p)
end
end D3
namespace D3
open PySem PySem.Spec
open PyProof.Rows hiding St
open L2 hiding St
structure Src where
 it:Addr
 l:Addr
 tp:Bool
def Src.At(h:Heap)(c:Src)(i:Nat):Prop:=if c.tp=true then h.IsTupleIter c.it c.l i else h.IsListIter c.it c.l i
def Src.Sq(h:Heap)(c:Src)(xs:Array Value):Prop:=if c.tp=true then h.IsTuple c.l xs else h.IsList c.l xs
theorem Src.At.keep{h h':Heap}{c:Src}{i:Nat}(x:c.At h i)(k:∀o,h.get? c.it=some o→h'.get? c.it=some o):c.At h' i:=by
 unfold Src.At at x ⊢
 split at x
 ·rename_i e;rw[if_pos e];exact x.at k
 ·rename_i e;rw[if_neg e];exact x.at k
theorem Src.Sq.keep{h h':Heap}{c:Src}{xs:Array Value}(x:c.Sq h xs)(k:∀o,h.get? c.l=some o→h'.get? c.l=some o):c.Sq h' xs:=by
 unfold Src.Sq at x ⊢
 split at x
 ·rename_i e;rw[if_pos e];exact x.at k
 ·rename_i e;rw[if_neg e];exact x.at k
theorem Src.At.obj{h:Heap}{c:Src}{i:Nat}(x:c.At h i):∃o,h.get? c.it=some o∧∀v,o.data≠.cell v:=by
 unfold Src.At at x
 split at x
 ·obtain⟨o,e,_,d⟩:=x;exact⟨o,e,fun v z=>by rw[d] at z;cases z⟩
 ·obtain⟨o,e,_,d⟩:=x;exact⟨o,e,fun v z=>by rw[d] at z;cases z⟩
section
variable{prog:Program}{w:World}{A:Around}{E:Value→Shared→Prop}{s:Shared}
theorem Ks{p q:Addr}{n:Nat}{vals:Array Value}{R:Value→Shared→Prop}(calm:A.handled=none)(at_:s.heap.IsTupleIter p q n)(tp:s.heap.IsTuple q vals)(more:∀v,vals[n]? = some v→∀g,g.IsTupleIter p q (n+1)→Heap.SameBut p s.heap g→R v { s with heap:=g })(last:vals[n]? = none→∀g x,Heap.ExtBut p s.heap g→(∃ob,g.get? x=some ob∧ob.cls=.type "StopIteration")→E (.ref x) { s with heap:=g }):wpAny (model prog w) A (Builtin.SmallTypes.nextOf (.ref p)) R E s:=by
 obtain⟨ob,eo,co,fo⟩:=id at_;obtain⟨ot,et,_,m,ft⟩:=tp
 unfold Builtin.SmallTypes.nextOf;refine wpAny_bind (wpAny_callSpecial?_slot (name:=Str.ofString "__next__") at_.typeIs F.slot_tuple_iterator_next (wpAny_call_entry F.slot_tuple_iterator_next at_.typeIs F.entry_tuple_iterator_next ?_ (F.args_tuple_iterator_next_1 _)))
 show wpAny _ _ (field (.ref p) 0 >>= _) _ _ s;refine wpAny_bind (wpAny_field eo fo (x:=.ref q) rfl ?_)
 show wpAny _ _ (if (Value.ref q == Value.none)=true then _ else _) _ _ s;rw[if_neg (by intro z;cases z)]
 show wpAny _ _ (field (.ref p) 1 >>= _) _ _ s;refine wpAny_bind (wpAny_field eo fo (x:=.int n 0) rfl ?_)
 show wpAny _ _ (seqItems? (.ref q) >>= _) _ _ s;refine wpAny_bind (wpAny_seqItems et ft ?_)
 simp only[Int.toNat_natCast]
 cases hv:vals[n]? with
 |some v=>
  refine wpAny_bind (wpAny_setField eo fo (by simp) (wpAny_pure ⟨v,rfl,wpAny_pure (more v hv _ ⟨_,Heap.get?_update_self _ eo (Obj.isFreed_of_fields (Obj.data_mapFields fo _)),(Obj.cls_mapFields ..).trans co,?_⟩ (Heap.SameBut.update ..))⟩))
  rw[Obj.data_mapFields fo];simp[rawInt]
 |none=>
  refine wpAny_bind (wpAny_rule (wpAny_bind (wpAny_setField eo fo (by simp) (show wpAny _ _ (newExc (.type "StopIteration") [] >>= _) _ _ _ from wpAny_bind ?_))))
  simp only[newExc,newTuple];refine wpAny_bind (wpAny_newObj_type (wpAny_bind (m:=firstArgMember _ _) (wpAny_of_eq (a:=Value.none) (by first|rfl|(simp only[firstArgMember];rfl)) (wpAny_newObj_type ?_ (by size_fits)))) (by size_fits))
  simp only[raiseNew];refine wpAny_bind (wpAny_handled ?_);first|rw[show A.in1.handled=none from calm]|rw[calm]
  exact wpAny_bind (wpAny_pure (wpAny_throw (last hv _ _ (((Heap.SameBut.update ..).extBut.push _).push _) ⟨_,Heap.get?_push_size _ rfl,rfl⟩)))
theorem Xc{c:Src}{i:Nat}{xs:Array Value}{x:Value}{Q:Value→Shared→Prop}(hh:A.handled=none)(hit:c.At s.heap i)(ht:c.Sq s.heap xs)(hx:xs[i]? = some x)(hQ:∀h',c.At h' (i+1)→Heap.SameBut c.it s.heap h'→Q x { s with heap:=h' }):wpAny (model prog w) A (Builtin.SmallTypes.nextOf (.ref c.it)) Q E s:=by
 unfold Src.At at hit hQ
 unfold Src.Sq at ht
 by_cases e:c.tp=true
 ·rw[if_pos e] at hit ht;exact Ks hh hit ht (fun v ev h' a b=>by rw[hx] at ev;cases ev;exact hQ h' (by rw[if_pos e];exact a) b) (fun z=>by rw[hx] at z;cases z)
 ·rw[if_neg e] at hit ht;exact wpAny_nextOf_list_item hit ht hx fun h' a=>hQ h' (by rw[if_neg e];exact a)
theorem Zj{c:Src}{i:Nat}{xs:Array Value}{Q:Value→Shared→Prop}(hh:A.handled=none)(hit:c.At s.heap i)(ht:c.Sq s.heap xs)(hx:xs[i]? = none)(hE:∀h' e,Heap.ExtBut c.it s.heap h'→(∃o,h'.get? e=some o∧o.cls=.type "StopIteration")→E (.ref e) { s with heap:=h' }):wpAny (model prog w) A (Builtin.SmallTypes.nextOf (.ref c.it)) Q E s:=by
 unfold Src.At at hit
 unfold Src.Sq at ht
 by_cases e:c.tp=true
 ·rw[if_pos e] at hit ht;exact Ks hh hit ht (fun v ev=>by rw[hx] at ev;cases ev) (fun _=>hE)
 ·rw[if_neg e] at hit ht;exact wpAny_nextOf_list_end hh hit ht hx hE
theorem Od{M:Model}{α β:Type}{f:α→β→Sem (ForInStep β)}{Q:β→Shared→Prop}(I:List α→β→Shared→Prop)(step:∀x r b s,I (x::r) b s→wpAny M A (f x b) (fun y s'=>match y with|.yield b'=>I r b' s'|.done b'=>Q b' s') E s)(fin:∀b s,I [] b s→Q b s) :
  ∀(l:List α) (b:β) (s:Shared),I l b s→wpAny M A (forIn l b f) Q E s
 |[],b,s,h=>by rw[List.forIn_nil];exact wpAny_pure (fin b s h)
 |x::r,b,s,h=>by
  rw[List.forIn_cons]
  refine wpAny_bind (wpAny_mono (step x r b s h) (fun y s' h'=>?_) fun _ _ z=>z)
  cases y with
  |yield b'=>exact Od I step fin r b' s' h'
  |done b'=>exact wpAny_pure h'
abbrev Ei(h:Heap)(T:Addr)(vs:List Value):Prop:=h.get? T=some { cls:=.type "tuple",data:=.seq vs.toArray }
abbrev zfp(z TO:Addr)(cs:List Src):List Addr:=z::TO::cs.map (·.it)
structure ZApart(z TI TO:Addr)(cs:List Src):Prop where
 nd:(z::TO::cs.map (·.it)).Nodup
 ti:TI ∉ zfp z TO cs
 ls:∀c∈cs,c.l ∉ zfp z TO cs
theorem W2{z TI TO:Addr}{cs:List Src}{i:Nat}{old:List Value}{X:Src→Array Value}{Q:Value→Shared→Prop}(hh:A.handled=none)(hne:cs≠[])(hs16:cs.length≤16)(D:ZApart z TI TO cs)(hz:IsZip s.heap z TI TO .none)(hTI:Ei s.heap TI (cs.map fun c=>.ref c.it))(hTO:Ei s.heap TO old)(hol:old.length=cs.length)(hA:∀c∈cs,c.At s.heap i)(hX:∀c∈cs,c.Sq s.heap (X c))(hQ:(∀c∈cs,i<(X c).size)→∀h',IsZip h' z TI TO (rawInt s.heap.objs.size)→(∃vs,Ei h' TO vs∧vs.length=cs.length)→(∀c∈cs,c.At h' (i+1))→Ei h' s.heap.objs.size (cs.map fun c=>(X c).getD i .none)→
   (∀b o,b ∉ zfp z TO cs→s.heap.get? b=some o→h'.get? b=some o)→Q (.ref s.heap.objs.size) { s with heap:=h' })(hE:(∃c∈cs,(X c).size≤i)→∀h' e,(∀b o,b ∉ zfp z TO cs→s.heap.get? b=some o→h'.get? b=some o)→(∃o,h'.get? e=some o∧o.cls=.type "StopIteration")→E (.ref e) { s with heap:=h' }) :
  wpAny (model prog w) A (Builtin.«zip.__next__» ⟨[.ref z],[]⟩) (fun fin s'=>∃v,fin=.done (.ret v)∧Q v s') E s:=by
 show wpAny _ _ (field (.ref z) 2 >>= _) _ _ _;refine wpAny_bind (wpAny_field hz rfl (x:=.bool false) rfl ?_)
 show wpAny _ _ (field (.ref z) 3 >>= _) _ _ _;refine wpAny_bind (wpAny_field hz rfl (x:=.ref TI) rfl (wpAny_bind (wpAny_seqItems hTI rfl ?_)))
 have hemp:¬((cs.map fun c=>Value.ref c.it).toArray.isEmpty=true):=by
  cases cs with
  |nil=>exact absurd rfl hne
  |cons c r=>simp
 simp only[hemp]
 show wpAny _ _ (Builtin.SmallTypes.ownedTupleIsFree (.ref z) >>= _) _ _ _;refine wpAny_bind ?_;unfold Builtin.SmallTypes.ownedTupleIsFree
 refine wpAny_bind (wpAny_field hz rfl (x:=.none) rfl (wpAny_pure ?_));simp only[if_true]
 refine wpAny_bind (wpAny_rule (wpAny_bind (wpAny_field hz rfl (x:=.ref TO) rfl (wpAny_bind (wpAny_setField_rec hz (by simp) fun h₁ hz₁ hs₁=>?_)))))
 have hz₁:IsZip h₁ z TI TO .ellipsis:=hz₁
 refine wpAny_bind ?_
 have ne:=D.nd
 have TOz:TO≠z:=fun e=>(List.nodup_cons.mp ne).1 (by simp[e])
 have itz:∀c∈cs,c.it≠z:=fun c hc e=>(List.nodup_cons.mp ne).1 (by rw[←e];exact List.mem_cons_of_mem _ (List.mem_map_of_mem hc))
 have itT:∀c∈cs,c.it≠TO:=fun c hc e=>(List.nodup_cons.mp (List.nodup_cons.mp ne).2).1 (by rw[←e];exact List.mem_map_of_mem hc)
 have sq:∀{h':Heap},(∀b o,b ∉ zfp z TO cs→s.heap.get? b=some o→h'.get? b=some o)→∀c∈cs,c.Sq h' (X c):=fun k c hc=>(hX c hc).keep fun o e=>k _ o (D.ls c hc) e
 have nfp:∀{b:Addr},b ∉ zfp z TO cs→b≠z∧b≠TO∧∀c∈cs,b≠c.it:=fun {b} hb=>⟨fun e=>hb (by simp[e]),fun e=>hb (by simp[e]),fun c hc e=>hb (by rw[e];exact List.mem_cons_of_mem _ (List.mem_cons_of_mem _ (List.mem_map_of_mem hc)))⟩
 have sz16:∀{n:Nat},n≤16→n≤sizeLine:=fun h=>szl (by omega)
 refine Od (fun rest b s'=>b=(none,())∧∃pre post h',s'={ s with heap:=h' }∧cs=pre++post∧rest=(post.map fun c=>Value.ref c.it).zipIdx pre.length∧IsZip h' z TI TO .ellipsis∧Ei h' TO (pre.map (fun c=>(X c).getD i .none)++old.drop pre.length)∧
  (∀c∈pre,i<(X c).size∧c.At h' (i+1))∧(∀c∈post,c.At h' i)∧h'.objs.size=s.heap.objs.size∧∀b o,b ∉ zfp z TO cs→s.heap.get? b=some o→h'.get? b=some o) ?_ ?_ _ _ _
  ⟨rfl,[],cs,h₁,rfl,rfl,rfl,hz₁,hs₁.extBut _ _ TOz hTO,fun c hc=>absurd hc (by simp),fun c hc=>(hA c hc).keep fun o e=>hs₁.extBut _ _ (itz c hc) e,hs₁.1,fun b o hb e=>hs₁.extBut _ _ (nfp hb).1 e⟩
 ·rintro⟨itv,k⟩ r b s' ⟨rfl,pre,post,h',rfl,hcs,hr,hz',hTO',hpre,hpost,hsz,hk⟩
  cases post with
  |nil=>simp at hr
  |cons c post=>
   rw[List.map_cons,List.zipIdx_cons] at hr
   injection hr with hr1 hr2
   cases hr1
   have hc:c∈cs:=by rw[hcs];simp
   have nd2:((pre++c::post).map (·.it)).Nodup:=by rw[←hcs];exact(List.nodup_cons.mp (List.nodup_cons.mp ne).2).2
   rw[List.map_append,List.map_cons] at nd2
   have npre:∀d∈pre,d.it≠c.it:=fun d hd e=>(List.nodup_append.mp nd2).2.2 d.it (List.mem_map_of_mem hd) c.it (by simp) e
   have npost:∀d∈post,d.it≠c.it:=fun d hd e=>(List.nodup_cons.mp (List.nodup_append.mp nd2).2.1).1 (by rw[←e];exact List.mem_map_of_mem hd)
   refine wpAny_bind (wpAny_onRaise ?_)
   show wpAny _ _ (Builtin.SmallTypes.nextOf (.ref c.it) >>= _) _ _ _
   by_cases hi:i<(X c).size
   ·refine wpAny_bind (Xc hh (hpost c (by simp)) (sq hk c hc) (Array.getElem?_eq_getElem hi) fun h2 at2 sb2=>wpAny_pure ?_)
    have hTO2:=sb2.extBut _ _ (itT c hc).symm hTO'
    refine wpAny_bind (wpAny_seqItems hTO2 rfl ?_)
    have hlt:pre.length<old.length:=by rw[hol,hcs];simp
    have hlen:(pre.map (fun c=>(X c).getD i .none)++old.drop pre.length).length=cs.length:=by
     rw[List.length_append,List.length_map,List.length_drop,hol,hcs];simp
    refine wpAny_bind (wpAny_updateSeq hTO2 rfl ?_ (by rw[List.size_toArray,hlen];exact sz16 hs16) (by rw[Array.size_setIfInBounds,List.size_toArray,hlen];exact Nat.le_succ_of_le (sz16 hs16)))
    refine wpAny_bind (wpAny_letGo (wpAny_pure ?_))
    have sb3:Heap.SameBut TO h2 (h2.update TO (Obj.mapSeq fun x_2=>x_2.setIfInBounds pre.length (X c)[i])):=Heap.SameBut.update ..
    have hTO3:Ei (h2.update TO (Obj.mapSeq fun x_2=>x_2.setIfInBounds pre.length (X c)[i])) TO ((pre++[c]).map (fun c=>(X c).getD i .none)++old.drop (pre++[c]).length):=by
     show Heap.get? _ _=_
     rw[Heap.get?_update_self _ hTO2 rfl]
     have e1:old.drop pre.length=old[pre.length]::old.drop (pre.length+1):=List.drop_eq_getElem_cons hlt
     have e2:(X c).getD i Value.none=(X c)[i]:=by simp[Array.getD,hi]
     simp only[Obj.mapSeq]
     rw[e1]
     congr 2
     simp only[List.map_append,List.map_cons,List.map_nil,e2,List.setIfInBounds_toArray,List.length_append,List.length_cons,List.length_nil]
     rw[List.set_append_right _ _ (by simp)]
     simp only[List.length_map,Nat.sub_self,List.set_cons_zero,List.append_assoc,List.cons_append,List.nil_append]
     rw[if_pos (by simp;omega)]
    refine⟨rfl,pre++[c],post,_,rfl,by rw[hcs];simp,by rw[hr2];simp,sb3.extBut _ _ TOz.symm (sb2.extBut _ _ (itz c hc).symm hz'),hTO3,fun d hd=>?_,fun d hd=>?_,by rw[sb3.1,sb2.1];exact hsz,fun b o hb e=>sb3.extBut _ _ (nfp hb).2.1 (sb2.extBut _ _ ((nfp hb).2.2 c hc) (hk b o hb e))⟩
    ·rcases List.mem_append.mp hd with hd|hd
     ·have hd2:d∈cs:=by rw[hcs];simp[hd]
      exact⟨(hpre d hd).1,(hpre d hd).2.keep fun o e=>sb3.extBut _ _ (itT d hd2) (sb2.extBut _ _ (npre d hd) e)⟩
     ·have:d=c:=by simpa using hd
      subst this
      exact⟨hi,at2.keep fun o e=>sb3.extBut _ _ (itT d hc) e⟩
    ·have hd2:d∈cs:=by rw[hcs];simp[hd]
     exact(hpost d (by simp[hd])).keep fun o e=>sb3.extBut _ _ (itT d hd2) (sb2.extBut _ _ (npost d hd) e)
   ·refine wpAny_bind (Zj hh (hpost c (by simp)) (sq hk c hc) (Array.getElem?_eq_none (by omega)) fun h2 e eb st=>?_)
    obtain⟨oe,hoe,hce⟩:=st
    have hz2:IsZip h2 z TI TO .ellipsis:=eb _ _ (itz c hc).symm hz'
    have hez:e≠z:=fun x=>by subst x;rw[hz2] at hoe;cases hoe;simp at hce
    exact wpAny_setField_rec hz2 (by simp) fun h3 _ hs3=>hE ⟨c,hc,by omega⟩ h3 e (fun b o hb x=>hs3.extBut _ _ (nfp hb).1 (eb _ _ ((nfp hb).2.2 c hc) (hk b o hb x))) ⟨oe,hs3.extBut _ _ hez hoe,hce⟩
 ·rintro b s' ⟨rfl,pre,post,h5,rfl,hcs,hr,hz5,hTO5,hpre,hpost,hsz,hk⟩
  have hp:post=[]:=by
   cases post with
   |nil=>rfl
   |cons c r=>simp at hr
  subst hp
  rw[List.append_nil] at hcs
  subst hcs
  rw[←hol,List.drop_length,List.append_nil] at hTO5
  refine wpAny_bind (wpAny_seqItems hTO5 rfl ?_)
  refine wpAny_bind (wpAny_newTuple ?_)
  have hzlt:z<h5.objs.size:=Heap.lt_size hz5
  show wpAny _ _ (Builtin.SmallTypes.ownedTupleHandOut (.ref z) (.ref h5.objs.size) >>= _) _ _ _
  refine wpAny_bind ?_
  unfold Builtin.SmallTypes.ownedTupleHandOut
  have hz6:=Heap.get?_push_of_some { cls:=.type "tuple",data:=.seq (cs.map fun c=>(X c).getD i .none).toArray } hz5
  refine wpAny_bind (wpAny_setField_rec hz6 (by simp) fun h7 hz7 hs7=>?_)
  replace hz7:IsZip h7 z TI TO (rawInt h5.objs.size):=hz7
  refine wpAny_setField_rec hz7 (by simp) fun h8 hz8 hs8=>?_
  replace hz8:IsZip h8 z TI TO (rawInt h5.objs.size):=hz8
  have up:∀c o,c≠z→h5.get? c=some o→h8.get? c=some o:=fun c o c1 e=>hs8.extBut _ _ c1 (hs7.extBut _ _ c1 (Heap.get?_push_of_some _ e))
  have hT8:Ei h8 h5.objs.size (cs.map fun c=>(X c).getD i .none):=hs8.extBut _ _ (Nat.ne_of_gt hzlt) (hs7.extBut _ _ (Nat.ne_of_gt hzlt) (Heap.get?_push_size _ rfl))
  rw[hsz] at hz8 hT8
  refine wpAny_pure ⟨_,rfl,?_⟩
  show Q (.ref h5.objs.size) _
  rw[hsz]
  exact hQ (fun c hc=>(hpre c hc).1) h8 hz8 ⟨_,up _ _ TOz hTO5,by simp⟩ (fun c hc=>(hpre c hc).2.keep fun o e=>up _ o (itz c hc) e) hT8 fun b o hb e=>up b o (nfp hb).1 (hk b o hb e)

theorem Kp{z TI TO:Addr}{cs:List Src}{i:Nat}{old:List Value}{X:Src→Array Value}{Q:Option Value→Shared→Prop}(hh:A.handled=none)(hne:cs≠[])(hs16:cs.length≤16)(D:ZApart z TI TO cs)(hz:IsZip s.heap z TI TO .none)(hTI:Ei s.heap TI (cs.map fun c=>.ref c.it))(hTO:Ei s.heap TO old)(hol:old.length=cs.length)(hA:∀c∈cs,c.At s.heap i)(hX:∀c∈cs,c.Sq s.heap (X c))(hQ:(∀c∈cs,i<(X c).size)→∀h',IsZip h' z TI TO (rawInt s.heap.objs.size)→(∃vs,Ei h' TO vs∧vs.length=cs.length)→(∀c∈cs,c.At h' (i+1))→Ei h' s.heap.objs.size (cs.map fun c=>(X c).getD i .none)→
   (∀b o,b ∉ zfp z TO cs→s.heap.get? b=some o→h'.get? b=some o)→Q (some (.ref s.heap.objs.size)) { s with heap:=h' })(hE:(∃c∈cs,(X c).size≤i)→∀h',(∀b o,b ∉ zfp z TO cs→s.heap.get? b=some o→h'.get? b=some o)→Q none { s with heap:=h' }) :
  wpAny (model prog w) A (pyNext (.ref z)) Q E s:=by
 have ty:s.TypeIs (.ref z) "zip":=⟨_,hz,rfl⟩
 unfold pyNext;refine wpAny_bind (wpAny_attempt (wpAny_callSpecial?_slot (name:=Str.ofString "__next__") ty F.slot_zip_next (wpAny_call_entry F.slot_zip_next ty F.entry_zip_next (W2 hh hne hs16 D hz hTI hTO hol hA hX (fun a h' a1 a2 a3 a4 a5=>wpAny_pure (hQ a h' a1 a2 a3 a4 a5)) fun a h' e hk ⟨o,ho,co⟩=>?_) (F.args_zip_next_1 _))))
 exact wpAny_bind (wpAny_isInstance (T:="StopIteration") (b:=true) ⟨o,ho,co⟩ isSubtype_stop (wpAny_pure (hE a _ hk)))
abbrev Sg(l:Addr)(tp:Bool):Obj:={ cls:=.type (if tp then "tuple_iterator" else "list_iterator"),data:=.fields #[.ref l,.int 0 0] }
theorem Kq{l:Addr}{tp:Bool}{xs:Array Value}{Q:Value→Shared→Prop}(h:if tp=true then s.heap.IsTuple l xs else s.heap.IsList l xs)(hQ:Q (.ref s.heap.objs.size) { s with heap:=s.heap.push (Sg l tp) }) :
  wpAny (model prog w) A (pyIter (.ref l)) Q E s:=by
 cases tp with
 |true=>exact wpAny_pyIter_tuple h hQ
 |false=>exact wpAny_pyIter_list h hQ
end
abbrev SqOf(h:Heap)(l:Addr)(tp:Bool)(xs:Array Value):Prop:=if tp=true then h.IsTuple l xs else h.IsList l xs
theorem SqOf.push{h:Heap}{l:Addr}{tp:Bool}{xs:Array Value}(x:SqOf h l tp xs)(o:Obj):SqOf (h.push o) l tp xs:=by
 unfold SqOf at x ⊢
 split at x
 ·rename_i e;rw[if_pos e];exact x.push o
 ·rename_i e;rw[if_neg e];exact x.push o
abbrev zh1(h:Heap)(a:Addr×Bool):Heap:=h.push (Sg a.1 a.2)
abbrev Mo(h:Heap)(ts:List Value)(k:Nat):Heap:=((h.push { cls:=.type "tuple",data:=.seq ts.toArray }).push { cls:=.type "tuple",data:=.seq (List.replicate k Value.none).toArray }).push
 { cls:=.type "zip",data:=.fields #[.none,.bool false,.bool false,.ref h.objs.size,.ref (h.objs.size+1)] }
theorem W3(a b:Addr×Bool)(xs ys:Array Value) :
  Meets (Builtin.«zip.__new__» ⟨[.type "zip",.ref a.1,.ref b.1],[]⟩) (fun _ R s=>SqOf s.heap a.1 a.2 xs∧SqOf s.heap b.1 b.2 ys∧
   R (.ok (.ret (.ref (s.heap.objs.size+4)))) { s with heap:=Mo (zh1 (zh1 s.heap a) b) [.ref s.heap.objs.size,.ref (s.heap.objs.size+1)] 2 }):=
 .of_wp fun prog w A R s h=>by
  obtain⟨hp,g,d,tk,os⟩:=s;obtain⟨hl1,hl2,h⟩:=h
  have hsub:=sub_zip
  have hL1:SqOf (Shared.heap ⟨hp,g,d,tk,os⟩) a.1 a.2 xs:=hl1
  have hL2:SqOf (Shared.heap ⟨hp.push (Sg a.1 a.2),g,d,tk,os⟩) b.1 b.2 ys:=SqOf.push hl2 _
  wp_walk using Kq hL1,Kq hL2
  refine⟨_,rfl,?_⟩
  simp only[Mo,zh1,Heap.size_push] at h ⊢
  exact h
end D3
namespace D3
open PySem PySem.Spec
open PyProof.Rows hiding St
open L2 hiding St
theorem Src.Sq.inj{h:Heap}{c:Src}{xs ys:Array Value}(x:c.Sq h xs)(y:c.Sq h ys):xs=ys:=by
 unfold Src.Sq at x y
 split at x
 ·rename_i e
  rw[if_pos e] at y
  obtain⟨o,h1,_,n,d⟩:=x
  obtain⟨o',h1',_,n',d'⟩:=y
  rw[h1] at h1';cases h1'
  rw[d] at d';cases d';rfl
 ·rename_i e
  rw[if_neg e] at y
  obtain⟨o,h1,_,n,d⟩:=x
  obtain⟨o',h1',_,n',d'⟩:=y
  rw[h1] at h1';cases h1'
  rw[d] at d';cases d';rfl
def SqC(K:PySem.W.Frag)(H:Hp)(c:Addr×Bool)(xs:List V):Prop:=if c.2=true then SqT K H c.1 xs else SqL K H c.1 xs
def Itz (K:PySem.W.Frag) (cs:List (Addr×Bool)):It:=
  ⟨fun i H=>∀c∈cs,∃xs,SqC K H c xs∧i<xs.length,
   fun i H x H'=>∃p vs,H p=none∧x=.ref p∧H'=upd H p (.tup vs)∧Paired (fun (c:Addr×Bool) v=>∀xs,SqC K H c xs→xs[i]? = some v) cs vs,
   fun i H=>(∀c∈cs,∃xs,SqC K H c xs)∧∃c∈cs,∃xs,SqC K H c xs∧xs.length≤i⟩
section
variable{X:Cx}{pins:List (Addr×Obj)}{σ:St}{H:Hp}{s:Shared}
theorem Qj(I:Inv X pins σ H s){c:Src}{xs:List V}(h:SqC X.K H (c.l,c.tp) xs):∃its:List Value,Vals xs its∧c.Sq s.heap its.toArray:=by
 unfold SqC at h
 unfold Src.Sq
 by_cases e:c.tp=true
 ·rw[if_pos e] at h
  obtain⟨its,r,p,_⟩:=I.tuple h
  exact⟨its,r,by rw[if_pos e];exact p⟩
 ·rw[if_neg e] at h
  obtain⟨its,r,p,_⟩:=I.list h
  exact⟨its,r,by rw[if_neg e];exact p.isList⟩
theorem Sm(I:Inv X pins σ H s){c:Addr×Bool}{xs ys:List V}(h:SqC X.K H c xs)(h':SqC X.K H c ys):xs=ys:=by
 unfold SqC at h h'
 split at h
 ·rename_i e;rw[if_pos e] at h';exact I.tuple_inj h h'
 ·rename_i e;rw[if_neg e] at h';exact I.list_inj h h'
theorem Sj{t':Nat}{h':Heap}{fp:List Addr}(I:Inv X pins σ H s)(k:∀b o,b ∉ fp→s.heap.get? b=some o→h'.get? b=some o)(hf:∀b∈fp,Fd X pins H b):Inv X pins σ H { s with heap:=h',toks:=t' }:=by
 have nit:∀b u,H b=some u→b ∉ fp:=fun b u e z=>by rw[(hf b z).1] at e;cases e
 refine I.step (g':=s.gens) (d':=s.drawn) (ch:=fp) (fun b hb=>⟨(hf b hb).2.2.2.1,(hf b hb).2.1,(hf b hb).2.2.2.2.1,(hf b hb).2.2.2.2.2⟩) (fun b o _ _ hc e _=>k b o hc e) (fun b o _ _ hc e _=>⟨o.slots,k b o hc e⟩) (fun _ _ _ _ n=>n)
  (fun b o hc e=>⟨o,k b o hc e⟩) (fun _ _ e=>e) (fun _ _ _ e=>e) (fun b ps e=>⟨#[],by rw[e];simp⟩) (fun m hm=>?_) (fun b u e=>?_) I.bare
 ·obtain⟨o,es,ep,ho,r⟩:=hm
  exact⟨o,es,ep,k _ o (fun z=>(hf _ z).2.1 rfl) ho,r⟩
 ·refine(I.hok b u e).stay (fun c v hc q=>k c v ?_ q) (fun _ q=>q) fun _ _ q=>q
  rcases hc with z|z
  ·rw[z];exact nit b u e
  ·exact nit c _ z
theorem Wa{K:W.Frag}{i:Nat}{Y:Src→Array Value}:∀(cs:List Src),(∀c∈cs,∃v,RelV v ((Y c).getD i .none)∧∀xs,SqC K H (c.l,c.tp) xs→xs[i]? = some v)→
  ∃vs,Vals vs (cs.map fun c=>(Y c).getD i .none)∧Paired (fun(c:Addr×Bool) v=>∀xs,SqC K H c xs→xs[i]? = some v) (cs.map fun c=>(c.l,c.tp)) vs
 |[],_=>⟨[],.nil,.nil⟩
 |c::cs,h=>by
  obtain⟨v,r,q⟩:=h c (by simp)
  obtain⟨vs,a,b⟩:=Wa cs fun d hd=>h d (by simp[hd])
  exact⟨v::vs,.cons r a,.cons q b⟩
end
theorem W9{P:Program}{w:World}{K:W.Frag}{elts:List Expr}{kk:Nat}{pos:Pos}(z TI TO:Addr)(cs:List Src)(hne:cs≠[])(h16:cs.length≤16)(D:ZApart z TI TO cs) :
  Turn P w K (.Tuple elts kk pos) (Itz K (cs.map fun c=>(c.l,c.tp))) (TI::zfp z TO cs) z
   (fun i h=>IsZip h z TI TO .none∧Ei h TI (cs.map fun c=>.ref c.it)∧(∃vs,Ei h TO vs∧vs.length=cs.length)∧∀c∈cs,c.At h i) where
 mem:=by simp
 obj:=fun i h ⟨hz,hTI,⟨vs,hTO,_⟩,hA⟩ b hb=>by
  have hb':b=TI∨b=z∨b=TO∨∃c∈cs,c.it=b:=by simpa[zfp] using hb
  rcases hb' with rfl|rfl|rfl|⟨c,hc,rfl⟩
  ·exact⟨_,hTI,fun v e=>by cases(show Data.seq _ _=Data.cell v from e)⟩
  ·exact⟨_,hz,fun v e=>by cases(show Data.fields _=Data.cell v from e)⟩
  ·exact⟨_,hTO,fun v e=>by cases(show Data.seq _ _=Data.cell v from e)⟩
  ·exact(hA c hc).obj
 keep:=fun i h h' ⟨hz,hTI,⟨vs,hTO,hl⟩,hA⟩ k=>⟨k z (by simp) _ hz,k TI (by simp) _ hTI,⟨vs,k TO (by simp) _ hTO,hl⟩,fun c hc=>(hA c hc).keep fun o e=>k c.it (List.mem_cons_of_mem _ (List.mem_cons_of_mem _ (List.mem_cons_of_mem _ (List.mem_map_of_mem hc)))) o e⟩
 item:=by
  intro X hP hw hK hc i pins s σ H E I hf st hg
  subst hP hw hK
  obtain⟨hz,hTI,⟨old,hTO,hol⟩,hA⟩:=st
  have hex:∀c∈cs,∃(xs:List V) (its:List Value),SqC X.K H (c.l,c.tp) xs∧i<xs.length∧Vals xs its∧c.Sq s.heap its.toArray:=fun c hc=>by
   obtain⟨xs,h1,h2⟩:=hg (c.l,c.tp) (List.mem_map_of_mem (f:=fun c:Src=>(c.l,c.tp)) hc)
   obtain⟨its,r,p⟩:=Qj I h1
   exact⟨xs,its,h1,h2,r,p⟩
  open Classical in
  let Y:Src→Array Value:=fun c=>if h:∃ys,c.Sq s.heap ys then Classical.choose h else #[]
  have hY:∀c∈cs,c.Sq s.heap (Y c):=fun c hc=>by
   obtain⟨xs,its,_,_,_,p⟩:=hex c hc
   have h:∃ys,c.Sq s.heap ys:=⟨_,p⟩
   show c.Sq s.heap (if h:∃ys,c.Sq s.heap ys then Classical.choose h else #[])
   rw[dif_pos h];exact Classical.choose_spec h
  obtain⟨vs,rv,pv⟩:=Wa (H:=H) (K:=X.K) (i:=i) (Y:=Y) cs fun c hc=>by
   obtain⟨xs,its,h1,h2,r,p⟩:=hex c hc
   have e:=(hY c hc).inj p
   have hx:xs[i]? = some xs[i]:=List.getElem?_eq_getElem h2
   obtain⟨u,hu,ru⟩:=r.get hx
   refine⟨xs[i],?_,fun ys hy=>by rw[Sm I hy h1];exact hx⟩
   rw[e]
   have:its.toArray.getD i Value.none=u:=by simp[Array.getD_eq_getD_getElem?,hu]
   rw[this];exact ru
  refine Kp (X:=Y) (I.ok.hd hc) hne h16 D hz hTI hTO hol hA hY (fun _ h' a1 a2 a3 a4 a5=>?_) fun⟨c,hc,hl⟩=>?_
  ·refine⟨_,rfl,wpAny_letOwnedTupleGo_zip (s:={ s with heap:=h' }) a1 fun h2 hz2 sb2=>?_⟩
   have TIne:TI≠z:=fun e=>D.ti (by simp[e])
   have TOz:TO≠z:=fun e=>(List.nodup_cons.mp D.nd).1 (by simp[e])
   have itz:∀c∈cs,c.it≠z:=fun c hc e=>(List.nodup_cons.mp D.nd).1 (by rw[←e];exact List.mem_cons_of_mem _ (List.mem_map_of_mem hc))
   have hTne:s.heap.objs.size≠z:=Nat.ne_of_gt (Heap.lt_size hz)
   have I1:Inv X pins σ (upd H s.heap.objs.size (.tup vs)) { s with heap:=s.heap.push { cls:=.type "tuple",data:=.seq (cs.map fun c=>(Y c).getD i .none).toArray } }:=
    I.laid (t':=s.toks) (fun b u e=>Heap.get?_push_of_some _ e) (Nat.le_refl _) ⟨by rw[rv.length,List.length_map];exact szl (by omega),_,rv,⟨_,Heap.get?_push_size _ rfl,rfl,_,rfl⟩⟩
   have hfl:∀b∈TI::zfp z TO cs,b<s.heap.objs.size:=fun b hb=>by
    have hb':b=TI∨b=z∨b=TO∨∃c∈cs,c.it=b:=by simpa[zfp] using hb
    rcases hb' with rfl|rfl|rfl|⟨c,hc,rfl⟩
    ·exact Heap.lt_size hTI
    ·exact Heap.lt_size hz
    ·exact Heap.lt_size hTO
    ·obtain⟨o,e,_⟩:=(hA c hc).obj;exact Heap.lt_size e
   have hf1:∀b∈TI::zfp z TO cs,Fd X pins (upd H s.heap.objs.size (.tup vs)) b:=fun b hb=>⟨by rw[Af (Nat.ne_of_lt (hfl b hb))];exact(hf b hb).1,(hf b hb).2⟩
   have I2:=Sj (t':=s.toks) (h':=h2) I1 (fp:=TI::zfp z TO cs) (fun b o hb e=>?_) hf1
   ·refine⟨.ref s.heap.objs.size,_,I2,rfl,⟨s.heap.objs.size,vs,I.hok.fresh (Nat.le_refl _),rfl,rfl,pv⟩,⟨hz2,sb2.extBut _ _ TIne (a5 _ _ D.ti hTI),?_,fun c hc=>(a3 c hc).keep fun o e=>sb2.extBut _ _ (itz c hc) e⟩,fun b hb=>(hf1 b hb).1⟩
    obtain⟨ws,b1,b2⟩:=a2
    exact⟨ws,sb2.extBut _ _ TOz b1,b2⟩
   ·have hbz:b≠z:=fun e=>hb (by simp[e])
    refine sb2.extBut _ _ hbz ?_
    rcases Heap.get?_push_cases e with ⟨rfl,rfl⟩|e
    ·exact a4
    ·exact a5 _ _ (fun q=>hb (List.mem_cons_of_mem _ q)) e
  ·intro h' hk
   obtain⟨xs,its,h1,h2,r,p⟩:=hex c hc
   have e:=(hY c hc).inj p
   rw[e,List.size_toArray,←r.length] at hl
   omega
 done:=by
  intro X hP hw hK hc i pins s σ H E I hf st hg
  subst hP hw hK
  obtain⟨hz,hTI,⟨old,hTO,hol⟩,hA⟩:=st
  obtain⟨hall,c0,hc0,xs0,hx0,hl0⟩:=hg
  obtain⟨c1,hc1,rfl⟩:=List.mem_map.mp hc0
  have hex:∀c∈cs,∃(xs:List V) (its:List Value),SqC X.K H (c.l,c.tp) xs∧Vals xs its∧c.Sq s.heap its.toArray:=fun c hc=>by
   obtain⟨xs,h1⟩:=hall (c.l,c.tp) (List.mem_map_of_mem (f:=fun c:Src=>(c.l,c.tp)) hc)
   obtain⟨its,r,p⟩:=Qj I h1
   exact⟨xs,its,h1,r,p⟩
  open Classical in
  let Y:Src→Array Value:=fun c=>if h:∃ys,c.Sq s.heap ys then Classical.choose h else #[]
  have hY:∀c∈cs,c.Sq s.heap (Y c):=fun c hc=>by
   obtain⟨xs,its,_,_,p⟩:=hex c hc
   have h:∃ys,c.Sq s.heap ys:=⟨_,p⟩
   show c.Sq s.heap (if h:∃ys,c.Sq s.heap ys then Classical.choose h else #[])
   rw[dif_pos h];exact Classical.choose_spec h
  refine Kp (X:=Y) (I.ok.hd hc) hne h16 D hz hTI hTO hol hA hY (fun hlt=>?_) fun _ h' hk=>⟨rfl,Sj (t':=s.toks) (h':=h') (fp:=TI::zfp z TO cs) I (fun b o hb e=>hk b o (fun q=>hb (List.mem_cons_of_mem _ q)) e) hf⟩
  have h1:=hlt c1 hc1
  obtain⟨xs,its,h2,r,p⟩:=hex c1 hc1
  rw[(hY c1 hc1).inj p,List.size_toArray,←r.length,Sm I h2 hx0] at h1
  omega
 self:=fun _ _ _ _ _ st h=>wpAny_pyIter_zip st.1 h
end D3
namespace D3
open PySem PySem.Spec
open PyProof.Rows hiding St
open L2 hiding St
theorem zipTy:bootBuiltins "zip" = some (.type "zip"):=by decide +kernel
section
variable{X:Cx}{pins:List (Addr×Obj)}{σ:St}{H:Hp}{s:Shared}{E:Value→Shared→Prop}
theorem Sl(I:Inv X pins σ H s){c:Addr×Bool}(h:∃xs,SqC X.K H c xs):∃xs,SqOf s.heap c.1 c.2 xs∧c.1<s.heap.objs.size:=by
 obtain⟨xs,h⟩:=h
 obtain⟨its,_,p⟩:=Qj (c:=⟨0,c.1,c.2⟩) I h
 refine⟨_,p,?_⟩
 unfold Src.Sq at p
 split at p
 ·obtain⟨o,e,_⟩:=p;exact Heap.lt_size e
 ·obtain⟨o,e,_⟩:=p;exact Heap.lt_size e
theorem W0{h h':Heap}{l:Addr}{tp:Bool}(e:h'.get? h.objs.size=some (Sg l tp)):Src.At h' ⟨h.objs.size,l,tp⟩ 0:=by
 unfold Src.At
 cases tp with
 |true=>exact⟨_,e,rfl,rfl⟩
 |false=>exact⟨_,e,rfl,rfl⟩
theorem Pe{elts:List Expr}{kk:Nat}{tp:Pos}{R:It→Hp→Prop}(I:Inv X pins σ H s){z TI TO:Addr}{cs:List Src}{h':Heap}(hne:cs≠[])(h16:cs.length≤16)(hk:∀b o,s.heap.get? b=some o→h'.get? b=some o)(hz:IsZip h' z TI TO .none)(hTI:Ei h' TI (cs.map fun c=>.ref c.it))(hTO:Ei h' TO (List.replicate cs.length .none))(hA:∀c∈cs,c.At h' 0)(nd:(z::TO::cs.map (·.it)).Nodup)(ti:TI ∉ zfp z TO cs)(new:∀b∈TI::zfp z TO cs,s.heap.objs.size≤b)(old:∀c∈cs,c.l<s.heap.objs.size)(q:R (Itz X.K (cs.map fun c=>(c.l,c.tp))) H) :
  wpAny (model X.prog X.w) X.A (pyIter (.ref z)) (PIE X pins σ (.Tuple elts kk tp) R) E { s with heap:=h' }:=by
 refine wpAny_pyIter_zip (s:={ s with heap:=h' }) hz ?_
 have D:ZApart z TI TO cs:=⟨nd,ti,fun c hc hb=>absurd (Nat.lt_of_lt_of_le (old c hc) (new _ (List.mem_cons_of_mem _ hb))) (Nat.lt_irrefl _)⟩
 refine⟨z,TI::zfp z TO cs,_,_,H,rfl,I.kept (t':=s.toks) hk,W9 z TI TO cs hne h16 D,⟨hz,hTI,⟨_,hTO,by simp⟩,hA⟩,fun b hb=>I.fpOk (new b hb) (I.hok.fresh (new b hb)),q⟩
theorem Zd{elts:List Expr}{kk:Nat}{tp:Pos}{R:It→Hp→Prop}(I:Inv X pins σ H s){a b:Addr×Bool}(ha:∃xs,SqC X.K H a xs)(hb:∃xs,SqC X.K H b xs)(q:R (Itz X.K [a,b]) H) :
  wpAny (model X.prog X.w) X.A (call (.type "zip") [.ref a.1,.ref b.1]) (fun v s1=>wpAny (model X.prog X.w) X.A (pyIter v) (PIE X pins σ (.Tuple elts kk tp) R) E s1) E s:=by
 obtain⟨xs,sa,la⟩:=Sl I ha
 obtain⟨ys,sb,lb⟩:=Sl I hb
 refine callType_new F.called_zip (by decide) (F.typeCall_zip_2 _ _) (F.newCall_zip_2 _ _) (fun obj=>F.args_object_init_3 obj _ _) F.entry_zip_new (W3 a b xs ys) ⟨sa,sb,?_⟩
 generalize hh:s.heap=h at *
 have z1:(zh1 h a).objs.size=h.objs.size+1:=Heap.size_push ..
 have z2:(zh1 (zh1 h a) b).objs.size=h.objs.size+2:=by rw[Heap.size_push,z1]
 have g0:∀c o,(zh1 (zh1 h a) b).get? c=some o→(Mo (zh1 (zh1 h a) b) [.ref h.objs.size,.ref (h.objs.size+1)] 2).get? c=some o:=fun c o e=>Heap.get?_push_of_some _ (Heap.get?_push_of_some _ (Heap.get?_push_of_some _ e))
 have gz:(Mo (zh1 (zh1 h a) b) [.ref h.objs.size,.ref (h.objs.size+1)] 2).get? (h.objs.size+4)=some { cls:=.type "zip",data:=.fields #[.none,.bool false,.bool false,.ref (h.objs.size+2),.ref (h.objs.size+3)] }:=by
  have e:h.objs.size+4=(((zh1 (zh1 h a) b).push { cls:=.type "tuple",data:=.seq [Value.ref h.objs.size,.ref (h.objs.size+1)].toArray }).push { cls:=.type "tuple",data:=.seq (List.replicate 2 Value.none).toArray }).objs.size:=by rw[Heap.size_push,Heap.size_push,z2]
  rw[e];unfold Mo;rw[z2];exact Heap.get?_push_size _ rfl
 have gTI:Ei (Mo (zh1 (zh1 h a) b) [.ref h.objs.size,.ref (h.objs.size+1)] 2) (h.objs.size+2) [.ref h.objs.size,.ref (h.objs.size+1)]:=by
  rw[←z2];exact Heap.get?_push_of_some _ (Heap.get?_push_of_some _ (Heap.get?_push_size _ rfl))
 have gTO:Ei (Mo (zh1 (zh1 h a) b) [.ref h.objs.size,.ref (h.objs.size+1)] 2) (h.objs.size+3) (List.replicate 2 Value.none):=by
  have e:h.objs.size+3=((zh1 (zh1 h a) b).push { cls:=.type "tuple",data:=.seq [Value.ref h.objs.size,.ref (h.objs.size+1)].toArray }).objs.size:=by rw[Heap.size_push,z2]
  rw[e];exact Heap.get?_push_of_some _ (Heap.get?_push_size _ rfl)
 have A1:Src.At (Mo (zh1 (zh1 h a) b) [.ref h.objs.size,.ref (h.objs.size+1)] 2) ⟨h.objs.size,a.1,a.2⟩ 0:=W0 (g0 _ _ (Heap.get?_push_of_some _ (Heap.get?_push_size _ rfl)))
 have A2:Src.At (Mo (zh1 (zh1 h a) b) [.ref h.objs.size,.ref (h.objs.size+1)] 2) ⟨h.objs.size+1,b.1,b.2⟩ 0:=by
  have:=W0 (h:=zh1 h a) (l:=b.1) (tp:=b.2) (g0 _ _ (Heap.get?_push_size _ rfl))
  rw[z1] at this;exact this
 refine⟨⟨_,gz,rfl⟩,Pe (s:=s) (cs:=[⟨h.objs.size,a.1,a.2⟩,⟨h.objs.size+1,b.1,b.2⟩]) I (by simp) (by simp) (fun c o e=>?_) gz gTI gTO (fun c hc=>?_) (by simp) (by simp[zfp]) (fun c hc=>?_) (fun c hc=>?_) q⟩
 ·rw[hh] at e;exact g0 _ _ (Heap.get?_push_of_some _ (Heap.get?_push_of_some _ e))
 ·simp only[List.mem_cons,List.not_mem_nil,or_false] at hc
  rcases hc with rfl|rfl
  ·exact A1
  ·exact A2
 ·rw[hh]
  simp only[zfp,List.map_cons,List.map_nil,List.mem_cons,List.not_mem_nil,or_false] at hc
  rcases hc with rfl|rfl|rfl|rfl|rfl<;>first|exact Nat.le_refl _|exact Nat.le_add_right _ _
 ·rw[hh]
  simp only[List.mem_cons,List.not_mem_nil,or_false] at hc
  rcases hc with rfl|rfl
  ·exact la
  ·exact lb
end
end D3
namespace D3
open PySem PySem.Spec
open PyProof.Rows hiding St
open L2 hiding St
def Y8(ls:List (List D))(i:Nat):List D:=ls.map fun l=>l.getD i .non
def Di:List (List D)→Nat
 |[]=>0
 |[l]=>l.length
 |l::m::r=>min l.length (Di (m::r))
def Bx(ls:List (List D)):List D:=(List.range (Di ls)).map fun i=>.tup (Y8 ls i)
theorem Ci(ls:List (List D)):(Bx ls).length=Di ls:=by simp[Bx]
theorem Oc{ls:List (List D)}{i:Nat}(h:i<Di ls):(Bx ls)[i]? = some (.tup (Y8 ls i)):=by simp[Bx,h]
theorem F7:∀{ls:List (List D)} {i:Nat},i<Di ls→∀l∈ls,i<l.length
 |[],_,h,_,_=>by simp[Di] at h
 |[l],i,h,m,hm=>by
  have:m=l:=by simpa using hm
  subst this;exact h
 |l::k::r,i,h,m,hm=>by
  have h1:i<min l.length (Di (k::r)):=h
  rcases List.mem_cons.mp hm with e|e
  ·subst e;omega
  ·exact F7 (by omega) m e
theorem S9:∀{ls:List (List D)},ls≠[]→∃l∈ls,l.length≤Di ls
 |[],h=>absurd rfl h
 |[l],_=>⟨l,by simp,Nat.le_refl _⟩
 |l::k::r,_=>by
  obtain⟨m,hm,h1⟩:=S9 (ls:=k::r) (by simp)
  show ∃m∈l::k::r,m.length≤min l.length (Di (k::r))
  by_cases h:l.length≤Di (k::r)
  ·exact⟨l,by simp,by omega⟩
  ·exact⟨m,by simp[List.mem_cons.mp hm],by omega⟩
abbrev Jz(K:PySem.W.Frag)(H:Hp)(cs:List (Addr×Bool))(ls:List (List D)):Prop:=Paired (fun(c:Addr×Bool) l=>∃xs,SqC K H c xs∧DVs K H l xs) cs ls
structure ItemsX(K:PySem.W.Frag)(J:It)(H:Hp)(ds:List D):Prop where
 go:∀i,i<ds.length→J.go i H
 yl:∀i x H',i<ds.length→J.yld i H x H'→Ext H H'∧(∀G,RelG K H G→RelG K H' G)∧∃d,ds[i]? = some d∧DV K H' d x
 st:J.stop ds.length H
theorem Ga{K:W.Frag}{H:Hp}:∀{cs:List (Addr×Bool)} {ls:List (List D)},Jz K H cs ls→∀c∈cs,∃l∈ls,∃xs,SqC K H c xs∧DVs K H l xs
 |_,_,.cons h t,c,hc=>by
  rcases List.mem_cons.mp hc with e|e
  ·subst e;exact⟨_,by simp,h⟩
  ·obtain⟨l,hl,q⟩:=Ga t c e;exact⟨l,by simp[hl],q⟩
theorem L6{K:W.Frag}{H:Hp}:∀{cs:List (Addr×Bool)} {ls:List (List D)},Jz K H cs ls→∀l∈ls,∃c∈cs,∃xs,SqC K H c xs∧DVs K H l xs
 |_,_,.cons h t,c,hc=>by
  rcases List.mem_cons.mp hc with e|e
  ·subst e;exact⟨_,by simp,h⟩
  ·obtain⟨l,hl,q⟩:=L6 t c e;exact⟨l,by simp[hl],q⟩
theorem We{K:W.Frag}{H:Hp}{i:Nat}:∀{cs:List (Addr×Bool)} {ls:List (List D)} {vs:List V},Jz K H cs ls→(∀l∈ls,i<l.length)→Paired (fun(c:Addr×Bool) v=>∀xs,SqC K H c xs→xs[i]? = some v) cs vs→DVs K H (Y8 ls i) vs
 |_,_,_,.nil,_,.nil=>.nil
 |_,_,_,.cons (b:=l) h t,hl,.cons q r=>by
  obtain⟨xs,h1,h2⟩:=h
  have hi:i<l.length:=hl l (by simp)
  obtain⟨v,hv,dv⟩:=h2.get (List.getElem?_eq_getElem hi)
  rw[q xs h1] at hv
  cases hv
  show DVs K H (l.getD i .non::Y8 _ i) _
  have e:l.getD i .non=l[i]:=by simp[List.getD,hi]
  rw[e]
  exact .cons dv (We t (fun m hm=>hl m (by simp[hm])) r)
theorem Uw{K:W.Frag}{H:Hp}{cs:List (Addr×Bool)}{ls:List (List D)}(h:Jz K H cs ls)(hne:ls≠[]):ItemsX K (Itz K cs) H (Bx ls):=by
 refine⟨fun i hi c hc=>?_,fun i x H' hi y=>?_,⟨fun c hc=>?_,?_⟩⟩
 ·rw[Ci] at hi
  obtain⟨l,hl,xs,h1,h2⟩:=Ga h c hc
  exact⟨xs,h1,by rw[←h2.length];exact F7 hi l hl⟩
 ·rw[Ci] at hi
  obtain⟨p,vs,hp,rfl,rfl,pv⟩:=y
  refine⟨Ext.fresh hp,fun G r=>r.tup hp,_,Oc hi,.tup Ak ((We h (F7 hi) pv).ext (Ext.fresh hp))⟩
 ·obtain⟨l,_,xs,h1,_⟩:=Ga h c hc
  exact⟨xs,h1⟩
 ·obtain⟨l,hl,hle⟩:=S9 hne
  obtain⟨c,hc,xs,h1,h2⟩:=L6 h l hl
  exact⟨c,hc,xs,h1,by rw[Ci,←h2.length];exact hle⟩
def Dp(G:Gp):List D→Option (List (List D))
 |[]=>some []
 |d::r=>match Av G d,Dp G r with
  |some l,some ls=>some (l::ls)
  |_,_=>none
def Lu:D→V→Addr×Bool
 |.tup _,.ref a=>(a,true)
 |_,.ref a=>(a,false)
 |_,_=>(0,false)
theorem Acd{K:W.Frag}{H:Hp}{G:Gp}{d:D}{v:V}{l:List D}(rg:RelG K H G)(h:Av G d=some l)(dv:DV K H d v):v=.ref (Lu d v).1∧∃xs,SqC K H (Lu d v) xs∧DVs K H l xs:=by
 cases dv with
 |tup e r=>cases h;exact⟨rfl,_,.inl (.inl e),r⟩
 |lint e=>cases h;exact⟨rfl,_,e.sq,DVs.ints⟩
 |ref a=>
  simp only[Av] at h
  split at h
  ·rename_i ds' q
   cases h
   obtain⟨xs,e,r⟩:=rg a _ q
   exact⟨rfl,xs,.inl (.inl e),r⟩
  ·cases h
 |_=>cases h
theorem M0{K:W.Frag}{H:Hp}{G:Gp}(rg:RelG K H G):∀{ds:List D} {vs:List V} {ls:List (List D)},Dp G ds=some ls→DVs K H ds vs→vs=(List.zipWith Lu ds vs).map (fun c=>V.ref c.1)∧Jz K H (List.zipWith Lu ds vs) ls
 |[],_,_,h,.nil=>by cases h;exact⟨rfl,.nil⟩
 |d::ds,_,_,h,.cons (v:=v) (vs:=vs) dv t=>by
  simp only[Dp] at h
  split at h
  ·rename_i l ls e1 e2
   cases h
   obtain⟨a1,a2⟩:=Acd rg e1 dv
   obtain⟨b1,b2⟩:=M0 rg e2 t
   refine⟨?_,.cons a2 b2⟩
   show v::vs=V.ref (Lu d v).1::_
   rw[←a1,←b1]
  ·cases h
def iZip(K:PySem.W.Frag)(n:Nat)(ta:TA):TI:=fun σ H R=>ta σ H fun vs H1=>∃cs:List (Addr×Bool),vs=cs.map (fun c=>V.ref c.1)∧cs.length=n∧(∀c∈cs,∃xs,SqC K H1 c xs)∧R (Itz K cs) H1
section
variable{X:Cx}{a b c e:Expr}{elts:List Expr}{kk:Nat}{tp p pos:Pos}{body:List Stmt}
theorem Zx{ta:TA}(hg:Gl X "zip")(hm:X.mg "zip" = none)(ha:PA X [a,b] ta)(hs:starEach [a,b] X.env=(false,eval a X.env)::starEach [b] X.env:=by rfl)(hpl:(backTo pos (starEach [b] X.env)).any (·.1)=false:=by rfl) :
  PI X (.Tuple elts kk tp) (.Call (.Name "zip" p) [a,b] [] pos) (iZip X.K 2 ta):=by
 intro pins s σ H R I h
 refine Call_ (D8 I hg hm zipTy (PyProof.Rows.callWith_type1 (thn (ha pos pins s σ H _ I h) fun us s1 ⟨vs,H1,I1,r1,q1⟩=>?_) hs hpl))
 obtain⟨cs,e,hl,hq,q⟩:=q1
 match cs,hl with
 |[x,y],_=>
  subst e
  obtain⟨u1,u2,rfl,r1,r2⟩:=Lr r1
  cases r1;cases r2
  exact Zd I1 (hq x (by simp)) (hq y (by simp)) q
theorem vals3{x y z:V}{us:List Value}(r:Vals [x,y,z] us):∃u v w,us=[u,v,w]∧RelV x u∧RelV y v∧RelV z w:=by
 cases r with|cons a t=>cases t with|cons b t=>cases t with|cons c t=>cases t;exact⟨_,_,_,rfl,a,b,c⟩
theorem Tp{G:Gp}:∀{ds:List D} {ls:List (List D)},Dp G ds=some ls→ls.length=ds.length
 |[],_,h=>by cases h;rfl
 |d::ds,_,h=>by
  simp only[Dp] at h
  split at h
  ·rename_i l ls e1 e2
   cases h
   simp[Tp e2]
  ·cases h
end
end D3
namespace D3
open PySem PySem.Spec
open PyProof.Rows hiding St
open L2 hiding St
def Be(scope:Scope)(cl:List (Str×Addr))(C:Addr):List (Str×Addr):=cellsFrom (C+1) scope.names cl
def An(X:Cx)(scope:Scope)(cl:List (Str×Addr))(T M:List Str)(s:Shared)(H:Hp)(fp:List Addr):Cx where
 prog:=X.prog
 w:=X.w
 K:=X.K
 mg:=X.mg
 base:=X.base
 A:=X.A
 N:=T++M
 s₀:=s
 H₀:=H
 env:=compEnvC scope (Be scope cl s.heap.objs.size) s.heap.objs.size X.env
 outer:=X.stack
 stack:=X.stack
 ex:=fp
 fn:=fun x=>scope.names.lookup x == some .cell
 calm:=X.calm
 pn:=[]
 xe:=fun _ _=>False
structure CompOz(X:Cx)(scope:Scope)(cl:List (Str×Addr))(T M:List Str):Prop where
 clos:closureFor scope X.env=pure cl
 kind:scope.kind=.function
 names:∀y∈scope.names,y.2=.local→scope.names.lookup y.1=some .local
 nocl:∀y∈scope.names,y.2=.cell→scope.names.lookup y.1=some .cell
 sub:∀x c,cl.lookup x=some c→X.env.cells.lookup x=some c∧scope.names.lookup x=some .free
 has:∀x,scope.names.lookup x=some .free→∃c,cl.lookup x=some c
 len:M.length=X.N.length
 vis:∀(i:Nat) (x:Str),M[i]? = some x→∀k,scope.names.lookup x=some k→k≠.local∧k≠.cell∧(k=.free→X.N[i]? = some x∧(X.env.kindOf x=some .cell∨X.env.kindOf x=some .free))
theorem Cl{scope:Scope}{env:Env}{x:Str}:(relabel scope env).names.lookup x=(scope.names.lookup x).map fun k=>if (k == NameKind.free&&env.scope.kind == .function&&env.kindOf x == some .cell)=true then NameKind.cell else k:=by
 show(scope.names.map fun(n,k)=>if (k == NameKind.free&&env.scope.kind == .function&&env.kindOf n == some .cell) then (n,NameKind.cell) else (n,k)).lookup x=_
 generalize scope.names=names
 induction names with
 |nil=>rfl
 |cons y r ih=>
  obtain⟨n,k⟩:=y
  rw[List.map_cons]
  by_cases hx:x=n
  ·subst hx
   by_cases hc:(k == NameKind.free&&env.scope.kind == .function&&env.kindOf x == some .cell)=true
   ·simp only[hc,if_true,List.lookup_cons_self,Option.map_some]
   ·simp only[hc,Bool.false_eq_true,if_false,List.lookup_cons_self,Option.map_some]
  ·have e:∀k',List.lookup x ((n,k')::r)=List.lookup x r:=fun k'=>by rw[List.lookup_cons,beq_false_of_ne hx]
   rw[e,←ih]
   by_cases hc:(k == NameKind.free&&env.scope.kind == .function&&env.kindOf n == some .cell)=true
   ·simp only[hc,if_true];rw[List.lookup_cons,beq_false_of_ne hx]
   ·simp only[hc];rw[show(if false=true then (n,NameKind.cell) else (n,k))=(n,k) from rfl,List.lookup_cons,beq_false_of_ne hx]
theorem Bt:∀(names:List (Str×NameKind)) (n:Nat) (acc:List (Str×Addr)),∃own,cellsFrom n names acc=own++acc∧(∀p∈own,(p.1,NameKind.cell)∈names∧n≤p.2)∧∀x,(x,NameKind.cell)∈names→∃c,own.lookup x=some c
 |[],n,acc=>⟨[],rfl,by simp,by simp⟩
 |(y,k)::r,n,acc=>by
  unfold cellsFrom
  by_cases hk:(k == NameKind.cell)=true
  ·rw[if_pos hk]
   obtain⟨own,e,h1,h2⟩:=Bt r (n+1) ((y,n)::acc)
   have hk':k=.cell:=by simpa using hk
   subst hk'
   refine⟨own++[(y,n)],by rw[e];simp,fun p hp=>?_,fun x hx=>?_⟩
   ·rcases List.mem_append.mp hp with hp|hp
    ·exact⟨List.mem_cons_of_mem _ (h1 p hp).1,by have:=(h1 p hp).2;omega⟩
    ·have:p=(y,n):=by simpa using hp
     subst this
     exact⟨by simp,Nat.le_refl _⟩
   ·rcases List.mem_cons.mp hx with z|z
    ·cases z
     rw[List.lookup_append]
     cases q:own.lookup y with
     |some c=>exact⟨c,rfl⟩
     |none=>exact⟨n,by simp⟩
    ·obtain⟨c,hc⟩:=h2 x z
     exact⟨c,by rw[List.lookup_append,hc];rfl⟩
  ·rw[if_neg hk]
   obtain⟨own,e,h1,h2⟩:=Bt r n acc
   refine⟨own,e,fun p hp=>⟨List.mem_cons_of_mem _ (h1 p hp).1,(h1 p hp).2⟩,fun x hx=>?_⟩
   rcases List.mem_cons.mp hx with z|z
   ·cases z;exact absurd rfl hk
   ·exact h2 x z
theorem Cy{X:Cx}{scope:Scope}{cl:List (Str×Addr)}{T M:List Str}(ok:CompOz X scope cl T M)(C:Addr):∀x c,(Be scope cl C).lookup x=some c→(scope.names.lookup x=some .cell∧C+1≤c)∨(cl.lookup x=some c∧scope.names.lookup x=some .free):=by
 intro x c h
 obtain⟨own,e,h1,h2⟩:=Bt scope.names (C+1) cl
 unfold Be at h
 rw[e,List.lookup_append] at h
 cases q:own.lookup x with
 |some c'=>
  rw[q] at h
  have h:some c'=some c:=h
  cases h
  have:=h1 _ (PySem.mem_of_lookup q)
  exact .inl ⟨ok.nocl _ this.1 rfl,this.2⟩
 |none=>
  rw[q] at h
  have h:cl.lookup x=some c:=h
  exact .inr ⟨h,(ok.sub x c h).2⟩
theorem Fm{X:Cx}{scope:Scope}{cl:List (Str×Addr)}{T M:List Str}(ok:CompOz X scope cl T M)(C:Addr){x:Str}(hx:scope.names.lookup x=some .free):(Be scope cl C).lookup x=cl.lookup x:=by
 obtain⟨own,e,h1,h2⟩:=Bt scope.names (C+1) cl
 unfold Be
 rw[e,List.lookup_append]
 cases q:own.lookup x with
 |some c'=>
  have:=ok.nocl _ (h1 _ (PySem.mem_of_lookup q)).1 rfl
  rw[hx] at this;cases this
 |none=>rfl
theorem Ho{X:Cx}{scope:Scope}{cl:List (Str×Addr)}{T M:List Str}{pins:List (Addr×Obj)}{σ:St}{H:Hp}{s s4:Shared}{fp:List Addr}{m:Str→Option Value}(ok:CompOz X scope cl T M)(I:Inv X pins σ H s)(hfp:∀b∈fp,Fd X pins H b∧b<s.heap.objs.size)(hn:s4.heap.Ns s.heap.objs.size m)(hk:∀b o,s.heap.get? b=some o→s4.heap.get? b=some o)(hos:s4.os=s.os)(hg:s4.gens=s.gens)(hc1:∀x c,(Be scope cl s.heap.objs.size).lookup x=some c→scope.names.lookup x=some .cell→∃v,s4.heap.IsCell c v)(hc2:∀x y c,(Be scope cl s.heap.objs.size).lookup x=some c→(Be scope cl s.heap.objs.size).lookup y=some c→scope.names.lookup x=some .cell→x=y) :
  Inv (An X scope cl T M s H fp) [] (Qd T σ) H s4:=by
 have fr:∀{b:Addr},s.heap.objs.size≤b→H b=none:=fun h=>I.hok.fresh h
 have old:∀x c,cl.lookup x=some c→c<s.heap.objs.size:=fun x c e=>by
  obtain⟨v,o,ho,_⟩:=I.cell x c (ok.sub x c e).1
  exact Heap.lt_size ho
 have lk:=Cy ok s.heap.objs.size
 have inj:∀x y c,(Be scope cl s.heap.objs.size).lookup x=some c→(Be scope cl s.heap.objs.size).lookup y=some c→x=y:=fun x y c h1 h2=>by
  rcases lk x c h1 with ⟨a1,a2⟩|⟨a1,a2⟩
  ·exact hc2 x y c h1 h2 a1
  ·rcases lk y c h2 with ⟨b1,b2⟩|⟨b1,b2⟩
   ·exact absurd (Nat.lt_of_lt_of_le (old x c a1) (Nat.le_of_succ_le b2)) (Nat.lt_irrefl _)
   ·exact I.ok.inj x y c (ok.sub x c a1).1 (ok.sub y c b1).1
 have has:∀x,((relabel scope X.env).names.lookup x=some .cell∨(relabel scope X.env).names.lookup x=some .free)→∃c,(Be scope cl s.heap.objs.size).lookup x=some c:=fun x hx=>by
  rw[Cl] at hx
  cases q:scope.names.lookup x with
  |none=>rw[q] at hx;simp at hx
  |some k=>
   rw[q] at hx
   simp only[Option.map_some] at hx
   by_cases hkf:k=.free
   ·subst hkf
    obtain⟨c,hc⟩:=ok.has x q
    exact⟨c,by rw[Fm ok _ q];exact hc⟩
   ·have:k=.cell:=by
     have hb:(k == NameKind.free)=false:=by simpa using hkf
     simp only[hb,Bool.false_and,Bool.false_eq_true,if_false,Option.some.injEq] at hx
     exact hx.elim id fun z=>absurd z hkf
    subst this
    obtain⟨own,e,h1,h2⟩:=Bt scope.names (s.heap.objs.size+1) cl
    obtain⟨c,hc⟩:=h2 x (PySem.mem_of_lookup q)
    exact⟨c,by unfold Be;rw[e,List.lookup_append,hc];rfl⟩
 refine⟨⟨I.ok.mod,ok.kind,I.ok.glob,I.ok.blt,Nat.le_refl _,inj,has,fun x c h h1=>?_,I.ok.hd,I.ok.frames,.inl rfl,fun b hb=>⟨Nat.ne_of_lt (hfp b hb).2,fun x c e=>?_⟩,I.bs,Nat.le_trans I.ok.bsz I.sz,fun b o e hb=>?_,fun b hb z=>?_,I.stack,I.stkFree⟩,
  hos,by rw[hg];exact I.bare,Un.kept hk,⟨m,hn,fun i x v e1 e2 e3=>?_⟩,fun x c e=>?_,fr (Nat.le_refl _),fun x c e=>?_,fun p hp=>absurd (show p∈([]:List (Addr×Obj)) from hp) (by simp),I.hok.kept hk,?_⟩
 ·have h:(scope.names.lookup x == some .cell)=true:=h
  have h:scope.names.lookup x=some .cell:=by simpa using h
  rcases lk x c h1 with ⟨_,a2⟩|⟨_,a2⟩
  ·exact Nat.le_of_succ_le a2
  ·rw[h] at a2;cases a2
 ·rcases lk x c e with ⟨_,a2⟩|⟨a1,a2⟩
  ·exact Nat.ne_of_gt (Nat.lt_of_lt_of_le (hfp b hb).2 (Nat.le_of_succ_le a2))
  ·exact(hfp b hb).1.2.2.2.2.1 x c (ok.sub x c a1).1
 ·rcases(hfp b hb).1.2.2.2.1 with z|z
  ·exact I.ok.noex b o e z
  ·exact absurd (Nat.lt_of_lt_of_le (Heap.lt_size e) (Nat.le_trans I.ok.bsz z)) (Nat.lt_irrefl _)
 ·rcases List.mem_cons.mp (I.stkSub b z) with e|e
  ·exact(hfp b hb).1.2.1 e
  ·exact(hfp b hb).1.2.2.1 e
 ·have e1:(T++M)[i]? = some x:=e1
  have e2:(List.replicate T.length none++σ)[i]? = some (some v):=e2
  by_cases hi:i<T.length
  ·rw[List.getElem?_append_left (by simpa using hi),List.getElem?_replicate,if_pos hi] at e2
   cases e2
  ·rw[List.getElem?_append_right (by omega)] at e1
   rw[List.getElem?_append_right (by simpa using hi),List.length_replicate] at e2
   have e3:Vis (relabel scope X.env) x:=e3
   have hq:∃k,scope.names.lookup x=some k∧k=.free:=by
    cases q:scope.names.lookup x with
    |none=>unfold Vis at e3;rw[Cl,q] at e3;simp at e3
    |some k=>
     obtain⟨v1,v2,_⟩:=ok.vis _ x e1 k q
     refine⟨k,rfl,?_⟩
     unfold Vis at e3
     rw[Cl,q] at e3
     by_cases hkf:k=.free
     ·exact hkf
     ·have hb:(k == NameKind.free)=false:=by simpa using hkf
      simp only[Option.map_some,hb,Bool.false_and,Bool.false_eq_true,if_false,Option.some.injEq] at e3
      rcases e3 with z|z|z
      ·exact absurd z v1
      ·exact absurd z v2
      ·exact z
   obtain⟨k,hq,rfl⟩:=hq
   obtain⟨e1,k2⟩:=(ok.vis _ x e1 _ hq).2.2 rfl
   obtain⟨m0,hn0,hl0⟩:=I.loc
   have v0:Vis X.env.scope x:=k2.elim (fun z=>.inr (.inl z)) fun z=>.inr (.inr z)
   obtain⟨u,r,l⟩:=hl0 _ x v e1 e2 v0
   have k1:(relabel scope X.env).names.lookup x=some .cell∨(relabel scope X.env).names.lookup x=some .free:=by
    rw[Cl,hq]
    simp only[Option.map_some]
    split
    ·exact .inl rfl
    ·exact .inr rfl
   refine⟨u,r,.inr ⟨k1,?_⟩⟩
   obtain⟨c,hc⟩:=ok.has x hq
   refine⟨c,(Fm ok _ hq).trans hc,?_⟩
   rcases l with ⟨l,_⟩|⟨_,c',hc',hv'⟩
   ·rcases k2 with z|z
    ·rw[l] at z;cases z
    ·rw[l] at z;cases z
   ·rw[(ok.sub x c hc).1] at hc'
    cases hc'
    obtain⟨o,ho,hd⟩:=hv'
    exact⟨o,hk _ _ ho,hd⟩
 ·rcases lk x c e with ⟨a1,a2⟩|⟨a1,a2⟩
  ·exact hc1 x c e a1
  ·obtain⟨v,o,ho,hd⟩:=I.cell x c (ok.sub x c a1).1
   exact⟨v,o,hk _ _ ho,hd⟩
 ·rcases lk x c e with ⟨a1,a2⟩|⟨a1,a2⟩
  ·exact fr (Nat.le_of_succ_le a2)
  ·exact I.freeC x c (ok.sub x c a1).1
 ·show(List.replicate T.length none++σ).length=(T++M).length
  rw[List.length_append,List.length_append,List.length_replicate,I.len,ok.len]

def Ob(P:Program)(w:World)(A:Around)(env:Env)(tg elt:Expr)(ifs:List Expr)(it acc:Value)(X:Value→Shared→Prop)(nxt:Shared→Prop)(v:Value)(t:Shared):Prop:=
 wpAny (model P w) A (letOwnedTupleGo tg it v) (fun _ a=>wpAny (model P w) A (assign tg env v) (fun _ b=>wpAny (model P w) A (Jy ifs env) (fun y c=>
  if y=true then wpAny (model P w) A (eval elt env) (fun e d=>wpAny (model P w) A (call (.builtin "list.append") [acc,e]) (fun _ f=>nxt f) X d) X c else nxt c) X b) X a) X t
theorem Iq{P:Program}{w:World}{A:Around}{R:Result→Shared→Prop}{s:Shared}{elt tg src:Expr}{ifs:List Expr}{sc:Scope}{pl:Pos}{it acc:Value}{env:Env}(V:Nat→Shared→Prop)(go:∀k t,V k t→wpAny (model P w) A (pyNext it) (fun r u=>match r with
   |none=>R (.ok .next) u
   |some v=>Ob P w A env tg elt ifs it acc (notedBy (model P w) A env fun e z=>R (.error e) z) (fun z=>∃m,m<k∧V m z) v u) (notedBy (model P w) A env fun e z=>R (.error e) z) t)(k:Nat)(h0:V k s):codeAny (model P w) A (.compLoop (.ListComp elt [⟨tg,src,ifs,0⟩] sc pl) 0 it acc env) R s:=by
 refine codeAny_loop rfl V (fun k t hv=>(show wpAny _ A ((compTurn (.ListComp elt [⟨tg,src,ifs,0⟩] sc pl) 0 it acc env).onRaise (fun x=>do noteFrame x env;theTreesLotGoes x)) _ _ t from wpAny_noted ?_)) k h0
 rw[compTurn_list];refine wpAny_bind (wpAny_standAt (wpAny_bind (wpAny_mono (go k t hv) (fun r u hr=>?_) fun _ _ z=>z)))
 cases r with
 |none=>exact wpAny_pure hr
 |some v=>
  refine wpAny_bind (wpAny_mono hr (fun _ a ha=>wpAny_bind (wpAny_mono ha (fun _ b hb=>wpAny_bind (wpAny_mono hb (fun y c hc=>?_) fun _ _ z=>z)) fun _ _ z=>z)) fun _ _ z=>z)
  cases y with
  |true=>exact wpAny_bind (wpAny_bind (wpAny_mono hc (fun e d hd=>wpAny_bind (wpAny_mono hd (fun _ f hf=>wpAny_pure (wpAny_pure ⟨rfl,hf⟩)) fun _ _ z=>z)) fun _ _ z=>z))
  |false=>refine wpAny_pure ⟨rfl,?_⟩;exact hc
theorem J9{M:Model}{A:Around}{E:Value→Shared→Prop}{s:Shared}{scope:Scope}{env:Env}{cl:List (Str×Addr)}{Q:Env→Shared→Prop}(hk:scope.kind=.function)(h:∀h':Heap,h'.Ns s.heap.objs.size (fun _=>none)→(∀b o,s.heap.get? b=some o→h'.get? b=some o)→CellsOk h' (s.heap.objs.size+1) (cellsFrom (s.heap.objs.size+1) scope.names [])→
   Q (newEnv scope s.heap.objs.size env.globals (Be scope cl s.heap.objs.size) env.qual none .none (some env) builtinsNs) { s with heap:=h' }) :
  wpAny M A (newFunctionEnv scope env.globals cl [] env.qual none .none (some env)) Q E s:=by
 simp only[newFunctionEnv,Option.isSome_some,if_true];refine wpAny_bind (wpAny_alloc ?_)
 refine wpAny_bind (wpAny_layCells _ (fun name kind cells=>by cases hkc:kind == NameKind.cell<;>simp) _ _ _ _ ?_)
 have okc:=cellsFrom_ok scope.names (s.heap.push { cls:=.type "dict",data:=.dict #[] }) (s.heap.objs.size+1) [] ⟨fun _ _ hm=>(nomatch hm),List.Pairwise.nil⟩ (by rw[Heap.size_push];exact Nat.le_refl _)
 rw[Heap.size_push] at okc
 rw[show({ s with heap:=s.heap.push { cls:=.type "dict",data:=.dict #[] } }:Shared).heap.objs.size=s.heap.objs.size+1 from Heap.size_push ..]
 refine wpAny_bind ?_
 rw[List.forIn_nil]
 refine wpAny_pure (wpAny_pure ?_)
 exact h _ ((Heap.Ns.new s.heap (.type "dict")).keeps (pushCells_keeps _ _)) (fun b o e=>pushCells_keeps _ _ b o (Heap.get?_push_of_some _ e)) okc

theorem Cz:∀(names:List (Str×NameKind)) (n:Nat) (acc:List (Str×Addr)),cellsFrom n names acc=cellsFrom n names []++acc
 |[],n,acc=>rfl
 |(y,k)::r,n,acc=>by
  unfold cellsFrom
  split
  ·rw[Cz r (n+1) ((y,n)::acc),Cz r (n+1) [(y,n)]];simp
  ·exact Cz r n acc
theorem Qs{scope:Scope}{cl:List (Str×Addr)}{C:Addr}{x:Str}{c:Addr}(h:(Be scope cl C).lookup x=some c)(hn:cl.lookup x=none∨C+1≤c)(old:∀x c,cl.lookup x=some c→c<C):(x,c)∈cellsFrom (C+1) scope.names []:=by
 unfold Be at h
 rw[Cz,List.lookup_append] at h
 cases q:(cellsFrom (C+1) scope.names []).lookup x with
 |some c'=>
  rw[q] at h
  have h:some c'=some c:=h
  cases h
  exact PySem.mem_of_lookup q
 |none=>
  rw[q] at h
  have h:cl.lookup x=some c:=h
  rcases hn with z|z
  ·rw[z] at h;cases h
  ·exact absurd (Nat.lt_of_lt_of_le (old x c h) (Nat.le_of_succ_le z)) (Nat.lt_irrefl _)
theorem Nb{X:Cx}{scope:Scope}{cl:List (Str×Addr)}{T M:List Str}{C:Addr}{h':Heap}(ok:CompOz X scope cl T M)(okc:CellsOk h' (C+1) (cellsFrom (C+1) scope.names []))(old:∀x c,cl.lookup x=some c→c<C) :
  ∀x c,(Be scope cl C).lookup x=some c→scope.names.lookup x=some .cell→∃v,h'.IsCell c v:=fun x c h hx=>by
 rcases Cy ok C x c h with ⟨_,a2⟩|⟨_,a2⟩
 ·exact⟨_,(okc.empty x c (Qs h (.inr a2) old)).1⟩
 ·rw[hx] at a2;cases a2
theorem Na{X:Cx}{scope:Scope}{cl:List (Str×Addr)}{T M:List Str}{C:Addr}{h':Heap}(ok:CompOz X scope cl T M)(okc:CellsOk h' (C+1) (cellsFrom (C+1) scope.names []))(old:∀x c,cl.lookup x=some c→c<C) :
  ∀x y c,(Be scope cl C).lookup x=some c→(Be scope cl C).lookup y=some c→scope.names.lookup x=some .cell→x=y:=fun x y c h1 h2 hx=>by
 rcases Cy ok C x c h1 with ⟨_,a2⟩|⟨_,a2⟩
 ·exact name_of_addr okc.apart (Qs h1 (.inr a2) old) (Qs h2 (.inr a2) old)
 ·rw[hx] at a2;cases a2
def Qg(n:Nat)(wi:TI)(g:TG)(tf:TT)(te:TE):TE:=fun σ H Q=>wi σ H fun J H1=>∀p,H1 p=none→∃W:Nat→Nat→St→Hp→Prop,(∃m,W 0 m (List.replicate n none++σ) (upd H1 p (.lst [])))∧∀i m σ1 H,W i m σ1 H→
 ((J.stop i H∧Q (.ref p) H)∨(J.go i H∧∃N:St→Hp→Prop,(∀σ' H',N σ' H'→∃m',m'<m∧W (i+1) m' σ' H')∧
  ∀x H',J.yld i H x H'→g x σ1 H' fun σ2 H2=>tf σ2 H2 fun b H3=>if b=true then te σ2 H3 fun y H4=>∃ys,H4 p=some (.lst ys)∧ys.length<sizeLine∧N σ2 (upd H4 p (.lst (ys++[y]))) else N σ2 H3))
theorem Ep{X:Cx}{elt iter tg:Expr}{ifs:List Expr}{scope:Scope}{cl:List (Str×Addr)}{pos:Pos}{wi:TI}{g:TG}{tf:TT}{te:TE}{T M:List Str}(hc:X.calm=true)(ok:CompOz X scope cl T M)(hi:PI X tg iter wi)(hg:∀s H fp,PG (An X scope cl T M s H fp) tg g)(hf:∀s H fp,PF (An X scope cl T M s H fp) ifs tf)(he:∀s H fp,PE (An X scope cl T M s H fp) elt te)(hs:∀x,foldedSetIterable iter X.env x=pure x:=by intro _;rfl):PE X (.ListComp elt [⟨tg,iter,ifs,0⟩] scope pos) (Qg T.length wi g tf te):=by
 intro pins s σ H Q I h
 rw[eval_ListComp]
 refine wpAny_comprehension_free (use:=none) (cl:=cl) rfl hs ok.clos ok.kind ok.names (thn (hi pins s σ H _ I h) fun v s1 h1=>thn h1 fun itv s2 h2=>?_)
 obtain⟨it,fp,tn,J,H2,e,I2,Tn,st2,f2,q⟩:=h2
 subst e
 have q:=q s2.heap.objs.size (I2.hok.fresh (Nat.le_refl _))
 refine wpAny_newObj_type ?_
 -- the new list,tracked
 have I3:Inv X pins σ (upd H2 s2.heap.objs.size (.lst [])) { s2 with heap:=s2.heap.push { cls:=.type "list",dict:=none,data:=.seq ([]:List Value).toArray } }:=
  I2.laid (t':=s2.toks) (fun b u e=>Heap.get?_push_of_some _ e) (Nat.le_refl _) ⟨Nat.zero_le _,[],0,.nil,Heap.get?_push_size _ rfl⟩
 generalize hH3:upd H2 s2.heap.objs.size (.lst [])=H3 at I3 q
 generalize hs3:({ s2 with heap:=s2.heap.push { cls:=.type "list",dict:=none,data:=.seq ([]:List Value).toArray } }:Shared)=s3 at I3
 have fpl:∀b∈fp,b<s2.heap.objs.size:=fun b hb=>let ⟨o,e,_⟩:=Tn.obj 0 _ st2 b hb;Heap.lt_size e
 have sz3:s2.heap.objs.size≤s3.heap.objs.size:=by rw[←hs3];show _≤(s2.heap.push _).objs.size;rw[Heap.size_push];exact Nat.le_succ _
 have fok:∀b∈fp,Fd X pins H3 b:=fun b hb=>⟨by rw[←hH3,Af (Nat.ne_of_lt (fpl b hb))];exact(f2 b hb).1,(f2 b hb).2⟩
 have k23:∀b o,s2.heap.get? b=some o→s3.heap.get? b=some o:=fun b o e=>by rw[←hs3];exact Heap.get?_push_of_some _ e
 have st3:tn 0 s3.heap:=Tn.keep _ _ _ st2 fun b _ o e=>k23 b o e
 refine J9 ok.kind (fun h4 hns4 k34 okc=>?_)
 have oldc:∀x c,cl.lookup x=some c→c<s3.heap.objs.size:=fun x c e=>by
  obtain⟨v,o,ho,_⟩:=I3.cell x c (ok.sub x c e).1
  exact Heap.lt_size ho
 have hc1:=Nb (h':=h4) ok okc oldc
 have hc2:=Na (h':=h4) ok okc oldc
 have I4:Inv (An X scope cl T M s3 H3 fp) [] (Qd T σ) H3 { s3 with heap:=h4 }:=
  Ho ok I3 (fun b hb=>⟨fok b hb,Nat.lt_of_lt_of_le (fpl b hb) sz3⟩) hns4 k34 rfl rfl hc1 hc2
 have st4:tn 0 h4:=Tn.keep _ _ _ st3 fun b _ o e=>k34 b o e
 obtain⟨W,⟨m0,w0⟩,turn⟩:=q
 have cfpc:∀b∈fp,∀x c,(Be scope cl s3.heap.objs.size).lookup x=some c→c≠b:=fun b hb x c e=>by
  rcases Cy ok s3.heap.objs.size x c e with ⟨_,a2⟩|⟨a1,_⟩
  ·exact Nat.ne_of_gt (Nat.lt_of_lt_of_le (Nat.lt_of_lt_of_le (fpl b hb) sz3) (Nat.le_of_succ_le a2))
  ·exact(fok b hb).2.2.2.2.1 x c (ok.sub x c a1).1
 have cfp:∀{H':Hp},(∀b∈fp,H' b=none)→∀b∈fp,Fd (An X scope cl T M s3 H3 fp) [] H' b:=fun hn b hb=>by
  refine⟨hn b hb,Nat.ne_of_lt (Nat.lt_of_lt_of_le (fpl b hb) sz3),fun z=>?_,.inl hb,fun x c e=>cfpc b hb x c e,fun p hp=>absurd (show p∈([]:List (Addr×Obj)) from hp) (by simp)⟩
  rcases List.mem_cons.mp (I3.stkSub b z) with e|e
  ·exact(fok b hb).2.1 e
  ·exact(fok b hb).2.2.1 e
 have fin:∀(σ':St) (H':Hp) (s':Shared),Inv (An X scope cl T M s3 H3 fp) [] σ' H' s'→Q (.ref s2.heap.objs.size) H'→compPost (model X.prog X.w) X.A X.xe none (EP X pins σ Q) (.ref s2.heap.objs.size) s3.heap.objs.size (.ok .next) s':=fun σ' H' s' J q=>by
  obtain⟨m',hm',_⟩:=J.loc
  refine⟨m',hm',fun h' hs'=>?_⟩
  have J0:Inv X pins σ H' s':=I3.call' (ch:=fp) J.os J.base J.hok J.bare fun b hb=>⟨(fok b hb).2.2.2.1,(fok b hb).2.1,(fok b hb).2.2.2.2.1,(fok b hb).2.2.2.2.2⟩
  have nC:=I3.fpOk (H':=H') (Nat.le_refl s3.heap.objs.size) J.free
  exact⟨.ref s2.heap.objs.size,H',J0.turned (t':=s'.toks) (fun b o hb e=>(hs'.2 b hb).trans e) nC.1 nC.2.1 nC.2.2.2.1 nC.2.2.2.2.1 nC.2.2.2.2.2,rfl,q⟩
 have loop:∀s5:Shared,s5={ s3 with heap:=h4 }→
   codeAny (model X.prog X.w) X.A (.compLoop (.ListComp elt [⟨tg,iter,ifs,0⟩] scope pos) 0 (.ref it) (.ref s2.heap.objs.size) (compEnvC scope (Be scope cl s3.heap.objs.size) s3.heap.objs.size X.env))
    (compPost (model X.prog X.w) X.A X.xe none (EP X pins σ Q) (.ref s2.heap.objs.size) s3.heap.objs.size) s5:=by
  rintro s5 rfl
  refine Iq (fun k s'=>∃i σ' H',Inv (An X scope cl T M s3 H3 fp) [] σ' H' s'∧tn i s'.heap∧(∀b∈fp,H' b=none)∧W i k σ' H') ?_ m0 ⟨0,Qd T σ,H3,I4,st4,fun b hb=>(fok b hb).1,w0⟩
  rintro k s6 ⟨i,σ6,H6,I6,st6,fr6,w6⟩
  rcases turn i k σ6 H6 w6 with ⟨stop,qn⟩|⟨go,N,hN,step⟩
  ·refine wpAny_mono (Tn.done (An X scope cl T M s3 H3 fp) rfl rfl rfl hc i [] s6 _ H6 (fun _ _=>False) I6 (cfp fr6) st6 stop) (fun r s7 ⟨hr,I7⟩=>?_) fun _ _ z=>z.elim
   subst hr
   exact fin _ H6 s7 I7 qn
  ·refine wpAny_mono (Tn.item (An X scope cl T M s3 H3 fp) rfl rfl rfl hc i [] s6 _ H6 (fun _ _=>False) I6 (cfp fr6) st6 go) (fun r s7 ⟨u,hr,h7⟩=>?_) fun _ _ z=>z.elim
   subst hr
   show Ob _ _ _ _ _ _ _ _ _ _ _ _ _;unfold Ob
   refine wpAny_mono h7 (fun _ s8 h8=>?_) fun _ _ z=>z.elim
   obtain⟨x7,H7,I7,r7,y7,st7,fr7⟩:=h8
   have I7':=I7.pinned (cfp fr7) (Tn.obj _ _ st7)
   have back:∀{σ8:St} {H8:Hp} {s9:Shared},Inv (An X scope cl T M s3 H3 fp) ([]++Dw fp s8.heap) σ8 H8 s9→tn (i+1) s9.heap∧∀b∈fp,H8 b=none:=fun {σ8 H8 s9} I8=>by
    refine⟨Tn.keep _ _ _ st7 fun b hb o e=>(I8.pin (b,o) (List.mem_append_right _ (List.mem_append_right _ (B0 hb e)))).1,fun b hb=>?_⟩
    obtain⟨o,e,d⟩:=Tn.obj _ _ st7 b hb
    exact(I8.pin (b,o) (List.mem_append_right _ (List.mem_append_right _ (B0 hb e)))).2.1
   have again:∀{σ9:St} {H9:Hp} {s9:Shared},Inv (An X scope cl T M s3 H3 fp) ([]++Dw fp s8.heap) σ9 H9 s9→N σ9 H9→
     ∃m,m<k∧∃i σ' H',Inv (An X scope cl T M s3 H3 fp) [] σ' H' s9∧tn i s9.heap∧(∀b∈fp,H' b=none)∧W i m σ' H':=fun {σ9 H9 s9} I9 n9=>by
    obtain⟨m',hm,w9⟩:=hN σ9 H9 n9
    obtain⟨b1,b2⟩:=back I9
    exact⟨m',hm,i+1,σ9,H9,I9.unpinned,b1,b2,w9⟩
   refine wpAny_mono (hg s3 H3 fp _ s8 σ6 H7 x7 u _ I7' r7 (step x7 H7 y7)) (fun _ s9 ⟨σ9,H9,I9,q9⟩=>?_) fun _ _ z=>z.elim
   refine wpAny_mono (hf s3 H3 fp _ s9 σ9 H9 _ I9 q9) (fun okb s10 ⟨H10,I10,q10⟩=>?_) fun _ _ z=>z.elim
   cases okb with
   |false=>
    rw[if_neg Bool.false_ne_true] at q10 ⊢
    exact again I10 q10
   |true=>
    rw[if_pos rfl] at q10 ⊢
    refine wpAny_mono (he s3 H3 fp _ s10 σ9 H10 _ I10 q10) (fun y s11 ⟨yv,H11,I11,ry,ys,e11,l11,n11⟩=>?_) fun _ _ z=>z.elim
    refine wpAny_mono (Hl (X:=An X scope cl T M s3 H3 fp) _ s11 σ9 H11 (.ref s2.heap.objs.size) [yv] (.ref s2.heap.objs.size) [y] (fun _ H12=>N σ9 H12) I11 rfl (.cons ry .nil) ⟨_,ys,yv,rfl,rfl,e11,l11,n11⟩) (fun _ s12 ⟨_,H12,I12,_,n12⟩=>?_) fun _ _ z=>z.elim
    exact again I12 n12
 exact codeAny_compStart_list (loop _ rfl) (Tn.self _ 0 _ _ _ st4 (loop _ rfl))


theorem compOz{X:Cx}{scope:Scope}{T M:List Str}(h1:(scope.names.all fun y=>!(y.2 == .free)||(X.env.cells.lookup y.1).isSome)=true:=by rfl)(h3:scope.kind=.function:=by rfl)(h4:(scope.names.all fun y=>scope.names.lookup y.1 == some y.2)=true:=by rfl)(h6:M.length=X.N.length:=by rfl)(h5:((M.zip X.N).all fun z=>match scope.names.lookup z.1 with|some .local=>false|some .cell=>false|some .free=>z.1 == z.2&&(X.env.kindOf z.1 == some .cell||X.env.kindOf z.1 == some .free)|_=>true)=true:=by rfl) :
  CompOz X scope (Bz X.env.cells scope.names []) T M:=by
 have hl:∀y∈scope.names,scope.names.lookup y.1=some y.2:=fun y hy=>by simpa using List.all_eq_true.mp h4 y hy
 have only:∀(names:List (Str×NameKind)) (cs:List (Str×Addr)) (x:Str) (c:Addr),(Bz X.env.cells names cs).lookup x=some c→(x,NameKind.free)∈names∨cs.lookup x=some c:=by
  intro names
  induction names with
  |nil=>intro cs x c h;exact .inr h
  |cons y r ih=>
   intro cs x c h
   obtain⟨n,k⟩:=y
   unfold Bz at h
   split at h
   ·rename_i hk
    split at h
    ·rename_i c' hc
     rcases ih _ x c h with z|z
     ·exact .inl (List.mem_cons_of_mem _ z)
     ·by_cases hx:x=n
      ·subst hx
       have:k=.free:=by simpa using hk
       subst this
       exact .inl (by simp)
      ·rw[List.lookup_cons,beq_false_of_ne hx] at z
       exact .inr z
    ·rcases ih _ x c h with z|z
     ·exact .inl (List.mem_cons_of_mem _ z)
     ·exact .inr z
   ·rcases ih _ x c h with z|z
    ·exact .inl (List.mem_cons_of_mem _ z)
    ·exact .inr z
 refine⟨?_,h3,fun y hy z=>by rw[hl y hy,z],fun y hy z=>by rw[hl y hy,z],fun x c e=>⟨E9 _ _ (fun _ _ z=>by simp at z) x c e,?_⟩,fun x hx=>Hr _ _ x h1 (.inl (PySem.mem_of_lookup hx)),h6,fun i x hx k q=>?_⟩
 ·unfold closureFor
  have:=Aa2 (env:=X.env) scope.names [] h1
  simp only[bind_pure]
  exact this
 ·rcases only _ _ x c e with z|z
  ·exact hl _ z
  ·simp at z
 ·have hi:i<X.N.length:=by rw[←h6];exact(List.getElem?_eq_some_iff.mp hx).1
  have hz:(M.zip X.N)[i]? = some (x,X.N[i]):=by rw[List.getElem?_zip_eq_some];exact⟨hx,List.getElem?_eq_getElem hi⟩
  have this:=List.all_eq_true.mp h5 _ (List.mem_of_getElem? hz)
  dsimp only at this
  rw[q] at this
  refine⟨fun z=>?_,fun z=>?_,fun z=>?_⟩
  ·subst z;exact absurd this (by simp)
  ·subst z;exact absurd this (by simp)
  ·subst z
   simp only[Bool.and_eq_true,beq_iff_eq,Bool.or_eq_true] at this
   exact⟨by rw[List.getElem?_eq_getElem hi,←this.1],this.2⟩
theorem C3{K:W.Frag}{J:It}{n:Nat}{p:Addr}{ds:List D}{same:Gp→Prop}{g:DTG}{tf:DTT}{te:DTE}{Q:DK}{QV:VK}{σD:DSt}{σ:St}{G:Gp}{H:Hp}(rs:RelS K H σD σ)(rg:RelG K H G)(hp:H p=none)(cl:∀d G',Q d G'→Fwd K H G' fun H'=>∀v,DV K H' d v→QV v H')(hJ:∀H' G',Ext H H'→RelG K H' G'→same G'→ItemsX K J H' ds)(h:Ii n p ds same g tf te σD (Ab G p (.lst [])) Q) :
  ∃W:Nat→Nat→St→Hp→Prop,(∃m,W 0 m (List.replicate n none++σ) (upd H p (.lst [])))∧∀i m σ1 H,W i m σ1 H→
   ((J.stop i H∧QV (.ref p) H)∨(J.go i H∧∃N:St→Hp→Prop,(∀σ' H',N σ' H'→∃m',m'<m∧W (i+1) m' σ' H')∧
    ∀x H',J.yld i H x H'→Ek K g x σ1 H' fun σ2 H2=>Ef K tf σ2 H2 fun b H3=>if b=true then B5 K te σ2 H3 fun y H4=>∃ys,H4 p=some (.lst ys)∧ys.length<sizeLine∧N σ2 (upd H4 p (.lst (ys++[y]))) else N σ2 H3)):=by
 obtain⟨P,p0,keep,step,fin⟩:=h
 refine⟨fun i m σ' H'=>m=ds.length-i∧i≤ds.length∧RelS K H' (List.replicate n none++σD) σ'∧∃yd G',RelG K H' G'∧Ext H H'∧P i yd G',
  ⟨ds.length,rfl,Nat.zero_le _,(S1 n rs).ext (Ext.fresh hp),[],_,rg.lst hp .nil,Ext.fresh hp,p0⟩,?_⟩
 rintro i m σ1 H1 ⟨rfl,hi,rs1,yd,G1,rg1,x1,p1⟩
 obtain⟨sm,gp⟩:=keep i yd G1 hi p1
 have I:=hJ H1 G1 x1 rg1 sm
 by_cases hlt:i<ds.length
 ·refine .inr ⟨I.go i hlt,fun σ' H'=>RelS K H' (List.replicate n none++σD) σ'∧∃yd' G',RelG K H' G'∧Ext H H'∧P (i+1) yd' G',fun σ' H' ⟨a2,yd',G',a3,a4,a5⟩=>⟨ds.length-(i+1),by omega,rfl,hlt,a2,yd',G',a3,a4,a5⟩,fun x H' y=>?_⟩
  obtain⟨xe,rge,d,ed,dv⟩:=I.yl i x H' hlt y
  refine⟨d,_,G1,_,dv,rs1.ext xe,rge _ rg1,step i d yd G1 ed p1,fun σ2 G2 ⟨⟨pre,hpre,e2⟩,st2⟩ H2 x2 rg2 σ' rs2=>?_⟩
  have back:∀{H5:Hp} {σ5:St},RelS K H5 σ2 σ5→RelS K H5 (List.replicate n none++σD) σ5:=fun {H5 σ5} r=>by
   refine⟨by rw[←r.1,e2,List.length_append,List.length_append,List.length_replicate,hpre],fun j d e=>?_⟩
   refine r.2 j d ?_
   by_cases hj:j<n
   ·rw[List.getElem?_append_left (by simpa using hj),List.getElem?_replicate,if_pos hj] at e
    cases e
   ·rw[List.getElem?_append_right (by simpa using hj),List.length_replicate] at e
    rw[e2,List.getElem?_append_right (by omega),hpre];exact e
  refine⟨σ2,G2,_,rs2,rg2,st2,fun b G3 h3 H3 x3 rg3=>?_⟩
  have x13:=x1.trans (xe.trans (x2.trans x3))
  dsimp only at h3 ⊢
  cases b with
  |false=>
   rw[if_neg Bool.false_ne_true] at h3 ⊢
   obtain⟨G4,sb,p4⟩:=h3
   exact⟨back (rs2.ext x3),yd,G4,rg3.ext' sb,x13,p4⟩
  |true=>
   rw[if_pos rfl] at h3 ⊢
   refine⟨_,G3,_,rs2.ext x3,rg3,h3,fun z G4 ⟨e4,l4,G5,sb,p5⟩ H4 x4 rg4 v4 d4=>?_⟩
   obtain⟨xs,ex,r⟩:=rg4 p _ e4
   exact⟨xs,ex,by rw[←r.length];exact l4,back ((rs2.ext (x3.trans x4)).ext (E4 ex)),_,G5,(rg4.lstw ex (r.append (.cons d4 .nil))).ext' sb,(x13.trans x4).trans (E4 ex),p5⟩
 ·have e:i=ds.length:=by omega
  subst e
  exact .inl ⟨I.st,cl _ G1 (fin yd G1 p1) H1 x1 rg1 _ (.ref p)⟩
theorem D4{K:W.Frag}{J:It}{G:Gp}{H:Hp}{ds:List D}(h:Items K J G H ds):ItemsX K J H ds:=⟨h.go,fun i x H' hi y=>by
 obtain⟨e,d,ed,dv⟩:=h.yl i x H' hi y
 subst e
 exact⟨Ext.refl _,fun _ r=>r,d,ed,dv⟩,h.st⟩
section
variable{X:Cx}{elt iter tg:Expr}{ifs:List Expr}{scope:Scope}{pos:Pos}{ti te:DTE}{tf:DTT}{g:DTG}{T M:List Str}
abbrev QGz(X:Cx)(scope:Scope)(T M:List Str)(tg:Expr)(g:DTG):Prop:=∀s H fp,QG (An X scope (Bz X.env.cells scope.names []) T M s H fp) tg g
abbrev QFz(X:Cx)(scope:Scope)(T M:List Str)(ifs:List Expr)(t:DTT):Prop:=∀s H fp,QF (An X scope (Bz X.env.cells scope.names []) T M s H fp) ifs t
abbrev QEz(X:Cx)(scope:Scope)(T M:List Str)(e:Expr)(t:DTE):Prop:=∀s H fp,QE (An X scope (Bz X.env.cells scope.names []) T M s H fp) e t
def C5(n:Nat)(ti:DTE)(g:DTG)(tf:DTT)(te:DTE):DTE:=fun σ G Q=>ti σ G fun d G1=>∃ds,Av G1 d=some ds∧∀p,G1 p=none→Ii n p ds (fun G'=>Av G' d=some ds) g tf te σ (Ab G1 p (.lst [])) Q
theorem q_compz(hc:X.calm=true)(ok:CompOz X scope (Bz X.env.cells scope.names []) T M)(hi:QE X iter ti)(hg:QGz X scope T M tg g)(hf:QFz X scope T M ifs tf)(he:QEz X scope T M elt te)(hs:∀x,foldedSetIterable iter X.env x=pure x:=by intro _;rfl):QE X (.ListComp elt [⟨tg,iter,ifs,0⟩] scope pos) (C5 T.length ti g tf te):=
 (Ep (g:=Ek X.K g) (tf:=Ef X.K tf) (te:=B5 X.K te) hc ok (Qr hi) hg hf he hs).imp fun σ H Q ⟨σD,G,Q',rs,rg,h,cl⟩=>by
 refine⟨σD,G,_,rs,rg,h,fun d G1 ⟨ds,ei,L⟩ H1 x1 rg1 v dv=>?_⟩
 obtain⟨a,rfl⟩:=Kd ei dv
 refine⟨a,rfl,?_⟩
 have lp:=fun p hp=>C3 (J:=jOf X.K d a) (rs.ext x1) rg1 hp (fun d' G' q=>(cl d' G' q).go x1) (fun H' G' x' rg' s'=>D4 (Gi rg' s' (dv.ext x'))) (L p (rg1.free hp))
 cases dv with
 |tup e r=>exact .inr ⟨⟨_,.inl (.inl e)⟩,lp⟩
 |lint e=>exact .inl ⟨⟨_,e.sq⟩,lp⟩
 |ref=>
  simp only[Av] at ei
  split at ei
  ·rename_i ds' q
   obtain⟨xs,e,r⟩:=rg1 a _ q
   exact .inl ⟨⟨_,.inl (.inl e)⟩,lp⟩
  ·cases ei
def F6(n k:Nat)(tA:DTA)(g:DTG)(tf:DTT)(te:DTE):DTE:=fun σ G Q=>tA σ G fun ds G1=>ds.length=k∧∃ls,Dp G1 ds=some ls∧∀p,G1 p=none→Ii n p (Bx ls) (fun G'=>Dp G' ds=some ls) g tf te σ (Ab G1 p (.lst [])) Q
theorem q_compzZ2{a b:Expr}{tA:DTA}{p p2 tp:Pos}{elts:List Expr}{kk:Nat}(hc:X.calm=true)(ok:CompOz X scope (Bz X.env.cells scope.names []) T M)(hm:X.mg "zip" = none)(ha:QA X [a,b] tA)(hg:QGz X scope T M (.Tuple elts kk tp) g)(hf:QFz X scope T M ifs tf)(he:QEz X scope T M elt te)(hgl:Gl X "zip":=by rfl)(hst:starEach [a,b] X.env=(false,eval a X.env)::starEach [b] X.env:=by rfl)(hpl:(backTo p2 (starEach [b] X.env)).any (·.1)=false:=by rfl)(hs:∀x,foldedSetIterable (.Call (.Name "zip" p) [a,b] [] p2) X.env x=pure x:=by intro _;rfl) :
  QE X (.ListComp elt [⟨.Tuple elts kk tp,.Call (.Name "zip" p) [a,b] [] p2,ifs,0⟩] scope pos) (F6 T.length 2 tA g tf te):=
 (Ep (g:=Ek X.K g) (tf:=Ef X.K tf) (te:=B5 X.K te) hc ok (Zx hgl hm ha hst hpl) hg hf he hs).imp fun σ H Q ⟨σD,G,Q',rs,rg,h,cl⟩=>by
 refine⟨σD,G,_,rs,rg,h,fun ds G1 ⟨hn2,ls,ei,L⟩ H1 x1 rg1 vs dv=>?_⟩
 obtain⟨e1,ok'⟩:=M0 rg1 ei dv
 refine⟨List.zipWith Lu ds vs,e1,by rw[List.length_zipWith,←dv.length,Nat.min_self];exact hn2,fun c hc=>?_,fun q hq=>?_⟩
 ·obtain⟨l,_,xs,h1,_⟩:=Ga ok' c hc
  exact⟨xs,h1⟩
 ·refine C3 (rs.ext x1) rg1 hq (fun d' G' q=>(cl d' G' q).go x1) (fun H' G' x' rg' s'=>?_) (L q (rg1.free hq))
  obtain⟨_,ok2⟩:=M0 rg' s' (dv.ext x')
  refine Uw ok2 fun z=>?_
  have:=Tp ei
  rw[z] at this
  simp at this
  omega
def S6(n:Nat)(tA:DTA)(g:DTG)(tf:DTT)(te:DTE):DTE:=fun σ G Q=>tA σ G fun ds G1=>∃j,ds=[.int j]∧(-(2 ^ 62)≤j∧j<2 ^ 62)∧∀p,G1 p=none→Ii n p (K8 j.toNat) (fun _=>True) g tf te σ (Ab G1 p (.lst [])) Q
theorem Xl{a:Expr}{tA:DTA}{p p2:Pos}(hc:X.calm=true)(ok:CompOz X scope (Bz X.env.cells scope.names []) T M)(hm:X.mg "range" = none)(ha:QA X [a] tA)(hg:QGz X scope T M tg g)(hf:QFz X scope T M ifs tf)(he:QEz X scope T M elt te)(hgl:Gl X "range":=by rfl)(hst:starEach [a] X.env=[(false,eval a X.env)]:=by rfl)(hs:∀x,foldedSetIterable (.Call (.Name "range" p) [a] [] p2) X.env x=pure x:=by intro _;rfl):QE X (.ListComp elt [⟨tg,.Call (.Name "range" p) [a] [] p2,ifs,0⟩] scope pos) (S6 T.length tA g tf te):=
 (Ep (g:=Ek X.K g) (tf:=Ef X.K tf) (te:=B5 X.K te) hc ok (L8 hgl hm ha hst) hg hf he hs).imp fun σ H Q ⟨σD,G,Q',rs,rg,h,cl⟩=>by
 refine⟨σD,G,_,rs,rg,h,fun ds G1 ⟨j,ej,⟨j1,j2⟩,L⟩ H1 x1 rg1 vs dv=>?_⟩
 subst ej
 obtain⟨v,rfl,r⟩:=dv.one
 cases r
 refine⟨j,rfl,j1,j2,fun p hp=>C3 (J:=Itr 0 j.toNat) (rs.ext x1) rg1 hp (fun d' G' q=>(cl d' G' q).go x1) (fun H' G' x' rg' _=>D4 (G:=G') ?_) (L p (rg1.free hp))⟩
 refine⟨fun i hi=>by rw[Ck] at hi;exact hi,fun i x H2 hi y=>?_,by show j.toNat≤_;rw[Ck];exact Nat.le_refl _⟩
 rw[Ck] at hi
 obtain⟨e1,e2⟩:=y
 refine⟨e1,_,J5 hi,?_⟩
 rw[e2,Int.zero_add]
 exact .int _
end
end D3
namespace D3
open PySem PySem.Spec
open PyProof.Rows hiding St
open L2 hiding St
section
variable{X:Cx}
def C6(i j:Int):List D:=(List.range (j-i).toNat).map fun k=>D.int (i+(k:Nat))
theorem Bh(i j:Int):(C6 i j).length=(j-i).toNat:=by simp[C6]
theorem Ec{i j:Int}{k:Nat}(h:k<(j-i).toNat):(C6 i j)[k]? = some (.int (i+(k:Nat))):=by simp[C6,h]
def Qu(tA:DTA)(g:DTG)(tb:DTS):DTS:=fun D σ G=>tA σ G fun ds G1=>∃i j,ds=[.int i,.int j]∧(-(2 ^ 62)≤i∧i<2 ^ 62∧-(2 ^ 62)≤j∧j<2 ^ 62)∧N3 (C6 i j) (fun _=>True) g tb D σ G1
theorem Ol{a b tg:Expr}{body:List Stmt}{pos:Pos}{g:DTG}{tb:DTS}{tA:DTA}{p p2:Pos}(hp:PassesOwn (model X.prog X.w) X.A X.env X.xe)(hc:X.calm=true)(hm:X.mg "range" = none)(ha:QA X [a,b] tA)(hg:QG X tg g)(hb:QSs X body tb)(hgl:Gl X "range":=by rfl)(hst:starEach [a,b] X.env=[(false,eval a X.env),(false,eval b X.env)]:=by rfl)(hst2:starEach [b] X.env=[(false,eval b X.env)]:=by rfl)(hs:∀x,foldedSetIterable (.Call (.Name "range" p) [a,b] [] p2) X.env x=pure x:=by intro _;rfl) :
  QS X (.For tg (.Call (.Name "range" p) [a,b] [] p2) body [] pos) (Qu tA g tb):=(Qp hp hc (Hj hgl hm ha hst hst2) hg hb hs).imp fun E σ H ⟨σD,G,D,rs,rg,h,cl⟩=>by
 refine⟨σD,G,_,rs,rg,h,fun ds G1 ⟨i,j,ej,hij,L⟩ H1 x1 rg1 vs dv=>?_⟩
 subst ej
 obtain⟨v,w,rfl,r,r'⟩:=dv.two
 cases r;cases r'
 refine⟨i,j,rfl,hij,Hm (J:=Itr i (j-i).toNat) (rs.ext x1) rg1 (cl.go x1) (fun H' G' x' rg' _=>?_) L⟩
 refine⟨fun k hk=>by rw[Bh] at hk;exact hk,fun k x H2 hk y=>?_,by show(j-i).toNat≤_;rw[Bh];exact Nat.le_refl _⟩
 rw[Bh] at hk
 obtain⟨e1,e2⟩:=y
 refine⟨e1,_,Ec hk,?_⟩
 rw[e2]
 exact .int _
theorem Et{n:Nat}{p:Addr}{ds:List D}{same:Gp→Prop}{g:DTG}{tf:DTT}{te:DTE}{σ:DSt}{G:Gp}{Q:DK}(st:D→DSt)(f:D→D)(c:D→Bool)(hz:ds.length<sizeLine)(hsm:∀ys,same (Ab G p (.lst ys)))(hst:∀x∈ds,V7 n σ (st x)∧∀(G':Gp) (R:DSt→Gp→Prop),R (st x) G'→g x (List.replicate n none++σ) G' R)(hs:∀x ys,x∈ds→ys.length<sizeLine→∀(R1:D→Gp→Prop) (R2:Gp→Prop),(c x=true→R1 (f x) (Ab G p (.lst (ys++[f x]))))→(c x=false→R2 (Ab G p (.lst ys)))→
   tf (st x) (Ab G p (.lst ys)) fun b G3=>if b=true then te (st x) G3 fun y G4=>G4 p=some (.lst ys)∧ys.length<sizeLine∧Fg (R1 y) (Ab G4 p (.lst (ys++[y]))) else Fg R2 G3)(hq:Q (.ref p) (Ab G p (.lst ((ds.filter c).map f)))):Ii n p ds same g tf te σ (Ab G p (.lst [])) Q:=by
 refine⟨fun i ys G'=>ys=((ds.take i).filter c).map f∧Ab G p (.lst ys)=G',⟨rfl,rfl⟩,?_,?_,?_⟩
 ·rintro i ys _ _ ⟨_,rfl⟩
  exact⟨hsm ys,Aa⟩
 ·rintro i x ys _ hx ⟨e,rfl⟩
  have hi:=(List.getElem?_eq_some_iff.mp hx).1
  have hm:=List.mem_of_getElem? hx
  have hl:ys.length<sizeLine:=by
   rw[e,List.length_map]
   refine Nat.lt_of_le_of_lt (List.length_filter_le _ _) ?_
   rw[List.length_take];omega
  have tk:ds.take (i+1)=ds.take i++[x]:=by rw[List.take_add_one,hx];rfl
  refine(hst x hm).2 _ _ ⟨(hst x hm).1,?_⟩
  refine hs x ys hm hl (fun y G'=>ys++[y]=((ds.take (i+1)).filter c).map f∧Ab G p (.lst (ys++[y]))=G') (fun G'=>ys=((ds.take (i+1)).filter c).map f∧Ab G p (.lst ys)=G') (fun hc=>⟨?_,rfl⟩) (fun hc=>⟨?_,rfl⟩)
  ·rw[tk,List.filter_append,List.map_append,←e];simp[hc]
  ·rw[tk,List.filter_append,List.map_append,←e];simp[hc]
 ·rintro ys _ ⟨e,rfl⟩
  rw[List.take_length] at e
  rw[e];exact hq
end
def Qq:Expr→Bool
 |.Starred ..=>false
 |_=>true
theorem Tx{e:Expr}{es:List Expr}{env:Env}(h:Qq e=true):starEach (e::es) env=(false,eval e env)::starEach es env:=by
 cases e<;>first|rfl|exact absurd h (by simp[Qq])
theorem qa_consP{X:Cx}{e:Expr}{es:List Expr}{te:DTE}{tA:DTA}(ha:QE X e te)(hr:QA X es tA)(h:Qq e=true:=by rfl):QA X (e::es) (Aj te tA):=Su ha hr (Tx h)
def nNeg(ta:DTE):DTE:=fun σ G Q=>ta σ G fun x G1=>∃i,x=.int i∧Q (.int (-i)) G1
theorem q_neg{X:Cx}{a:Expr}{ta:DTE}{pos:Pos}(ha:QE X a ta):QE X (.UnaryOp .USub a pos) (nNeg ta):=(pe_un Ab5 ha).imp fun σ H Q ⟨σD,G,Q',rs,rg,h,cl⟩=>by
 refine⟨σD,G,_,rs,rg,h,fun d G1 ⟨i,e,h1⟩ H1 x1 rg1 v dv=>?_⟩
 subst e;cases dv
 exact⟨i,rfl,cl _ G1 h1 H1 x1 rg1 _ (.int _)⟩
def tPar3(i j l:Nat)(ta:TA):TS:=fun D σ H=>ta σ H fun vs H1=>∃v w z,vs=[v,w,z]∧D.nx (((σ.set i (some v)).set j (some w)).set l (some z)) H1
theorem Zu{X:Cx}{pos:Pos}{i j l:Nat}{x y z:Str}{a b c:Expr}{ta:TA}{px py pz pt:Pos}{kt k2 pt2}(hc:X.calm=true)(hN:X.N.Nodup)(hi:X.N[i]? = some x)(hj:X.N[j]? = some y)(hl:X.N[l]? = some z)(hij:i≠j)(hil:i≠l)(hjl:j≠l)(hx:X.env.scope.names.lookup x=some .local)(hy:X.env.scope.names.lookup y=some .local)(hzz:X.env.scope.names.lookup z=some .local)(ha:PA X [a,b,c] ta)(hw:swappedStores [.Tuple [.Name x px,.Name y py,.Name z pz] kt pt] (.Tuple [a,b,c] k2 pt2) X.env=pure (some [x,y,z]))(hs:swapsWithSole [.Tuple [.Name x px,.Name y py,.Name z pz] kt pt] (.Tuple [a,b,c] k2 pt2) pos.line X.env=pure false:=by rfl) :
  PS X (.Assign [.Tuple [.Name x px,.Name y py,.Name z pz] kt pt] (.Tuple [a,b,c] k2 pt2) pos) (tPar3 i j l ta):=by
 intro pins s σ H D I h
 rw[exec_Assign_arm]
 refine wpAny_bind (wpAny_standAt ?_)
 rw[hs]
 refine wpAny_bind (wpAny_pure ?_)
 rw[if_neg (by decide)]
 refine wpAny_bind (Tuple_ (thn (ha _ pins s σ H _ I h) fun us s1 ⟨vs,H1,I1,r1,q1⟩=>?_))
 obtain⟨v,w,u,e1,q1⟩:=q1
 subst e1
 obtain⟨u1,u2,u3,rfl,rv,rw',rz⟩:=vals3 r1
 refine wpAny_newObj_type ?_ (by show 3≤sizeLine;decide)
 have I2:Inv X pins σ H1 { s1 with heap:=s1.heap.push { cls:=.type "tuple",data:=.seq [u1,u2,u3].toArray } }:=I1.kept (t':=s1.toks) fun b o e=>Heap.get?_push_of_some _ e
 rw[hw]
 refine wpAny_bind (wpAny_pure ?_)
 show wpAny (model X.prog X.w) X.A (do rule "assign.swapped-stores";let items ←unpackItems (.ref s1.heap.objs.size) 3 none;assignInOrder [fun v=>bindName X.env z v,fun v=>bindName X.env y v,fun v=>bindName X.env x v] items.reverse;pure Flow.next) _ _ _
 refine wpAny_bind (wpAny_rule (wpAny_bind (unpackItems_tuple (items:=#[u1,u2,u3]) (I.ok.hd hc) (IsTup.new s1.heap _) fun h' hx'=>?_)))
 have I3:=I2.kept (h':=h') (t':=s1.toks) fun b o e=>hx' b o (Nat.ne_of_lt (Heap.lt_size e)) e
 show wpAny _ _ (assignInOrder [fun v=>bindName X.env z v,fun v=>bindName X.env y v,fun v=>bindName X.env x v] [u3,u2,u1] >>= fun _=>pure Flow.next) _ _ _
 refine wpAny_bind (assignInOrder_cons (wpAny_bindName (C1 I3 hN hl (.inl hzz) rz (fun s2 I4=>?_) (.inr hzz))))
 refine assignInOrder_cons (wpAny_bindName (C1 I4 hN hj (.inl hy) rw' (fun s3 I5=>?_) (.inr hy)))
 refine assignInOrder_cons (wpAny_bindName (C1 I5 hN hi (.inl hx) rv (fun s4 I6=>assignInOrder_nil (wpAny_pure ?_)) (.inr hx)))
 have e:(((σ.set l (some u)).set j (some w)).set i (some v))=((σ.set i (some v)).set j (some w)).set l (some u):=by
  rw[List.set_comm _ _ (Ne.symm hij),List.set_comm (i:=l) (j:=i) _ _ (Ne.symm hil),List.set_comm (i:=l) (j:=j) _ _ (Ne.symm hjl)]
 rw[e] at I6
 exact⟨_,H1,I6,q1⟩
def Abj(i j l:Nat)(ta:DTA):DTS:=fun D σ G=>ta σ G fun vs G1=>∃v w z,vs=[v,w,z]∧D.nx (((σ.set i (some v)).set j (some w)).set l (some z)) G1
theorem DVs.three{K:W.Frag}{H:Hp}{d e f:D}{vs:List V}(r:DVs K H [d,e,f] vs):∃v w u,vs=[v,w,u]∧DV K H d v∧DV K H e w∧DV K H f u:=by
 cases r with|cons h t=>cases t with|cons h' t'=>cases t' with|cons h2 t2=>cases t2;exact⟨_,_,_,rfl,h,h',h2⟩
theorem Ss{X:Cx}{pos:Pos}{i j l:Nat}{x y z:Str}{a b c:Expr}{tA:DTA}{px py pz pt:Pos}{kt k2 pt2}(hc:X.calm=true)(hN:X.N.Nodup)(ha:QA X [a,b,c] tA)(hi:X.N[i]? = some x:=by rfl)(hj:X.N[j]? = some y:=by rfl)(hl:X.N[l]? = some z:=by rfl)(hij:i≠j:=by decide)(hil:i≠l:=by decide)(hjl:j≠l:=by decide)(hx:X.env.scope.names.lookup x=some .local:=by rfl)(hy:X.env.scope.names.lookup y=some .local:=by rfl)(hz:X.env.scope.names.lookup z=some .local:=by rfl)(hw:swappedStores [.Tuple [.Name x px,.Name y py,.Name z pz] kt pt] (.Tuple [a,b,c] k2 pt2) X.env=pure (some [x,y,z]):=by rfl)(hs:swapsWithSole [.Tuple [.Name x px,.Name y py,.Name z pz] kt pt] (.Tuple [a,b,c] k2 pt2) pos.line X.env=pure false:=by rfl) :
  QS X (.Assign [.Tuple [.Name x px,.Name y py,.Name z pz] kt pt] (.Tuple [a,b,c] k2 pt2) pos) (Abj i j l tA):=(Zu hc hN hi hj hl hij hil hjl hx hy hz ha hw hs).imp fun E σ H ⟨σD,G,D,rs,rg,h,cl⟩=>by
 refine⟨σD,G,_,rs,rg,h,fun ds G1 ⟨d1,d2,d3,e,h1⟩ H1 x1 rg1 vs dv=>?_⟩
 subst e
 obtain⟨v,w,u,rfl,r1,r2,r3⟩:=dv.three
 exact⟨v,w,u,rfl,cl.nx _ G1 h1 H1 x1 rg1 _ ((((rs.ext x1).set r1 i).set r2 j).set r3 l)⟩
theorem ex3{p:D→D→D→Prop}{j k l:D}:(∃x y z,[j,k,l]=[x,y,z]∧p x y z)↔p j k l:=⟨fun⟨_,_,_,e,h⟩=>by cases e;exact h,fun h=>⟨j,k,l,rfl,h⟩⟩
end D3
namespace D3
open PySem PySem.Spec
open PyProof.Rows hiding St
open L2 hiding St
def Ris(xs:Array Nat):Prop:=∀i j,i<j→j<xs.size→∀d,xs.getD i d<xs.getD j d
theorem Ki{xs:Array Nat}{j:Nat}(hr:Ris xs):∀(fuel lo hi:Nat),hi≤lo+fuel→lo≤hi→hi≤xs.size→(∀i,i<lo→xs.getD i j<j)→(∀i,hi≤i→i<xs.size→j≤xs.getD i j)→
  (SetTable.below.go xs j fuel lo hi)≤xs.size∧(∀i,i<SetTable.below.go xs j fuel lo hi→xs.getD i j<j)∧∀i,SetTable.below.go xs j fuel lo hi≤i→i<xs.size→j≤xs.getD i j
 |0,lo,hi,h1,h2,h3,h4,h5=>by
  have:lo=hi:=by omega
  subst this
  exact⟨h3,h4,h5⟩
 |fuel+1,lo,hi,h1,h2,h3,h4,h5=>by
  rw[SetTable.below.go]
  by_cases hlt:lo<hi
  ·rw[if_pos hlt]
   have hm1:lo≤(lo+hi) / 2:=by omega
   have hm2:(lo+hi) / 2<hi:=by omega
   dsimp only
   by_cases hc:xs.getD ((lo+hi) / 2) j<j
   ·rw[if_pos hc]
    refine Ki hr fuel _ hi (by omega) (by omega) h3 (fun i hi'=>?_) h5
    by_cases e:i=(lo+hi) / 2
    ·subst e;exact hc
    ·exact Nat.lt_trans (hr i _ (by omega) (by omega) j) hc
   ·rw[if_neg hc]
    refine Ki hr fuel lo _ (by omega) hm1 (by omega) h4 (fun i hi' hs=>?_)
    by_cases e:i=(lo+hi) / 2
    ·subst e;exact Nat.le_of_not_lt hc
    ·exact Nat.le_trans (Nat.le_of_not_lt hc) (Nat.le_of_lt (hr _ i (by omega) hs j))
  ·rw[if_neg hlt]
   have:lo=hi:=by omega
   subst this
   exact⟨h3,h4,h5⟩
theorem Kv{xs:Array Nat}(hr:Ris xs)(j:Nat):SetTable.below xs j≤xs.size∧(∀i,i<SetTable.below xs j→xs.getD i j<j)∧∀i,SetTable.below xs j≤i→i<xs.size→j≤xs.getD i j:=
 Ki hr _ 0 _ (by omega) (Nat.zero_le _) (Nat.le_refl _) (fun i h=>absurd h (Nat.not_lt_zero _)) (fun i h1 h2=>absurd h2 (by omega))
theorem Pb{xs:Array Nat}(hr:Ris xs){j i:Nat}(hi:i≤xs.size)(h1:∀k,k<i→xs.getD k j<j)(h2:∀k,i≤k→k<xs.size→j≤xs.getD k j):SetTable.below xs j=i:=by
 obtain⟨a,b,c⟩:=Kv hr j
 generalize SetTable.below xs j=r at *
 rcases Nat.lt_trichotomy r i with h|h|h
 ·have x1:=h1 r h;have x2:=c r (Nat.le_refl _) (by omega);omega
 ·exact h
 ·have x1:=b i h;have x2:=h2 i (Nat.le_refl _) (by omega);omega
theorem D1{xs:Array Nat}{i:Nat}(h:i<xs.size)(d e:Nat):xs.getD i d=xs.getD i e:=by
 rw[Array.getD,Array.getD,dif_pos h,dif_pos h]
theorem Rz{xs:Array Nat}(hr:Ris xs){i:Nat}(h:i<xs.size):SetTable.below xs (xs.getD i 0+1)=i+1:=by
 refine Pb hr (by omega) (fun k hk=>?_) (fun k hk hs=>?_)
 ·by_cases e:k=i
  ·subst e;rw[D1 h _ 0];omega
  ·have:=hr k i (by omega) h 0
   rw[D1 (by omega) _ 0];omega
 ·have:=hr i k (by omega) hs 0
  rw[D1 hs _ 0];omega
theorem Ry{xs:Array Nat}(hr:Ris xs):SetTable.below xs 0=0:=
 Pb hr (Nat.zero_le _) (fun k h=>absurd h (Nat.not_lt_zero _)) fun k _ _=>Nat.zero_le _
theorem ins_get{α:Type}{xs:Array α}{p:Nat}{x:α}(hp:p≤xs.size)(i:Nat):(SetTable.insertAt xs p x)[i]? = if i<p then xs[i]? else if i=p then some x else xs[i-1]?:=by
 unfold SetTable.insertAt
 have e1:((xs.extract 0 p).push x).size=p+1:=by simp;omega
 rw[Array.getElem?_append,e1]
 by_cases h1:i<p
 ·rw[if_pos (by omega),if_pos h1,Array.getElem?_push,if_neg (by simp;omega),Array.getElem?_extract,if_pos (by omega),Nat.zero_add]
 ·rw[if_neg h1]
  by_cases h2:i=p
  ·subst h2
   rw[if_pos (by omega),if_pos rfl,Array.getElem?_push,if_pos (by simp;omega)]
  ·rw[if_neg (by omega),if_neg h2,Array.getElem?_extract]
   by_cases h3:i-1<xs.size
   ·rw[if_pos (by omega)];congr 1;omega
   ·rw[if_neg (by omega),Array.getElem?_eq_none (by omega)]
theorem Yp{α:Type}{xs:Array α}{p:Nat}{x:α}(hp:p≤xs.size):(SetTable.insertAt xs p x).size=xs.size+1:=by
 unfold SetTable.insertAt;simp;omega
theorem getD_of{xs:Array Nat}{i d:Nat}:xs.getD i d=(xs[i]?).getD d:=by
 by_cases h:i<xs.size
 ·rw[Array.getD,dif_pos h,Array.getElem?_eq_getElem h];rfl
 ·rw[Array.getD,dif_neg h,Array.getElem?_eq_none (by omega)];rfl
theorem Zm{xs:Array Nat}(hr:Ris xs){j:Nat}(hne:xs[SetTable.below xs j]?≠some j):Ris (SetTable.insertAt xs (SetTable.below xs j) j):=by
 obtain⟨a,b,c⟩:=Kv hr j
 generalize SetTable.below xs j=p at *
 intro i k hik hk d
 rw[Yp a] at hk
 rw[getD_of,getD_of,ins_get a,ins_get a]
 have up:∀k,p≤k→k<xs.size→j<xs.getD k d:=fun k h1 h2=>by
  have h3:=c k h1 h2
  rw[D1 h2 j d] at h3
  refine Nat.lt_of_le_of_ne h3 fun e=>?_
  by_cases hkp:k=p
  ·subst hkp
   refine hne ?_
   rw[Array.getElem?_eq_getElem h2]
   rw[Array.getD,dif_pos h2] at e
   rw[e];rfl
  ·have h4:=c p (Nat.le_refl _) (by omega)
   have h5:=hr p k (by omega) h2 j
   rw[D1 h2 j d] at h5
   omega
 have dn:∀k,k<p→xs.getD k d<j:=fun k h1=>by
  have:=b k h1
  rw[D1 (by omega) j d] at this;exact this
 have self:∀m:Nat,(xs[m]?).getD d=xs.getD m d:=fun m=>getD_of.symm
 by_cases h1:i<p
 ·rw[if_pos h1,self]
  by_cases h2:k<p
  ·rw[if_pos h2,self];exact hr i k hik (by omega) d
  ·rw[if_neg h2]
   by_cases h3:k=p
   ·rw[if_pos h3];exact dn i h1
   ·rw[if_neg h3,self];exact Nat.lt_trans (dn i h1) (up _ (by omega) (by omega))
 ·rw[if_neg h1,if_neg (show ¬k<p by omega),if_neg (show ¬k=p by omega),self (k-1)]
  by_cases h2:i=p
  ·rw[if_pos h2];exact up _ (by omega) (by omega)
  ·rw[if_neg h2,self];exact hr _ _ (by omega) (by omega) d
theorem T6{n:Nat}:Ris (Array.range n):=fun i j h1 h2 d=>by
 simp only[Array.size_range] at h2
 rw[Array.getD,dif_pos (by simp;omega),Array.getD,dif_pos (by simpa using h2)]
 simpa using h1
theorem Pm{l:List Nat}(h:l.Pairwise (· < ·)):Ris l.toArray:=fun i j h1 h2 d=>by
 simp only[List.size_toArray] at h2
 rw[Array.getD,dif_pos (by simp;omega),Array.getD,dif_pos (by simpa using h2)]
 exact List.pairwise_iff_getElem.mp h i j (by omega) h2 h1
theorem K0{β:Type}(f:Nat→Option β):∀l:List Nat,l.Pairwise (· < ·)→((l.filterMap fun j=>(f j).map fun k=>(j,k)).map (·.1)).Pairwise (· < ·):=fun l h=>by
 rw[List.map_filterMap]
 refine List.Pairwise.filterMap _ (fun a a' haa b hb b' hb'=>?_) h
 cases e:f a with
 |none=>rw[e] at hb;cases hb
 |some x=>
  cases e':f a' with
  |none=>rw[e'] at hb';cases hb'
  |some x'=>rw[e] at hb;rw[e'] at hb';cases hb;cases hb';exact haa
structure TOk(w:World)(t:SetTable):Prop where
 ris:Ris t.place
 dum:t.dummies=#[]
 led:w.params.followText "set-order" = true∨t.led=true
theorem Wo{j:Nat}:SetTable.has #[] j=false:=by
 unfold SetTable.has
 simp
theorem Q7{t:SetTable}(h:t.dummies=#[])(j:Nat):t.slot j≠.dummy:=by
 unfold SetTable.slot
 dsimp only
 rw[h,Wo]
 split
 ·intro e;cases e
 ·intro e;cases e
theorem Kr{t:SetTable}(hd:t.dummies=#[]){f:Nat→Int}{h:Int}:∀(n:Nat) (p:SetTable.Probe),p.dummy=none→∀j d,SetTable.probe.go t f h n p=some (.empty j d)→d=none∧t.slot j=.empty
 |0,p,_,j,d,e=>by rw[SetTable.probe.go] at e;cases e
 |n+1,p,hp,j,d,e=>by
  rw[SetTable.probe.go] at e
  have ha:(t.advance p).dummy=none:=by
   unfold SetTable.advance
   split
   ·exact hp
   ·exact hp
  split at e
  ·rename_i hs
   cases e
   exact⟨hp,hs⟩
  ·rename_i hs
   exact absurd hs (Q7 hd _)
  ·split at e
   ·cases e
   ·exact Kr hd n _ ha j d e
theorem U4{t:SetTable}(hd:t.dummies=#[]){h:Int}{j:Nat}{b:Bool}(e:t.freeSlot h=some (j,b)):b=false∧t.place[SetTable.below t.place j]?≠some j:=by
 unfold SetTable.freeSlot SetTable.probe at e
 split at e
 ·rename_i j' d hq
  obtain⟨rfl,hs⟩:=Kr hd _ _ rfl _ _ hq
  cases e
  refine⟨rfl,fun z=>?_⟩
  unfold SetTable.slot at hs
  dsimp only[Option.getD] at z hs
  rw[z] at hs
  simp at hs
 ·cases e
theorem TOk.standIn{w:World}{t:SetTable}(h:TOk w t)(n:Nat):TOk w (t.standIn n):=⟨T6,rfl,h.led⟩
theorem TOk.orStand{w:World}{t:SetTable}(h:TOk w t)(n:Nat):TOk w (t.orStandIn n):=by
 unfold SetTable.orStandIn
 split
 ·exact h
 ·exact h.standIn n
theorem TOk.put{w:World}{t:SetTable}(h:TOk w t){j:Nat}(hne:t.place[SetTable.below t.place j]?≠some j):TOk w (t.put j).1:=by
 refine⟨Zm h.ris hne,?_,h.led⟩
 show(if SetTable.has t.dummies j=true then _ else t.dummies)=#[]
 rw[h.dum,Wo];rfl
theorem Rn{w:World}{t:SetTable}{es:Array (Int×Value)}{h:Int}{x:Value}(hT:TOk w t):TOk w (layNew t es h x).2.1:=by
 unfold layNew
 split
 ·rename_i slot b e
  obtain⟨_,hne⟩:=U4 hT.dum e
  exact(hT.put hne).orStand _
 ·exact hT.standIn _
theorem Yk{w:World}{mask finger moves:Nat}{led plain:Bool}{hs:Array Int}{t:SetTable}{o:Array Nat}(hl:w.params.followText "set-order" = true∨led=true)(e:SetTable.laid mask finger moves led plain hs=some (t,o)):TOk w t:=by
 unfold SetTable.laid at e
 cases hq:SetTable.layClean mask hs with
 |none=>rw[hq] at e;cases e
 |some owner=>
  rw[hq] at e
  cases e
  exact⟨Pm (K0 _ _ List.pairwise_lt_range),rfl,hl⟩
theorem T7{w:World}{t:SetTable}{es:Array (Int×Value)}{n:Nat}(hT:TOk w t):TOk w (relayAll t es n).2.1:=by
 unfold relayAll
 split
 ·rename_i t' o e
  dsimp only
  split
  ·exact Yk hT.led e
  ·exact hT.standIn _
 ·exact hT.standIn _
end D3
namespace D3
open PySem PySem.Spec
open PyProof.Rows hiding St
open L2 hiding St
def eI(e:Int×Value):Int:=match e.2 with|.int i _=>i|_=>0
abbrev Au(es:Array (Int×Value))(ep:Nat)(t:SetTable):Obj:={ cls:=.type "set",dict:=none,data:=.set es ep t,slots:=#[] }
structure SOk(P:Program)(w:World)(es:Array (Int×Value))(t:SetTable)(ks:List Int):Prop where
 tok:TOk w t
 fit:t.fits es.size=true
 el:∀e∈es.toList,∃i u,e=((intKind P w).hash i,Value.int i u)
 nd:(es.toList.map eI).Nodup
 mem:∀k,k∈es.toList.map eI↔k∈ks
 sz:es.size<scanBound
section
variable{P:Program}{w:World}{A:Around}{E:Value→Shared→Prop}{s:Shared}
theorem SOk.elems{es:Array (Int×Value)}{t:SetTable}{ks:List Int}(h:SOk P w es t ks):ElemsOf (intKind P w) es.toList:=fun e he=>by
 obtain⟨i,u,rfl⟩:=h.el e he
 exact⟨⟨i,intKind_is P w i u,rfl⟩,rfl⟩
theorem SOk.fresh(led:Bool)(h:w.params.followText "set-order" = true∨led=true):SOk P w #[] (.fresh 0 0 led) []:=
 ⟨⟨fun i j _ h=>absurd h (Nat.not_lt_zero _),rfl,h⟩,rfl,fun e he=>by simp at he,List.nodup_nil,fun k=>by simp,by decide⟩
theorem SOk.perm{es es':Array (Int×Value)}{t t':SetTable}{ks:List Int}(h:SOk P w es t ks)(p:List.Perm es'.toList es.toList)(ht:TOk w t')(hf:t'.fits es'.size=true):SOk P w es' t' ks:=by
 have hs:es'.size=es.size:=by rw[←Array.length_toList,p.length_eq,Array.length_toList]
 exact⟨ht,hf,fun e he=>h.el e (p.mem_iff.mp he),(p.map eI).nodup_iff.mpr h.nd,fun k=>((p.map eI).mem_iff).trans (h.mem k),by rw[hs];exact h.sz⟩
theorem SOk.more{es es':Array (Int×Value)}{t t':SetTable}{ks:List Int}(h:SOk P w es t ks){k:Int}{u:Tok}(hk:k ∉ ks)(p:List.Perm es'.toList (es.push ((intKind P w).hash k,Value.int k u)).toList)(hz:es.size+1<scanBound)(ht:TOk w t')(hf:t'.fits es'.size=true):SOk P w es' t' (ks++[k]):=by
 rw[Array.toList_push] at p
 have hs:es'.size=es.size+1:=by rw[←Array.length_toList,p.length_eq];simp
 have pm:=p.map eI
 rw[List.map_append] at pm
 refine⟨ht,hf,fun e he=>?_,?_,fun z=>?_,by rw[hs];exact hz⟩
 ·rcases List.mem_append.mp (p.mem_iff.mp he) with z|z
  ·exact h.el e z
  ·rw[List.mem_singleton.mp z];exact⟨k,u,rfl⟩
 ·refine pm.nodup_iff.mpr (List.nodup_append.mpr ⟨h.nd,by simp,fun a ha b hb e=>?_⟩)
  simp only[List.map_cons,List.map_nil,List.mem_singleton] at hb
  subst hb;subst e
  exact hk ((h.mem _).mp ha)
 ·rw[pm.mem_iff,List.mem_append,List.mem_append,h.mem]
  simp[eI]
theorem SOk.again{es:Array (Int×Value)}{t:SetTable}{ks:List Int}(h:SOk P w es t ks){k:Int}(hk:k∈ks):SOk P w es t (ks++[k]):=
 ⟨h.tok,h.fit,h.el,h.nd,fun z=>by rw[h.mem,List.mem_append];exact⟨.inl,fun q=>q.elim id fun e=>by rw[List.mem_singleton.mp e];exact hk⟩,h.sz⟩
theorem Sv{h:Heap}{a:Addr}{es es':Array (Int×Value)}{ep:Nat}{t t':SetTable}(ho:h.get? a=some (Au es ep t)):(h.update a (Obj.putSet es' t')).get? a=some (Au es' (ep+1) t'):=by
 have e:=Heap.get?_update_self (Obj.putSet es' t') ho (by rw[putSet_of es' t' rfl];rfl)
 rw[putSet_of es' t' rfl] at e;exact e
theorem Xe{a:Addr}{es:Array (Int×Value)}{ep:Nat}{t:SetTable}{ks:List Int}{k:Int}{u:Tok}{Q:Bool→Shared→Prop}(ho:s.heap.get? a=some (Au es ep t))(h:SOk P w es t ks)(hz:es.size+1<scanBound)(fin:∀b h' es' ep' t',Heap.SameBut a s.heap h'→h'.get? a=some (Au es' ep' t')→SOk P w es' t' (ks++[k])→es'.size≤es.size+1→Q b { s with heap:=h' }) :
  wpAny (model P w) A (setAddHashed a (.int k u) ((intKind P w).hash k)) Q E s:=by
 have hk:=intKind_is P w k u
 unfold setAddHashed setAddHashedIn
 refine wpAny_holding (wpAny_bind (wpAny_setState_of ho rfl h.fit ?_));dsimp only
 rw[byScan_of (knd:=intKind P w) rfl h.sz h.elems];simp only[↓reduceIte]
 unfold setAddByScan
 refine wpAny_bind (wpAny_bind (wpAny_rule (wpAny_bind (wpAny_setScan_of (knd:=intKind P w) hk ho rfl h.fit h.elems ?_))))
 have heq:∀e∈es.toList,(intKind P w).is k e.2=decide (eI e=k):=fun e he=>by
  obtain⟨i,v,rfl⟩:=h.el e he
  show Value.isInt k (.int i v)=decide (i=k)
  simp only[Value.isInt]
  by_cases z:i=k
  ·subst z;simp
  ·simp[z]
 cases hr:List.findIdx? (fun e=>(intKind P w).is k e.2) es.toList with
 |some j=>
  obtain⟨hj,hpj,_⟩:=List.findIdx?_eq_some_iff_getElem.mp hr
  have hin:k∈ks:=by
   rw[heq _ (List.getElem_mem hj)] at hpj
   exact(h.mem k).mp (List.mem_map.mpr ⟨_,List.getElem_mem hj,of_decide_eq_true hpj⟩)
  dsimp only
  refine wpAny_pure (wpAny_pure ?_)
  have e:s={ s with heap:=s.heap }:=by cases s;rfl
  rw[e];exact fin false s.heap es ep t (Heap.SameBut.refl a s.heap) ho (h.again hin) (Nat.le_succ _)
 |none=>
  have hnot:k ∉ ks:=fun z=>by
   obtain⟨e,he,ee⟩:=List.mem_map.mp ((h.mem k).mpr z)
   have q:=List.findIdx?_eq_none_iff.mp hr e he
   rw[heq e he,decide_eq_true ee] at q
   cases q
  dsimp only
  have hp:=layNew_perm t es ((intKind P w).hash k) (.int k u);have hf:=layNew_fits t es ((intKind P w).hash k) (.int k u);have ht:=Rn (w:=w) (es:=es) (h:=(intKind P w).hash k) (x:=.int k u) h.tok
  generalize layNew t es ((intKind P w).hash k) (.int k u)=L at hp hf ht ⊢
  obtain⟨es1,t1,wd,gave⟩:=L
  dsimp only at hp hf ht ⊢
  have h1:SOk P w es1 t1 (ks++[k]):=h.more hnot hp hz ht hf
  have hs1:es1.size=es.size+1:=by rw[←Array.length_toList,hp.length_eq];simp
  refine wpAny_bind ?_
  have quiet:∀(b:Bool) {s₁:Shared} {Q':Unit→Shared→Prop},Q' () s₁→wpAny (model P w) A (match b with|true=>rule "set.scan.the-table-gave-way" | false=>pure ()) Q' E s₁:=fun b s₁ Q' q=>by
   cases b
   ·exact wpAny_pure q
   ·exact wpAny_rule q
  refine quiet _ ?_
  have tail:∀(g:Bool→Sem Unit),(∀(b:Bool) (s₁:Shared) (Q':Unit→Shared→Prop),Q' () s₁→wpAny (model P w) A (g b) Q' E s₁)→wpAny (model P w) A (do
    storeSet a es1 t1
    if (!wd&&t1.tooFull)=true then do
      g (relayAll t1 es1 (SetTable.grown es1.size)).2.2
      storeSet a (relayAll t1 es1 (SetTable.grown es1.size)).1 (relayAll t1 es1 (SetTable.grown es1.size)).2.1
      pure (some true)
     else pure (some true)) (fun r s'=>wpAny (model P w) A (match r with|some added=>pure added|none=>setAddHashedIn a (.int k u) ((intKind P w).hash k) 99999) Q E s') E s:=by
   intro g hg
   refine wpAny_bind (wpAny_storeSet_of ho rfl ?_ (fits_of_scanBound h1.sz))
   have ho1:(s.heap.update a (Obj.putSet es1 t1)).get? a=some (Au es1 (ep+1) t1):=Sv ho
   have same1:=Heap.SameBut.update s.heap a (Obj.putSet es1 t1)
   split
   ·have hp2:=relayAll_perm t1 es1 (SetTable.grown es1.size);have hf2:=relayAll_fits t1 es1 (SetTable.grown es1.size);have ht2:=T7 (es:=es1) (n:=SetTable.grown es1.size) h1.tok
    generalize relayAll t1 es1 (SetTable.grown es1.size)=R at hp2 hf2 ht2 ⊢
    obtain⟨es2,t2,gave2⟩:=R
    dsimp only at hp2 hf2 ht2 ⊢
    have h2:SOk P w es2 t2 (ks++[k]):=h1.perm hp2 ht2 hf2
    have hs2:es2.size=es1.size:=by rw[←Array.length_toList,hp2.length_eq,Array.length_toList]
    refine wpAny_bind (hg _ _ _ (wpAny_bind (wpAny_storeSet_of ho1 rfl ?_ (fits_of_scanBound h2.sz))))
    exact wpAny_pure (wpAny_pure (fin _ _ es2 _ t2 (same1.trans (Heap.SameBut.update _ a _)) (Sv ho1) h2 (by omega)))
   ·exact wpAny_pure (wpAny_pure (fin _ _ es1 _ t1 same1 ho1 h1 (by omega)))
  split
  ·refine wpAny_bind ?_
   rw[hashByValue_scannable 8 (x:=.int k u) rfl]
   refine wpAny_pure ?_
   simp only[plainKind,if_true]
   refine tail _ fun b s₁ Q' q=>?_
   cases b
   ·exact wpAny_pure q
   ·exact wpAny_rule q
  ·refine wpAny_bind (wpAny_pure ?_)
   simp only[↓reduceIte]
   refine tail _ fun b s₁ Q' q=>?_
   cases b
   ·exact wpAny_pure q
   ·exact wpAny_rule q
end
end D3
set_option maxRecDepth 100000
namespace D3
open PySem PySem.Spec
open PyProof.Rows hiding St
open L2 hiding St
section
variable{P:Program}{w:World}{A:Around}{R:Result→Shared→Prop}{E:Value→Shared→Prop}{s:Shared}
theorem Oi{I:Addr}{fp wr:List Addr}{G:Array GenState→Array GenState→Prop}{n:Nat}{Pv:Nat→Value→Prop}{St:Nat→Shared→Prop}(W:WalksS P w A.in1 I fp wr G n Pv St)(S:Addr)(hSf:S ∉ fp)(ns:List Int)(hn:ns.length=n)(hval:∀i v,Pv i v→∃t,v=.int (ns.getD i 0) t)(hb:n+1<scanBound) :
  ∀(k i:Nat) (s:Shared) (es:Array (Int×Value)) (ep:Nat) (t:SetTable),n-i=k→i≤n→St i s→s.heap.get? S=some (Au es ep t)→SOk P w es t (ns.take i)→es.size≤i→
   (∀s' es' ep' t',Moved (S::wr) G s s'→s'.heap.get? S=some (Au es' ep' t')→SOk P w es' t' ns→es'.size≤n→R (.ok (.ret .none)) s')→
   codeAny (model P w) A (.builtin "set.update.loop" ⟨[.ref S,.ref I],[]⟩) R s:=by
 have hSw:S ∉ wr:=fun h=>hSf (W.sub _ h)
 have hsub:∀b∈wr,b∈S::wr:=fun b hb=>List.mem_cons_of_mem _ hb
 intro k
 induction k with
 |zero=>
  intro i s es ep t hk hi hst hS hO hz hR
  have hin:i=n:=by omega
  subst hin
  rw[List.take_of_length_le (by omega)] at hO
  refine codeAny_builtin PyProof.Rows.F.entry_set_update_loop ?_
  rw[Around.under_plainId PyProof.Rows.F.plain_set_update_loop _]
  show wpAny _ A.in1 (pyNext (.ref I) >>= _) _ _ s;refine wpAny_bind (W.done s _ _ hst fun s' hm=>?_)
  exact wpAny_pure (hR s' es ep t (hm.mono hsub) (hm.heap S _ hSw hS) hO hz)
 |succ k ih=>
  intro i s es ep t hk hi hst hS hO hz hR
  have hlt:i<n:=by omega
  refine codeAny_builtin PyProof.Rows.F.entry_set_update_loop ?_
  rw[Around.under_plainId PyProof.Rows.F.plain_set_update_loop _]
  show wpAny _ A.in1 (pyNext (.ref I) >>= _) _ _ s;refine wpAny_bind (W.item i s _ _ hlt hst fun v s' hP hst' hm=>?_)
  obtain⟨u,rfl⟩:=hval i v hP
  have hS':=hm.heap S _ hSw hS
  show wpAny _ A.in1 (holding [Value.int (ns.getD i 0) u] (setAdd S (.int (ns.getD i 0) u)) >>= _) _ _ s'
  refine wpAny_bind (wpAny_holding ?_);unfold setAdd
  refine wpAny_holding (wpAny_bind ((intKind P w).pyHash (k:=ns.getD i 0) (intKind_is _ _ _ _) ?_))
  refine Xe (s:={ s' with toks:=s'.toks+1 }) hS' hO (by omega) fun b h' es' ep' t' same ho' hO' hz'=>?_
  have tk:ns.take (i+1)=ns.take i++[ns.getD i 0]:=by
   rw[List.take_add_one,List.getD,List.getElem?_eq_getElem (by omega)];rfl
  rw[←tk] at hO'
  refine wpAny_pure ⟨plainId_quiet PyProof.Rows.F.plain_set_update_loop _,ih (i+1) _ es' ep' t' (by omega) hlt (W.frame _ s' _ _ hst' (Nat.le_succ _) fun b hb o e=>?_) ho' hO' (by omega) fun s'' es'' ep'' t'' hm'' hS'' hO'' hz''=>?_⟩
  ·rw[same.2 b (fun h:b=S=>hSf (by rw[←h];exact hb))];exact e
  ·refine hR s'' es'' ep'' t'' (Moved.trans W.gtrans ((hm.mono hsub).then_heap (Nat.le_succ _) fun b o hb e=>?_) hm'') hS'' hO'' hz''
   rw[same.2 b (fun h:b=S=>hb (by rw[h];exact List.mem_cons_self))];exact e
theorem Q9(a:Value){Q₁:Value→Shared→Prop}(h:∀led:Bool,(w.params.followText "set-order" = true∨led=true)→Q₁ (.ref s.heap.objs.size) { s with heap:=s.heap.push (Au #[] 0 (.fresh 0 0 led)) }) :
  codeAny (model P w) A (.call (.builtin "set.__new__") ⟨[.type "set",a],[]⟩) (wants Q₁ E) s:=by
 refine codeAny_of_tree ?_
 show wpAny _ A.in1 (do checkBuiltinCall "set.__new__" ⟨[.type "set",a],[]⟩;again (.builtin "set.__new__" ⟨[.type "set",a],[]⟩)) _ _ s;refine wpAny_bind (wpAny_of_eq (PySem.F.newCall_set_1 a) (wpAny_pure ⟨plainId_quiet PySem.F.plain_set_new _,codeAny_builtin PySem.F.entry_set_new ?_⟩))
 rw[Around.under_plainId PySem.F.plain_set_new _];unfold Builtin.«set.__new__» Builtin.Frozenset.newClass
 have hsub:=sub_set_self;obtain⟨hp,g,d,tk,os⟩:=s;dsimp only
 wp_walk
 refine wpAny_askSetting (wpAny_pure ?_);dsimp only;simp only[newObj];refine wpAny_bind (wpAny_alloc (wpAny_pure (wpAny_pure (h _ ?_))))
 show w.params.followText "set-order" = true∨(!w.params.followText "set-order")=true
 cases w.params.followText "set-order"<;>simp
theorem Xa:isSubtype (.type "tuple") (.type "set")=pure false:=by rw[isSubtype_type];kernel_rfl
theorem Kx:isSubtype (.type "tuple") (.type "frozenset")=pure false:=by rw[isSubtype_type];kernel_rfl
end
end D3
set_option maxRecDepth 100000
set_option maxHeartbeats 4000000
namespace D3
open PySem PySem.Spec
open PyProof.Rows hiding St
open L2 hiding St
section
variable{P:Program}{w:World}{A:Around}{E:Value→Shared→Prop}{s:Shared}
theorem Xf{l:Addr}{items:Array Value}{ns:List Int}{Q:Value→Shared→Prop}(hh:A.handled=none)(hl:s.heap.IsList l items∨s.heap.IsTuple l items)(hi:PyProof.Rows.IntsAre items.toList ns)(hb:items.size+1<scanBound)(h:∀(h':Heap) (tk:Nat) es ep t,s.toks≤tk→h'.get? s.heap.objs.size=some (Au es ep t)→SOk P w es t ns→es.size≤ns.length→
   (∀b o,b<s.heap.objs.size→s.heap.get? b=some o→h'.get? b=some o)→Q (.ref s.heap.objs.size) { s with heap:=h',toks:=tk }) :
  wpAny (model P w) A (call (.type "set") [.ref l]) Q E s:=by
 have hlen:ns.length=items.size:=by rw[←hi.length,Array.length_toList]
 obtain⟨c,tl,hmro⟩:=PySem.F.called_set.mro;have hmade:=PySem.F.called_set.made;have hsub:=PySem.F.called_set.sub
 refine wpAny_call (codeAny_of_tree ?_)
 show wpAny _ _ (callAny (.type "set") _) _ _ _;refine wpAny_pure ⟨Code.quiet_builtin _ (by decide +kernel),codeAny_builtin PySem.F.entry_type_call ?_⟩
 rw[Around.under_plain (weight_type_call_type "set" [.ref l] []) rfl];have h1:=PySem.F.called_set.notType;have h2:=PySem.F.called_set.canCreate
 have hct:=PySem.F.typeCall_set_1 (.ref l);repeat (any_goals (first|assumption|wp_step))
 refine codeAny_mono (Q9 (.ref l) (E:=E) (Q₁:=fun obj s₁=>∃led:Bool,(w.params.followText "set-order" = true∨led=true)∧obj=.ref s.heap.objs.size∧s₁={ s with heap:=s.heap.push (Au #[] 0 (.fresh 0 0 led)) }) fun led hled=>⟨led,hled,rfl,rfl⟩) fun r s₁ hr=>?_
 cases r with
 |error e=>exact hr
 |ok fl=>
  cases fl with
  |ret obj=>
   obtain⟨led,hled,rfl,rfl⟩:=hr
   have hS:(s.heap.push (Au #[] 0 (.fresh 0 0 led))).get? s.heap.objs.size=some (Au #[] 0 (.fresh 0 0 led)):=Heap.get?_push_size _ rfl
   have hT:Shared.TypeIs { s with heap:=s.heap.push (Au #[] 0 (.fresh 0 0 led)) } (.ref s.heap.objs.size) "set":=⟨_,hS,rfl⟩
   have hli:=PySem.F.called_set.init.lookup;have hbi:=PySem.F.called_set.init.bind (.ref s.heap.objs.size);repeat (any_goals (first|assumption|wp_step))
   refine codeAny_mono (codeAny_call_builtin (R:=wants (fun r s₂=>r=.none∧∃h' tk es ep t,s₂={ s with heap:=h',toks:=tk }∧s.toks≤tk∧
     h'.get? s.heap.objs.size=some (Au es ep t)∧SOk P w es t ns∧es.size≤ns.length∧
     (∀b o,b<s.heap.objs.size→s.heap.get? b=some o→h'.get? b=some o)) E) PySem.F.called_set.init.plain PySem.F.entry_set_init (check_set_init_1 hT ?_)) fun r₂ s₂ hr₂=>?_
   ·have hval:∀(i:Nat) (v:Value),items[i]? = some v→∃t,v=.int (ns.getD i 0) t:=fun i v hv=>PyProof.Rows.IntsAre.int_at hi i v (by rw[Array.getElem?_toList];exact hv)
    have hlS:l<s.heap.objs.size:=by
     rcases hl with ⟨o,e,_⟩|⟨o,e,_⟩
     ·exact Heap.lt_size e
     ·exact Heap.lt_size e
    have hneI:l≠(s.heap.push (Au #[] 0 (.fresh 0 0 led))).objs.size:=by rw[Heap.size_push];exact Nat.ne_of_lt (Nat.lt_succ_of_lt hlS)
    have hSf:s.heap.objs.size ∉ [(s.heap.push (Au #[] 0 (.fresh 0 0 led))).objs.size,l]:=by
     rw[Heap.size_push];simp only[List.mem_cons,List.not_mem_nil,or_false,not_or];exact⟨Nat.ne_of_lt (Nat.lt_succ_self _),Nat.ne_of_gt hlS⟩
    have hh3:A.in1.in1.in1.handled=none:=by simp[hh]
    have hO:SOk P w #[] (.fresh 0 0 led) (ns.take 0):=SOk.fresh led hled
    have fin:∀(s':Shared) (es':Array (Int×Value)) (ep':Nat) (t':SetTable) (it:Obj),Moved (s.heap.objs.size::[(s.heap.push (Au #[] 0 (.fresh 0 0 led))).objs.size]) (fun a b=>b=a) { s with heap:=(s.heap.push (Au #[] 0 (.fresh 0 0 led))).push it } s'→s'.heap.get? s.heap.objs.size=some (Au es' ep' t')→SOk P w es' t' ns→es'.size≤items.size→
      ∃h' tk es ep t,s'={ s with heap:=h',toks:=tk }∧s.toks≤tk∧h'.get? s.heap.objs.size=some (Au es ep t)∧SOk P w es t ns∧es.size≤ns.length∧(∀b o,b<s.heap.objs.size→s.heap.get? b=some o→h'.get? b=some o):=fun s' es' ep' t' it hm hS' hO' hz'=>by
     obtain⟨h',g',d',tk',os'⟩:=s'
     have eg:g'=s.gens:=hm.gens
     have ed:d'=s.drawn:=hm.drawn
     have eo:os'=s.os:=hm.os
     subst eg;subst ed;subst eo
     refine⟨h',tk',es',ep',t',rfl,hm.toks,hS',hO',by omega,fun b o hb e=>?_⟩
     exact hm.heap b o (by rw[Heap.size_push];simp only[List.mem_cons,List.not_mem_nil,or_false,not_or];exact⟨Nat.ne_of_lt hb,Nat.ne_of_lt (Nat.lt_succ_of_lt hb)⟩) (Heap.get?_push_of_some _ (Heap.get?_push_of_some _ e))
    have first0:∀it:Obj,((s.heap.push (Au #[] 0 (.fresh 0 0 led))).push it).get? s.heap.objs.size=some (Au #[] 0 (.fresh 0 0 led)):=fun it=>Heap.get?_push_of_some _ hS
    rcases hl with hl|hl
    ·obtain⟨ol,hol,hcl,nl,hdl⟩:=hl;obtain⟨ocls,odict,odata,oslots⟩:=ol;simp only at hcl hdl;subst hcl;subst hdl
     have hol':(s.heap.push (Au #[] 0 (.fresh 0 0 led))).get? l=some { cls:=.type "list",dict:=odict,data:=.seq items nl,slots:=oslots }:=Heap.get?_push_of_some _ hol
     have hsls:=PySem.F.sub_list_set;have hslf:=PySem.F.sub_list_frozenset;have hne:(Value.type "list" == Value.type "dict")=false:=by decide
     have hl1:(s.heap.push (Au #[] 0 (.fresh 0 0 led))).IsList l items:=⟨_,hol',rfl,nl,rfl⟩
     unfold Builtin.«set.__init__» noKeywords Builtin.Frozenset.updateFrom;generalize hPI:pyIter=PI
     wp_walk
     subst hPI;refine wpAny_pyIter_list hl1 (wpAny_bind (wpAny_runValue ?_))
     refine Oi ((Walks.list hh3 _ l hneI items).toS) s.heap.objs.size hSf ns hlen hval hb (items.size-0) 0 _ #[] 0 (.fresh 0 0 led) (by omega) (Nat.zero_le _) ⟨⟨_,Heap.get?_push_size _ rfl,rfl,rfl⟩,(hl1.push _)⟩ (first0 _) hO (Nat.zero_le _) fun s' es' ep' t' hm hS' hO' hz'=>?_
     exact wpAny_pure (wpAny_pure ⟨rfl,fin s' es' ep' t' _ hm hS' hO' hz'⟩)
    ·obtain⟨ol,hol,hcl,nl,hdl⟩:=hl;obtain⟨ocls,odict,odata,oslots⟩:=ol;simp only at hcl hdl;subst hcl;subst hdl
     have hol':(s.heap.push (Au #[] 0 (.fresh 0 0 led))).get? l=some { cls:=.type "tuple",dict:=odict,data:=.seq items nl,slots:=oslots }:=Heap.get?_push_of_some _ hol
     have hsls:=Xa;have hslf:=Kx;have hne:(Value.type "tuple" == Value.type "dict")=false:=by decide
     have hl1:(s.heap.push (Au #[] 0 (.fresh 0 0 led))).IsTuple l items:=⟨_,hol',rfl,nl,rfl⟩
     unfold Builtin.«set.__init__» noKeywords Builtin.Frozenset.updateFrom;generalize hPI:pyIter=PI
     wp_walk
     subst hPI;refine wpAny_pyIter_tuple hl1 (wpAny_bind (wpAny_runValue ?_))
     refine Oi ((Walks.tuple hh3 _ l hneI items).toS) s.heap.objs.size hSf ns hlen hval hb (items.size-0) 0 _ #[] 0 (.fresh 0 0 led) (by omega) (Nat.zero_le _) ⟨⟨_,Heap.get?_push_size _ rfl,rfl,rfl⟩,(hl1.push _)⟩ (first0 _) hO (Nat.zero_le _) fun s' es' ep' t' hm hS' hO' hz'=>?_
     exact wpAny_pure (wpAny_pure ⟨rfl,fin s' es' ep' t' _ hm hS' hO' hz'⟩)
   ·cases r₂ with
    |error e=>exact hr₂
    |ok fl₂=>
     cases fl₂ with
     |ret r=>
      obtain⟨rfl,h',tk,es,ep,t,rfl,htk,hS',hO',hz',hk'⟩:=hr₂
      repeat (any_goals (first|assumption|wp_step))
      exact h _ _ _ _ _ htk hS' hO' hz' hk'
     |_=>exact hr₂.elim
  |_=>exact hr.elim
end
end D3
set_option maxRecDepth 100000
set_option maxHeartbeats 4000000
namespace D3
open PySem PySem.Spec
open PyProof.Rows hiding St
open L2 hiding St
theorem slot_si_next:Slot "set_iterator" "__next__" "set_iterator.__next__":=
 .of (owner:="set_iterator") (n:="__next__") (by rw[typeLookup_type,builtinLookup_eq_fast];kernel_rfl) (by decide +kernel) (by decide +kernel) (by decide +kernel) (by first|exact .inl (by decide +kernel)|exact .inr (by decide +kernel)) (by rw[isSubtype_type];kernel_rfl)
theorem Gk:Slot "set_iterator" "__iter__" "set_iterator.__iter__":=
 .of (owner:="set_iterator") (n:="__iter__") (by rw[typeLookup_type,builtinLookup_eq_fast];kernel_rfl) (by decide +kernel) (by decide +kernel) (by decide +kernel) (by first|exact .inl (by decide +kernel)|exact .inr (by decide +kernel)) (by rw[isSubtype_type];kernel_rfl)
theorem Fl:entryFor table "set_iterator.__next__" = some Builtin.«set_iterator.__next__»:=entryFor_of_tree (by kernel_rfl)
theorem Li:entryFor table "set_iterator.__iter__" = some Builtin.«dict_keyiterator.__iter__»:=entryFor_alias (id':="dict_keyiterator.__iter__") (by kernel_rfl) rfl (by decide +kernel) (by kernel_rfl)
theorem Nm:entryFor table "set.__iter__" = some Builtin.«frozenset.__iter__»:=entryFor_alias (id':="frozenset.__iter__") (by kernel_rfl) rfl (by decide +kernel) (by kernel_rfl)
theorem Wk:Manifest.owners.lookup (String.ofList ['r','o','t','a','r','e','t','i','_','t','e','s'].reverse)=some Manifest.sig_set_iterator:=by kernel_rfl
theorem Gn(a:Value):argsOk "set_iterator.__next__" ⟨[a],[]⟩:=by
 unfold argsOk;rw[signature?_of (id:="set_iterator.__next__") (n:=['_','_','t','x','e','n','_','_']) (o:=['r','o','t','a','r','e','t','i','_','t','e','s']) (by kernel_rfl) Wk];kernel_rfl
theorem Nu(a:Value):argsOk "set_iterator.__iter__" ⟨[a],[]⟩:=by
 unfold argsOk;rw[signature?_of (id:="set_iterator.__iter__") (n:=['_','_','r','e','t','i','_','_']) (o:=['r','o','t','a','r','e','t','i','_','t','e','s']) (by kernel_rfl) Wk];kernel_rfl

section
variable{P:Program}{w:World}{A:Around}{E:Value→Shared→Prop}{s:Shared}
theorem B8{α:Type}{c:Prop}[Decidable c]{a b:Sem α}{Q:α→Shared→Prop}{M:Model}(h:¬c)(k:wpAny M A b Q E s):wpAny M A (if c then a else b) Q E s:=by rw[if_neg h];exact k
theorem Jx{α:Type}{c:Prop}[Decidable c]{a b:Sem α}{Q:α→Shared→Prop}{M:Model}(h:c)(k:wpAny M A a Q E s):wpAny M A (if c then a else b) Q E s:=by rw[if_pos h];exact k
theorem wp_choose{src:Source}{n:Nat}{Q:Nat→Shared→Prop}{M:Model}(hn:n≠0)(h:∀i d,i<n→Q i { s with drawn:=d }):wpAny M A (choose src n) Q E s:=fun Γ p hΓ=>by
 unfold choose
 rw[Sem.wp_choose]
 exact⟨hn,h _ _ (Nat.mod_lt _ (Nat.pos_of_ne_zero hn))⟩
theorem Hi{α:Type}:∀(xs:List α) (i:Nat) (h:i<xs.length),(xs[i]::xs.eraseIdx i).Perm xs
 |[],i,h=>absurd h (by simp)
 |x::r,0,h=>List.Perm.refl _
 |x::r,i+1,h=>by
  have:=Hi r i (by simpa using h)
  exact(List.Perm.swap x _ _).trans (List.Perm.cons x this)
theorem Si{α:Type}{M:Model}:∀(n:Nat) (xs:List α) (s:Shared) {Q:List α→Shared→Prop},xs.length=n→(∀ys d,ys.Perm xs→Q ys { s with drawn:=d })→wpAny M A (drawOrder n xs) Q E s
 |0,xs,s,Q,e,h=>by
  cases xs with
  |nil=>unfold drawOrder;exact wpAny_pure (h [] s.drawn (List.Perm.refl _))
  |cons x r=>simp at e
 |n+1,xs,s,Q,e,h=>by
  cases xs with
  |nil=>simp at e
  |cons x r=>
   unfold drawOrder
   refine wpAny_bind (wp_choose (by simp) fun i d hi=>?_)
   have hg:(x::r)[i]? = some ((x::r)[i]):=List.getElem?_eq_getElem hi
   rw[hg]
   dsimp only
   refine wpAny_bind (Si n _ _ (by rw[List.length_eraseIdx_of_lt hi];simpa using e) fun ys d' hp=>wpAny_pure ?_)
   refine h _ _ (List.Perm.trans (List.Perm.cons _ hp) ?_)
   exact Hi _ _ hi
theorem Sx{α:Type}(next:Nat→Nat):∀(n k:Nat) (left:List α) (out:Array α),left.length=n→(pickOrder.go next n k left out).toList.Perm (out.toList++left)
 |0,k,left,out,e=>by
  cases left with
  |nil=>rw[pickOrder.go];simp
  |cons x r=>simp at e
 |n+1,k,left,out,e=>by
  rw[pickOrder.go]
  have hi:next k % left.length<left.length:=Nat.mod_lt _ (by omega)
  rw[List.getElem?_eq_getElem hi]
  dsimp only
  refine(Sx next n (k+1) _ _ (by rw[List.length_eraseIdx_of_lt hi];omega)).trans ?_
  rw[Array.toList_push,List.append_assoc]
  exact List.Perm.append_left _ (Hi _ _ hi)
theorem Ub{α:Type}(next:Nat→Nat)(xs:Array α):(pickOrder next xs).toList.Perm xs.toList:=by
 have:=Sx next xs.size 0 xs.toList #[] (by simp)
 simpa[pickOrder] using this
abbrev Fz(first:Value)(i:Nat)(S:Addr)(n ep:Nat):Obj:={ cls:=.type "set_iterator",data:=.fields #[first,rawInt i,.ref S,rawInt n,rawInt ep] }
inductive Way (w:World) (S:Addr) (es:Array (Int×Value)) (ep:Nat) (t:SetTable):List (Int×Value)→(Nat→Nat→Prop)→Prop where
 |text (h:w.params.followText "set-order" = true):Way w S es ep t (pickOrder (w.params.setOrder S ep) es).toList (fun _ _=>True)
 |tab (h:¬w.params.followText "set-order" = true) (hd:¬(!t.plain&&decide (es.size>1))=true):Way w S es ep t es.toList (fun i slot=>SetTable.below t.place slot=i)
theorem Way.perm{S:Addr}{es:Array (Int×Value)}{ep:Nat}{t:SetTable}{items:List (Int×Value)}{F:Nat→Nat→Prop}(W:Way w S es ep t items F):items.Perm es.toList:=by
 cases W with
 |text h=>exact Ub _ _
 |tab h hd=>exact List.Perm.refl _
theorem Way.start{S:Addr}{es:Array (Int×Value)}{ep:Nat}{t:SetTable}{items:List (Int×Value)}{F:Nat→Nat→Prop}{ks:List Int}(W:Way w S es ep t items F)(h:SOk P w es t ks):F 0 0:=by
 cases W with
 |text h=>trivial
 |tab h' hd=>exact Ry h.tok.ris
theorem Way.next{S:Addr}{es:Array (Int×Value)}{ep:Nat}{t:SetTable}{items:List (Int×Value)}{F:Nat→Nat→Prop}{ks:List Int}{i slot:Nat}{Q:Option (Value×Nat)→Shared→Prop}(W:Way w S es ep t items F)(h:SOk P w es t ks)(ho:s.heap.get? S=some (Au es ep t))(hF:F i slot)(more:∀e,items[i]? = some e→∀next,F (i+1) next→Q (some (e.2,next)) s)(last:items[i]? = none→Q none s):wpAny (model P w) A (setNext S slot i ep) Q E s:=by
 unfold setNext setsByText
 refine wpAny_bind (wpAny_setState_of ho rfl h.fit ?_);dsimp only
 refine wpAny_bind (wpAny_bind (wpAny_askSetting (wpAny_pure ?_)));dsimp only
 cases W with
 |text ht=>
  refine Jx ht (B8 (by simp) ?_)
  refine wpAny_bind ?_
  unfold setWalk setsByText
  refine wpAny_bind (wpAny_setState_of ho rfl h.fit ?_);dsimp only
  refine wpAny_bind (wpAny_bind (wpAny_askSetting (wpAny_pure ?_)));dsimp only
  refine Jx ht (wpAny_bind (wpAny_askSetting (wpAny_pure (wpAny_pure ?_))))
  show Q (Option.map (fun e=>(e.2,slot)) (pickOrder (w.params.setOrder S ep) es)[i]?) s
  rw[←Array.getElem?_toList]
  cases q:(pickOrder (w.params.setOrder S ep) es).toList[i]? with
  |none=>exact last q
  |some e=>exact more e q slot trivial
 |tab ht hd=>
  refine B8 ht (B8 hd ?_)
  have led:t.led=true:=h.tok.led.resolve_left ht
  refine wpAny_bind (m:=if (!t.led && !es.isEmpty)=true then unsupported "set:maker-not-led" else pure ()) (B8 (by simp[led]) (wpAny_pure (wpAny_pure ?_)))
  have hF':SetTable.below t.place slot=i:=hF
  rw[hF']
  have hps:t.place.size=es.size:=by
   have:=h.fit
   simp only[SetTable.fits,Bool.and_eq_true,beq_iff_eq] at this
   exact this.1
  by_cases hi:i<es.size
  ·have e1:es[i]? = some es[i]:=Array.getElem?_eq_getElem hi
   have e2:t.place[i]? = some (t.place.getD i 0):=by rw[getD_of,Array.getElem?_eq_getElem (by omega)];rfl
   rw[e1,e2]
   refine more es[i] (by rw[Array.getElem?_toList];exact e1) _ ?_
   exact Rz h.tok.ris (by omega)
  ·have e1:es[i]? = none:=Array.getElem?_eq_none (by omega)
   rw[e1]
   exact last (by rw[Array.getElem?_toList];exact e1)
theorem Og{I:Addr}{vs:Array Value}(hh:A.handled=none)(ho:s.heap.get? I=some { cls:=.type "set_iterator",data:=.fields vs })(hv:2<vs.size){Q:Fin→Shared→Prop}(hE:∀h' e,Heap.ExtBut I s.heap h'→(∃o,h'.get? e=some o∧o.cls=.type "StopIteration")→E (.ref e) { s with heap:=h' }):wpAny (model P w) A (do setField (.ref I) 2 .none;raiseNew (←newExc (.type "StopIteration") [])) Q E s:=by
 refine wpAny_bind (wpAny_setField ho rfl hv (show wpAny _ _ (newExc (.type "StopIteration") [] >>= _) _ _ _ from wpAny_bind ?_))
 simp only[newExc,newTuple];refine wpAny_bind (wpAny_newObj_type (wpAny_bind (m:=firstArgMember _ _) (wpAny_of_eq (a:=Value.none) (by first|rfl|(simp only[firstArgMember];rfl)) (wpAny_newObj_type ?_ (by size_fits)))) (by size_fits))
 simp only[raiseNew];refine wpAny_bind (wpAny_handled ?_);first|rw[show A.in1.handled=none from hh]|rw[hh]
 exact wpAny_bind (wpAny_pure (wpAny_throw (hE _ _ (((Heap.SameBut.update ..).extBut.push _).push _) ⟨_,Heap.get?_push_size _ rfl,rfl⟩)))
end
end D3
set_option maxRecDepth 100000
set_option maxHeartbeats 4000000
namespace D3
open PySem PySem.Spec
open PyProof.Rows hiding St
open L2 hiding St
section
variable{P:Program}{w:World}{A:Around}{E:Value→Shared→Prop}{s:Shared}
theorem So{I S:Addr}{es:Array (Int×Value)}{ep:Nat}{t:SetTable}{ks:List Int}{items:List (Int×Value)}{F:Nat→Nat→Prop}{i slot:Nat}{Q:Option Value→Shared→Prop}(hh:A.handled=none)(W:Way w S es ep t items F)(h:SOk P w es t ks)(hne:S≠I)(hI:s.heap.get? I=some (Fz (rawInt slot) i S es.size ep))(hS:s.heap.get? S=some (Au es ep t))(hF:F i slot)(more:∀e,items[i]? = some e→∀next h',F (i+1) next→h'.get? I=some (Fz (rawInt next) (i+1) S es.size ep)→Heap.SameBut I s.heap h'→Q (some e.2) { s with heap:=h' })(last:items[i]? = none→∀h',Heap.ExtBut I s.heap h'→Q none { s with heap:=h' }):wpAny (model P w) A (pyNext (.ref I)) Q E s:=by
 have ty:s.TypeIs (.ref I) "set_iterator":=⟨_,hI,rfl⟩
 unfold pyNext;refine wpAny_bind (wpAny_attempt (wpAny_callSpecial?_slot (name:=Str.ofString "__next__") ty slot_si_next (wpAny_call_entry slot_si_next ty Fl ?_ (Gn _))))
 unfold Builtin.«set_iterator.__next__»
 show wpAny _ _ (fieldsOf (.ref I) >>= _) _ _ s;refine wpAny_bind (wpAny_fieldsOf hI rfl ?_)
 show wpAny _ _ (setEntries S >>= _) _ _ s;refine wpAny_bind (wpAny_setEntries_of hS rfl h.fit (B8 (by simp) ?_))
 show wpAny _ _ (setNext S (Int.toNat (slot:Nat)) (Int.toNat (i:Nat)) (Int.toNat (ep:Nat)) >>= _) _ _ s
 simp only[Int.toNat_natCast]
 refine wpAny_bind (W.next h hS hF (fun e he next hn=>?_) fun hz=>?_)
 ·dsimp only
  refine wpAny_bind (wpAny_setField_rec hI (by simp) fun h1 hI1 same1=>wpAny_bind (wpAny_setField_rec (s:={ s with heap:=h1 }) hI1 (by simp) fun h2 hI2 same2=>?_))
  exact wpAny_pure ⟨e.2,rfl,wpAny_pure (more e he next h2 hn hI2 (same1.trans same2))⟩
 ·dsimp only
  refine Og (A:=A.in1) hh hI (by simp) fun h' x ext hx=>?_
  refine wpAny_bind (wpAny_isInstance (T:="StopIteration") (b:=true) hx isSubtype_stop (wpAny_pure (last hz h' ext)))
theorem Oh{I S T:Addr}{es:Array (Int×Value)}{ep:Nat}{t:SetTable}{ks:List Int}{ord:List Nat}{i:Nat}{Q:Option Value→Shared→Prop}(hh:A.handled=none)(hord:ord.Perm (List.range es.size))(h:SOk P w es t ks)(hI:s.heap.get? I=some (Fz (.ref T) i S es.size ep))(hS:s.heap.get? S=some (Au es ep t))(hT:s.heap.get? T=some { cls:=.type "tuple",data:=.seq (ord.map fun(k:Nat)=>rawInt k).toArray })(more:∀k e,ord[i]? = some k→es[k]? = some e→∀h',h'.get? I=some (Fz (.ref T) (i+1) S es.size ep)→Heap.SameBut I s.heap h'→Q (some e.2) { s with heap:=h' })(last:ord[i]? = none→∀h',Heap.ExtBut I s.heap h'→Q none { s with heap:=h' }):wpAny (model P w) A (pyNext (.ref I)) Q E s:=by
 have ty:s.TypeIs (.ref I) "set_iterator":=⟨_,hI,rfl⟩
 unfold pyNext;refine wpAny_bind (wpAny_attempt (wpAny_callSpecial?_slot (name:=Str.ofString "__next__") ty slot_si_next (wpAny_call_entry slot_si_next ty Fl ?_ (Gn _))))
 unfold Builtin.«set_iterator.__next__»
 show wpAny _ _ (fieldsOf (.ref I) >>= _) _ _ s;refine wpAny_bind (wpAny_fieldsOf hI rfl ?_)
 show wpAny _ _ (setEntries S >>= _) _ _ s;refine wpAny_bind (wpAny_setEntries_of hS rfl h.fit (B8 (by simp) ?_))
 show wpAny _ _ (seqItems? (.ref T) >>= _) _ _ s;refine wpAny_bind (wpAny_seqItems hT rfl ?_)
 simp only[rawInt,Int.toNat_natCast]
 cases q:ord[i]? with
 |none=>
  have e0:(ord.map fun(k:Nat)=>(Value.int k 0)).toArray[i]? = none:=by simp[q]
  rw[e0];dsimp only
  refine wpAny_bind (wpAny_setField_rec hI (by simp) fun h1 hI1 same1=>?_)
  refine Og (A:=A.in1) (s:={ s with heap:=h1 }) hh hI1 (by simp) fun h' x ext hx=>?_
  refine wpAny_bind (wpAny_isInstance (T:="StopIteration") (b:=true) hx isSubtype_stop (wpAny_pure (last q h' (same1.extBut.trans ext))))
 |some k=>
  have e0:(ord.map fun(k:Nat)=>(Value.int k 0)).toArray[i]? = some (.int k 0):=by simp[q]
  rw[e0];dsimp only
  have hk:k<es.size:=List.mem_range.mp (hord.mem_iff.mp (List.mem_of_getElem? q))
  refine wpAny_bind ?_
  unfold setNextDrawn
  refine wpAny_bind (wpAny_setState_of hS rfl h.fit ?_);dsimp only
  refine B8 (by simp) ?_
  have e1:es[k]? = some es[k]:=Array.getElem?_eq_getElem hk
  simp only[Int.toNat_natCast]
  rw[e1];refine wpAny_pure ?_
  refine wpAny_bind (wpAny_setField_rec hI (by simp) fun h1 hI1 same1=>?_)
  exact wpAny_pure ⟨es[k].2,rfl,wpAny_pure (more k es[k] q e1 h1 hI1 same1)⟩
theorem Sn{I S:Addr}{first:Value}{i n ep:Nat}{Q:Value→Shared→Prop}(hI:s.heap.get? I=some (Fz first i S n ep))(h:Q (.ref I) s):wpAny (model P w) A (pyIter (.ref I)) Q E s:=by
 have ty:s.TypeIs (.ref I) "set_iterator":=⟨_,hI,rfl⟩
 refine wpAny_pyIter_slot ty Gk (wpAny_call_entry Gk ty Li ?_ (Nu _))
 exact wpAny_pure ⟨_,rfl, "set_iterator",_,ty,slot_si_next.lookup,h⟩
theorem W5{I S:Addr}{es:Array (Int×Value)}{ep:Nat}{t:SetTable}{ks:List Int}{items:List (Int×Value)}{F:Nat→Nat→Prop}(hh:A.handled=none)(W:Way w S es ep t items F)(h:SOk P w es t ks)(hne:S≠I) :
  Walks P w A I [I,S] [I] es.size (fun i v=>(items.map (·.2))[i]? = some v) (fun i g=>(∃slot,F i slot∧g.get? I=some (Fz (rawInt slot) i S es.size ep))∧g.get? S=some (Au es ep t)) where
 sub:=fun b hb=>by simp at hb;simp[hb]
 frame:=fun i g g' ⟨⟨slot,hF,hI⟩,hS⟩ hk=>⟨⟨slot,hF,hk I (by simp) _ hI⟩,hk S (by simp) _ hS⟩
 item:=fun i s Q E hi ⟨⟨slot,hF,hI⟩,hS⟩ hQ=>by
  refine So hh W h hne hI hS hF (fun e he next h' hn hI' same=>?_) fun hz=>?_
  ·exact hQ e.2 h' s.toks (by rw[List.getElem?_map,he];rfl) ⟨⟨next,hn,hI'⟩,same.extBut _ _ hne hS⟩ fun b o hb e=>same.extBut b o (fun z=>hb (by simp[z])) e
  ·have:items.length=es.size:=by rw[W.perm.length_eq];simp
   rw[List.getElem?_eq_none_iff] at hz;omega
 done:=fun s Q E ⟨⟨slot,hF,hI⟩,hS⟩ hQ=>by
  have hl:items.length=es.size:=by rw[W.perm.length_eq];simp
  refine So hh W h hne hI hS hF (fun e he next h' hn hI' same=>?_) fun hz h' ext=>hQ h' s.toks fun b o hb e=>ext b o (fun z=>hb (by simp[z])) e
  rw[List.getElem?_eq_none (by omega)] at he;cases he
 self:=fun i s Q E ⟨⟨slot,hF,hI⟩,hS⟩ hQ=>Sn hI hQ
theorem Tv{I S T:Addr}{es:Array (Int×Value)}{ep:Nat}{t:SetTable}{ks:List Int}{ord:List Nat}(hh:A.handled=none)(hord:ord.Perm (List.range es.size))(h:SOk P w es t ks)(hne:S≠I)(hneT:T≠I) :
  Walks P w A I [I,S,T] [I] es.size (fun i v=>(ord.map fun k=>(es.toList.map (·.2)).getD k .none)[i]? = some v) (fun i g=>g.get? I=some (Fz (.ref T) i S es.size ep)∧g.get? S=some (Au es ep t)∧g.get? T=some { cls:=.type "tuple",data:=.seq (ord.map fun(k:Nat)=>rawInt k).toArray }) where
 sub:=fun b hb=>by simp at hb;simp[hb]
 frame:=fun i g g' ⟨hI,hS,hT⟩ hk=>⟨hk I (by simp) _ hI,hk S (by simp) _ hS,hk T (by simp) _ hT⟩
 item:=fun i s Q E hi ⟨hI,hS,hT⟩ hQ=>by
  refine Oh hh hord h hI hS hT (fun k e hk he h' hI' same=>?_) fun hz=>?_
  ·refine hQ e.2 h' s.toks ?_ ⟨hI',same.extBut _ _ hne hS,same.extBut _ _ hneT hT⟩ fun b o hb e=>same.extBut b o (fun z=>hb (by simp[z])) e
   rw[List.getElem?_map,hk]
   simp[he]
  ·have:ord.length=es.size:=by rw[hord.length_eq];simp
   rw[List.getElem?_eq_none_iff] at hz;omega
 done:=fun s Q E ⟨hI,hS,hT⟩ hQ=>by
  have hl:ord.length=es.size:=by rw[hord.length_eq];simp
  refine Oh hh hord h hI hS hT (fun k e hk he h' hI' same=>?_) fun hz h' ext=>hQ h' s.toks fun b o hb e=>ext b o (fun z=>hb (by simp[z])) e
  rw[List.getElem?_eq_none (by omega)] at hk;cases hk
 self:=fun i s Q E ⟨hI,hS,hT⟩ hQ=>Sn hI hQ
end
end D3
set_option maxRecDepth 100000
set_option maxHeartbeats 4000000
namespace D3
open PySem PySem.Spec
open PyProof.Rows hiding St
open L2 hiding St
theorem s_len:typeLookup (.type "set") "__len__" = pure (some (.builtin "set.__len__")):=by rw[typeLookup_type,builtinLookup_eq_fast];kernel_rfl
section
variable{P:Program}{w:World}{A:Around}{E:Value→Shared→Prop}{s:Shared}
theorem Yn{S:Addr}{es:Array (Int×Value)}{ep:Nat}{t:SetTable}{ks:List Int}{Q:Value→Shared→Prop}(hh:A.handled=none)(h:SOk P w es t ks)(hS:s.heap.get? S=some (Au es ep t))(hQ:∀(I:Addr) (g:Heap) d (fp:List Addr) (vs:List Value) (St:Nat→Heap→Prop),vs.Perm (es.toList.map (·.2))→Walks P w A I fp [I] es.size (fun i v=>vs[i]? = some v) St→St 0 g→(∀b∈fp,b<g.objs.size∧(b=S∨s.heap.objs.size≤b))→I∈fp→s.heap.objs.size≤I→
   (∀b o,s.heap.get? b=some o→g.get? b=some o)→(∀(i:Nat) (s':Shared),St i s'.heap→s'.TypeIs (.ref I) "set_iterator")→Q (.ref I) { s with heap:=g,drawn:=d }) :
  wpAny (model P w) A (pyIter (.ref S)) Q E s:=by
 have ty:s.TypeIs (.ref S) "set":=⟨_,hS,rfl⟩
 have hlt:S<s.heap.objs.size:=Heap.lt_size hS
 refine wpAny_pyIter_slot ty PySem.F.slot_set_iter (wpAny_call_entry PySem.F.slot_set_iter ty Nm ?_ (PySem.F.args_set_iter_1 _))
 unfold Builtin.«frozenset.__iter__»
 show wpAny _ _ (Builtin.Frozenset.sizeOf S >>= _) _ _ s
 refine wpAny_bind ?_
 unfold Builtin.Frozenset.sizeOf
 refine wpAny_bind (wpAny_setEntries_of hS rfl h.fit (wpAny_pure ?_))
 refine wpAny_bind ?_
 unfold setDrawn setsByText
 refine wpAny_bind (wpAny_setState_of hS rfl h.fit ?_);dsimp only
 refine wpAny_bind (wpAny_bind (wpAny_askSetting (wpAny_pure (wpAny_pure ?_))));dsimp only
 have plain:∀{items:List (Int×Value)} {F:Nat→Nat→Prop},Way w S es ep t items F→wpAny (model P w) A.in1 (pure (rawInt 0)) (fun a s'=>wpAny (model P w) A.in1 (do
   ret (←newFields "set_iterator" [a,rawInt 0,.ref S,rawInt es.size,rawInt (←setEpoch S)])) (fun fin s'=>∃v,fin=Fin.done (Flow.ret v)∧∃T' r,s'.TypeIs v T'∧typeLookup (.type T') "__next__" = pure (some r)∧Q v s') E s') E s:=fun W=>by
  refine wpAny_pure (wpAny_bind (wpAny_setEpoch_of hS rfl h.fit (wpAny_bind ?_)))
  unfold newFields
  refine wpAny_newObj_type (wpAny_pure ⟨_,rfl, "set_iterator",_,⟨_,Heap.get?_push_size _ rfl,rfl⟩,slot_si_next.lookup,?_⟩) (by size_fits)
  have hne:S≠s.heap.objs.size:=Nat.ne_of_lt hlt
  have e:({ s with heap:=s.heap.push (Fz (rawInt 0) 0 S es.size ep) }:Shared)={ s with heap:=s.heap.push (Fz (rawInt 0) 0 S es.size ep),drawn:=s.drawn }:=rfl
  refine(e ▸ hQ s.heap.objs.size _ s.drawn [s.heap.objs.size,S] _ _ (W.perm.map _) (W5 hh W h hne) ⟨⟨0,W.start h,Heap.get?_push_size _ rfl⟩,Heap.get?_push_of_some _ hS⟩ (fun b hb=>?_) (by simp) (Nat.le_refl _) (fun b o e=>Heap.get?_push_of_some _ e) (fun i s' ⟨⟨slot,_,hI⟩,_⟩=>⟨_,hI,rfl⟩))
  rw[Heap.size_push]
  simp only[List.mem_cons,List.not_mem_nil,or_false] at hb
  rcases hb with rfl|rfl
  ·exact⟨Nat.lt_succ_self _,.inr (Nat.le_refl _)⟩
  ·exact⟨Nat.lt_succ_of_lt hlt,.inl rfl⟩
 by_cases hbt:w.params.followText "set-order" = true
 ·refine B8 (c:=(!w.params.followText "set-order" && _)=true) (by rw[hbt];simp) ?_
  exact wpAny_bind (plain (.text hbt))
 ·by_cases hd:(!t.plain&&decide (es.size>1))=true
  ·refine Jx (c:=(!w.params.followText "set-order" && _)=true) (by
    rw[Bool.and_eq_true]
    exact⟨by simpa using hbt,hd⟩) ?_
   refine wpAny_bind (Si es.size (List.range es.size) s (by simp) fun ord d hp=>wpAny_bind ?_)
   unfold newTuple
   have hlen:ord.length=es.size:=by rw[hp.length_eq];simp
   have hz:es.size≤sizeLine:=fits_of_scanBound h.sz
   refine wpAny_newObj_type ?_ (by show sizeOk (.seq (ord.map fun(k:Nat)=>rawInt k).toArray);show(ord.map fun(k:Nat)=>rawInt k).toArray.size≤sizeLine;simp;omega)
   generalize hg1:s.heap.push { cls:=.type "tuple",data:=.seq (ord.map fun(k:Nat)=>rawInt k).toArray }=g1
   have hsz:g1.objs.size=s.heap.objs.size+1:=by rw[←hg1,Heap.size_push]
   have hS1:g1.get? S=some (Au es ep t):=by rw[←hg1];exact Heap.get?_push_of_some _ hS
   have hT1:g1.get? s.heap.objs.size=some { cls:=.type "tuple",data:=.seq (ord.map fun(k:Nat)=>rawInt k).toArray }:=by rw[←hg1];exact Heap.get?_push_size _ rfl
   refine wpAny_bind (wpAny_setEpoch_of (s:={ s with heap:=g1,drawn:=d }) hS1 rfl h.fit (wpAny_bind ?_))
   unfold newFields
   refine wpAny_newObj_type (wpAny_pure ⟨_,rfl, "set_iterator",_,⟨_,Heap.get?_push_size _ rfl,rfl⟩,slot_si_next.lookup,?_⟩) (by size_fits)
   have hne:S≠g1.objs.size:=by rw[hsz];exact Nat.ne_of_lt (Nat.lt_succ_of_lt hlt)
   have hneT:s.heap.objs.size≠g1.objs.size:=by rw[hsz];exact Nat.ne_of_lt (Nat.lt_succ_self _)
   refine hQ g1.objs.size _ d [g1.objs.size,S,s.heap.objs.size] _ _ ?_ (Tv hh hp h hne hneT) ⟨Heap.get?_push_size _ rfl,Heap.get?_push_of_some _ hS1,Heap.get?_push_of_some _ hT1⟩ (fun b hb=>?_) (by simp) (by rw[hsz];exact Nat.le_succ _) (fun b o e=>?_) (fun i s' ⟨hI,_⟩=>⟨_,hI,rfl⟩)
   ·have:(List.range es.size).map (fun k=>(es.toList.map (·.2)).getD k .none)=es.toList.map (·.2):=by
     apply List.ext_getElem?
     intro i
     rw[List.getElem?_map]
     by_cases hi:i<es.size
     ·rw[List.getElem?_range hi]
      have:i<(es.toList.map (·.2)).length:=by simpa using hi
      show some ((es.toList.map (·.2)).getD i .none)=_
      rw[List.getD,List.getElem?_eq_getElem this];rfl
     ·rw[List.getElem?_eq_none (by simpa using hi),List.getElem?_eq_none (by simpa using hi)];rfl
    exact(hp.map _).trans (List.Perm.of_eq this)
   ·rw[Heap.size_push,hsz]
    simp only[List.mem_cons,List.not_mem_nil,or_false] at hb
    rcases hb with rfl|rfl|rfl
    ·rw[hsz];exact⟨Nat.lt_succ_self _,.inr (Nat.le_succ _)⟩
    ·exact⟨Nat.lt_succ_of_lt (Nat.lt_succ_of_lt hlt),.inl rfl⟩
    ·exact⟨Nat.lt_succ_of_lt (Nat.lt_succ_self _),.inr (Nat.le_refl _)⟩
   ·rw[←hg1];exact Heap.get?_push_of_some _ (Heap.get?_push_of_some _ e)
  ·refine B8 (c:=(!w.params.followText "set-order" && _)=true) (fun z=>hd (by rw[Bool.and_eq_true] at z;exact z.2)) ?_
   exact wpAny_bind (plain (.tab hbt hd))
end
end D3
set_option maxRecDepth 100000
set_option maxHeartbeats 1000000
namespace D3
open PySem PySem.Spec
open PyProof.Rows hiding St
open L2 hiding St
section
variable{P:Program}{w:World}{A:Around}{E:Value→Shared→Prop}{s:Shared}
theorem Yq{S:Addr}{Q:Bool→Shared→Prop}(tyS:s.TypeIs (.ref S) "set")(h:Q false s):wpAny (model P w) A (Builtin.List.listLengthHint (.ref S)) Q E s:=by
 unfold Builtin.List.listLengthHint
 refine wpAny_bind (wpAny_specialOf tyS s_len ?_)
 (generalize hid:("set.__len__" : String)=id0;(fail_if_success (clear hid id0));wp_delta;rw[show splitId id0=some ("set", "__len__") from by subst hid;decide +kernel];subst hid)
 refine wpAny_bind (wpAny_isInstance (b:=true) tyS sub_set_self ?_)
 refine B8 (by decide) ?_
 refine Jx (by decide +kernel) ?_
 exact wpAny_bind (wpAny_typeOf tyS (wpAny_pure h))
end
end D3
set_option maxRecDepth 100000
set_option maxHeartbeats 4000000
namespace D3
open PySem PySem.Spec
open PyProof.Rows hiding St
open L2 hiding St
section
variable{P:Program}{w:World}{A:Around}{E:Value→Shared→Prop}{s:Shared}
theorem Pu{S:Addr}{es:Array (Int×Value)}{ep:Nat}{t:SetTable}{ks:List Int}{Q:List Value→Shared→Prop}(hh:A.handled=none)(h:SOk P w es t ks)(hS:s.heap.get? S=some (Au es ep t))(hQ:∀(vs:List Value) (s':Shared),vs.Perm (es.toList.map (·.2))→s'.gens=s.gens→s'.os=s.os→s.toks≤s'.toks→(∀b o,s.heap.get? b=some o→s'.heap.get? b=some o)→Q vs s') :
  wpAny (model P w) A (collect (.ref S)) Q E s:=by
 have hlt:S<s.heap.objs.size:=Heap.lt_size hS
 have hz:es.size≤sizeLine:=fits_of_scanBound h.sz
 unfold collect
 refine wpAny_bind (wpAny_runValue (codeAny_builtin PySem.F.entry_proto_collect ?_));rw[Around.under_plainId PySem.F.plain_proto_collect _]
 show wpAny _ A.in1 (newList [] >>= fun l=>again (.builtin "list.__iadd__" ⟨[l,.ref S],[]⟩)) _ _ s;refine wpAny_bind (wpAny_newObj_type ?_)
 refine wpAny_pure ⟨plainId_quiet PySem.F.plain_list_iadd _,codeAny_builtin PySem.F.entry_list_iadd ?_⟩;rw[Around.under_plainId PySem.F.plain_list_iadd _]
 have hS1:(s.heap.push { cls:=.type "list",data:=.seq ([]:List Value).toArray }).get? S=some (Au es ep t):=Heap.get?_push_of_some _ hS
 have hL1:(s.heap.push { cls:=.type "list",data:=.seq ([]:List Value).toArray }).get? s.heap.objs.size=some { cls:=.type "list",data:=.seq ([]:List Value).toArray }:=Heap.get?_push_size _ rfl
 have keep1:∀b o,s.heap.get? b=some o→(s.heap.push { cls:=.type "list",data:=.seq ([]:List Value).toArray }).get? b=some o:=fun b o e=>Heap.get?_push_of_some _ e
 have hsz1:(s.heap.push { cls:=.type "list",data:=.seq ([]:List Value).toArray }).objs.size=s.heap.objs.size+1:=by rw[Heap.size_push]
 generalize s.heap.push { cls:=.type "list",data:=.seq ([]:List Value).toArray }=g1 at *
 show wpAny _ A.in1 (Builtin.List.listExtendWith (.ref s.heap.objs.size) (.ref S) (.ref s.heap.objs.size)) _ _ { s with heap:=g1 }
 unfold Builtin.List.listExtendWith
 refine wpAny_bind (wpAny_typeOf (s:={ s with heap:=g1 }) (T:="set") ⟨_,hS1,rfl⟩ ?_)
 refine B8 (by
  have e1:Builtin.List.listSameRef (.ref s.heap.objs.size) (.ref S)=false:=by simp[Builtin.List.listSameRef,Nat.ne_of_gt hlt]
  rw[e1];decide) ?_
 refine wpAny_bind (Yn (A:=A.in1) (s:={ s with heap:=g1 }) hh h hS1 fun I g d fp vs St hvs W hst hfp hI hIn keep2 hty=>?_)
 have hLf:s.heap.objs.size ∉ fp:=fun z=>by
  rcases(hfp _ z).2 with e|e
  ·exact Nat.ne_of_gt hlt e
  ·rw[show({ s with heap:=g1 }:Shared).heap.objs.size=s.heap.objs.size+1 from hsz1] at e;exact Nat.not_succ_le_self _ e
 have tyS:Shared.TypeIs { s with heap:=g,drawn:=d } (.ref S) "set":=⟨_,keep2 _ _ hS1,rfl⟩
 refine wpAny_bind (wpAny_holding (Yq tyS ?_))
 refine Jx (by decide +kernel) (wpAny_bind (wpAny_rule (wpAny_bind ?_)))
 have hL2:=keep2 _ _ hL1
 show wpAny _ A.in1 (updateSeq s.heap.objs.size (·.push .none) >>= fun _=>updateSeq s.heap.objs.size (·.pop)) _ _ { s with heap:=g,drawn:=d }
 refine wpAny_bind (wpAny_updateSeq hL2 rfl ?_)
 have hL3:=Heap.get?_update_self (Obj.mapSeq (·.push Value.none)) hL2 rfl;refine wpAny_updateSeq hL3 rfl ?_
 have hL4:=Heap.get?_update_self (Obj.mapSeq (·.pop)) hL3 rfl
 have oth:∀b o,b≠s.heap.objs.size→g.get? b=some o→((g.update s.heap.objs.size (Obj.mapSeq (·.push Value.none))).update s.heap.objs.size (Obj.mapSeq (·.pop))).get? b=some o:=fun b o hb e=>(Heap.get?_update_other _ _ (Ne.symm hb)).trans ((Heap.get?_update_other _ _ (Ne.symm hb)).trans e)
 generalize (g.update s.heap.objs.size (Obj.mapSeq (·.push Value.none))).update s.heap.objs.size (Obj.mapSeq (·.pop))=g2 at *
 have Wt:=W.toS
 refine wpAny_pure ⟨plainId_quiet PySem.F.plain_extend_loop _,codeAny_extend_loopS Wt hz _ hLf _ es.size 0 { s with heap:=g2,drawn:=d } _ _ rfl (Nat.zero_le _) (W.frame 0 g g2 hst fun b hb o e=>oth b o (fun z=>hLf (z ▸ hb)) e) hL4 (ItemsOf.nil _) fun s' acc' c' hm hS' hacc=>?_⟩
 show wpAny _ A (load s.heap.objs.size >>= _) _ _ s';refine wpAny_bind (wpAny_load hS' (wpAny_pure ?_))
 have eacc:acc'.toList=vs:=by
  have hvl:vs.length=es.size:=by rw[hvs.length_eq];simp
  apply List.ext_getElem?
  intro i
  by_cases hi:i<acc'.size
  ·have:=hacc.2 i acc'[i] (by simp[hi])
   rw[this];simp[hi]
  ·rw[List.getElem?_eq_none (by simpa using hi),List.getElem?_eq_none (by have:=hacc.1;omega)]
 rw[eacc]
 refine hQ vs s' hvs hm.gens hm.os hm.toks fun b o e=>?_
 have hb:b<s.heap.objs.size:=Heap.lt_size e
 refine hm.heap b o ?_ (oth b o (Nat.ne_of_lt hb) (keep2 b o (keep1 b o e)))
 simp only[List.mem_cons,List.not_mem_nil,or_false,not_or]
 refine⟨Nat.ne_of_lt hb,fun z=>?_⟩
 have:g1.objs.size≤I:=hIn
 rw[hsz1,←z] at this
 exact Nat.lt_irrefl _ (Nat.lt_of_lt_of_le (Nat.lt_succ_of_lt hb) this)
end
end D3
set_option maxRecDepth 100000
set_option maxHeartbeats 200000
namespace D3
open PySem PySem.Spec
open PyProof.Rows hiding St
open L2 hiding St
section
variable{P:Program}{w:World}{A:Around}{E:Value→Shared→Prop}{s:Shared}
theorem Q5{S:Addr}{es:Array (Int×Value)}{ep:Nat}{t:SetTable}{ks:List Int}{Q:Value→Shared→Prop}(hh:A.handled=none)(h:SOk P w es t ks)(hS:s.heap.get? S=some (Au es ep t))(h64:es.size<64)(hQ:∀(g:Heap) (out:List Value) (ns:List Int) (n:Nat) (s':Shared),IntsAre out ns→ns.Pairwise (·≤·)→ns.Nodup→(∀k,k∈ns↔k∈ks)→ns.length=es.size→s'.gens=s.gens→s'.os=s.os→s.toks≤s'.toks→(∀b o,s.heap.get? b=some o→g.get? b=some o)→(∀b o,g.get? b=some o→s'.heap.get? b=some o)→s'.heap.get? g.objs.size=some { cls:=.type "list",data:=.seq out.toArray n }→Q (.ref g.objs.size) s') :
  wpAny (model P w) A (call (.builtin "sorted") [.ref S]) Q E s:=by
 refine Calls.call_function_entry kind_sorted plain_sorted entry_sorted (args_sorted1 _) ?_
 unfold Builtin.«sorted»
 refine wpAny_bind (m:=checkCount "sorted" 1 1 _) (wpAny_pure (wpAny_bind (Pu (A:=A.in1) hh h hS fun vs s' hvs eg eo htk keep=>?_)))
 have hI:IntsAre vs (vs.map fun v=>eI (0,v)):=by
  have:∀v∈vs,∃i u,v=Value.int i u:=fun v hv=>by
   obtain⟨e,he,rfl⟩:=List.mem_map.mp (hvs.mem_iff.mp hv)
   obtain⟨i,u,rfl⟩:=h.el e he
   exact⟨i,u,rfl⟩
  clear hvs
  induction vs with
  |nil=>exact .nil
  |cons v r ih=>
   obtain⟨i,u,rfl⟩:=this v (by simp)
   exact .cons i u (ih fun x hx=>this x (by simp[hx]))
 have pn:(vs.map fun v=>eI (0,v)).Perm (es.toList.map eI):=by
  have:=hvs.map fun v=>eI (0,v)
  rw[List.map_map] at this
  exact this
 have hvl:vs.length<64:=by rw[hvs.length_eq];simpa using h64
 refine wpAny_bind (wpAny_newList ?_ (by rw[sizeLine_eq];omega))
 have hoL:(s'.heap.push (seqObj "list" vs.toArray 0)).get? s'.heap.objs.size=some (seqObj "list" vs.toArray 0):=Heap.get?_push_size _ rfl
 show wpAny _ _ _ _ _ { s' with heap:=s'.heap.push (seqObj "list" vs.toArray 0) }
 refine wpAny_bind (wpAny_holding (wpAny_call_entry slot_list_sort ⟨_,hoL,rfl⟩ entry_list_sort (list_sort_tree hoL hI hvl fun out ns' a1 a2 a3=>⟨_,rfl,?_⟩) (args_list_sort _)))
 obtain⟨n,hn⟩:=sortedHeap_at (vs:=vs) (out:=out) hoL
 refine wpAny_pure ⟨_,rfl,hQ s'.heap out.toList ns' n _ a1 a3 ((a2.trans pn).nodup_iff.mpr h.nd) (fun k=>((a2.trans pn).mem_iff).trans (h.mem k)) (by rw[(a2.trans pn).length_eq];simp) eg eo htk keep (fun b o h1=>?_) ?_⟩
 ·have hb:b<s'.heap.objs.size:=Heap.lt_size h1
  rw[sortedHeap_old (Nat.ne_of_lt hb) (by rw[size_push'];exact Nat.lt_succ_of_lt hb)]
  exact Heap.get?_push_of_some _ h1
 ·rw[hn]
end
end D3
set_option maxRecDepth 100000
set_option maxHeartbeats 1000000
namespace D3
open PySem PySem.Spec
open PyProof.Rows hiding St
open L2 hiding St
def Ju(x:Int):List Int→List Int
 |[]=>[x]
 |y::r=>if x<y then x::y::r else if x=y then y::r else y::Ju x r
def C7:List Int→List Int
 |[]=>[]
 |x::r=>Ju x (C7 r)
theorem mem_insU{x z:Int}:∀{l:List Int},z∈Ju x l↔z=x∨z∈l
 |[]=>by simp[Ju]
 |y::r=>by
  rw[Ju]
  split
  ·simp
  ·split
   ·rename_i e;subst e;simp
   ·rw[List.mem_cons,mem_insU (l:=r),List.mem_cons]
    exact⟨fun h=>h.elim (fun a=>.inr (.inl a)) (fun a=>a.elim .inl fun b=>.inr (.inr b)),fun h=>h.elim (fun a=>.inr (.inl a)) fun a=>a.elim .inl fun b=>.inr (.inr b)⟩
theorem mem_sortU{z:Int}:∀{l:List Int},z∈C7 l↔z∈l
 |[]=>Iff.rfl
 |x::r=>by rw[C7,mem_insU,mem_sortU,List.mem_cons]
theorem Me{x:Int}:∀{l:List Int},l.Pairwise (· < ·)→(Ju x l).Pairwise (· < ·)
 |[],_=>by simp[Ju]
 |y::r,h=>by
  rw[Ju]
  obtain⟨h1,h2⟩:=List.pairwise_cons.mp h
  split
  ·rename_i hx
   refine List.pairwise_cons.mpr ⟨fun z hz=>?_,h⟩
   rcases List.mem_cons.mp hz with rfl|hz
   ·exact hx
   ·exact Int.lt_trans hx (h1 z hz)
  ·split
   ·exact h
   ·rename_i a b
    refine List.pairwise_cons.mpr ⟨fun z hz=>?_,Me h2⟩
    rcases mem_insU.mp hz with rfl|hz
    ·omega
    ·exact h1 z hz
theorem Fp:∀l:List Int,(C7 l).Pairwise (· < ·)
 |[]=>List.Pairwise.nil
 |x::r=>Me (Fp r)
theorem Hg:∀{a b:List Int},a.Pairwise (· < ·)→b.Pairwise (· < ·)→(∀k,k∈a↔k∈b)→a=b
 |[],[],_,_,_=>rfl
 |[],y::r,_,_,h=>absurd ((h y).mpr (by simp)) (by simp)
 |x::r,[],_,_,h=>absurd ((h x).mp (by simp)) (by simp)
 |x::r,y::q,ha,hb,h=>by
  obtain⟨a1,a2⟩:=List.pairwise_cons.mp ha
  obtain⟨b1,b2⟩:=List.pairwise_cons.mp hb
  have e:x=y:=by
   rcases List.mem_cons.mp ((h x).mp (by simp)) with e|e
   ·exact e
   ·rcases List.mem_cons.mp ((h y).mpr (by simp)) with e'|e'
    ·exact e'.symm
    ·have:=b1 x e;have:=a1 y e';omega
  subst e
  refine congrArg (x :: ·) (Hg a2 b2 fun k=>?_)
  constructor
  ·intro hk
   rcases List.mem_cons.mp ((h k).mp (List.mem_cons_of_mem _ hk)) with e|e
   ·have:=a1 k hk;omega
   ·exact e
  ·intro hk
   rcases List.mem_cons.mp ((h k).mpr (List.mem_cons_of_mem _ hk)) with e|e
   ·have:=b1 k hk;omega
   ·exact e
theorem Xd{ns ks:List Int}(h1:ns.Pairwise (·≤·))(h2:ns.Nodup)(h:∀k,k∈ns↔k∈ks):ns=C7 ks:=by
 refine Hg ?_ (Fp ks) fun k=>(h k).trans mem_sortU.symm
 induction ns with
 |nil=>exact .nil
 |cons x r ih=>
  obtain⟨a1,a2⟩:=List.pairwise_cons.mp h1
  obtain⟨b1,b2⟩:=List.nodup_cons.mp h2
  have:r.Pairwise (· < ·):=by
   clear ih h
   refine(List.pairwise_and_iff.mpr ⟨a2,b2⟩).imp fun⟨u,v⟩=>?_
   omega
  exact List.pairwise_cons.mpr ⟨fun y hy=>by have:=a1 y hy;have:x≠y:=fun e=>b1 (e ▸ hy);omega,this⟩
theorem Ow{x:Int}:∀{l:List Int},(Ju x l).length≤l.length+1
 |[]=>by simp[Ju]
 |y::r=>by
  rw[Ju]
  split
  ·simp
  ·split
   ·simp
   ·have:=Ow (x:=x) (l:=r);simp only[List.length_cons];omega
theorem L7:∀l:List Int,(C7 l).length≤l.length
 |[]=>Nat.le_refl _
 |x::r=>by have:=L7 r;have:=Ow (x:=x) (l:=C7 r);rw[C7,List.length_cons];omega
section
variable{X:Cx}{e:Expr}{te:DTE}{pos:Pos}
theorem U1{pins:List (Addr×Obj)}{σ:St}{H:Hp}{s:Shared}{d:Drawn}(I:Inv X pins σ H s):Inv X pins σ H { s with drawn:=d }:=⟨I.ok,I.os,I.bare,I.base,I.loc,I.cell,I.free,I.freeC,I.pin,I.hok,I.len⟩
theorem E6:∀{ns:List Int} {its:List Value},Vals (ns.map V.int) its→IntsAre its ns
 |[],_,.nil=>.nil
 |n::r,_,.cons ⟨t,rfl⟩ h=>.cons n t (E6 h)
theorem vals_ints:∀{ns:List Int} {its:List Value},IntsAre its ns→Vals (ns.map V.int) its
 |_,_,.nil=>.nil
 |_,_,.cons n t h=>.cons ⟨t,rfl⟩ (vals_ints h)
abbrev N1(l:Addr)(es:Array (Int×Value))(ep:Nat)(t:SetTable):HO:=.ext fun h=>h.get? l=some (Au es ep t)
theorem U9(hc:X.calm=true):CallR X (.type "set") (fun xs H Q=>∃p ns,xs=[.ref p]∧(SqL X.K H p (ns.map V.int)∨SqT X.K H p (ns.map V.int))∧ns.length<64∧
  ∀l es ep t,H l=none→SOk X.prog X.w es t ns→es.size<64→Q (.ref l) (upd H l (N1 l es ep t))):=by
 intro pins s σ H xs us Q I r h
 obtain⟨p,ns,rfl,hq,hn,q⟩:=h
 obtain⟨u,rfl,rx⟩:=Fy r
 cases rx
 have main:∀its:List Value,Vals (ns.map V.int) its→(s.heap.IsList p its.toArray∨s.heap.IsTuple p its.toArray)→wpAny (model X.prog X.w) X.A (call (.type "set") [.ref p]) (EP X pins σ Q) X.xe s:=fun its rv hl=>by
  have hl2:=rv.length
  rw[List.length_map] at hl2
  refine Xf (I.ok.hd hc) hl (by simpa using E6 rv) (by show its.toArray.size+1<4096;simp;omega) fun h' tk es ep t htk ho hO hz kp=>?_
  have kp':∀b o,s.heap.get? b=some o→h'.get? b=some o:=fun b o e=>kp b o (Heap.lt_size e) e
  refine⟨.ref s.heap.objs.size,_,I.laid (t':=tk) (o:=N1 s.heap.objs.size es ep t) kp' (Nat.le_refl _) ?_,rfl,q _ es ep t (I.hok.fresh (Nat.le_refl _)) hO (by omega)⟩
  exact⟨ho,⟨_,ho⟩,fun h1 h2 a b=>b _ a⟩
 rcases hq with hq|hq
 ·obtain⟨its,rv,pl,_⟩:=I.list hq
  exact main its rv (.inl pl.isList)
 ·obtain⟨its,rv,pl,_⟩:=I.tuple hq
  exact main its rv (.inr pl)
theorem Nn(hc:X.calm=true):CallR X (.builtin "sorted") (fun xs H Q=>∃l es ep t ks,xs=[.ref l]∧H l=some (N1 l es ep t)∧SOk X.prog X.w es t ks∧es.size<64∧∀p,H p=none→Q (.ref p) (upd H p (.lst ((C7 ks).map V.int)))):=by
 intro pins s σ H xs us Q I r h
 obtain⟨l,es,ep,t,ks,rfl,hl,hO,hz,q⟩:=h
 obtain⟨u,rfl,rx⟩:=Fy r
 cases rx
 obtain⟨ho,_⟩:=(show ObjOk X.prog X.w H s.heap l (N1 l es ep t) from I.hok l _ hl)
 refine Q5 (I.ok.hd hc) hO ho hz fun g out ns n s' hI hs hnd hm hlen eg eo htk k1 k2 hL=>?_
 obtain⟨h',g',d',tk',os'⟩:=s'
 have eg:g'=s.gens:=eg
 have eo:os'=s.os:=eo
 subst eg;subst eo
 have e:ns=C7 ks:=Xd hs hnd hm
 subst e
 have I1:Inv X pins σ H { s with heap:=g,toks:=tk' }:=I.kept k1
 have I2:=I1.laid (h':=h') (t':=tk') (o:=.lst ((C7 ks).map V.int)) k2 (Nat.le_refl _) (show ObjOk X.prog X.w _ h' _ (.lst _) from⟨by rw[List.length_map,sizeLine_eq];omega,out,n,vals_ints hI,hL⟩)
 exact⟨.ref g.objs.size,_,U1 I2,rfl,q _ (I1.hok.fresh (Nat.le_refl _))⟩
def Ou(te:DTE):DTE:=fun σ G Q=>te σ G fun d G1=>∃ns:List Int,Av G1 d=some (ns.map D.int)∧ns.length<64∧∀p,G1 p=none→Q (.ref p) (Ab G1 p (.lst ((C7 ns).map D.int)))
theorem Er{K:W.Frag}{H:Hp}:∀{ns:List Int} {xs:List V},DVs K H (ns.map D.int) xs→xs=ns.map V.int
 |[],_,.nil=>rfl
 |_::_,_,.cons (.int _) t=>by rw[Er t];rfl
theorem T8{p1 p2 p3:Pos}(hc:X.calm=true)(hm1:X.mg "sorted" = none)(hm2:X.mg "set" = none)(he:QE X e te)(hg1:Gl X "sorted":=by rfl)(hg2:Gl X "set":=by rfl)(hs1:starEach [.Call (.Name "set" p2) [e] [] p3] X.env=[(false,eval (.Call (.Name "set" p2) [e] [] p3) X.env)]:=by rfl)(hs2:starEach [e] X.env=[(false,eval e X.env)]:=by rfl) :
  QE X (.Call (.Name "sorted" p1) [.Call (.Name "set" p2) [e] [] p3] [] pos) (Ou te):=by
 refine(Oo (Nn hc) hg1 hm1 (by decide +kernel) (E2 (Hk (U9 hc) hg2 hm2 (by decide +kernel) (E2 he pa_nil hs2) (he:=hs2)) pa_nil hs1) (he:=hs1)).imp fun σ H Q ⟨σD,G,Q',rs,rg,h,cl⟩=>?_
 refine⟨σD,G,_,rs,rg,h,fun d G1 ⟨ns,en,hn,q⟩ H1 x1 rg1 v dv=>?_⟩
 have go:∀a,v=.ref a→(SqL X.K H1 a (ns.map V.int)∨SqT X.K H1 a (ns.map V.int))→∃p ms,[v]=[V.ref p]∧(SqL X.K H1 p (ms.map V.int)∨SqT X.K H1 p (ms.map V.int))∧ms.length<64∧
   ∀l es ep t,H1 l=none→SOk X.prog X.w es t ms→es.size<64→Qc σ (upd H1 l (N1 l es ep t)) (fun vs H2=>∃l' es' ep' t' ks,V.ref l::vs=[V.ref l']∧H2 l'=some (N1 l' es' ep' t')∧SOk X.prog X.w es' t' ks∧es'.size<64∧∀p,H2 p=none→Q (.ref p) (upd H2 p (.lst ((C7 ks).map V.int)))):=fun a e hq=>by
  subst e
  refine⟨a,ns,rfl,hq,hn,fun l es ep t hl hO hz=>⟨l,es,ep,t,ns,rfl,Ak,hO,hz,fun p hp=>?_⟩⟩
  have x2:Ext H1 (upd H1 l (N1 l es ep t)):=Ext.fresh hl
  have rg2:RelG X.K (upd H1 l (N1 l es ep t)) G1:=rg1.tup hl
  exact cl _ _ (q p (rg2.free hp)) _ (x1.trans (x2.trans (Ext.fresh hp))) (rg2.lst hp DVs.ints) _ (.ref p)
 cases dv with
 |tup e r=>cases en;rw[Er r] at e;exact go _ rfl (.inr (.inl (.inl e)))
 |@lint ms a e=>
  have:ms=ns:=by
   simp only[Av,Option.some.injEq] at en
   exact(List.map_inj_right (fun _ _ h=>by cases h;rfl)).mp en
  subst this
  exact go a rfl (.inl e.sq)
 |ref a=>
  simp only[Av] at en
  split at en
  ·rename_i ds g
   cases en
   obtain⟨xs,e,r⟩:=rg1 a _ g
   rw[Er r] at e
   exact go a rfl (.inl (.inl (.inl e)))
  ·cases en
 |_=>cases en
end
end D3
set_option maxRecDepth 100000
set_option maxHeartbeats 1000000
namespace D3
open PySem PySem.Spec
open PyProof.Rows hiding St
open L2 hiding St
section
variable{P:Program}{w:World}{A:Around}{R:Result→Shared→Prop}
end
section
variable{X:Cx}
end
end D3
namespace D3
open PySem PySem.Spec
open PyProof.Rows hiding St
open L2 hiding St
section
variable{X:Cx}{a:Expr}{ta:DTE}{pos:Pos}
end
end D3
namespace D3
open PySem PySem.Spec
open PyProof.Rows hiding St
open L2 hiding St
structure FnIs(K:PySem.W.Frag)(x:Str)(st:Stmt):Prop where
 ex:∃f fd,Fun K x x st f fd∧PySem.W.nsIn K mainGlobals x=some (some (.ref f))∧PySem.W.keepIn K (.ref f)=true
theorem Ag{K:W.Frag}{x:Str}{st:Stmt}{f:Addr}{od an:Option Addr}{sl:Array (Option Value)}{oc kV dc pm cd ct:Value}(a:PySem.W.nsIn K mainGlobals x=some (some (.ref f)))(l:K.lookup f=some ⟨oc,od,.func (PySem.W.fnOf x x (defArgs st) (defBody st) (defScope st) .none kV dc pm an cd ct),sl⟩)(c:PySem.W.codeIn K cd x=true)(k:PySem.W.keepIn K (.ref f)=true):FnIs K x st:=
 ⟨f,_,Qw l c k,a,k⟩
theorem Al{P:Program}{w:World}{K:W.Frag}{h:Heap}{mg:Str→Option Value}{base:Heap}{x:Str}{st:Stmt}{k:Nat}{ps:List Str}{sp:DSp}(I:FnIs K x st)(X:K.In h)(G:h.Ns mainGlobals mg)(hb:∀f fd,Fun K x x st f fd→Binds K fd ps [])(ok:∀f fd,Fun K x x st f fd→FnOk P w K mg base CX0 k f fd ps (liftSp K sp)):Def P w K mg base CX0 k x ps sp:=by
 obtain⟨f,fd,F,a,kp⟩:=I.ex
 exact⟨f,fd,ok f fd F,PySem.W.mg_of X G a,kp,hb f fd F⟩
end D3
namespace D3
open PySem PySem.Spec
open PyProof.Rows hiding St
open L2 hiding St
def Ee(f:Str)(d:D):List (Str×D)→List (Str×D)
 |[]=>[(f,d)]
 |(g,e)::r=>if g=f then (g,d)::r else (g,e)::Ee f d r
section
variable{X:Cx}{o e:Expr}{to te:DTE}{pos pos':Pos}{f:Str}{C:Addr}
theorem Ma{K:W.Frag}{H:Hp}{f:Str}{d:D}:∀{fs:List (Str×D)} {ks:List (Str×V)},Paired (fun(p:Str×D) (q:Str×V)=>p.1=q.1∧DV K H p.2 q.2) fs ks→fs.lookup f=some d→∃v,ks.lookup f=some v∧DV K H d v
 |[],_,.nil,h=>by cases h
 |(g,x)::r,_,.cons (b:=(g',v)) hd tl,h=>by
  obtain⟨e,hv⟩:=hd
  cases e
  rw[List.lookup_cons] at h ⊢
  cases hb:f == g with
  |true=>rw[hb] at h;cases h;exact⟨v,rfl,hv⟩
  |false=>rw[hb] at h;exact Ma tl h
theorem Om{K:W.Frag}{H:Hp}{f:Str}{d:D}{v:V}(hd:DV K H d v):∀{fs:List (Str×D)} {ks:List (Str×V)},Paired (fun(p:Str×D) (q:Str×V)=>p.1=q.1∧DV K H p.2 q.2) fs ks→Paired (fun(p:Str×D) (q:Str×V)=>p.1=q.1∧DV K H p.2 q.2) (Ee f d fs) (Eg f v ks)
 |[],_,.nil=>.cons ⟨rfl,hd⟩ .nil
 |(g,x)::r,_,.cons (b:=(g',u)) h tl=>by
  obtain⟨e,hv⟩:=h
  cases e
  show Paired _ (if g=f then (g,d)::r else (g,x)::Ee f d r) (if g=f then _ else _)
  by_cases hg:g=f
  ·rw[if_pos hg,if_pos hg];exact .cons ⟨by first|rfl|exact hg,hd⟩ tl
  ·rw[if_neg hg,if_neg hg];exact .cons ⟨rfl,hv⟩ (Om hd tl)
theorem Op{α β:Type}{R:α→β→Prop}{xs:List α}{ys:List β}(h:Paired R xs ys):xs.length=ys.length:=by
 induction h with
 |nil=>rfl
 |cons _ _ ih=>exact congrArg (· + 1) ih
def nFld(C:Addr)(to:DTE)(f:Str):DTE:=fun σ G Q=>to σ G fun x G1=>∃p,x=.ref p∧∃fs,G1 p=some (.ins C fs)∧∃d,fs.lookup f=some d∧Q d G1
theorem Abe(hc:Cls X.K C)(hn:NoAttr X.K C f)(ho:QE X o to)(hb:attributeBase o f X.env (eval o X.env)=eval o X.env:=by rfl):QE X (.Attribute o f pos) (nFld C to f):=(Ada ho hb).imp fun σ H Q ⟨σD,G,Q',rs,rg,h,cl⟩=>by
 refine⟨σD,G,_,rs,rg,h,fun d G1 ⟨p,ep,fs,eg,d',el,q⟩ H1 x1 rg1 v dv=>?_⟩
 subst ep
 cases dv
 obtain⟨dx,ks,eh,pr⟩:=rg1 p _ eg
 obtain⟨v,ev,dv⟩:=Ma pr el
 exact⟨p,C,dx,ks,v,rfl,eh,hc,hn,ev,cl _ _ q _ x1 rg1 _ dv⟩
def Abi(C:Addr)(to te:DTE)(f:Str):DTS:=fun D σ G=>te σ G fun y G1=>to σ G1 fun x G2=>∃p,x=.ref p∧∃fs,G2 p=some (.ins C fs)∧fs.length<1000∧D.nx σ (Ab G2 p (.ins C (Ee f y fs)))
theorem RelG.insW{K:W.Frag}{H:Hp}{G:Gp}(r:RelG K H G){p dx:Addr}{C:Addr}{ks ks':List (Str×V)}{fs':List (Str×D)}(e:H p=some (.ins C dx ks))(pr:Paired (fun(p:Str×D) (q:Str×V)=>p.1=q.1∧DV K H p.2 q.2) fs' ks'):RelG K (upd H p (.ins C dx ks')) (Ab G p (.ins C fs')):=by
 have x:Ext H (upd H p (.ins C dx ks')):=Ext.write e (fun xs z=>by cases z) (fun ob w z=>by cases z)
 intro a o ea
 by_cases ha:a=p
 ·subst ha
  rw[Aa] at ea
  cases ea
  exact⟨dx,ks',Ak,L2.Paired.mapP pr fun _ _ z=>⟨z.1,z.2.ext x⟩⟩
 ·rw[Ae ha] at ea
  exact(r a o ea).upd x (.inr ha)
theorem Mx(hc:Cls X.K C)(hn:NoAttr X.K C f)(ho:QE X o to)(he:QE X e te)(hs:swapsWith e (some (.Attribute o f pos')) pos.line X.env=pure false:=by rfl):QS X (.Assign [.Attribute o f pos'] e pos) (Abi C to te f):=(Acv ho he hs).imp fun E σ H ⟨σD,G,D,rs,rg,h,cl⟩=>by
 refine⟨σD,G,_,rs,rg,h,fun y G1 h1 H1 x1 rg1 yv dy=>?_⟩
 refine⟨σD,G1,_,rs.ext x1,rg1,h1,fun x G2 ⟨p,ep,fs,eg,hl,q⟩ H2 x2 rg2 v dv=>?_⟩
 subst ep
 cases dv
 obtain⟨dx,ks,eh,pr⟩:=rg2 p _ eg
 have pr2:=Om (f:=f) (dy.ext x2) pr
 have x3:Ext H2 (upd H2 p (.ins C dx (Eg f yv ks))):=Ext.write eh (fun xs z=>by cases z) (fun ob w z=>by cases z)
 exact⟨p,C,dx,ks,rfl,eh,hc,hn,by rw[←Op pr];exact hl,cl.nx _ _ q _ (x1.trans (x2.trans x3)) (rg2.insW eh pr2) _ (rs.ext (x1.trans (x2.trans x3)))⟩
def Abm(C:Addr)(sp:DSp)(t:DTA):DTE:=fun σ G Q=>t σ G fun ds G1=>∀p,G1 p=none→sp (.ref p::ds) (Ab G1 p (.ins C [])) (fun d G2=>d=.non∧Q (.ref p) G2) noX
theorem RelG.insN{K:W.Frag}{H:Hp}{G:Gp}(r:RelG K H G){p dx:Addr}{C:Addr}(hp:H p=none)(hd:H dx=none)(hne:dx≠p):RelG K (upd (upd H dx (.own p)) p (.ins C dx [])) (Ab G p (.ins C [])):=by
 have h1:(upd H dx (.own p)) p=none:=by rw[Af hne.symm];exact hp
 have r1:RelG K (upd H dx (.own p)) G:=r.tup hd
 intro a o ea
 by_cases ha:a=p
 ·subst ha
  rw[Aa] at ea
  cases ea
  exact⟨dx,[],Ak,.nil⟩
 ·rw[Ae ha] at ea
  exact(r1 a o ea).upd (Ext.fresh h1) (.inl h1)
theorem Acn{k:Nat}{fi:Addr}{fd:FuncData}{x:Str}{ps:List Str}{sp:DSp}{es:List Expr}{p:Pos}{tA:DTA}(M:Mk X.K C fi)(F:FnOk X.prog X.w X.K X.mg X.base CX0 k fi fd ps (liftSp X.K sp))(hr:Room (k+1) X.A)(hm:X.mg x=some (.ref C))(hb:Binds X.K fd ps [])(ha:QA X (e::es) tA)(hg:Gl X x:=by rfl)(hdb:(x == ("__debug__" : Str))=false:=by decide)(he:starEach (e::es) X.env=(false,eval e X.env)::starEach es X.env:=by rfl)(hpl:(backTo pos (starEach es X.env)).any (·.1)=false:=by rfl) :
  QE X (.Call (.Name x p) (e::es) [] pos) (Abm C sp tA):=by
 refine(Z1 (ds:=[]) (dvs:=[]) (E:=fun _ _ _=>False) M F hr hg hm hb .nil (fun _ _ _ _ _ _ _ z=>z.elim) ha hdb he hpl).imp fun σ H Q ⟨σD,G,Q',rs,rg,h,cl⟩=>?_
 refine⟨σD,G,_,rs,rg,h,fun ds G1 h1 H1 x1 rg1 vs dv=>fun a dx ha hdx hne=>?_⟩
 rw[List.append_nil]
 have h1':(upd H1 dx (.own a)) a=none:=by rw[Af hne.symm];exact ha
 have x2:Ext H1 (upd (upd H1 dx (.own a)) a (.ins C dx [])):=(Ext.fresh hdx).trans (Ext.fresh h1')
 refine⟨.ref a::ds,_,_,noX,.cons (.ref a) (dv.ext x2),rg1.insN ha hdx hne,h1 a (rg1.free ha),fun d G' ⟨ed,q⟩ H2 x3 rg2 v dv2=>?_,fun c G' z=>z.elim⟩
 subst ed
 cases dv2
 exact⟨rfl,cl _ _ q _ (x1.trans (x2.trans x3)) rg2 _ (.ref a)⟩
end
end D3
set_option maxHeartbeats 1000000
namespace D3
open PySem PySem.Spec
open PyProof.Rows hiding St
open L2 hiding St
section
variable{X:Cx}{pins:List (Addr×Obj)}{σ:St}{H:Hp}{s:Shared}{A:Around}{E:Value→Shared→Prop}
theorem U6{a:Addr}{kvs:List (Key×V)}{k:Key}{v:V}{u r:Value}{Q:Unit→Shared→Prop}(I:Inv X pins σ H s)(e:H a=some (.dK kvs))(l:kvs.length<sizeLine)(ry:RelV (kV k) u)(rv:RelV v r)(h:∀s',Inv X pins σ (upd H a (.dK (Fx kvs k v))) s'→Q () s'):wpAny (model X.prog X.w) A (dictSet a u r) Q E s:=by
 obtain⟨z,hd,vs,rel,dd⟩:=L0 I.hok e
 have hz:vs.length≤sizeLine:=by rw[←rel.length];exact z
 have hl:(Fx kvs k v).length≤sizeLine:=by have:=Ps kvs k v;omega
 unfold dictSet
 refine wpAny_holding (wpAny_bind ((A3 X.prog X.w).pyHash (Lz ry) ?_))
 refine wpAny_dictSetHashed_pairs (hsz:=hz) (Lz ry) dd fun h' dd' hs=>h _ ?_
 have he:∃q,h'.get? a=some q:=let ⟨q,_,_,hq,_⟩:=dd';⟨q,hq⟩
 exact Aaz (I.tok _) (by rw[e];exact True.intro) hs he (Ad4 hl hd (rel.put k rv) dd')
end
def V9(P:Program)(w:World)(A:Around)(env:Env)(tg kx vx:Expr)(ifs:List Expr)(it:Value)(acc:Addr)(X:Value→Shared→Prop)(nxt:Shared→Prop)(v:Value)(t:Shared):Prop:=
 wpAny (model P w) A (letOwnedTupleGo tg it v) (fun _ a=>wpAny (model P w) A (assign tg env v) (fun _ b=>wpAny (model P w) A (Jy ifs env) (fun y c=>
  if y=true then wpAny (model P w) A (eval kx env) (fun e d=>wpAny (model P w) A (eval vx env) (fun e2 d2=>wpAny (model P w) A (dictSet acc e e2) (fun _ f=>nxt f) X d2) X d) X c else nxt c) X b) X a) X t
theorem Pt{P:Program}{w:World}{A:Around}{R:Result→Shared→Prop}{s:Shared}{kx vx tg src:Expr}{ifs:List Expr}{sc:Scope}{pl:Pos}{it:Value}{acc:Addr}{env:Env}(V:Nat→Shared→Prop)(go:∀k t,V k t→wpAny (model P w) A (pyNext it) (fun r u=>match r with
   |none=>R (.ok .next) u
   |some v=>V9 P w A env tg kx vx ifs it acc (notedBy (model P w) A env fun e z=>R (.error e) z) (fun z=>∃m,m<k∧V m z) v u) (notedBy (model P w) A env fun e z=>R (.error e) z) t)(k:Nat)(h0:V k s):codeAny (model P w) A (.compLoop (.DictComp kx vx [⟨tg,src,ifs,0⟩] sc pl) 0 it (.ref acc) env) R s:=by
 refine codeAny_loop rfl V (fun k t hv=>(show wpAny _ A ((compTurn (.DictComp kx vx [⟨tg,src,ifs,0⟩] sc pl) 0 it (.ref acc) env).onRaise (fun x=>do noteFrame x env;theTreesLotGoes x)) _ _ t from wpAny_noted ?_)) k h0
 rw[compTurn_dict];refine wpAny_bind (wpAny_standAt (wpAny_bind (wpAny_mono (go k t hv) (fun r u hr=>?_) fun _ _ z=>z)))
 cases r with
 |none=>exact wpAny_pure hr
 |some v=>
  refine wpAny_bind (wpAny_mono hr (fun _ a ha=>wpAny_bind (wpAny_mono ha (fun _ b hb=>wpAny_bind (wpAny_mono hb (fun y c hc=>?_) fun _ _ z=>z)) fun _ _ z=>z)) fun _ _ z=>z)
  cases y with
  |true=>exact wpAny_bind (wpAny_bind (wpAny_mono hc (fun e d hd=>wpAny_bind (wpAny_holding (wpAny_mono hd (fun e2 d2 hd2=>wpAny_bind (wpAny_standAt (wpAny_holding (wpAny_mono hd2 (fun _ f hf=>wpAny_pure ⟨rfl,hf⟩) fun _ _ z=>z)))) fun _ _ z=>z))) fun _ _ z=>z))
  |false=>refine wpAny_pure ⟨rfl,?_⟩;exact hc
end D3
set_option maxHeartbeats 1000000
namespace D3
open PySem PySem.Spec
open PyProof.Rows hiding St
open L2 hiding St
def Sk(n:Nat)(wi:TI)(g:TG)(tf:TT)(tk tv:TE):TE:=fun σ H Q=>wi σ H fun J H1=>∀p,H1 p=none→∃W:Nat→Nat→St→Hp→Prop,(∃m,W 0 m (List.replicate n none++σ) (upd H1 p (.dK [])))∧∀i m σ1 H,W i m σ1 H→
 ((J.stop i H∧Q (.ref p) H)∨(J.go i H∧∃N:St→Hp→Prop,(∀σ' H',N σ' H'→∃m',m'<m∧W (i+1) m' σ' H')∧
  ∀x H',J.yld i H x H'→g x σ1 H' fun σ2 H2=>tf σ2 H2 fun b H3=>if b=true then tk σ2 H3 fun y H4=>tv σ2 H4 fun z H5=>∃kvs k,y=kV k∧H5 p=some (.dK kvs)∧kvs.length<sizeLine∧N σ2 (upd H5 p (.dK (Fx kvs k z))) else N σ2 H3))
end D3
set_option maxHeartbeats 1000000
namespace D3
open PySem PySem.Spec
open PyProof.Rows hiding St
open L2 hiding St
section
variable{κ:Type}[DecidableEq κ]
def Jt(kvs:List (κ×D))(k:κ):Option D:=(kvs.find? fun kv=>decide (kv.1=k)).map (·.2)
def Y9(kvs:List (κ×D))(k:κ)(d:D):List (κ×D):=if (kvs.any fun kv=>decide (kv.1=k))=true then kvs.map (fun kv=>if kv.1=k then (kv.1,d) else kv) else kvs++[(k,d)]
abbrev Ent(κ:Type)(K:PySem.W.Frag)(H:Hp):κ×D→κ×V→Prop:=fun p q=>p.1=q.1∧DV K H p.2 q.2
variable{K:W.Frag}{H:Hp}
theorem M9{k:κ}:∀{kvs:List (κ×D)} {ks:List (κ×V)},Paired (Ent κ K H) kvs ks→(Jt kvs k=none∧Dv ks k=none)∨∃d v,Jt kvs k=some d∧Dv ks k=some v∧DV K H d v
 |_,_,.nil=>.inl ⟨rfl,rfl⟩
 |(a,x)::r,_,.cons (b:=(b,y)) h t=>by
  obtain⟨e,hv⟩:=h
  cases(show a=b from e)
  by_cases ha:a=k
  ·exact .inr ⟨x,y,by simp[Jt,ha],by simp[Dv,ha],hv⟩
  ·have e1:Jt ((a,x)::r) k=Jt r k:=by simp[Jt,List.find?_cons,ha]
   have e2:∀z,Dv ((a,y)::z) k=Dv z k:=fun z=>by simp[Dv,List.find?_cons,ha]
   rw[e1,e2]
   exact M9 t
theorem Ti{k:κ}:∀{kvs:List (κ×D)} {ks:List (κ×V)},Paired (Ent κ K H) kvs ks→(kvs.any fun kv=>decide (kv.1=k))=(ks.any fun kv=>decide (kv.1=k))
 |_,_,.nil=>rfl
 |(a,x)::r,_,.cons (b:=(b,y)) h t=>by
  cases(show a=b from h.1)
  rw[List.any_cons,List.any_cons,Ti t]
theorem Th{k:κ}{d:D}{v:V}(hd:DV K H d v):∀{kvs:List (κ×D)} {ks:List (κ×V)},Paired (Ent κ K H) kvs ks→Paired (Ent κ K H) (kvs.map (fun kv=>if kv.1=k then (kv.1,d) else kv)) (ks.map (fun kv=>if kv.1=k then (kv.1,v) else kv))
 |_,_,.nil=>.nil
 |(a,x)::r,_,.cons (b:=(b,y)) h t=>by
  obtain⟨e,hv⟩:=h
  cases(show a=b from e)
  rw[List.map_cons,List.map_cons]
  refine .cons ?_ (Th hd t)
  show Ent κ K H (if a=k then (a,d) else (a,x)) (if a=k then (a,v) else (a,y))
  by_cases ha:a=k
  ·rw[if_pos ha,if_pos ha];exact⟨rfl,hd⟩
  ·rw[if_neg ha,if_neg ha];exact⟨rfl,hv⟩
theorem O4{p:κ×D}{q:κ×V}(h:Ent κ K H p q):∀{kvs:List (κ×D)} {ks:List (κ×V)},Paired (Ent κ K H) kvs ks→Paired (Ent κ K H) (kvs++[p]) (ks++[q])
 |_,_,.nil=>.cons h .nil
 |_::_,_,.cons h' t=>.cons h' (O4 h t)
theorem Aax{k:κ}{d:D}{v:V}(hd:DV K H d v){kvs:List (κ×D)}{ks:List (κ×V)}(r:Paired (Ent κ K H) kvs ks):Paired (Ent κ K H) (Y9 kvs k d) (Fx ks k v):=by
 unfold Y9 Fx
 rw[Ti r]
 split
 ·exact Th hd r
 ·exact O4 ⟨rfl,hd⟩ r
theorem Aay{kvs:List (κ×D)}{ks:List (κ×V)}(r:Paired (Ent κ K H) kvs ks):kvs.length=ks.length:=Op r
end
theorem RelG.dkN{K:W.Frag}{H:Hp}{G:Gp}(r:RelG K H G){p:Addr}(hp:H p=none):RelG K (upd H p (.dK [])) (Ab G p (.dkk [])):=by
 intro a o ea
 by_cases ha:a=p
 ·subst ha
  rw[Aa] at ea
  cases ea
  exact⟨[],Ak,.nil⟩
 ·rw[Ae ha] at ea
  exact(r a o ea).upd (Ext.fresh hp) (.inl hp)
theorem Mz{H:Hp}{p:Addr}{ks:List (Key×V)}{u:HO}(e:H p=some (.dK ks)):Ext H (upd H p u):=Ext.write e (fun xs z=>by cases z) (fun ob w z=>by cases z)
theorem RelG.dkW{K:W.Frag}{H:Hp}{G:Gp}(r:RelG K H G){p:Addr}{ks ks':List (Key×V)}{kvs':List (Key×D)}(e:H p=some (.dK ks))(pr:Paired (Ent Key K H) kvs' ks'):RelG K (upd H p (.dK ks')) (Ab G p (.dkk kvs')):=by
 have x:Ext H (upd H p (.dK ks')):=Mz e
 intro a o ea
 by_cases ha:a=p
 ·subst ha
  rw[Aa] at ea
  cases ea
  exact⟨ks',Ak,L2.Paired.mapP pr fun _ _ z=>⟨z.1,z.2.ext x⟩⟩
 ·rw[Ae ha] at ea
  exact(r a o ea).upd x (.inr ha)
def Ts:D→Option Key
 |.int i=>some (.inl i)
 |.str x=>some (.inr x)
 |_=>none
theorem M7{K:W.Frag}{H:Hp}{d:D}{v:V}{k:Key}(e:Ts d=some k)(dv:DV K H d v):v=kV k:=by
 cases d<;>simp only[Ts,Option.some.injEq,reduceCtorEq] at e
 ·subst e;cases dv;rfl
 ·subst e;cases dv;rfl

def V8(n:Nat)(p:Addr)(ds:List D)(same:Gp→Prop)(g:DTG)(tf:DTT)(tk tv:DTE)(σ:DSt)(G:Gp)(Q:DK):Prop:=∃P:Nat→List (Key×D)→Gp→Prop,P 0 [] G∧(∀i kvs G,i≤ds.length→P i kvs G→same G∧G p=some (.dkk kvs))∧
 (∀i x kvs G,ds[i]? = some x→P i kvs G→g x (List.replicate n none++σ) G fun σ2 G2=>V7 n σ σ2∧tf σ2 G2 fun b G3=>if b=true then tk σ2 G3 fun y G4=>tv σ2 G4 fun z G5=>∃k,Ts y=some k∧G5 p=some (.dkk kvs)∧kvs.length<sizeLine∧Fg (P (i+1) (Y9 kvs k z)) (Ab G5 p (.dkk (Y9 kvs k z))) else Fg (P (i+1) kvs) G3)∧
 ∀kvs G,P ds.length kvs G→Q (.ref p) G
theorem Rt{K:W.Frag}{J:It}{n:Nat}{p:Addr}{ds:List D}{same:Gp→Prop}{g:DTG}{tf:DTT}{tk tv:DTE}{Q:DK}{QV:VK}{σD:DSt}{σ:St}{G:Gp}{H:Hp}(rs:RelS K H σD σ)(rg:RelG K H G)(hp:H p=none)(cl:∀d G',Q d G'→Fwd K H G' fun H'=>∀v,DV K H' d v→QV v H')(hJ:∀H' G',Ext H H'→RelG K H' G'→same G'→ItemsX K J H' ds)(h:V8 n p ds same g tf tk tv σD (Ab G p (.dkk [])) Q) :
  ∃W:Nat→Nat→St→Hp→Prop,(∃m,W 0 m (List.replicate n none++σ) (upd H p (.dK [])))∧∀i m σ1 H,W i m σ1 H→
   ((J.stop i H∧QV (.ref p) H)∨(J.go i H∧∃N:St→Hp→Prop,(∀σ' H',N σ' H'→∃m',m'<m∧W (i+1) m' σ' H')∧
    ∀x H',J.yld i H x H'→Ek K g x σ1 H' fun σ2 H2=>Ef K tf σ2 H2 fun b H3=>if b=true then B5 K tk σ2 H3 fun y H4=>B5 K tv σ2 H4 fun z H5=>∃kvs k,y=kV k∧H5 p=some (.dK kvs)∧kvs.length<sizeLine∧N σ2 (upd H5 p (.dK (Fx kvs k z))) else N σ2 H3)):=by
 obtain⟨P,p0,keep,step,fin⟩:=h
 refine⟨fun i m σ' H'=>m=ds.length-i∧i≤ds.length∧RelS K H' (List.replicate n none++σD) σ'∧∃yd G',RelG K H' G'∧Ext H H'∧P i yd G',
  ⟨ds.length,rfl,Nat.zero_le _,(S1 n rs).ext (Ext.fresh hp),[],_,rg.dkN hp,Ext.fresh hp,p0⟩,?_⟩
 rintro i m σ1 H1 ⟨rfl,hi,rs1,yd,G1,rg1,x1,p1⟩
 obtain⟨sm,gp⟩:=keep i yd G1 hi p1
 have I:=hJ H1 G1 x1 rg1 sm
 by_cases hlt:i<ds.length
 ·refine .inr ⟨I.go i hlt,fun σ' H'=>RelS K H' (List.replicate n none++σD) σ'∧∃yd' G',RelG K H' G'∧Ext H H'∧P (i+1) yd' G',fun σ' H' ⟨a2,yd',G',a3,a4,a5⟩=>⟨ds.length-(i+1),by omega,rfl,hlt,a2,yd',G',a3,a4,a5⟩,fun x H' y=>?_⟩
  obtain⟨xe,rge,d,ed,dv⟩:=I.yl i x H' hlt y
  refine⟨d,_,G1,_,dv,rs1.ext xe,rge _ rg1,step i d yd G1 ed p1,fun σ2 G2 ⟨⟨pre,hpre,e2⟩,st2⟩ H2 x2 rg2 σ' rs2=>?_⟩
  have back:∀{H5:Hp} {σ5:St},RelS K H5 σ2 σ5→RelS K H5 (List.replicate n none++σD) σ5:=fun {H5 σ5} r=>by
   refine⟨by rw[←r.1,e2,List.length_append,List.length_append,List.length_replicate,hpre],fun j d e=>?_⟩
   refine r.2 j d ?_
   by_cases hj:j<n
   ·rw[List.getElem?_append_left (by simpa using hj),List.getElem?_replicate,if_pos hj] at e
    cases e
   ·rw[List.getElem?_append_right (by simpa using hj),List.length_replicate] at e
    rw[e2,List.getElem?_append_right (by omega),hpre];exact e
  refine⟨σ2,G2,_,rs2,rg2,st2,fun b G3 h3 H3 x3 rg3=>?_⟩
  have x13:=x1.trans (xe.trans (x2.trans x3))
  dsimp only at h3 ⊢
  cases b with
  |false=>
   rw[if_neg Bool.false_ne_true] at h3 ⊢
   obtain⟨G4,sb,p4⟩:=h3
   exact⟨back (rs2.ext x3),yd,G4,rg3.ext' sb,x13,p4⟩
  |true=>
   rw[if_pos rfl] at h3 ⊢
   refine⟨_,G3,_,rs2.ext x3,rg3,h3,fun y4 G4 h4 H4 x4 rg4 v4 d4=>?_⟩
   refine⟨_,G4,_,rs2.ext (x3.trans x4),rg4,h4,fun z G5 ⟨k,ek,e5,l5,G6,sb,p6⟩ H5 x5 rg5 v5 d5=>?_⟩
   obtain⟨xs,ex,r⟩:=rg5 p _ e5
   exact⟨xs,k,M7 ek d4,ex,by rw[←Aay r];exact l5,back ((rs2.ext (x3.trans (x4.trans x5))).ext (Mz ex)),_,G6,(rg5.dkW ex (Aax d5 r)).ext' sb,(x13.trans (x4.trans x5)).trans (Mz ex),p6⟩
 ·have e:i=ds.length:=by omega
  subst e
  exact .inl ⟨I.st,cl _ G1 (fin yd G1 p1) H1 x1 rg1 _ (.ref p)⟩
section
variable{X:Cx}{kx vx iter tg:Expr}{ifs:List Expr}{scope:Scope}{pos:Pos}{ti tk tv:DTE}{tf:DTT}{g:DTG}{T M:List Str}
def Wr(n:Nat)(ti:DTE)(g:DTG)(tf:DTT)(tk tv:DTE):DTE:=fun σ G Q=>ti σ G fun d G1=>∃ds,Av G1 d=some ds∧∀p,G1 p=none→V8 n p ds (fun G'=>Av G' d=some ds) g tf tk tv σ (Ab G1 p (.dkk [])) Q
end
end D3
set_option maxHeartbeats 1000000
namespace D3
open PySem PySem.Spec
open PyProof.Rows hiding St
open L2 hiding St
def Abu(P:Program)(w:World)(K:PySem.W.Frag)(a:Addr)(kvs:List (Key×V)):Prop:=(a == sysModules)=false∧∃o vs,K.lookup a=some o∧KV kvs vs∧o.IsDictOf (A3 P w) vs
def DRd(P:Program)(w:World)(h:Heap)(a:Addr)(kvs:List (Key×V)):Prop:=(a == sysModules)=false∧∃vs,KV kvs vs∧h.DictOf (A3 P w) a vs
def RdK(P:Program)(w:World)(K:PySem.W.Frag)(H:Hp)(a:Addr)(kvs:List (Key×V)):Prop:=H a=some (.dK kvs)∨Abu P w K a kvs
section
variable{X:Cx}{pins:List (Addr×Obj)}{σ:St}{H:Hp}{s:Shared}{a:Addr}{k:Key}{v:V}{kvs:List (Key×V)}{u:Value}{A:Around}{E:Value→Shared→Prop}
theorem RdK.rd(h:RdK X.prog X.w X.K H a kvs)(I:Inv X pins σ H s):DRd X.prog X.w s.heap a kvs:=by
 rcases h with h|⟨h1,o,vs,h2,h3,h4⟩
 ·obtain⟨_,hd,vs,rel,dd⟩:=L0 I.hok h
  exact⟨hd,vs,rel,dd⟩
 ·exact⟨h1,vs,h3,Heap.dictOf_iff.mpr ⟨o,I.kIn _ _ h2,h4⟩⟩
theorem Adz{Q:Value→Shared→Prop}(g:DRd X.prog X.w s.heap a kvs)(I:Inv X pins σ H s)(l:Dv kvs k=some v)(ry:RelV (kV k) u)(h:∀w' s',Inv X pins σ H s'→RelV v w'→Q w' s'):wpAny (model X.prog X.w) A (getItem (.ref a) u) Q E s:=by
 obtain⟨hd,vs,rel,dd⟩:=g
 obtain⟨w',hw,rw'⟩:=RelO.some_of (v:=v) (o:=valueAt vs k) (by rw[←l];exact rel.val k)
 exact wpAny_getItem_of (Lz ry) dd.mapOf hw (h w' _ (I.tok _) rw')
theorem Ym{Q:Value→Shared→Prop}(g:DRd X.prog X.w s.heap a kvs)(I:Inv X pins σ H s)(ry:RelV (kV k) u)(h:∀s',Inv X pins σ H s'→Q (.bool (!(Dv kvs k).isSome)) s'):wpAny (model X.prog X.w) A (compareOp .NotIn u (.ref a)) Q E s:=by
 obtain⟨hd,vs,rel,dd⟩:=g
 refine wpAny_notIn_of (Lz ry) hd dd.mapOf ?_
 rw[←(rel.val k).isSome_eq]
 exact h _ (I.tok _)
end
section
variable{X:Cx}
def tKGet(P:Program)(w:World)(K:PySem.W.Frag)(td ty:TE):TE:=fun σ H Q=>td σ H fun x H1=>ty σ H1 fun y H2=>∃a kvs k v,x=.ref a∧RdK P w K H2 a kvs∧y=kV k∧Dv kvs k=some v∧Q v H2
theorem Z2{o i:Expr}{td ty:TE}{pos:Pos}(ho:PE X o td)(hi:PE X i ty)(hs:NoSl i):PE X (.Subscript o i pos) (tKGet X.prog X.w X.K td ty):=by
 intro pins s σ H Q I h
 refine Zi PySem.F.slot_dict_getitem.lookup hs (thn (ho pins s σ H _ I h) fun u s1 ⟨x,H1,I1,rx,q1⟩=>thn (hi pins s1 σ H1 _ I1 q1) fun iv s2 ⟨y,H2,I2,ry,a,kvs,k,v,ex,g,ek,ev,q2⟩=>?_)
 subst ex ek
 obtain rfl:u=Value.ref a:=rx
 have g:=g.rd I2
 exact⟨let ⟨_,_,_,dd⟩:=g;dd.typeIs,Adz g I2 ev ry fun w' s3 I3 rw'=>⟨v,H2,I3,rw',q2⟩⟩
theorem Uf:OpR X (compareOp .NotIn) (fun x y H Q=>∃a kvs k,y=.ref a∧RdK X.prog X.w X.K H a kvs∧x=kV k∧Q (.bl (!(Dv kvs k).isSome)) H):=by
 intro pins s σ H x y v u Q I rx ry h
 obtain⟨a,kvs,k,rfl,g,rfl,q⟩:=h
 obtain rfl:u=Value.ref a:=ry
 exact Ym (g.rd I) I rx fun s' I'=>⟨.bl _,H,I',rfl,q⟩
end
def KD(P:Program)(w:World)(K:PySem.W.Frag)(a:Addr)(kvs:List (Key×D)):Prop:=∃ks,Abu P w K a ks∧∀H,Paired (Ent Key K H) kvs ks
section
variable{X:Cx}{e i o:Expr}{te ti td:DTE}{pos pos':Pos}{a:Addr}{kvs:List (Key×D)}
def dMIn(a:Addr)(kvs:List (Key×D))(neg:Bool):DR2:=fun x y G Q=>y=.ref a∧∃k,Ts x=some k∧Q (.bl (if neg=true then !(Jt kvs k).isSome else (Jt kvs k).isSome)) G
theorem isSome_eq{κ:Type}[DecidableEq κ]{K:W.Frag}{H:Hp}{k:κ}{kvs:List (κ×D)}{ks:List (κ×V)}(r:Paired (Ent κ K H) kvs ks):(Dv ks k).isSome=(Jt kvs k).isSome:=by
 rcases M9 (k:=k) r with ⟨e1,e2⟩|⟨d,v,e1,e2,_⟩
 ·rw[e1,e2];rfl
 ·rw[e1,e2];rfl
theorem o_mnotin(m:KD X.prog X.w X.K a kvs):QOp X (compareOp .NotIn) (dMIn a kvs true):=L2.OpR.imp Uf fun x y H Q ⟨dx,dy,G,Q',hx,hy,rg,⟨ep,k,ek,q⟩,cl⟩=>by
 subst ep
 cases hy
 obtain⟨ks,kd,r⟩:=m
 exact⟨a,ks,k,rfl,.inr kd,M7 ek hx,by rw[isSome_eq (r H)];exact cl _ _ q H (Ext.refl H) rg _ (.bl _)⟩
def Abn(a:Addr)(kvs:List (Key×D))(td ty:DTE):DTE:=fun σ G Q=>td σ G fun x G1=>ty σ G1 fun y G2=>x=.ref a∧∃k,Ts y=some k∧∃d,Jt kvs k=some d∧Q d G2
theorem q_mget(m:KD X.prog X.w X.K a kvs)(ho:QE X o td)(hi:QE X i ti)(hs:NoSl i:=by intro _ _;rfl):QE X (.Subscript o i pos) (Abn a kvs td ti):=(Z2 ho hi hs).imp fun σ H Q ⟨σD,G,Q',rs,rg,h,cl⟩=>by
 refine⟨σD,G,_,rs,rg,h,fun x G1 h1 H1 x1 rg1 v dv=>?_⟩
 refine⟨σD,G1,_,rs.ext x1,rg1,h1,fun y G2 ⟨ep,k,ek,d,ed,q⟩ H2 x2 rg2 v2 dv2=>?_⟩
 subst ep
 cases dv
 obtain⟨ks,kd,r⟩:=m
 rcases M9 (k:=k) (r H2) with ⟨e1,e2⟩|⟨d',w,e1,e2,dw⟩
 ·rw[ed] at e1;cases e1
 ·rw[ed] at e1;cases e1
  exact⟨a,ks,k,w,rfl,.inr kd,M7 ek dv2,e2,cl _ _ q H2 (x1.trans x2) rg2 _ dw⟩
end
end D3
set_option maxRecDepth 100000
set_option maxHeartbeats 1000000
namespace D3
open PySem PySem.Spec
open PyProof.Rows hiding St
open L2 hiding St
abbrev Cp:HO:=.ext fun _=>True
theorem N5{P:Program}{w:World}{H:Hp}{h:Heap}{a:Addr}{o:Obj}(e:h.get? a=some o):ObjOk P w H h a (.frz o Cp):=⟨e,True.intro,⟨o,e⟩,fun _ _ _ _=>True.intro⟩
section
variable{X:Cx}{pins:List (Addr×Obj)}{σ:List (Option V)}{H:Hp}{s:Shared}{h':Heap}
theorem Inv.grown{T:Addr}{t':Nat}{ps more:Array Value}(I:Inv X pins σ H s)(e:H T=some (.tbl ps))(k:∀b u,b≠T→s.heap.get? b=some u→h'.get? b=some u)(hT:h'.get? T=some (PySem.W.tabObj (ps++more))) :
  Inv X pins σ (upd H T (.tbl (ps++more))) { s with heap:=h',toks:=t' }:=by
 have nT:∀b,H b=none→b≠T:=fun b n z=>by rw[z,e] at n;cases n
 refine I.un ⟨fun b o q n _ _=>k b o (nT b n) q,fun b o q n _ _=>⟨o.slots,k b o (nT b n) q⟩,fun b o q n _=>by rw[Af (nT b n)];exact n,fun b o q _=>?_,fun b xs q=>?_,fun b o u q=>?_,fun b qs q=>?_⟩ fun b u q=>?_
 ·by_cases hb:b=T
  ·subst hb;exact⟨_,hT⟩
  ·exact⟨o,k b o hb q⟩
 ·rw[Af (Ej q e (fun z=>by cases z))];exact q
 ·rw[Af (Ej q e (fun z=>by cases z))];exact q
 ·by_cases hb:b=T
  ·subst hb
   rw[e] at q;cases q
   exact⟨more,Ak⟩
  ·exact⟨#[],by rw[Af hb,q];simp⟩
 ·by_cases hb:b=T
  ·subst hb
   rw[Ak] at q;cases q
   exact hT
  ·rw[Af hb] at q
   refine(I.hok b u q).stay (fun c v hc r=>k c v (fun z=>?_) r) (fun c r=>?_) fun c xs r=>?_
   ·subst z
    rcases hc with z|z
    ·exact hb z.symm
    ·rw[e] at z;cases z
   ·rw[Af (Ej r e (fun z=>by cases z))];exact r
   ·rw[Af (Ej r e (fun z=>by cases z))];exact r
theorem Inv.seen{a:Addr}{o:Obj}(I:Inv X pins σ H s)(ha:X.s₀.heap.objs.size≤a)(hL:a≠X.env.locals)(hc:∀x c,X.env.cells.lookup x=some c→c≠a)(hp:∀p∈X.pn++pins,p.1≠a)(hn:H a=none)(e:s.heap.get? a=some o) :
  Inv X pins σ (upd H a (.frz o Cp)) s:=by
 have nb:∀b o',X.s₀.heap.get? b=some o'→b≠a:=fun b o' q=>Nat.ne_of_lt (Nat.lt_of_lt_of_le (Heap.lt_size q) ha)
 refine⟨I.ok,I.os,I.bare,⟨I.base.keep,I.base.slot,fun b o' q n hx=>by rw[Af (nb b o' q)];exact I.base.free b o' q n hx,I.base.there,fun b xs q=>?_,fun b o' u q=>?_,fun b ps q=>?_⟩,I.loc,I.cell,by rw[Af hL.symm];exact I.free,fun x c q=>by rw[Af (hc x c q)];exact I.freeC x c q,fun p hq=>?_,fun b u q=>?_,I.len⟩
 ·have q:=I.base.tups b xs q
  rw[Af (Ax q hn)];exact q
 ·have q:=I.base.frzs b o' u q
  rw[Af (Ax q hn)];exact q
 ·obtain⟨m,q⟩:=I.base.tbls b ps q
  exact⟨m,by rw[Af (Ax q hn)];exact q⟩
 ·obtain⟨p1,p2,p3⟩:=I.pin p hq
  exact⟨p1,by rw[Af (hp p hq)];exact p2,p3⟩
 ·by_cases hb:b=a
  ·subst hb
   rw[Ak] at q;cases q
   exact N5 e
  ·rw[Af hb] at q
   exact(I.hok b u q).stay (fun c v _ r=>r) (fun c r=>by rw[Af (Ax r hn)];exact r) fun c xs r=>by rw[Af (Ax r hn)];exact r
end
abbrev lamO(q:Str)(params:Arguments)(body:Expr)(scope:Scope)(clos:List (Str×Addr))(pm cv ctv:Value):Obj:={ cls:=.type "function",data:=.func (PySem.W.kla_fn "<lambda>" q params body scope clos pm cv ctv) }
def tLam(T:Addr)(q:Str)(params:Arguments)(body:Expr)(scope:Scope)(clos:List (Str×Addr))(pm:Value)(pos:Pos):TE:=fun σ H Q=>∃ps,H T=some (.tbl ps)∧TriplesOk ps.toList∧
 (∀cv ctv f,codeAmong pos ps.toList=some cv→H f=none→Q (.ref f) (upd H f (.frz (lamO q params body scope clos pm cv ctv) Cp)))∧
 ∀c o ctv f,codeAmong pos ps.toList=none→H c=none→H f=none→c≠f→W1 o q→
  Q (.ref f) (upd (upd (upd H T (.tbl (ps ++ #[rawInt pos.line,rawInt pos.col,.ref c]))) c (.frz o Cp)) f (.frz (lamO q params body scope clos pm (.ref c) ctv) Cp))
theorem Ac8{X:Cx}{T c0:Addr}{params:Arguments}{body:Expr}{scope:Scope}{clos:List (Str×Addr)}{pos:Pos}(hdef:defaultsOf params X.env=([],[]))(hcl:closureFor scope X.env=pure clos)(hcode:X.env.code=.ref c0)(hC:PySem.W.codeHdIn X.K c0 T=true) :
  PE X (.Lambda params body scope pos) (tLam T (X.env.qual ++ "<lambda>") params body scope clos ((X.mg "__name__").getD .none) pos):=by
 intro pins s σ H Q I h
 obtain⟨ps,eT,ht,hit,mis⟩:=h
 have hP:s.heap.get? T=some (PySem.W.tabObj ps):=I.hok T _ eT
 have hC:=PySem.W.codeHd_of_K I.kIn hC
 have hg:s.heap.Ns mainGlobals X.mg:=I.mod.glob.keeps I.bk
 obtain⟨bm,ob,b1,b2,b3,b4,b5,b6⟩:=I.mod.bm
 have b3':=I.bk _ _ b3
 have hgT:mainGlobals≠T:=fun z=>by
  obtain⟨o,es,ep,e,hd,_⟩:=hg
  rw[z,hP] at e;cases e;cases hd
 have hbT:bm≠T:=fun z=>by rw[z,hP] at b3';cases b3';cases b4
 have hbG:bm≠mainGlobals:=fun z=>by
  obtain⟨o,es,ep,e,hd,_⟩:=hg
  rw[z,e] at b3';cases b3';rw[hd] at b6;cases b6
 have hB:s.heap.BuiltinsAt X.mg T:=⟨bm,ob,b1,b2,hbG,hbT,b3',b4,b5,b6⟩
 refine PySem.W.kla_eval hdef ?_
 cases hf:codeAmong pos ps.toList with
 |some cv=>
  refine PySem.W.kla_makeFunctionHit (mg:=X.mg) hcl I.ok.glob hg hcode hC hP ht hf hB fun ctv h' tk hk hsz=>?_
  have I1:Inv X pins σ H { s with heap:=h',toks:=tk }:=I.kept hk
  have I2:=I1.laid (t':=tk) (h':=h'.push (lamO (X.env.qual ++ "<lambda>") params body scope clos ((X.mg "__name__").getD .none) cv ctv)) (o:=.frz (lamO (X.env.qual ++ "<lambda>") params body scope clos ((X.mg "__name__").getD .none) cv ctv) Cp)
   (fun b u e=>Heap.get?_push_of_some _ e) (Nat.le_refl _) (N5 (Heap.get?_push_size _ rfl))
  exact⟨.ref h'.objs.size,_,I2,rfl,hit cv ctv _ hf (I1.hok.fresh (Nat.le_refl _))⟩
 |none=>
  refine PySem.W.kla_makeFunction (mg:=X.mg) hcl I.ok.glob hg hcode hC hP ht hf hgT hB fun c' ctv h' tk hx hge hlt hrec htb=>?_
  obtain⟨c₂,oc,vs,t,e2,hoc,hd,hv⟩:=hrec
  cases e2
  have nc:H c'=none:=I.hok.fresh hge
  have neT:c'≠T:=fun z=>by rw[z,eT] at nc;cases nc
  have I1:=Inv.grown (t':=tk) I eT (fun b u hb e=>hx b u hb e) htb
  have fo:=I.fpOk (H':=H) hge nc
  have I2:=Inv.seen I1 (Nat.le_trans I.sz hge) fo.2.1 fo.2.2.2.2.1 (fun p hp=>fo.2.2.2.2.2 p hp) (by rw[Af neT];exact nc) hoc
  have I3:=I2.laid (t':=tk) (h':=h'.push (lamO (X.env.qual ++ "<lambda>") params body scope clos ((X.mg "__name__").getD .none) (.ref c') ctv)) (o:=.frz (lamO (X.env.qual ++ "<lambda>") params body scope clos ((X.mg "__name__").getD .none) (.ref c') ctv) Cp)
   (fun b u e=>Heap.get?_push_of_some _ e) (Nat.le_refl _) (N5 (Heap.get?_push_size _ rfl))
  have ff:H h'.objs.size=none:=by
   cases q:H h'.objs.size with
   |none=>rfl
   |some u=>exact absurd (Nat.lt_of_lt_of_le (I.hok.lt q) (Nat.le_trans hge (Nat.le_of_lt hlt))) (Nat.lt_irrefl _)
  exact⟨.ref h'.objs.size,_,I3,rfl,mis c' oc ctv _ hf nc ff (Nat.ne_of_lt hlt) ⟨vs,t,hd,hv⟩⟩
end D3
set_option maxHeartbeats 1000000
namespace D3
open PySem PySem.Spec
open PyProof.Rows hiding St
open L2 hiding St
theorem Vl{p:Pos}{a b:Int}{c cv:Value}(l:List Value)(h:TriplesOk l)(e:codeAmong p (l++[rawInt a,rawInt b,c])=some cv):codeAmong p l=some cv∨cv=c:=by
 fun_induction TriplesOk l with
 |case1=>
  simp only[List.nil_append,rawInt,codeAmong] at e
  split at e
  ·cases e;exact .inr rfl
  ·cases e
 |case2 a' t b' u x rest ih=>
  simp only[List.cons_append,codeAmong] at e ⊢
  split at e
  ·rename_i hc;rw[if_pos hc];exact .inl e
  ·rename_i hc;rw[if_neg hc];exact ih h e
 |case3 l h1 h2=>exact h.elim
section
variable{X:Cx}
def nLam(T:Addr)(q:Str):DTE:=fun σ G Q=>G T=some (.tbl q)∧∀f,G f=none→Q (.ref f) G
theorem Ext.tbl{H:Hp}{p:Addr}{ps:Array Value}{u:HO}(e:H p=some (.tbl ps)):Ext H (upd H p u):=Ext.write e (fun xs z=>by cases z) (fun ob w z=>by cases z)
theorem q_lam{T c0:Addr}{params:Arguments}{body:Expr}{scope:Scope}{clos:List (Str×Addr)}{pos:Pos}(hdef:defaultsOf params X.env=([],[]))(hcl:closureFor scope X.env=pure clos)(hcode:X.env.code=.ref c0)(hC:PySem.W.codeHdIn X.K c0 T=true) :
  QE X (.Lambda params body scope pos) (nLam T (X.env.qual ++ "<lambda>")):=(Ac8 hdef hcl hcode hC).imp fun σ H Q ⟨σD,G,Q',rs,rg,⟨eT,h⟩,cl⟩=>by
 obtain⟨ps,e,ht,ok⟩:=rg T _ eT
 refine⟨ps,e,ht,fun cv ctv f hf hn=>?_,fun c o ctv f hf hc hn hne hci=>?_⟩
 ·exact cl _ _ (h f (rg.free hn)) _ (Ext.fresh hn) (rg.tup hn) _ (.ref f)
 ·have nT:∀{b:Addr},H b=none→b≠T:=fun {b} n z=>by rw[z,e] at n;cases n
  have x1:Ext H (upd H T (.tbl (ps ++ #[rawInt pos.line,rawInt pos.col,.ref c]))):=Ext.tbl e
  have c1:(upd H T (.tbl (ps ++ #[rawInt pos.line,rawInt pos.col,.ref c]))) c=none:=by rw[Af (nT hc)];exact hc
  have x2:Ext _ (upd (upd H T (.tbl (ps ++ #[rawInt pos.line,rawInt pos.col,.ref c]))) c (.frz o Cp)):=Ext.fresh c1
  have f2:(upd (upd H T (.tbl (ps ++ #[rawInt pos.line,rawInt pos.col,.ref c]))) c (.frz o Cp)) f=none:=by rw[Af hne.symm,Af (nT hn)];exact hn
  have x12:=x1.trans x2
  have rg2:RelG X.K (upd (upd H T (.tbl (ps ++ #[rawInt pos.line,rawInt pos.col,.ref c]))) c (.frz o Cp)) G:=fun b u eb=>by
   by_cases hb:b=T
   ·subst hb
    rw[eT] at eb;cases eb
    refine⟨ps ++ #[rawInt pos.line,rawInt pos.col,.ref c],by rw[Af (nT hc).symm,Ak],by simpa using TriplesOk_snoc _ _ _ _ ht,fun p cv q=>?_⟩
    rcases Vl _ ht (by simpa using q) with q|q
    ·obtain⟨c',o',u',a1,a2,a3⟩:=ok p cv q
     exact⟨c',o',u',a1,x12.frz _ _ _ a2,a3⟩
    ·exact⟨c,o,Cp,q,Ak,hci⟩
   ·exact((rg b u eb).upd x1 (.inr hb)).upd x2 (.inl c1)
  exact cl _ _ (h f (rg.free hn)) _ (x12.trans (Ext.fresh f2)) (rg2.tup f2) _ (.ref f)
end
end D3
set_option maxHeartbeats 1000000
namespace D3
open PySem PySem.Spec
open PyProof.Rows hiding St
open L2 hiding St
def Dk(H:Hp)(ts:List Addr):Hp:=fun b=>if b∈ts then some (.tbl #[]) else H b
theorem J3{H:Hp}{ts:List Addr}{b:Addr}(h:b∈ts):Dk H ts b=some (.tbl #[]):=if_pos h
theorem Dd{H:Hp}{ts:List Addr}{b:Addr}(h:b ∉ ts):Dk H ts b=H b:=if_neg h
structure Given(K:PySem.W.Frag)(ts:List Addr)(a:Addr)(ns:List Int)(H:Hp):Prop where
 tab:∀T∈ts,H T=some (.tbl #[])
 rest:∀b,b ∉ ts→H b=none∨∃o xs,H b=some (.frz o (.lst xs))
 arg:SqL K H a (ns.map V.int)
theorem Us{P:Program}{w:World}{K:W.Frag}{mg:Str→Option Value}{CX:CXT}{k:Nat}{fa a:Addr}{fd:FuncData}{x:Str}{sp:Sp}{s₁:Shared}{vs:List Value}{ns:List Int}{ts:List Addr}(KX:K.In s₁.heap)(hT:∀T∈ts,isCodeTable s₁.heap T∧s₁.heap.get? T=some (PySem.W.tabObj #[])∧K.lookup T=none)(hM:Mod K mg s₁.heap)(hg:s₁.gens=#[])(ha:s₁.heap.get? a=some { cls:=.type "list",data:=.seq vs.toArray })(hi:IntsAre vs ns)(hl:ns.length≤sizeLine)(hr:Room k callerA)(F:∀base:Heap,K.In base→base.Ns mainGlobals mg→FnOk P w K mg base CX k fa fd [x] sp)(hbind:∀(s:Shared) (u:Value),BindsTo s fd ⟨[u],[]⟩ [(x,u)])(hsp:∀H:Hp,Given K ts a ns H→sp [.ref a] H (fun v _=>v=.bl true) fun _ _ _=>False)(hCX:∀H e s',CX [] H s₁ (fun _ _ _=>False) e s'→False) :
  codeAny (model P w) callerA (.call (.ref fa) ⟨[.ref a],[]⟩) (fun r s'=>r=.ok (.ret (.bool true))∧OldK s₁.heap s'.heap∧s'.os=s₁.os∧AllBare s'.gens) s₁:=by
 have hat:a ∉ ts:=fun z=>by
  have e:=(hT a z).2.1
  rw[ha] at e;cases e
 have main:∀H0:Hp,(∀b,b≠a→H0 b=none)→(H0 a=none∨∃o xs,H0 a=some (.frz o (.lst xs)))→(H0 a≠none→K.lookup a=none)→SqL K H0 a (ns.map V.int)→HOk P w H0 s₁.heap→
   codeAny (model P w) callerA (.call (.ref fa) ⟨[.ref a],[]⟩) (fun r s'=>r=.ok (.ret (.bool true))∧OldK s₁.heap s'.heap∧s'.os=s₁.os∧AllBare s'.gens) s₁:=by
  intro H0 off at0 hK0 hS hok0
  have eA:Dk H0 ts a=H0 a:=Dd hat
  have gv:Given K ts a ns (Dk H0 ts):=⟨fun T h=>J3 h,fun b hb=>by
   rw[Dd hb]
   by_cases z:b=a
   ·rw[z];exact at0
   ·exact .inl (off b z),hS.elim (fun h=>.inl (h.elim (fun h=>.inl (by rw[eA];exact h)) fun⟨o,h⟩=>.inr ⟨o,by rw[eA];exact h⟩)) .inr⟩
  have hok:HOk P w (Dk H0 ts) s₁.heap:=fun b u q=>by
   by_cases hb:b∈ts
   ·rw[J3 hb] at q;cases q
    exact(hT b hb).2.1
   ·rw[Dd hb] at q
    have z:b=a:=Classical.byContradiction fun z=>by rw[off b z] at q;cases q
    subst z
    refine(hok0 b u q).stay (fun _ _ _ r=>r) (fun c r=>?_) fun c xs r=>?_
    ·have hc:c=b:=Classical.byContradiction fun z=>by rw[off c z] at r;cases r
     subst hc;rw[eA];exact r
    ·have hc:c=b:=Classical.byContradiction fun z=>by rw[off c z] at r;cases r
     subst hc;rw[eA];exact r
  have un:∀b o,s₁.heap.get? b=some o→(o.cls≠.none)→(o.cls≠.type "list")→Dk H0 ts b=none:=fun b o e n1 n2=>by
   by_cases hb:b∈ts
   ·rw[(hT b hb).2.1] at e;cases e;exact absurd rfl n1
   ·rw[Dd hb]
    refine off b fun z=>?_
    rw[z,ha] at e;cases e;exact absurd rfl n2
  have unD:∀b o es ep,s₁.heap.get? b=some o→o.data=.dict es ep→Dk H0 ts b=none:=fun b o es ep e d=>by
   by_cases hb:b∈ts
   ·rw[(hT b hb).2.1] at e;cases e;cases d
   ·rw[Dd hb]
    refine off b fun z=>?_
    rw[z,ha] at e;cases e;cases d
  have bo:∀{b:Addr} {o:Obj},s₁.heap.get? b=some o→Dk H0 ts b=none→(Mp s₁.heap (Dk H0 ts)).get? b=some o:=fun e n=>Yr e n
  have nsB:∀{b:Addr} {m:Str→Option Value},s₁.heap.Ns b m→(Mp s₁.heap (Dk H0 ts)).Ns b m:=fun {b m} ⟨o,es,ep,e,d,r⟩=>⟨o,es,ep,bo e (unD b o es ep e d),d,r⟩
  have kB:K.In (Mp s₁.heap (Dk H0 ts)):=fun b o e=>bo (KX b o e) (by
   by_cases hb:b∈ts
   ·rw[(hT b hb).2.2] at e;cases e
   ·rw[Dd hb]
    by_cases z:b=a
    ·subst z
     cases q:H0 b with
     |none=>rfl
     |some u=>rw[hK0 (by rw[q];simp)] at e;cases e
    ·exact off b z)
  have mB:Mod K mg (Mp s₁.heap (Dk H0 ts)):=⟨kB,nsB hM.glob,let ⟨mm,h1⟩:=hM.sm;⟨mm,nsB h1⟩,
   let ⟨bm,ob,b1,b2,b3,b4,b5⟩:=hM.bm;⟨bm,ob,b1,b2,bo b3 (un bm ob b3 (by rw[b4];exact fun z=>by cases z) (by rw[b4];exact fun z=>absurd (Value.type.inj z) (by decide))),b4,b5⟩,
   let ⟨mb,h1,h2⟩:=hM.blt;⟨mb,nsB h1,h2⟩,let ⟨mc,h1,h2⟩:=hM.nolimit;⟨mc,nsB h1,h2⟩⟩
  have e0:Env0 P w K mg (Mp s₁.heap (Dk H0 ts)) callerA [] s₁ (Dk H0 ts):=⟨rfl,mB,fun b o e=>Aaj e,Nat.le_of_eq (U2 _ _),trivial,fun b hb=>absurd (show b∈([]:List Addr) from hb) (by simp),hok,.of_eq hg⟩
  refine codeAny_mono ((F _ kB mB.glob).run callerA [] s₁ (Dk H0 ts) ⟨[.ref a],[]⟩ [.ref a] [.ref a] _ _ hr e0 (hbind s₁ (.ref a)) (.cons rfl .nil) (hsp _ gv)) fun r s' h=>?_
  cases r with
  |error e=>exact(hCX _ e s' h).elim
  |ok fl=>
   cases fl with
   |next=>exact False.elim h
   |brk=>exact False.elim h
   |cont=>exact False.elim h
   |ret u=>
    obtain⟨v,H',os,bare,ud,hok',r',q⟩:=h
    have q:v=.bl true:=q
    subst q
    obtain rfl:u=Value.bool true:=r'
    have keep:∀b o,b ∉ ts→s₁.heap.get? b=some o→s'.heap.get? b=some o:=fun b o hb e=>by
     rcases gv.rest b hb with z|⟨ob,xs,z⟩
     ·exact ud.keep b o e z (by intro z;exact absurd (show b∈([]:List Addr) from z) (by simp)) (by simp)
     ·obtain⟨e1,_⟩:=hok b _ z
      obtain⟨e2,_⟩:=hok' b _ (ud.frzs b ob _ z)
      rw[e] at e1;cases e1
      exact e2
    have grown:∀T∈ts,∃more,s'.heap.get? T=some (PySem.W.tabObj (#[]++more)):=fun T hb=>by
     obtain⟨more,z⟩:=ud.tbls T _ (J3 hb)
     exact⟨more,hok' T _ z⟩
    refine⟨rfl,⟨fun b o e=>?_,fun b o e=>?_⟩,os,bare⟩
    ·by_cases hb:b∈ts
     ·obtain⟨t1,t2,_⟩:=hT b hb
      rw[t2] at e;cases e
      obtain⟨more,z⟩:=grown b hb
      exact .inr (.inl ⟨t1,rfl,#[],more,rfl,z⟩)
     ·exact .inl (keep b o hb e)
    ·by_cases hb:b∈ts
     ·obtain⟨more,z⟩:=grown b hb
      exact⟨_,z⟩
     ·exact⟨o,keep b o hb e⟩
 have rv:=L2.vals_ints hi
 have lenV:=hi.length
 cases hk:K.lookup a with
 |some o=>
  have e:=KX a o hk
  rw[ha] at e;cases e
  exact main (fun _=>none) (fun _ _=>rfl) (.inl rfl) (fun z=>absurd rfl z) (.inr ⟨_,vs.toArray,_,hk,rfl,rfl,rfl,by rw[List.size_toArray,lenV];exact hl,by simpa using rv⟩) fun b u z=>by cases(show(none:Option HO)=some u from z)
 |none=>
  refine main (upd (fun _=>none) a (.frz { cls:=.type "list",data:=.seq vs.toArray } (.lst (ns.map V.int)))) (fun b z=>Af z) (.inr ⟨_,_,Ak⟩) (fun _=>hk) (.inl (.inr ⟨_,Ak⟩)) fun b u z=>?_
  by_cases hb:b=a
  ·subst hb
   rw[Ak] at z;cases z
   exact⟨ha,by rw[List.length_map];exact hl,vs,_,rv,ha⟩
  ·rw[Af hb] at z;cases z
theorem W6{l:PySem.W.OpenLaw}{n k:Nat}{q:Program}{loose:List Str}{XP:(Str→Option Value)→Heap→Prop}{YP:World→Heap→Prop}{d:DefRec}{K:Params→PySem.W.Frag}{CX:CXT}{sp:PySem.W.Frag→Sp}{x:Str}{ts:List Addr}(hi:importsNone q=true)(hn:l.most=some n)(hn2:n≤sizeLine)(hdf:d.params.defaults=[])(hr:Room k callerA)(hY:∀(w:World) (h:Heap),YP w h→(K w.params).In h∧∀T∈ts,h.get? T=some (PySem.W.tabObj #[]))(hC:∀(w:World) (h:Heap),(K w.params).In h→∀T∈ts,(∃c,PySem.W.codeHdIn (K w.params) c T=true)∧(K w.params).lookup T=none)(F:∀(w:World) (mg:Str→Option Value) (fa:Addr) (h:Heap),(K w.params).In h→h.Ns mainGlobals mg→mg d.name=some (.ref fa)→
   ∃fd:FuncData,(∀(s:Shared) (u:Value),BindsTo s fd ⟨[u],[]⟩ [(x,u)])∧∀base:Heap,(K w.params).In base→base.Ns mainGlobals mg→FnOk l.prog w (K w.params) mg base CX k fa fd [x] (sp (K w.params)))(hsp:∀(K:PySem.W.Frag) (H:Hp) (a:Addr) (ns:List Int),ns.length≤n→Given K ts a ns H→sp K [.ref a] H (fun v _=>v=.bl true) fun _ _ _=>False)(hCX:∀(H:Hp) (s:Shared) (e:Value) (s':Shared),CX [] H s (fun _ _ _=>False) e s'→False):PySem.W.WalkO q loose XP YP l.row.toRowW d [] (fun f vs=>PySem.call f vs):=by
 refine Att.attach_call hn hdf fun w s₀ s₁ mg mb fa o pm cd doc a vs ns G Y ho hd hcd hmg hobj hints hlen hg=>?_
 obtain⟨KX,tb⟩:=hY w _ Y
 obtain⟨fd,hb,hF⟩:=F w mg fa _ KX G.T.g hmg
 refine Us (ts:=ts) KX (fun T h=>?_) ⟨KX,G.T.g,let ⟨mm,h1,_⟩:=(G.T.seer hi).mods;⟨mm,h1⟩,G.T.bmain,⟨mb,G.T.b,G.T.builtins⟩,G.T.nolimit⟩ hg hobj hints (Nat.le_trans hlen hn2) hr hF hb (fun H g=>hsp _ H a ns hlen g) fun H e s'=>hCX H s₁ e s'
 obtain⟨⟨c,h1⟩,h2⟩:=hC w _ KX T h
 exact⟨((PySem.W.codeHd_of_K KX h1).tab (tb T h)).isCodeTable,tb T h,h2⟩
def Mu(ts:List (Addr×Str)):DSp:=fun ds G Q _=>∃ns:List Int,ds=[.lint ns]∧ns.length≤63∧(∀p∈ts,G p.1=some (.tbl p.2))∧∀G',Q (.bl true) G'
theorem Aaq(ts:List (Addr×Str))(nd:(ts.map (·.1)).Nodup)(K:PySem.W.Frag)(H:Hp)(a:Addr)(ns:List Int)(hl:ns.length≤63)(g:Given K (ts.map (·.1)) a ns H):liftSp K (Mu ts) [.ref a] H (fun v _=>v=.bl true) fun _ _ _=>False:=by
 have rd:RdI K H a (ns.map V.int):=by
  rcases g.arg with (h|h)|h
  ·by_cases ht:a∈ts.map (·.1)
   ·rw[g.tab a ht] at h;cases h
   ·rcases g.rest a ht with z|⟨o,xs,z⟩
    ·rw[h] at z;cases z
    ·rw[h] at z;cases z
  ·exact .inl h
  ·exact .inr h
 have look:∀(l:List (Addr×Str)) p,(l.map (·.1)).Nodup→p∈l→l.lookup p.1=some p.2:=fun l=>by
  induction l with
  |nil=>intro p _ h;cases h
  |cons y r ih=>
   intro p nd h
   rw[List.map_cons,List.nodup_cons] at nd
   rw[List.lookup_cons]
   rcases List.mem_cons.mp h with rfl|h
   ·rw[beq_self_eq_true]
   ·have ne:(p.1 == y.1)=false:=beq_eq_false_iff_ne.mpr fun z=>nd.1 (z ▸ List.mem_map_of_mem h)
    rw[ne];exact ih p nd.2 h
 have back:∀(l:List (Addr×Str)) b q,l.lookup b=some q→b∈l.map (·.1):=fun l=>by
  induction l with
  |nil=>intro b q h;cases h
  |cons y r ih=>
   intro b q h
   rw[List.lookup_cons] at h
   cases e:b == y.1 with
   |true=>rw[beq_iff_eq.mp e];simp
   |false=>rw[e] at h;exact List.mem_cons_of_mem _ (ih b q h)
 refine⟨[.lint ns],fun b=>(ts.lookup b).map GO.tbl,fun d _=>d=.bl true,fun _ _=>False,.cons (.lint rd) .nil,(fun b o e=>?_),⟨ns,rfl,hl,fun p hp=>by show(ts.lookup p.1).map GO.tbl=_;rw[look ts p nd hp];rfl,fun _=>rfl⟩,fun d G' e H' _ _ v dv=>?_,fun c G' (e:False)=>e.elim⟩
 ·obtain⟨q,eq,e⟩:=Option.map_eq_some_iff.mp e
  subst e
  exact⟨#[],g.tab b (back ts b q eq),True.intro,fun p cv z=>by cases z⟩
 ·have e:d=.bl true:=e
  subst e
  cases dv;rfl
end D3
namespace D3
open PySem PySem.Spec
open PyProof.Rows hiding St
open L2 hiding St
inductive AtomD:D→Value→Prop where
 |int (i:Int) (t:Tok):AtomD (.int i) (.int i t)
 |ref (a:Addr):AtomD (.ref a) (.ref a)
inductive EntsAre (w:World):List DictEntry→List (Key×D)→Prop where
 |nil:EntsAre w [] []
 |cons {x:Str} {t:Tok} {v:Value} {d:D} {r:List DictEntry} {rs:List (Key×D)} (dv:AtomD d v) (h:EntsAre w r rs):EntsAre w ({ hash:=PyData.keyHash w.params x,key:=.str x t,val:=v }::r) ((.inr x,d)::rs)
theorem kd_mk{P:Program}{w:World}{K:W.Frag}{a:Addr}{es:Array DictEntry}{ep:Nat}{kvs:List (Key×D)}(l:K.lookup a=some { cls:=.type "dict",data:=.dict es ep })(ha:(a == sysModules)=false)(hk:EntsAre w es.toList kvs)(nd:(kvs.map (·.1)).Nodup):KD P w K a kvs:=by
 have main:∀{l:List DictEntry} {kvs:List (Key×D)},EntsAre w l kvs→∃(ks:List (Key×V)) (vs:List (Key×Value)),KV ks vs∧(∀H,Paired (Ent Key K H) kvs ks)∧(∀e∈l,∃k,(A3 P w).is k e.key=true∧e.hash=(A3 P w).hash k)∧Pairs (A3 P w) l vs∧vs.map (·.1)=kvs.map (·.1):=by
  intro l kvs h
  induction h with
  |nil=>exact⟨[],[],.nil,fun H=>.nil,fun e h=>(by cases h),.nil,rfl⟩
  |@cons x t v d r rs dv h ih=>
   obtain⟨ks,vs,h1,h2,h3,h4,h5⟩:=ih
   have isx:(A3 P w).is (.inr x) (.str x t)=true:=Lz (k:=.inr x) ⟨t,rfl⟩
   obtain⟨u,ru,du⟩:∃u:V,RelV u v∧∀H,DV K H d u:=by
    cases dv with
    |int i t=>exact⟨.int i,⟨t,rfl⟩,fun H=>.int i⟩
    |ref a=>exact⟨.ref a,rfl,fun H=>.ref a⟩
   refine⟨(.inr x,u)::ks,(.inr x,v)::vs,.cons ⟨rfl,ru⟩ h1,fun H=>.cons ⟨rfl,du H⟩ (h2 H),fun e he=>?_,.cons isx rfl h4,by rw[List.map_cons,List.map_cons,h5]⟩
   rcases List.mem_cons.mp he with rfl|he
   ·exact⟨.inr x,isx,rfl⟩
   ·exact h3 e he
 obtain⟨ks,vs,h1,h2,h3,h4,h5⟩:=main hk
 exact⟨ks,⟨ha,_,vs,l,h1,es,ep,⟨rfl,rfl,rfl⟩,rfl,fun e he=>h3 e (by simpa using he),h4,by rw[h5];exact nd⟩,h2⟩
end D3
set_option maxRecDepth 100000
set_option maxHeartbeats 1000000
namespace D3
open PySem PySem.Spec
open PyProof.Rows hiding St
open L2 hiding St
section
variable{P:Program}{w:World}{A:Around}{E:Value→Shared→Prop}{s:Shared}
theorem Yl{a:Addr}{f:Value}{n:Nat}{Q:Fin→Shared→Prop}(ho:s.heap.get? a=some (seqObj "list" #[] n))(h:∀h' n',(∀b o,b≠a→s.heap.get? b=some o→h'.get? b=some o)→h'.get? a=some (seqObj "list" #[] n')→Q (.done (.ret .none)) { s with heap:=h' }):wpAny (model P w) A (ksk_tree a f false) Q E s:=by
 have ha:a<s.heap.objs.size:=Heap.lt_size ho
 have s1:=Heap.SameBut.update s.heap a (Obj.mapSeq fun _=>(#[]:Array Value))
 obtain⟨e1,ho1⟩:∃e1,(s.heap.update a (Obj.mapSeq fun _=>(#[]:Array Value))).get? a=some (seqObj "list" #[] e1):=⟨_,get?_update_seq ho fun _=>#[]⟩
 have hz1:(s.heap.update a (Obj.mapSeq fun _=>(#[]:Array Value))).objs.size=s.heap.objs.size:=by rw[Heap.size_update]
 unfold ksk_tree
 refine wpAny_bind (listItems_at ho rfl (wpAny_bind (listUpdate_at ho rfl ?_ (Nat.zero_le _) (Nat.zero_le _))))
 have k1:∀b o,b≠a→s.heap.get? b=some o→(s.heap.update a (Obj.mapSeq fun _=>(#[]:Array Value))).get? b=some o:=fun b o hb e=>(s1.2 b hb).trans e
 generalize s.heap.update a (Obj.mapSeq fun _=>(#[]:Array Value))=g1 at *
 refine wpAny_bind (seqEpoch_at ho1 rfl (wpAny_bind (wpAny_newTuple ?_ (Nat.zero_le _))))
 refine wpAny_bind (wpAny_newList ?_ (Nat.zero_le _))
 refine wpAny_holding ?_
 have ho2:((g1.push (seqObj "tuple" (#[]:Array Value).toList.toArray 0)).push (seqObj "list" ([]:List Value).toArray 0)).get? a=some (seqObj "list" #[] e1):=Heap.get?_push_of_some _ (Heap.get?_push_of_some _ ho1)
 have hk2:((g1.push (seqObj "tuple" (#[]:Array Value).toList.toArray 0)).push (seqObj "list" ([]:List Value).toArray 0)).get? (g1.push (seqObj "tuple" (#[]:Array Value).toList.toArray 0)).objs.size=some (seqObj "list" #[] 0):=Heap.get?_push_size _ rfl
 have k2:∀b o,b≠a→s.heap.get? b=some o→((g1.push (seqObj "tuple" (#[]:Array Value).toList.toArray 0)).push (seqObj "list" ([]:List Value).toArray 0)).get? b=some o:=fun b o hb e=>Heap.get?_push_of_some _ (Heap.get?_push_of_some _ (k1 b o hb e))
 have hlt:s.heap.objs.size<(g1.push (seqObj "tuple" (#[]:Array Value).toList.toArray 0)).objs.size:=by rw[Heap.size_push,hz1];exact Nat.lt_succ_self _
 generalize (g1.push (seqObj "tuple" (#[]:Array Value).toList.toArray 0)).objs.size=kS at *
 show wpAny _ _ _ _ _ { s with heap:=(g1.push (seqObj "tuple" (#[]:Array Value).toList.toArray 0)).push (seqObj "list" ([]:List Value).toArray 0) }
 generalize (g1.push (seqObj "tuple" (#[]:Array Value).toList.toArray 0)).push (seqObj "list" ([]:List Value).toArray 0)=g2 at *
 unfold ksk_rest
 refine wpAny_bind (wpAny_rule ?_)
 rw[←Array.forIn_toList]
 refine wpAny_bind (wpAny_pure ?_)
 refine wpAny_bind (listItems_at hk2 rfl ?_)
 unfold ksk_end
 simp only[Bool.false_eq_true,if_false]
 refine wpAny_bind (wpAny_pure ?_)
 refine wpAny_bind (wpAny_pure ?_)
 unfold ksk_tail
 have s3:=Heap.SameBut.update g2 kS (Obj.mapSeq fun _=>(#[]:Array Value))
 have hka:kS≠a:=Nat.ne_of_gt (Nat.lt_trans ha hlt)
 have ho3:(g2.update kS (Obj.mapSeq fun _=>(#[]:Array Value))).get? a=some (seqObj "list" #[] e1):=(s3.2 a hka.symm).trans ho2
 refine wpAny_bind (listUpdate_at hk2 rfl ?_ (Nat.zero_le _) (Nat.zero_le _))
 refine wpAny_bind (wpAny_letGo ?_)
 refine wpAny_bind (seqEpoch_at ho3 rfl ?_)
 have s4:=Heap.SameBut.update (g2.update kS (Obj.mapSeq fun _=>(#[]:Array Value))) a (Obj.mapSeq fun _=>(#[]:Array Value))
 obtain⟨e2,ho4⟩:∃e2,((g2.update kS (Obj.mapSeq fun _=>(#[]:Array Value))).update a (Obj.mapSeq fun _=>(#[]:Array Value))).get? a=some (seqObj "list" #[] e2):=⟨_,get?_update_seq ho3 fun _=>#[]⟩
 have ea:Array.map (fun(x:Keyed)=>x.2) (arrOf ((),SortSt.mk' general' ((#[]:Array Value).zip (#[]:Array Value)) #[] 7 none).2)=#[]:=by first|rfl|simp[arrOf,SortSt.mk']
 simp only[Bool.false_eq_true,if_false,ea]
 refine wpAny_bind (listUpdate_at ho3 rfl ?_ (Nat.zero_le _) (Nat.zero_le _))
 simp only[bne_self_eq_false,Bool.false_eq_true,if_false]
 refine wpAny_pure (h _ e2 (fun b o hb e=>(s4.2 b hb).trans ((s3.2 b (Nat.ne_of_lt (Nat.lt_trans (Heap.lt_size e) hlt))).trans (k2 b o hb e))) ?_)
 exact ho4
end
end D3
set_option maxRecDepth 100000
set_option maxHeartbeats 1000000
namespace D3
open PySem PySem.Spec
open PyProof.Rows hiding St
open L2 hiding St
open PySem.W (KdlSrc kdl_extend kdl_values)
section
variable{P:Program}{w:World}{A:Around}{E:Value→Shared→Prop}{s:Shared}
theorem Pw{T:String}{r d:Addr}{n:Nat}{F:Nat→Value→Prop}{OK:Heap→Prop}{Q:List Value→Shared→Prop}(K:KdlSrc P w T r d n F OK)(hh:A.handled=none)(hok:OK s.heap)(hn:n≤sizeLine)(h:∀h' tk acc,(∀b o,s.heap.get? b=some o→h'.get? b=some o)→ItemsOf F acc n→Q acc.toList { s with heap:=h',toks:=tk }):wpAny (model P w) A (collect (.ref r)) Q E s:=by
 obtain⟨hr,hd⟩:=K.there _ hok
 unfold collect
 refine wpAny_bind (wpAny_runValue (codeAny_builtin PySem.F.entry_proto_collect ?_));rw[Around.under_plainId PySem.F.plain_proto_collect _]
 show wpAny _ A.in1 (newList [] >>= fun l=>again (.builtin "list.__iadd__" ⟨[l,.ref r],[]⟩)) _ _ s;refine wpAny_bind (wpAny_newObj_type ?_)
 refine wpAny_pure ⟨plainId_quiet PySem.F.plain_list_iadd _,codeAny_builtin PySem.F.entry_list_iadd ?_⟩;rw[Around.under_plainId PySem.F.plain_list_iadd _]
 have hL1:(s.heap.push { cls:=.type "list",data:=.seq ([]:List Value).toArray }).get? s.heap.objs.size=some { cls:=.type "list",data:=.seq ([]:List Value).toArray }:=Heap.get?_push_size _ rfl
 have keep1:∀b o,s.heap.get? b=some o→(s.heap.push { cls:=.type "list",data:=.seq ([]:List Value).toArray }).get? b=some o:=fun b o e=>Heap.get?_push_of_some _ e
 generalize s.heap.push { cls:=.type "list",data:=.seq ([]:List Value).toArray }=g1 at *
 show wpAny _ A.in1 (Builtin.List.listExtendWith (.ref s.heap.objs.size) (.ref r) (.ref s.heap.objs.size)) _ _ { s with heap:=g1 }
 have key:=kdl_extend (A:=A) (s:={ s with heap:=g1 }) (R:=fun(q:Result) (s':Shared)=>∃h' tk acc c,q=.ok (.ret (.ref s.heap.objs.size))∧s'={ s with heap:=h',toks:=tk }∧(∀b o,s.heap.get? b=some o→h'.get? b=some o)∧h'.get? s.heap.objs.size=some { cls:=.type "list",dict:=none,data:=.seq acc c,slots:=#[] }∧ItemsOf F acc n)
  K hh (K.keep _ _ hok fun b _ o e=>keep1 b o e) s.heap.objs.size (Nat.ne_of_gt hr) (Nat.ne_of_gt hd) (.ref s.heap.objs.size) 0 hL1 (fun h' tk acc c hk hS hI=>⟨h',tk,acc,c,rfl,rfl,fun b o e=>hk b o (Nat.ne_of_lt (Heap.lt_size e)) (keep1 b o e),hS,hI⟩) hn
 refine wpAny_mono key (fun fin s' x=>?_) fun e s' x=>?_
 ·cases fin with
  |done f=>
   obtain⟨h',tk,acc,c,e,rfl,hk,hS,hI⟩:=x
   cases e
   show wpAny _ A (load s.heap.objs.size >>= _) _ _ _
   exact wpAny_bind (wpAny_load hS (wpAny_pure (h h' tk acc hk hI)))
  |again c₁=>
   refine⟨x.1,codeAny_mono x.2 fun q s₂ y=>?_⟩
   obtain⟨h',tk,acc,c,rfl,rfl,hk,hS,hI⟩:=y
   show wpAny _ A (load s.heap.objs.size >>= _) _ _ _
   exact wpAny_bind (wpAny_load hS (wpAny_pure (h h' tk acc hk hI)))
 ·obtain⟨_,_,_,_,e',_⟩:=x
  cases e'
theorem Q6{T:String}{r d f:Addr}{F:Nat→Value→Prop}{OK:Heap→Prop}{Q:Value→Shared→Prop}(K:KdlSrc P w T r d 0 F OK)(hh:A.handled=none)(hok:OK s.heap)(h:∀(g h':Heap) (tk:Tok) (n:Nat),(∀b o,s.heap.get? b=some o→g.get? b=some o)→(∀b o,g.get? b=some o→h'.get? b=some o)→h'.get? g.objs.size=some (seqObj "list" #[] n)→Q (.ref g.objs.size) { s with heap:=h',toks:=tk }) :
  wpAny (model P w) A (call (.builtin "sorted") [.ref r] [(Str.ofString "key",.ref f)]) Q E s:=by
 refine call_function_entry_kw kind_sorted plain_sorted entry_sorted (ksk_s1 _ _) ?_
 unfold Builtin.«sorted»
 refine wpAny_bind (m:=checkCount "sorted" 1 1 _) (wpAny_pure ?_)
 refine wpAny_bind (Pw (A:=A.in1) K hh hok (Nat.zero_le _) fun g tk acc keep hI=>?_)
 have ea:acc=#[]:=by
  have:=hI.1
  exact Array.eq_empty_of_size_eq_zero this
 subst ea
 refine wpAny_bind (wpAny_newList ?_ (Nat.zero_le _))
 have hoL:(g.push (seqObj "list" ([]:List Value).toArray 0)).get? g.objs.size=some (seqObj "list" #[] 0):=Heap.get?_push_size _ rfl
 show wpAny _ _ _ _ _ { s with heap:=g.push (seqObj "list" ([]:List Value).toArray 0),toks:=tk }
 refine wpAny_bind (wpAny_holding (wpAny_call_entry_kw slot_list_sort ⟨_,hoL,rfl⟩ entry_list_sort ?_ (ksk_l1 _ _)))
 show wpAny (model P w) _ (Builtin.«list.sort» ⟨[.ref g.objs.size],[(Str.ofString "key",.ref f)]⟩) _ _ _
 rw[ksk_t1]
 refine Yl (s:={ s with heap:=g.push (seqObj "list" ([]:List Value).toArray 0),toks:=tk }) hoL fun h' n' k1 ho=>⟨_,rfl,?_⟩
 exact wpAny_pure ⟨_,rfl,h g h' tk n' keep (fun b o e=>k1 b o (Nat.ne_of_lt (Heap.lt_size e)) (Heap.get?_push_of_some _ e)) ho⟩
end
end D3
set_option maxRecDepth 100000
set_option maxHeartbeats 1000000
namespace D3
open PySem PySem.Spec
open PyProof.Rows hiding St
open L2 hiding St
open PySem.W (KdlSrc kdl_extend kdl_values)
abbrev Jv(d:Addr):Obj:={ cls:=.type "dict_values",data:=.fields #[.ref d] }
abbrev Cr(d:Addr):Obj:={ cls:=.type "dict_items",data:=.fields #[.ref d] }
section
variable{X:Cx}{o e:Expr}{to:TE}{apos cpos pos p:Pos}
def Vv(mk:Addr→Obj)(to:TE):TE:=fun σ H Q=>to σ H fun x H1=>∃a kvs,x=.ref a∧H1 a=some (.dK kvs)∧∀v,H1 v=none→Q (.ref v) (upd H1 v (.frz (mk a) Cp))
theorem Ud(ho:PE X o to)(hbase:attributeBase o "values" X.env (eval o X.env)=eval o X.env)(hline:(apos.endLine == cpos.line)=true):PE X (.Call (.Attribute o "values" apos) [] [] cpos) (Vv Jv to):=by
 intro pins s σ H Q I h
 refine wpAny_Call_method0_late hbase hline (thn (ho pins s σ H _ I h) fun u s1 ⟨x,H1,I1,rx,a,kvs,ex,eh,q⟩=>?_)
 subst ex
 obtain rfl:u=Value.ref a:=rx
 obtain⟨t1,t2,t3⟩:=Ws I1 (.inl ⟨kvs,.inl eh⟩)
 obtain⟨_,_,vs,_,dd⟩:=L0 I1.hok eh
 refine⟨"dict", "dict.values",PySem.F.plainAttrs_dict,PySem.F.slot_dict_values,PySem.F.type_dict_values,t1,t2,Calls.callWith_builtin rfl (PySem.evalArgs_none ?_)⟩
 refine call_meetsIn PySem.F.slot_dict_values t1 PySem.F.entry_dict_values (PySem.F.args_dict_values_1 _) (meets_dict_values (A3 X.prog X.w) a t3) ⟨⟨vs,dd⟩,?_⟩
 exact⟨.ref s1.heap.objs.size,_,I1.laid (t':=s1.toks) (o:=.frz (Jv a) Cp) (fun b u e=>Heap.get?_push_of_some _ e) (Nat.le_refl _) (N5 (Heap.get?_push_size _ rfl)),rfl,q _ (I1.hok.fresh (Nat.le_refl _))⟩
theorem Xw(ho:PE X o to)(hbase:attributeBase o "items" X.env (eval o X.env)=eval o X.env)(hline:(apos.endLine == cpos.line)=true):PE X (.Call (.Attribute o "items" apos) [] [] cpos) (Vv Cr to):=by
 intro pins s σ H Q I h
 refine wpAny_Call_method0_late hbase hline (thn (ho pins s σ H _ I h) fun u s1 ⟨x,H1,I1,rx,a,kvs,ex,eh,q⟩=>?_)
 subst ex
 obtain rfl:u=Value.ref a:=rx
 obtain⟨t1,t2,t3⟩:=Ws I1 (.inl ⟨kvs,.inl eh⟩)
 obtain⟨_,_,vs,_,dd⟩:=L0 I1.hok eh
 refine⟨"dict", "dict.items",PySem.F.plainAttrs_dict,PySem.F.slot_dict_items,PySem.F.type_dict_items,t1,t2,Calls.callWith_builtin rfl (PySem.evalArgs_none ?_)⟩
 refine call_meetsIn PySem.F.slot_dict_items t1 PySem.F.entry_dict_items (PySem.F.args_dict_items_1 _) (meets_dict_items (A3 X.prog X.w) a t3) ⟨⟨vs,dd⟩,?_⟩
 exact⟨.ref s1.heap.objs.size,_,I1.laid (t':=s1.toks) (o:=.frz (Cr a) Cp) (fun b u e=>Heap.get?_push_of_some _ e) (Nat.le_refl _) (N5 (Heap.get?_push_size _ rfl)),rfl,q _ (I1.hok.fresh (Nat.le_refl _))⟩
def Zg(te tk:TE):TE:=fun σ H Q=>te σ H fun x H1=>tk σ H1 fun y H2=>∃v a f,x=.ref v∧y=.ref f∧H2 v=some (.frz (Jv a) Cp)∧H2 a=some (.dK [])∧∀q,H2 q=none→Q (.ref q) (upd H2 q (.lst []))
theorem Ue{lam:Expr}{te tk:TE}{kp:Pos}(hc:X.calm=true)(hg:Gl X "sorted")(hm:X.mg "sorted" = none)(he:PE X e te)(hk:PE X lam tk)(hs:starEach [e] X.env=[(false,eval e X.env)]:=by rfl):PE X (.Call (.Name "sorted" p) [e] [⟨some "key",lam,kp⟩] pos) (Zg te tk):=by
 intro pins s σ H Q I h
 refine wpAny_Call_Name_kw (D8 I hg hm boot_sorted ?_ (by decide) (by decide))
 have ha:PA X [e] (Ls te Qc):=E2 he pa_nil hs
 have hkw:PK X [⟨some "key",lam,kp⟩] (Ls tk Qc):=Sw hk Wh
 refine PyProof.Rows.callWith_kw (thn (ha pos pins s σ H (fun vs H1=>match vs with
   |[x]=>tk σ H1 fun y H2=>∃v a f,x=.ref v∧y=.ref f∧H2 v=some (.frz (Jv a) Cp)∧H2 a=some (.dK [])∧∀q,H2 q=none→Q (.ref q) (upd H2 q (.lst []))
   |_=>False) I h) fun us s1 ⟨vs,H1,I1,r1,q1⟩=>?_) (by rw[hs];rfl) (by rw[hs];rfl) rfl rfl
 match vs,r1,q1 with
 |[x],.cons (b:=u) rx .nil,q1=>
  refine thn (hkw pos pins s1 σ H1 (fun zs H2=>match zs with
   |[y]=>∃v a f,x=.ref v∧y=.ref f∧H2 v=some (.frz (Jv a) Cp)∧H2 a=some (.dK [])∧∀q,H2 q=none→Q (.ref q) (upd H2 q (.lst []))
   |_=>False) I1 q1) fun ws s2 ⟨zs,H2,I2,r2,q2⟩=>?_
  match zs,r2,q2 with
  |[y],.cons (b:=z) ry .nil,⟨v,a,f,ex,ey,ev,ea,q⟩=>
   subst ex ey
   obtain rfl:u=Value.ref v:=rx
   obtain rfl:z=Value.ref f:=ry
   obtain⟨_,hd,ks,rel,dd⟩:=L0 I2.hok ea
   cases rel
   obtain⟨ob,es,ep,h1,h2⟩:=dd
   have hv:s2.heap.get? v=some (Jv a):=(show ObjOk X.prog X.w H2 s2.heap v (.frz (Jv a) Cp) from I2.hok v _ ev).1
   refine Q6 (kdl_values (knd:=A3 X.prog X.w) (kvs:=[]) (r:=v) (d:=a) (ep:=ep)) (I2.ok.hd hc) ⟨⟨_,hv,rfl,rfl⟩,⟨ob,es,h1,h2⟩⟩ fun g h' tk n k1 k2 hL=>?_
   have I3:Inv X pins σ H2 { s2 with heap:=g,toks:=tk }:=I2.kept k1
   have I4:=I3.laid (h':=h') (t':=tk) (o:=.lst []) k2 (Nat.le_refl _) (show ObjOk X.prog X.w _ h' _ (.lst []) from⟨Nat.zero_le _,[],n,.nil,hL⟩)
   exact⟨.ref g.objs.size,_,I4,rfl,q _ (I3.hok.fresh (Nat.le_refl _))⟩
end
end D3
set_option maxRecDepth 100000
set_option maxHeartbeats 1000000
namespace D3
open PySem PySem.Spec
open PyProof.Rows hiding St
open L2 hiding St
section
variable{X:Cx}{o:Expr}{to:DTE}{apos cpos pos p:Pos}
def nSortV0(T:Addr)(q:Str)(to:DTE):DTE:=fun σ G Q=>to σ G fun x G1=>∃a,x=.ref a∧G1 a=some (.dkk [])∧G1 T=some (.tbl q)∧∀l,G1 l=none→Q (.ref l) (Ab G1 l (.lst []))
theorem Xk{T c0:Addr}{params:Arguments}{body:Expr}{scope:Scope}{clos:List (Str×Addr)}{lpos kp:Pos}(hc:X.calm=true)(hm:X.mg "sorted" = none)(ho:QE X o to)(hcode:X.env.code=.ref c0)(hC:PySem.W.codeHdIn X.K c0 T=true)(hcl:closureFor scope X.env=pure clos)(hg:Gl X "sorted":=by rfl)(hdef:defaultsOf params X.env=([],[]):=by rfl)(hbase:attributeBase o "values" X.env (eval o X.env)=eval o X.env:=by rfl)(hline:(apos.endLine == cpos.line)=true:=by rfl)(hs:starEach [.Call (.Attribute o "values" apos) [] [] cpos] X.env=[(false,eval (.Call (.Attribute o "values" apos) [] [] cpos) X.env)]:=by rfl) :
  QE X (.Call (.Name "sorted" p) [.Call (.Attribute o "values" apos) [] [] cpos] [⟨some "key",.Lambda params body scope lpos,kp⟩] pos) (nSortV0 T (X.env.qual ++ "<lambda>") to):=
 (Ue (kp:=kp) hc hg hm (Ud ho hbase hline) (q_lam (pos:=lpos) hdef hcl hcode hC) hs).imp fun σ H Q ⟨σD,G,Q',rs,rg,h,cl⟩=>by
  refine⟨σD,G,_,rs,rg,h,fun x G1 ⟨a,ex,ea,eT,q⟩ H1 x1 rg1 v dv=>?_⟩
  subst ex
  cases dv
  obtain⟨ks,eh,r⟩:=rg1 a _ ea
  cases r
  refine⟨a,[],rfl,eh,fun w hw=>?_⟩
  refine⟨σD,G1,fun y G2=>G2=G1∧∃f,y=.ref f,rs.ext (x1.trans (Ext.fresh hw)),rg1.tup hw,⟨eT,fun f _=>⟨rfl,f,rfl⟩⟩,fun y G2 ⟨e2,f,ey⟩ H2 x2 rg2 z dz=>?_⟩
  subst e2 ey
  cases dz
  obtain⟨ks2,eh2,r2⟩:=rg2 a _ ea
  cases r2
  refine⟨w,a,f,rfl,rfl,x2.frz _ _ _ Ak,eh2,fun l hl=>?_⟩
  exact cl _ _ (q l (rg2.free hl)) _ (x1.trans ((Ext.fresh hw).trans (x2.trans (Ext.fresh hl)))) (rg2.lst hl .nil) _ (.ref l)
end
end D3
set_option maxRecDepth 100000
set_option maxHeartbeats 1000000
namespace D3
open PySem PySem.Spec
open PyProof.Rows hiding St
open L2 hiding St
section
variable{X:Cx}{pins:List (Addr×Obj)}{σ:List (Option V)}{H:Hp}{s:Shared}
theorem Inv.freeze{a:Addr}{ks:List (Key×V)}{o:Obj}(I:Inv X pins σ H s)(e:H a=some (.dK ks))(ho:s.heap.get? a=some o):Inv X pins σ (upd H a (.frz o (.dK ks))) s:=by
 have na:∀b,H b=none→b≠a:=fun b n z=>by rw[z,e] at n;cases n
 have z:({ s with heap:=s.heap,toks:=s.toks }:Shared)=s:=rfl
 rw[←z]
 refine I.un (t':=s.toks) ⟨fun b o' q n _ _=>q,fun b o' q n _ _=>⟨o'.slots,q⟩,fun b o' q n _=>by rw[Af (na b n)];exact n,fun b o' q _=>⟨o',q⟩,fun b xs q=>?_,fun b o' u q=>?_,fun b ps q=>⟨#[],?_⟩⟩ fun b u q=>?_
 ·rw[Af (Ej q e (fun z=>by cases z))];exact q
 ·rw[Af (Ej q e (fun z=>by cases z))];exact q
 ·rw[Af (Ej q e (fun z=>by cases z)),q];simp
 ·have tp:∀c xs,H c=some (.tup xs)→(upd H a (.frz o (.dK ks))) c=some (.tup xs):=fun c xs r=>by rw[Af (Ej r e (fun z=>by cases z))];exact r
  have ow:∀c x,H c=some (.own x)→(upd H a (.frz o (.dK ks))) c=some (.own x):=fun c x r=>by rw[Af (Ej r e (fun z=>by cases z))];exact r
  by_cases hb:b=a
  ·subst hb
   rw[Ak] at q;cases q
   exact⟨ho,(I.hok b _ e).stay (fun _ _ _ r=>r) (fun c r=>ow c b r) tp⟩
  ·rw[Af hb] at q
   exact(I.hok b u q).stay (fun _ _ _ r=>r) (fun c r=>ow c b r) tp
end
theorem Lj:entryFor table "dict_itemiterator.__iter__" = some Builtin.«dict_keyiterator.__iter__»:=entryFor_alias (id':="dict_keyiterator.__iter__") (by kernel_rfl) rfl (by decide +kernel) (by kernel_rfl)
theorem Aas{P:Program}{w:World}{A:Around}{E:Value→Shared→Prop}{s:Shared}{it d:Addr}{i n ep:Nat}{ok ov:Value}{Q:Value→Shared→Prop}(hit:IsItemIter s.heap it d i n ep ok ov)(h:Q (.ref it) s):wpAny (model P w) A (pyIter (.ref it)) Q E s:=by
 have ty:s.TypeIs (.ref it) "dict_itemiterator":=⟨_,hit,rfl⟩
 refine wpAny_pyIter_slot ty PySem.F.slot_dict_itemiterator_iter (wpAny_call_entry PySem.F.slot_dict_itemiterator_iter ty Lj ?_ (PySem.F.args_dict_itemiterator_iter_1 _))
 exact wpAny_pure ⟨_,rfl, "dict_itemiterator",_,ty,PySem.F.slot_dict_itemiterator_next.lookup,h⟩
def It0(a:Addr)(o:Obj):It:=⟨fun _ _=>False,fun _ _ _ _=>False,fun i H=>H a=some (.frz o (.dK []))⟩
theorem Pf{P:Program}{w:World}{K:W.Frag}{tg:Expr}{a it:Addr}{o:Obj}{es:Array DictEntry}{ep:Nat}(hd:o.data=.dict es ep):Turn P w K tg (It0 a o) [it] it (fun i h=>IsItemIter h it a 0 0 ep .none .none) where
 mem:=by simp
 obj:=fun i h st b hb=>by
  have e:b=it:=by simpa using hb
  subst e
  exact⟨_,st,fun v z=>by cases z⟩
 keep:=fun i h h' st k=>k it (by simp) _ st
 item:=by
  intro X hP hw hK hc i pins s σ H E I hf st hg
  exact hg.elim
 done:=by
  intro X hP hw hK hc i pins s σ H E I hf st hg
  subst hP hw hK
  have hg:H a=some (.frz o (.dK [])):=hg
  obtain⟨h1,h2⟩:=(show ObjOk X.prog X.w H s.heap a (.frz o (.dK [])) from I.hok a _ hg)
  obtain⟨_,_,vs,rel,ob,es',ep',q1,q2,q3,q4⟩:=h2
  cases rel
  rw[h1] at q1;cases q1
  rw[hd] at q3;cases q3
  obtain⟨f0,f1,f2,f3,f4,f5⟩:=hf it (by simp)
  exact wpAny_pyNext_items_end (knd:=A3 X.prog X.w) (kvs:=[]) (I.ok.hd hc) st ⟨o,es,h1,q2,hd,q4⟩ rfl fun h' eb=>⟨rfl,I.turned (t':=s.toks) (fun b u hb e=>eb b u hb e) f0 f1 f3 f4 f5⟩
 self:=fun _ _ _ _ _ st h=>Aas st h
def Aat(to:TE):TI:=fun σ H R=>Vv Cr to σ H fun y H2=>∃v a,y=.ref v∧H2 v=some (.frz (Cr a) Cp)∧H2 a=some (.dK [])∧∀ob,R (It0 a ob) (upd H2 a (.frz ob (.dK [])))
theorem Uc{X:Cx}{o tg:Expr}{to:TE}{apos cpos:Pos}(hc:X.calm=true)(ho:PE X o to)(hbase:attributeBase o "items" X.env (eval o X.env)=eval o X.env)(hline:(apos.endLine == cpos.line)=true):PI X tg (.Call (.Attribute o "items" apos) [] [] cpos) (Aat to):=by
 intro pins s σ H R I h
 refine thn (Xw (to:=to) ho hbase hline pins s σ H _ I h) fun u s1 ⟨y,H2,I2,ry,v,a,ey,ev,ea,q⟩=>?_
 ·subst ey
  obtain rfl:u=Value.ref v:=ry
  have hv:s1.heap.get? v=some (Cr a):=(show ObjOk X.prog X.w H2 s1.heap v (.frz (Cr a) Cp) from I2.hok v _ ev).1
  obtain⟨_,hd,vs,rel,ob,es,ep,q1,q2,q3,q4⟩:=L0 I2.hok ea
  cases rel
  refine wpAny_pyIter_items (knd:=A3 X.prog X.w) (kvs:=[]) ⟨_,hv,rfl,rfl⟩ ⟨ob,es,q1,q2,q3,q4⟩ ?_
  have I3:Inv X pins σ H2 { s1 with heap:=s1.heap.push { cls:=.type "dict_itemiterator",data:=.fields #[.none,.bool false,.ref a,.int 0 0,.int ([]:List (Key×Value)).length 0,.int ep 0,.none,.none] } }:=I2.kept (t':=s1.toks) fun b u e=>Heap.get?_push_of_some _ e
  have I4:=Inv.freeze I3 ea (Heap.get?_push_of_some _ q1)
  have na:s1.heap.objs.size≠a:=Nat.ne_of_gt (Heap.lt_size q1)
  refine⟨s1.heap.objs.size,[s1.heap.objs.size],_,It0 a ob,_,rfl,I4,Pf q3,Heap.get?_push_size _ rfl,fun b hb=>?_,q ob⟩
  have e:b=s1.heap.objs.size:=by simpa using hb
  subst e
  have f:=I2.fpOk (H':=H2) (Nat.le_refl s1.heap.objs.size) (I2.hok.fresh (Nat.le_refl _))
  exact⟨by rw[Af na];exact f.1,f.2⟩
section
variable{X:Cx}{elt o tg:Expr}{ifs:List Expr}{scope:Scope}{pos apos cpos:Pos}{to:DTE}{T M:List Str}
def D6(G:Gp)(a:Addr):Gp:=fun b=>if b=a then none else G b
def S7(to:DTE):DTE:=fun σ G Q=>to σ G fun x G1=>∃a,x=.ref a∧G1 a=some (.dkk [])∧∀p,G1 p=none→Q (.ref p) (Ab (D6 G1 a) p (.lst []))
def gNo:TG:=fun _ _ _ _=>False
def tNoT:TT:=fun _ _ _=>False
def tNoE:TE:=fun _ _ _=>False
theorem Xm(hc:X.calm=true)(ok:CompOz X scope (Bz X.env.cells scope.names []) T M)(ho:QE X o to)(hbase:attributeBase o "items" X.env (eval o X.env)=eval o X.env:=by rfl)(hline:(apos.endLine == cpos.line)=true:=by rfl)(hs:∀x,foldedSetIterable (.Call (.Attribute o "items" apos) [] [] cpos) X.env x=pure x:=by intro _;rfl) :
  QE X (.ListComp elt [⟨tg,.Call (.Attribute o "items" apos) [] [] cpos,ifs,0⟩] scope pos) (S7 to):=
 (Ep (g:=gNo) (tf:=tNoT) (te:=tNoE) hc ok (Uc hc ho hbase hline) (fun s H fp pins s' σ H' x u Q I r z=>z.elim) (fun s H fp pins s' σ H' Q I z=>z.elim) (fun s H fp pins s' σ H' Q I z=>z.elim) hs).imp fun σ H Q ⟨σD,G,Q',rs,rg,h,cl⟩=>by
  refine⟨σD,G,_,rs,rg,h,fun x G1 ⟨a,ex,ea,q⟩ H1 x1 rg1 v dv=>?_⟩
  subst ex
  cases dv
  obtain⟨ks,eh,r⟩:=rg1 a _ ea
  cases r
  refine⟨a,[],rfl,eh,fun w hw=>⟨w,a,rfl,Ak,by rw[Af (Ax eh hw)];exact eh,fun ob p hp=>?_⟩⟩
  have e2:(upd H1 w (.frz (Cr a) Cp)) a=some (.dK []):=by rw[Af (Ax eh hw)];exact eh
  have x2:Ext H1 (upd H1 w (.frz (Cr a) Cp)):=Ext.fresh hw
  have x3:Ext (upd H1 w (.frz (Cr a) Cp)) (upd (upd H1 w (.frz (Cr a) Cp)) a (.frz ob (.dK []))):=Mz e2
  have rg3:RelG X.K (upd (upd H1 w (.frz (Cr a) Cp)) a (.frz ob (.dK []))) (D6 G1 a):=fun b u eb=>by
   by_cases hb:b=a
   ·subst hb;rw[D6,if_pos rfl] at eb;cases eb
   ·rw[D6,if_neg hb] at eb
    exact((rg1 b u eb).upd x2 (.inl hw)).upd x3 (.inr hb)
  have pG:G1 p=none:=by
   cases z:G1 p with
   |none=>rfl
   |some u=>
    by_cases hb:p=a
    ·subst hb;rw[Ak] at hp;cases hp
    ·have:=rg3.free hp
     rw[D6,if_neg hb,z] at this;cases this
  have fin:Q (.ref p) (upd (upd (upd H1 w (.frz (Cr a) Cp)) a (.frz ob (.dK []))) p (.lst [])):=cl _ _ (q p pG) _ (x1.trans (x2.trans (x3.trans (Ext.fresh hp)))) (rg3.lst hp .nil) _ (.ref p)
  refine⟨fun i m σ' H'=>H'=upd (upd (upd H1 w (.frz (Cr a) Cp)) a (.frz ob (.dK []))) p (.lst []),⟨0,rfl⟩,fun i m σ1 H' e=>.inl ⟨?_,by rw[e];exact fin⟩⟩
  show H' a=some (.frz ob (.dK []))
  rw[e,Af (Ax Ak hp),Ak]
end
end D3
set_option maxRecDepth 100000
set_option maxHeartbeats 1000000
namespace D3
open PySem PySem.Spec
open PyProof.Rows hiding St
open L2 hiding St
section
variable{X:Cx}
theorem call_sortedL:CallR X (.builtin "sorted") (fun xs H Q=>∃(l:Addr) (ns:List Int),xs=[.ref l]∧SqL X.K H l (ns.map V.int)∧ns.length<64∧∀p (ms:List Int),H p=none→ms.Perm ns→ms.Pairwise (·≤·)→Q (.ref p) (upd H p (.lst (ms.map V.int)))):=by
 intro pins s σ H xs us Q I r h
 obtain⟨l,ns,rfl,hl,hn,q⟩:=h
 obtain⟨u,rfl,rx⟩:=Fy r
 cases rx
 obtain⟨its,rv,pl,_⟩:=I.list hl
 have hl2:=rv.length
 rw[List.length_map] at hl2
 refine sorted_ints pl.isList (D3.E6 rv) (by omega) fun out ms hI hp hs=>?_
 obtain⟨e,he⟩:=sortedAll_at s.heap its out
 have I2:=I.laid (h':=sortedAll s.heap its out) (t':=s.toks) (o:=.lst (ms.map V.int)) (fun b o z=>sortedAll_old z) (Nat.le_succ _) (show ObjOk X.prog X.w _ _ _ (.lst _) from⟨by rw[List.length_map,hp.length_eq,sizeLine_eq];omega,out.toList,e,D3.vals_ints hI,by rw[he]⟩)
 exact⟨.ref (s.heap.objs.size+1),_,I2,rfl,q _ ms (I.hok.fresh (Nat.le_succ _)) hp hs⟩
theorem Yv:QC X (.builtin "sorted") (fun ds G Q=>∃d,ds=[d]∧∃p,d=.ref p∧∃ns:List Int,G p=some (.lst (ns.map D.int))∧ns.length<64∧∀l (ms:List Int),G l=none→ms.Perm ns→ms.Pairwise (·≤·)→Q (.ref l) (Ab G l (.lst (ms.map D.int)))):=call_sortedL.imp fun xs H Q ⟨ds,G,Q',dv,rg,⟨d,e,p,ep,ns,eg,hn,q⟩,cl⟩=>by
 subst e ep
 obtain⟨v,rfl,h⟩:=dv.one
 cases h
 obtain⟨ys,eh,r⟩:=rg p _ eg
 rw[Er r] at eh
 exact⟨p,ns,rfl,.inl (.inl eh),hn,fun l ms hl h1 h2=>cl _ _ (q l ms (rg.free hl) h1 h2) _ (Ext.fresh hl) (rg.lst hl DVs.ints) _ (.ref l)⟩
end
end D3
set_option maxRecDepth 100000
set_option maxHeartbeats 1000000
namespace D3
open PySem PySem.Spec
open PyProof.Rows hiding St
open L2 hiding St
section
variable{P:Program}{w:World}{A:Around}{E:Value→Shared→Prop}{s:Shared}
end
section
variable{X:Cx}
end
end D3
namespace D3
open PySem PySem.Spec
open PyProof.Rows hiding St
open L2 hiding St
def mNo:DTG:=fun _ _ _ _=>False
theorem Vx{X:Cx}{tg:Expr}:QG X tg mNo:=fun pins s σ H x u Q I r ⟨d,σD,G,Q',h1,h2,h3,z,_⟩=>z.elim
theorem V2{same:Gp→Prop}{g:DTG}{tb:DTS}{D:DEnds}{σ:DSt}{G:Gp}(s:same G)(h:D.nx σ G):N3 [] same g tb D σ G:=by
 exact⟨fun i σ' G'=>σ'=σ∧G'=G,⟨rfl,rfl⟩,fun i σ' G' _ e=>by rw[e.2];exact s,fun i x σ' G' e=>by simp at e,fun σ' G' e=>by rw[e.1,e.2];exact h⟩
end D3
set_option maxRecDepth 100000
set_option maxHeartbeats 1000000
namespace D3
open PySem PySem.Spec
open PyProof.Rows hiding St
open L2 hiding St
theorem Lk{P:Program}{w:World}{A:Around}{E:Value→Shared→Prop}{s:Shared}{r:Addr}{a b:Int}{t u v:Tok}{n:Nat}{Q:List Value→Shared→Prop}(hh:A.handled=none)(hr:IsRange s.heap r a b 1 t u v)(hsm:Builtin.Range.small a b 1=true)(hn:Builtin.Range.rangeSize a b 1=n)(hl:n≤2 ^ 24)(h:∀h' tk acc,(∀b o,s.heap.get? b=some o→h'.get? b=some o)→ItemsOf (fun i v=>∃t,v=.int (a+i*1) t) acc n→Q acc.toList { s with heap:=h',toks:=tk }):wpAny (model P w) A (collect (.ref r)) Q E s:=by
 have hlt:r<s.heap.objs.size:=Heap.lt_size hr
 unfold collect
 refine wpAny_bind (wpAny_runValue (codeAny_builtin PySem.F.entry_proto_collect ?_));rw[Around.under_plainId PySem.F.plain_proto_collect _]
 show wpAny _ A.in1 (newList [] >>= fun l=>again (.builtin "list.__iadd__" ⟨[l,.ref r],[]⟩)) _ _ s;refine wpAny_bind (wpAny_newObj_type ?_)
 refine wpAny_pure ⟨plainId_quiet PySem.F.plain_list_iadd _,codeAny_builtin PySem.F.entry_list_iadd ?_⟩;rw[Around.under_plainId PySem.F.plain_list_iadd _]
 have hL1:(s.heap.push { cls:=.type "list",data:=.seq ([]:List Value).toArray }).get? s.heap.objs.size=some { cls:=.type "list",data:=.seq ([]:List Value).toArray }:=Heap.get?_push_size _ rfl
 have keep1:∀b o,s.heap.get? b=some o→(s.heap.push { cls:=.type "list",data:=.seq ([]:List Value).toArray }).get? b=some o:=fun b o e=>Heap.get?_push_of_some _ e
 generalize s.heap.push { cls:=.type "list",data:=.seq ([]:List Value).toArray }=g1 at *
 show wpAny _ A.in1 (Builtin.List.listExtendWith (.ref s.heap.objs.size) (.ref r) (.ref s.heap.objs.size)) _ _ { s with heap:=g1 }
 have key:=wpAny_extend_range (prog:=P) (w:=w) (A:=A) (s:={ s with heap:=g1 }) (R:=fun(q:Result) (s':Shared)=>∃h' tk acc c,q=.ok (.ret (.ref s.heap.objs.size))∧s'={ s with heap:=h',toks:=tk }∧(∀b o,s.heap.get? b=some o→h'.get? b=some o)∧h'.get? s.heap.objs.size=some { cls:=.type "list",dict:=none,data:=.seq acc c,slots:=#[] }∧ItemsOf (fun i v=>∃t,v=.int (a+i*1) t) acc n)
  hh (keep1 _ _ hr) hsm hn hl s.heap.objs.size (.ref s.heap.objs.size) 0 hL1 (fun h' tk acc c hk hS hI=>⟨h',tk,acc,c,rfl,rfl,fun b o e=>hk b o (Nat.ne_of_lt (Heap.lt_size e)) (keep1 b o e),hS,hI⟩)
 refine wpAny_mono key (fun fin s' x=>?_) fun e s' x=>?_
 ·cases fin with
  |done f=>
   obtain⟨h',tk,acc,c,e,rfl,hk,hS,hI⟩:=x
   cases e
   show wpAny _ A (load s.heap.objs.size >>= _) _ _ _
   exact wpAny_bind (wpAny_load hS (wpAny_pure (h h' tk acc hk hI)))
  |again c₁=>
   refine⟨x.1,codeAny_mono x.2 fun q s₂ y=>?_⟩
   obtain⟨h',tk,acc,c,rfl,rfl,hk,hS,hI⟩:=y
   show wpAny _ A (load s.heap.objs.size >>= _) _ _ _
   exact wpAny_bind (wpAny_load hS (wpAny_pure (h h' tk acc hk hI)))
 ·obtain⟨_,_,_,_,e',_⟩:=x
  cases e'
theorem Gq(r:Addr)(a b:Int)(t u v:Tok)(n:Nat)(hsm:Builtin.Range.small a b 1=true)(hn:Builtin.Range.rangeSize a b 1=n)(hl:n≤2 ^ 24) :
  Meets (Builtin.«tuple.__new__» ⟨[.type "tuple",.ref r],[]⟩) (fun A R s=>A.handled=none∧IsRange s.heap r a b 1 t u v∧∀(h':Heap) (tk:Tok) (acc:Array Value),(∀b o,s.heap.get? b=some o→h'.get? b=some o)→ItemsOf (fun i v=>∃t,v=.int (a+i*1) t) acc n→
   R (.ok (.ret (.ref h'.objs.size))) { s with heap:=h'.push { cls:=.type "tuple",data:=.seq acc },toks:=tk }):=
 .of_wp fun prog w A R s h=>by
  obtain⟨hp,g,d,tk,os⟩:=s;obtain⟨hh,ht,h⟩:=h
  have hsub:=sub_tuple_self
  have hinit:=init_tuple_lookup
  have hmh:=madeHere_tuple
  have hT:Shared.TypeIs ⟨hp,g,d,tk,os⟩ (.ref r) "range":=⟨_,ht,rfl⟩
  wp_walk using wpAny_loadPart' ht,wpAny_typeOf hT,Lk (A:=A.in1) (s:=⟨hp,g,d,tk,os⟩) hh ht hsm hn hl
  intro h' tk' acc hk hI
  show wpAny _ _ (Builtin.Tuple.tupleExact acc.toList.toArray >>= fun v=>ret v) _ _ _
  unfold Builtin.Tuple.tupleExact
  have ha:acc.size≤sizeLine:=by rw[hI.1,sizeLine_eq];exact hl
  refine wpAny_bind (wpAny_newObj_type ?_ (by show acc.toList.toArray.size≤sizeLine;simpa using ha))
  refine wpAny_pure ⟨_,rfl,?_⟩
  have e:acc.toList.toArray=acc:=by simp
  rw[e]
  exact h h' tk' acc hk hI
end D3
set_option maxRecDepth 100000
set_option maxHeartbeats 1000000
namespace D3
open PySem PySem.Spec
open PyProof.Rows hiding St
open L2 hiding St
section
variable{X:Cx}{a b:Expr}{ta:TA}{tA:DTA}{p p0 pos pos0:Pos}
theorem Xh{lo:Int}:∀{n:Nat} {l:List Value},l.length=n→(∀(j:Nat) v,l[j]? = some v→∃t,v=.int (lo+(j:Nat)*1) t)→Vals ((List.range n).map fun k=>V.int (lo+(k:Nat))) l:=by
 intro n l hn h
 subst hn
 induction l generalizing lo with
 |nil=>exact .nil
 |cons x r ih=>
  rw[List.length_cons,List.range_succ_eq_map,List.map_cons,List.map_map]
  obtain⟨t,e⟩:=h 0 x rfl
  refine .cons ⟨t,by rw[e];simp⟩ ?_
  have:=ih (lo:=lo+1) fun j v hv=>by
   obtain⟨t,e⟩:=h (j+1) v (by simpa using hv)
   exact⟨t,by rw[e];congr 1;push_cast;omega⟩
  have e2:((fun k:Nat=>V.int (lo+(k:Nat))) ∘ Nat.succ)=fun k:Nat=>V.int (lo+1+(k:Nat)):=by
   funext k
   show V.int (lo+((k+1:Nat):Int))=_
   congr 1;push_cast;omega
  rw[e2];exact this
theorem Px(hc:X.calm=true):CallR X (.type "tuple") (fun xs H Q=>∃(r:Addr) (i j:Int),xs=[.ref r]∧H r=some (.rng i j)∧(-(2 ^ 62)≤i∧i<2 ^ 62∧-(2 ^ 62)≤j∧j<2 ^ 62)∧(j-i).toNat≤2 ^ 24∧∀l,H l=none→Q (.ref l) (upd H l (.tup ((List.range (j-i).toNat).map fun k=>V.int (i+(k:Nat)))))):=by
 intro pins s σ H xs us Q I rr h
 obtain⟨r,i,j,rfl,er,⟨q1,q2,q3,q4⟩,hl,q⟩:=h
 obtain⟨u,rfl,rx⟩:=Fy rr
 cases rx
 obtain⟨t,u,v,ho⟩:=(show ObjOk X.prog X.w H s.heap r (.rng i j) from I.hok r _ er)
 have hn:Builtin.Range.rangeSize i j 1=((j-i).toNat:Nat):=by rw[rangeSize_one];split<;>omega
 refine callType_new PySem.F.called_tuple (by decide) (PySem.F.typeCall_tuple_1 _) (PySem.F.newCall_tuple_1 _) (fun obj=>PySem.F.args_object_init_2 obj _) PySem.F.entry_tuple_new
  (Gq r i j t u v _ (small_one q1 q2 q3 q4) hn hl) ⟨I.ok.hd hc,ho,fun h' tk acc keep hI=>⟨⟨_,Heap.get?_push_size _ rfl,rfl⟩,?_⟩⟩
 have I1:Inv X pins σ H { s with heap:=h',toks:=tk }:=I.kept keep
 have I2:=I1.laid (t':=tk) (h':=h'.push { cls:=.type "tuple",data:=.seq acc }) (o:=.tup ((List.range (j-i).toNat).map fun k=>V.int (i+(k:Nat)))) (fun b o e=>Heap.get?_push_of_some _ e) (Nat.le_refl _)
  (show ObjOk X.prog X.w _ _ _ (.tup _) from⟨by rw[List.length_map,List.length_range,sizeLine_eq];exact hl,acc.toList,Xh (by simpa using hI.1) (fun k v hv=>hI.2 k v (by simpa using hv)),IsTup.new _ _⟩)
 exact⟨.ref h'.objs.size,_,I2,rfl,q _ (I1.hok.fresh (Nat.le_refl _))⟩
def tRng2(ta:TA):TE:=fun σ H Q=>ta σ H fun vs H1=>∃i j:Int,vs=[.int i,.int j]∧∀r,H1 r=none→Q (.ref r) (upd H1 r (.rng i j))
theorem Zz(hg:Gl X "range")(hm:X.mg "range" = none)(ha:PA X [a,b] ta)(hs:starEach [a,b] X.env=[(false,eval a X.env),(false,eval b X.env)])(hs2:starEach [b] X.env=[(false,eval b X.env)]):PE X (.Call (.Name "range" p) [a,b] [] pos) (tRng2 ta):=by
 intro pins s σ H Q I h
 refine Call_ (D8 I hg hm boot_range (PyProof.Rows.callWith_type1 (thn (ha pos pins s σ H _ I h) fun us s1 ⟨vs,H1,I1,r1,q1⟩=>?_) (by rw[hs,hs2]) (by rw[hs2];rfl)))
 obtain⟨i,j,e,q⟩:=q1
 subst e
 obtain⟨u,w,rfl,ru,rw'⟩:=Lr r1
 obtain⟨t,rfl⟩:=ru
 obtain⟨t',rfl⟩:=rw'
 refine call_range_2 ?_
 exact⟨.ref s1.heap.objs.size,_,I1.laid (o:=.rng i j) (fun b u e=>Heap.get?_push_of_some _ e) (Nat.le_refl _) ⟨_,_,_,Heap.get?_push_size _ rfl⟩,rfl,q _ (I1.hok.fresh (Nat.le_refl _))⟩
def Abh(tA:DTA):DTE:=fun σ G Q=>tA σ G fun ds G1=>∃i j,ds=[.int i,.int j]∧(-(2 ^ 62)≤i∧i<2 ^ 62∧-(2 ^ 62)≤j∧j<2 ^ 62)∧(j-i).toNat≤2 ^ 24∧Q (.tup (C6 i j)) G1
theorem O5{K:W.Frag}{H:Hp}{i:Int}:∀l:List Nat,DVs K H (l.map fun k=>D.int (i+(k:Nat))) (l.map fun k=>V.int (i+(k:Nat)))
 |[]=>.nil
 |_::r=>.cons (.int _) (O5 r)
theorem Acl(hc:X.calm=true)(hmT:X.mg "tuple" = none)(hm:X.mg "range" = none)(ha:QA X [a,b] tA)(hgT:Gl X "tuple":=by rfl)(hg:Gl X "range":=by rfl)(hs:starEach [a,b] X.env=[(false,eval a X.env),(false,eval b X.env)]:=by rfl)(hs2:starEach [b] X.env=[(false,eval b X.env)]:=by rfl)(hs1:starEach [.Call (.Name "range" p0) [a,b] [] pos0] X.env=[(false,eval (.Call (.Name "range" p0) [a,b] [] pos0) X.env)]:=by rfl) :
  QE X (.Call (.Name "tuple" p) [.Call (.Name "range" p0) [a,b] [] pos0] [] pos) (Abh tA):=by
 refine(Hk (Px hc) hgT hmT (by decide +kernel) (E2 (Zz hg hm ha hs hs2) pa_nil hs1) (he:=hs1)).imp fun σ H Q ⟨σD,G,Q',rs,rg,h,cl⟩=>?_
 refine⟨σD,G,_,rs,rg,h,fun ds G1 ⟨i,j,e,bd,hl,q⟩ H1 x1 rg1 vs dv=>?_⟩
 subst e
 obtain⟨u,w,rfl,ru,rw'⟩:=dv.two
 cases ru;cases rw'
 refine⟨i,j,rfl,fun r hr=>⟨r,i,j,rfl,Ak,bd,hl,fun l hl'=>?_⟩⟩
 have x2:Ext H1 (upd H1 r (.rng i j)):=Ext.fresh hr
 exact cl _ _ q _ (x1.trans (x2.trans (Ext.fresh hl'))) ((rg1.tup hr).tup hl') _ (.tup Ak (O5 _))
end
end D3
set_option maxRecDepth 100000
set_option maxHeartbeats 1000000
namespace D3
open PySem PySem.Spec
open PyProof.Rows hiding St
open L2 hiding St
section
variable{X:Cx}{e b:Expr}{te tb:DTE}{p2 pos:Pos}
end
end D3
namespace D3
open PySem PySem.Spec
open PyProof.Rows hiding St
open L2 hiding St
theorem q_globr{X:Cx}{x:Str}{a:Addr}{pos:Pos}(hm:X.mg x=some (.ref a))(hg:Gl X x:=by rfl)(hd:(x == ("__debug__" : Str))=false:=by decide):QE X (.Name x pos) (nC (.ref a)):=
 Lw (v:=.ref a) (S0 hg hm rfl hd) fun _=>.ref a
theorem Qn{X:Cx}{ss:List Stmt}:QSs X ss Wq:=fun _ _ _ _ _ _ ⟨_,_,_,_,_,z,_⟩=>z.elim
end D3
namespace D3
open PySem PySem.Spec
open PyProof.Rows hiding St
open L2 hiding St
section
variable{P:Program}{w:World}{K:W.Frag}{mg:Str→Option Value}{base:Heap}
theorem okDc{x qual:Str}{st:Stmt}{f c0:Addr}{fd:FuncData}{N ps:List Str}{k:Nat}{sp:DSp}(F:Fun K x qual st f fd)(hc:fd.code=.ref c0)(S:FnScope N ps (defScope st))(len:∀ds G Q E,sp ds G Q E→ds.length=ps.length)(hbody:∀(A:Around) (outer:List Env) (s:Shared) (H:Hp) (XE:XK) (ds:List D) (G:Gp) (Q:DK) (E:DX),Room k (A.deeper (envOfC qual (defScope st) s.heap.objs.size f (.ref c0)))→sp ds G Q E→
   ∃t,QSs (Mq CX0 P w K mg base N qual (defScope st) f (.ref c0) A outer s H XE).nox (defBody st) t∧t { nx:=fun _ G'=>Fq Q .non G',rt:=Fq Q } (Ah N ds) G):FnOk P w K mg base CX0 (k+1) f fd ps (liftSp K sp):=by
 obtain⟨oc,od,kV,doc,pm,an,cdv,ct,osl,rfl,lk,hcd⟩:=F.ex
 have hc:cdv=.ref c0:=hc
 subst hc
 refine Abr lk hcd S (fun vs H Q E ⟨ds,G,Q',E',dv,rg,h,_⟩=>by rw[←dv.length];exact len ds G Q' E' h) fun A outer s H vs Q E hr ⟨ds,G,Q',E',dv,rg,h,cl,_⟩=>?_
 obtain⟨t,ht,hq⟩:=hbody A outer s H E ds G Q' E' hr h
 refine⟨_,ht.nox,Ah N ds,G,_,L5 dv,rg,hq,⟨fun σD G1 ⟨G2,sb,q⟩ H1 x1 rg1 σ rs=>cl _ G2 q H1 x1 (rg1.ext' sb) _ .non,fun d G1 ⟨G2,sb,q⟩ H1 x1 rg1 v dv=>cl _ G2 q H1 x1 (rg1.ext' sb) _ dv,fun _ _ z=>z.elim,fun _ _ z=>z.elim⟩⟩
def inCls(st:Stmt)(j:Nat):Stmt:=match st with
 |.ClassDef _ _ _ body _ _ _ _ _ _ _=>body.getD j (.Pass ⟨0,0,0,0⟩)
 |_=>.Pass ⟨0,0,0,0⟩
end
end D3
set_option maxHeartbeats 1000000
namespace D3
open PySem PySem.Spec
open PyProof.Rows hiding St
open L2 hiding St
theorem Zt{X:Cx}{i0:Nat}{y0:Str}{py spos:Pos}{elt iter tg:Expr}{ifs:List Expr}{scope:Scope}{cl:List (Str×Addr)}{pos:Pos}{wi:TI}{g:TG}{tf:TT}{te:TE}{T M:List Str}(hc:X.calm=true)(ok:CompOz X scope cl T M)(hi:PI X tg iter wi)(hg:∀s H fp,PG (An X scope cl T M s H fp) tg g)(hf:∀s H fp,PF (An X scope cl T M s H fp) ifs tf)(he:∀s H fp,PE (An X scope cl T M s H fp) elt te)(hN:X.N.Nodup)(hi0:X.N[i0]? = some y0)(hy:Loc X.env.scope y0)(hfn:X.fn y0=true∨X.env.scope.names.lookup y0=some .local)(hsw:swapsWith (.ListComp elt [⟨tg,iter,ifs,0⟩] scope pos) (some (.Name y0 py)) spos.line X.env=pure true)(hs:∀x,foldedSetIterable iter X.env x=pure x:=by intro _;rfl):PS X (.Assign [.Name y0 py] (.ListComp elt [⟨tg,iter,ifs,0⟩] scope pos) spos) (Vp (Qg T.length wi g tf te) (Sh i0)):=by
 intro pins s σ H D I h
 have h:(Qg T.length wi g tf te) σ H (fun v H1=>D.nx (σ.set i0 (some v)) H1):=h
 rw[exec_Assign_Name_used _ _ _ _ hsw]
 refine wpAny_bind (wpAny_standAt (wpAny_bind ?_))
 show wpAny _ X.A (do let _ ←comprehension (.ListComp elt [⟨tg,iter,ifs,0⟩] scope pos) scope X.env _ (newList []) false (eval iter X.env) (some (assign (.Name y0 py) X.env))) _ _ s
 refine wpAny_bind (wpAny_mono (wpAny_comprehension_free (use:=some (assign (.Name y0 py) X.env)) (Q:=fun _ s'=>SP X pins D .next s') (cl:=cl) rfl hs ok.clos ok.kind ok.names (thn (hi pins s σ H _ I h) fun v s1 h1=>thn h1 fun itv s2 h2=>?_)) (fun _ s' hq=>wpAny_pure (wpAny_pure hq)) fun _ _ e=>e)
 obtain⟨it,fp,tn,J,H2,e,I2,Tn,st2,f2,q⟩:=h2
 subst e
 have q:=q s2.heap.objs.size (I2.hok.fresh (Nat.le_refl _))
 refine wpAny_newObj_type ?_
 -- the new list,tracked
 have I3:Inv X pins σ (upd H2 s2.heap.objs.size (.lst [])) { s2 with heap:=s2.heap.push { cls:=.type "list",dict:=none,data:=.seq ([]:List Value).toArray } }:=
  I2.laid (t':=s2.toks) (fun b u e=>Heap.get?_push_of_some _ e) (Nat.le_refl _) ⟨Nat.zero_le _,[],0,.nil,Heap.get?_push_size _ rfl⟩
 generalize hH3:upd H2 s2.heap.objs.size (.lst [])=H3 at I3 q
 generalize hs3:({ s2 with heap:=s2.heap.push { cls:=.type "list",dict:=none,data:=.seq ([]:List Value).toArray } }:Shared)=s3 at I3
 have fpl:∀b∈fp,b<s2.heap.objs.size:=fun b hb=>let ⟨o,e,_⟩:=Tn.obj 0 _ st2 b hb;Heap.lt_size e
 have sz3:s2.heap.objs.size≤s3.heap.objs.size:=by rw[←hs3];show _≤(s2.heap.push _).objs.size;rw[Heap.size_push];exact Nat.le_succ _
 have fok:∀b∈fp,Fd X pins H3 b:=fun b hb=>⟨by rw[←hH3,Af (Nat.ne_of_lt (fpl b hb))];exact(f2 b hb).1,(f2 b hb).2⟩
 have k23:∀b o,s2.heap.get? b=some o→s3.heap.get? b=some o:=fun b o e=>by rw[←hs3];exact Heap.get?_push_of_some _ e
 have st3:tn 0 s3.heap:=Tn.keep _ _ _ st2 fun b _ o e=>k23 b o e
 refine J9 ok.kind (fun h4 hns4 k34 okc=>?_)
 have oldc:∀x c,cl.lookup x=some c→c<s3.heap.objs.size:=fun x c e=>by
  obtain⟨v,o,ho,_⟩:=I3.cell x c (ok.sub x c e).1
  exact Heap.lt_size ho
 have hc1:=Nb (h':=h4) ok okc oldc
 have hc2:=Na (h':=h4) ok okc oldc
 have I4:Inv (An X scope cl T M s3 H3 fp) [] (Qd T σ) H3 { s3 with heap:=h4 }:=
  Ho ok I3 (fun b hb=>⟨fok b hb,Nat.lt_of_lt_of_le (fpl b hb) sz3⟩) hns4 k34 rfl rfl hc1 hc2
 have st4:tn 0 h4:=Tn.keep _ _ _ st3 fun b _ o e=>k34 b o e
 obtain⟨W,⟨m0,w0⟩,turn⟩:=q
 have cfpc:∀b∈fp,∀x c,(Be scope cl s3.heap.objs.size).lookup x=some c→c≠b:=fun b hb x c e=>by
  rcases Cy ok s3.heap.objs.size x c e with ⟨_,a2⟩|⟨a1,_⟩
  ·exact Nat.ne_of_gt (Nat.lt_of_lt_of_le (Nat.lt_of_lt_of_le (fpl b hb) sz3) (Nat.le_of_succ_le a2))
  ·exact(fok b hb).2.2.2.2.1 x c (ok.sub x c a1).1
 have cfp:∀{H':Hp},(∀b∈fp,H' b=none)→∀b∈fp,Fd (An X scope cl T M s3 H3 fp) [] H' b:=fun hn b hb=>by
  refine⟨hn b hb,Nat.ne_of_lt (Nat.lt_of_lt_of_le (fpl b hb) sz3),fun z=>?_,.inl hb,fun x c e=>cfpc b hb x c e,fun p hp=>absurd (show p∈([]:List (Addr×Obj)) from hp) (by simp)⟩
  rcases List.mem_cons.mp (I3.stkSub b z) with e|e
  ·exact(fok b hb).2.1 e
  ·exact(fok b hb).2.2.1 e
 have fin:∀(σ':St) (H':Hp) (s':Shared),Inv (An X scope cl T M s3 H3 fp) [] σ' H' s'→D.nx (σ.set i0 (some (.ref s2.heap.objs.size))) H'→compPost (model X.prog X.w) X.A X.xe (some (assign (.Name y0 py) X.env)) (fun _ s'=>SP X pins D .next s') (.ref s2.heap.objs.size) s3.heap.objs.size (.ok .next) s':=fun σ' H' s' J q=>by
  obtain⟨m',hm',_⟩:=J.loc
  have J0:Inv X pins σ H' s':=I3.call' (ch:=fp) J.os J.base J.hok J.bare fun b hb=>⟨(fok b hb).2.2.2.1,(fok b hb).2.1,(fok b hb).2.2.2.2.1,(fok b hb).2.2.2.2.2⟩
  have nC:=I3.fpOk (H':=H') (Nat.le_refl s3.heap.objs.size) J.free
  show wpAny _ X.A (assign (.Name y0 py) X.env (.ref s2.heap.objs.size)) _ _ s'
  refine wpAny_assign_Name (Hb J0 hN hi0 hy (v:=.ref s2.heap.objs.size) rfl (fun s'' J1 ⟨a,sb,ha⟩=>?_) hfn)
  have na:s3.heap.objs.size≠a:=by
   rcases ha with z|z
   ·rw[z];exact nC.2.1
   ·exact fun e=>nC.2.2.2.2.1 _ _ z e.symm
  obtain⟨oC,es,ep,hoC,rC⟩:=hm'
  exact⟨m',⟨oC,es,ep,(sb.2 _ na).trans hoC,rC⟩,fun h' hs'=>⟨_,H',J1.turned (t':=s''.toks) (fun b o hb e=>(hs'.2 b hb).trans e) nC.1 nC.2.1 nC.2.2.2.1 nC.2.2.2.2.1 nC.2.2.2.2.2,q⟩⟩
 have loop:∀s5:Shared,s5={ s3 with heap:=h4 }→
   codeAny (model X.prog X.w) X.A (.compLoop (.ListComp elt [⟨tg,iter,ifs,0⟩] scope pos) 0 (.ref it) (.ref s2.heap.objs.size) (compEnvC scope (Be scope cl s3.heap.objs.size) s3.heap.objs.size X.env))
    (compPost (model X.prog X.w) X.A X.xe (some (assign (.Name y0 py) X.env)) (fun _ s'=>SP X pins D .next s') (.ref s2.heap.objs.size) s3.heap.objs.size) s5:=by
  rintro s5 rfl
  refine Iq (fun k s'=>∃i σ' H',Inv (An X scope cl T M s3 H3 fp) [] σ' H' s'∧tn i s'.heap∧(∀b∈fp,H' b=none)∧W i k σ' H') ?_ m0 ⟨0,Qd T σ,H3,I4,st4,fun b hb=>(fok b hb).1,w0⟩
  rintro k s6 ⟨i,σ6,H6,I6,st6,fr6,w6⟩
  rcases turn i k σ6 H6 w6 with ⟨stop,qn⟩|⟨go,N,hN,step⟩
  ·refine wpAny_mono (Tn.done (An X scope cl T M s3 H3 fp) rfl rfl rfl hc i [] s6 _ H6 (fun _ _=>False) I6 (cfp fr6) st6 stop) (fun r s7 ⟨hr,I7⟩=>?_) fun _ _ z=>z.elim
   subst hr
   exact fin _ H6 s7 I7 qn
  ·refine wpAny_mono (Tn.item (An X scope cl T M s3 H3 fp) rfl rfl rfl hc i [] s6 _ H6 (fun _ _=>False) I6 (cfp fr6) st6 go) (fun r s7 ⟨u,hr,h7⟩=>?_) fun _ _ z=>z.elim
   subst hr
   show Ob _ _ _ _ _ _ _ _ _ _ _ _ _;unfold Ob
   refine wpAny_mono h7 (fun _ s8 h8=>?_) fun _ _ z=>z.elim
   obtain⟨x7,H7,I7,r7,y7,st7,fr7⟩:=h8
   have I7':=I7.pinned (cfp fr7) (Tn.obj _ _ st7)
   have back:∀{σ8:St} {H8:Hp} {s9:Shared},Inv (An X scope cl T M s3 H3 fp) ([]++Dw fp s8.heap) σ8 H8 s9→tn (i+1) s9.heap∧∀b∈fp,H8 b=none:=fun {σ8 H8 s9} I8=>by
    refine⟨Tn.keep _ _ _ st7 fun b hb o e=>(I8.pin (b,o) (List.mem_append_right _ (List.mem_append_right _ (B0 hb e)))).1,fun b hb=>?_⟩
    obtain⟨o,e,d⟩:=Tn.obj _ _ st7 b hb
    exact(I8.pin (b,o) (List.mem_append_right _ (List.mem_append_right _ (B0 hb e)))).2.1
   have again:∀{σ9:St} {H9:Hp} {s9:Shared},Inv (An X scope cl T M s3 H3 fp) ([]++Dw fp s8.heap) σ9 H9 s9→N σ9 H9→
     ∃m,m<k∧∃i σ' H',Inv (An X scope cl T M s3 H3 fp) [] σ' H' s9∧tn i s9.heap∧(∀b∈fp,H' b=none)∧W i m σ' H':=fun {σ9 H9 s9} I9 n9=>by
    obtain⟨m',hm,w9⟩:=hN σ9 H9 n9
    obtain⟨b1,b2⟩:=back I9
    exact⟨m',hm,i+1,σ9,H9,I9.unpinned,b1,b2,w9⟩
   refine wpAny_mono (hg s3 H3 fp _ s8 σ6 H7 x7 u _ I7' r7 (step x7 H7 y7)) (fun _ s9 ⟨σ9,H9,I9,q9⟩=>?_) fun _ _ z=>z.elim
   refine wpAny_mono (hf s3 H3 fp _ s9 σ9 H9 _ I9 q9) (fun okb s10 ⟨H10,I10,q10⟩=>?_) fun _ _ z=>z.elim
   cases okb with
   |false=>
    rw[if_neg Bool.false_ne_true] at q10 ⊢
    exact again I10 q10
   |true=>
    rw[if_pos rfl] at q10 ⊢
    refine wpAny_mono (he s3 H3 fp _ s10 σ9 H10 _ I10 q10) (fun y s11 ⟨yv,H11,I11,ry,ys,e11,l11,n11⟩=>?_) fun _ _ z=>z.elim
    refine wpAny_mono (Hl (X:=An X scope cl T M s3 H3 fp) _ s11 σ9 H11 (.ref s2.heap.objs.size) [yv] (.ref s2.heap.objs.size) [y] (fun _ H12=>N σ9 H12) I11 rfl (.cons ry .nil) ⟨_,ys,yv,rfl,rfl,e11,l11,n11⟩) (fun _ s12 ⟨_,H12,I12,_,n12⟩=>?_) fun _ _ z=>z.elim
    exact again I12 n12
 exact codeAny_compStart_list (loop _ rfl) (Tn.self _ 0 _ _ _ st4 (loop _ rfl))


theorem Xr{X:Cx}{i0:Nat}{y0:Str}{py spos:Pos}{kx vx iter tg:Expr}{ifs:List Expr}{scope:Scope}{cl:List (Str×Addr)}{pos:Pos}{wi:TI}{g:TG}{tf:TT}{tk tv:TE}{T M:List Str}(hc:X.calm=true)(ok:CompOz X scope cl T M)(hi:PI X tg iter wi)(hg:∀s H fp,PG (An X scope cl T M s H fp) tg g)(hf:∀s H fp,PF (An X scope cl T M s H fp) ifs tf)(hk:∀s H fp,PE (An X scope cl T M s H fp) kx tk)(hv:∀s H fp,PE (An X scope cl T M s H fp) vx tv)(hN:X.N.Nodup)(hi0:X.N[i0]? = some y0)(hy:Loc X.env.scope y0)(hfn:X.fn y0=true∨X.env.scope.names.lookup y0=some .local)(hsw:swapsWith (.DictComp kx vx [⟨tg,iter,ifs,0⟩] scope pos) (some (.Name y0 py)) spos.line X.env=pure true)(hs:∀x,foldedSetIterable iter X.env x=pure x:=by intro _;rfl):PS X (.Assign [.Name y0 py] (.DictComp kx vx [⟨tg,iter,ifs,0⟩] scope pos) spos) (Vp (Sk T.length wi g tf tk tv) (Sh i0)):=by
 intro pins s σ H D I h
 have h:(Sk T.length wi g tf tk tv) σ H (fun v H1=>D.nx (σ.set i0 (some v)) H1):=h
 rw[exec_Assign_Name_used _ _ _ _ hsw]
 refine wpAny_bind (wpAny_standAt (wpAny_bind ?_))
 show wpAny _ X.A (do let _ ←comprehension (.DictComp kx vx [⟨tg,iter,ifs,0⟩] scope pos) scope X.env _ newDict false (eval iter X.env) (some (assign (.Name y0 py) X.env))) _ _ s
 refine wpAny_bind (wpAny_mono (wpAny_comprehension_free (use:=some (assign (.Name y0 py) X.env)) (Q:=fun _ s'=>SP X pins D .next s') (cl:=cl) rfl hs ok.clos ok.kind ok.names (thn (hi pins s σ H _ I h) fun v s1 h1=>thn h1 fun itv s2 h2=>?_)) (fun _ s' hq=>wpAny_pure (wpAny_pure hq)) fun _ _ e=>e)
 obtain⟨it,fp,tn,J,H2,e,I2,Tn,st2,f2,q⟩:=h2
 subst e
 have q:=q s2.heap.objs.size (I2.hok.fresh (Nat.le_refl _))
 refine wpAny_newObj_type ?_
 -- the new list,tracked
 have I3:Inv X pins σ (upd H2 s2.heap.objs.size (.dK [])) { s2 with heap:=s2.heap.push { cls:=.type "dict",data:=.dict #[] } }:=
  I2.laid (t':=s2.toks) (fun b u e=>Heap.get?_push_of_some _ e) (Nat.le_refl _) (O6 _ I2.big)
 generalize hH3:upd H2 s2.heap.objs.size (.dK [])=H3 at I3 q
 generalize hs3:({ s2 with heap:=s2.heap.push { cls:=.type "dict",data:=.dict #[] } }:Shared)=s3 at I3
 have fpl:∀b∈fp,b<s2.heap.objs.size:=fun b hb=>let ⟨o,e,_⟩:=Tn.obj 0 _ st2 b hb;Heap.lt_size e
 have sz3:s2.heap.objs.size≤s3.heap.objs.size:=by rw[←hs3];show _≤(s2.heap.push _).objs.size;rw[Heap.size_push];exact Nat.le_succ _
 have fok:∀b∈fp,Fd X pins H3 b:=fun b hb=>⟨by rw[←hH3,Af (Nat.ne_of_lt (fpl b hb))];exact(f2 b hb).1,(f2 b hb).2⟩
 have k23:∀b o,s2.heap.get? b=some o→s3.heap.get? b=some o:=fun b o e=>by rw[←hs3];exact Heap.get?_push_of_some _ e
 have st3:tn 0 s3.heap:=Tn.keep _ _ _ st2 fun b _ o e=>k23 b o e
 refine J9 ok.kind (fun h4 hns4 k34 okc=>?_)
 have oldc:∀x c,cl.lookup x=some c→c<s3.heap.objs.size:=fun x c e=>by
  obtain⟨v,o,ho,_⟩:=I3.cell x c (ok.sub x c e).1
  exact Heap.lt_size ho
 have hc1:=Nb (h':=h4) ok okc oldc
 have hc2:=Na (h':=h4) ok okc oldc
 have I4:Inv (An X scope cl T M s3 H3 fp) [] (Qd T σ) H3 { s3 with heap:=h4 }:=
  Ho ok I3 (fun b hb=>⟨fok b hb,Nat.lt_of_lt_of_le (fpl b hb) sz3⟩) hns4 k34 rfl rfl hc1 hc2
 have st4:tn 0 h4:=Tn.keep _ _ _ st3 fun b _ o e=>k34 b o e
 obtain⟨W,⟨m0,w0⟩,turn⟩:=q
 have cfpc:∀b∈fp,∀x c,(Be scope cl s3.heap.objs.size).lookup x=some c→c≠b:=fun b hb x c e=>by
  rcases Cy ok s3.heap.objs.size x c e with ⟨_,a2⟩|⟨a1,_⟩
  ·exact Nat.ne_of_gt (Nat.lt_of_lt_of_le (Nat.lt_of_lt_of_le (fpl b hb) sz3) (Nat.le_of_succ_le a2))
  ·exact(fok b hb).2.2.2.2.1 x c (ok.sub x c a1).1
 have cfp:∀{H':Hp},(∀b∈fp,H' b=none)→∀b∈fp,Fd (An X scope cl T M s3 H3 fp) [] H' b:=fun hn b hb=>by
  refine⟨hn b hb,Nat.ne_of_lt (Nat.lt_of_lt_of_le (fpl b hb) sz3),fun z=>?_,.inl hb,fun x c e=>cfpc b hb x c e,fun p hp=>absurd (show p∈([]:List (Addr×Obj)) from hp) (by simp)⟩
  rcases List.mem_cons.mp (I3.stkSub b z) with e|e
  ·exact(fok b hb).2.1 e
  ·exact(fok b hb).2.2.1 e
 have fin:∀(σ':St) (H':Hp) (s':Shared),Inv (An X scope cl T M s3 H3 fp) [] σ' H' s'→D.nx (σ.set i0 (some (.ref s2.heap.objs.size))) H'→compPost (model X.prog X.w) X.A X.xe (some (assign (.Name y0 py) X.env)) (fun _ s'=>SP X pins D .next s') (.ref s2.heap.objs.size) s3.heap.objs.size (.ok .next) s':=fun σ' H' s' J q=>by
  obtain⟨m',hm',_⟩:=J.loc
  have J0:Inv X pins σ H' s':=I3.call' (ch:=fp) J.os J.base J.hok J.bare fun b hb=>⟨(fok b hb).2.2.2.1,(fok b hb).2.1,(fok b hb).2.2.2.2.1,(fok b hb).2.2.2.2.2⟩
  have nC:=I3.fpOk (H':=H') (Nat.le_refl s3.heap.objs.size) J.free
  show wpAny _ X.A (assign (.Name y0 py) X.env (.ref s2.heap.objs.size)) _ _ s'
  refine wpAny_assign_Name (Hb J0 hN hi0 hy (v:=.ref s2.heap.objs.size) rfl (fun s'' J1 ⟨a,sb,ha⟩=>?_) hfn)
  have na:s3.heap.objs.size≠a:=by
   rcases ha with z|z
   ·rw[z];exact nC.2.1
   ·exact fun e=>nC.2.2.2.2.1 _ _ z e.symm
  obtain⟨oC,es,ep,hoC,rC⟩:=hm'
  exact⟨m',⟨oC,es,ep,(sb.2 _ na).trans hoC,rC⟩,fun h' hs'=>⟨_,H',J1.turned (t':=s''.toks) (fun b o hb e=>(hs'.2 b hb).trans e) nC.1 nC.2.1 nC.2.2.2.1 nC.2.2.2.2.1 nC.2.2.2.2.2,q⟩⟩
 have loop:∀s5:Shared,s5={ s3 with heap:=h4 }→
   codeAny (model X.prog X.w) X.A (.compLoop (.DictComp kx vx [⟨tg,iter,ifs,0⟩] scope pos) 0 (.ref it) (.ref s2.heap.objs.size) (compEnvC scope (Be scope cl s3.heap.objs.size) s3.heap.objs.size X.env))
    (compPost (model X.prog X.w) X.A X.xe (some (assign (.Name y0 py) X.env)) (fun _ s'=>SP X pins D .next s') (.ref s2.heap.objs.size) s3.heap.objs.size) s5:=by
  rintro s5 rfl
  refine Pt (fun k s'=>∃i σ' H',Inv (An X scope cl T M s3 H3 fp) [] σ' H' s'∧tn i s'.heap∧(∀b∈fp,H' b=none)∧W i k σ' H') ?_ m0 ⟨0,Qd T σ,H3,I4,st4,fun b hb=>(fok b hb).1,w0⟩
  rintro k s6 ⟨i,σ6,H6,I6,st6,fr6,w6⟩
  rcases turn i k σ6 H6 w6 with ⟨stop,qn⟩|⟨go,N,hN,step⟩
  ·refine wpAny_mono (Tn.done (An X scope cl T M s3 H3 fp) rfl rfl rfl hc i [] s6 _ H6 (fun _ _=>False) I6 (cfp fr6) st6 stop) (fun r s7 ⟨hr,I7⟩=>?_) fun _ _ z=>z.elim
   subst hr
   exact fin _ H6 s7 I7 qn
  ·refine wpAny_mono (Tn.item (An X scope cl T M s3 H3 fp) rfl rfl rfl hc i [] s6 _ H6 (fun _ _=>False) I6 (cfp fr6) st6 go) (fun r s7 ⟨u,hr,h7⟩=>?_) fun _ _ z=>z.elim
   subst hr
   show V9 _ _ _ _ _ _ _ _ _ _ _ _ _ _;unfold V9
   refine wpAny_mono h7 (fun _ s8 h8=>?_) fun _ _ z=>z.elim
   obtain⟨x7,H7,I7,r7,y7,st7,fr7⟩:=h8
   have I7':=I7.pinned (cfp fr7) (Tn.obj _ _ st7)
   have back:∀{σ8:St} {H8:Hp} {s9:Shared},Inv (An X scope cl T M s3 H3 fp) ([]++Dw fp s8.heap) σ8 H8 s9→tn (i+1) s9.heap∧∀b∈fp,H8 b=none:=fun {σ8 H8 s9} I8=>by
    refine⟨Tn.keep _ _ _ st7 fun b hb o e=>(I8.pin (b,o) (List.mem_append_right _ (List.mem_append_right _ (B0 hb e)))).1,fun b hb=>?_⟩
    obtain⟨o,e,d⟩:=Tn.obj _ _ st7 b hb
    exact(I8.pin (b,o) (List.mem_append_right _ (List.mem_append_right _ (B0 hb e)))).2.1
   have again:∀{σ9:St} {H9:Hp} {s9:Shared},Inv (An X scope cl T M s3 H3 fp) ([]++Dw fp s8.heap) σ9 H9 s9→N σ9 H9→
     ∃m,m<k∧∃i σ' H',Inv (An X scope cl T M s3 H3 fp) [] σ' H' s9∧tn i s9.heap∧(∀b∈fp,H' b=none)∧W i m σ' H':=fun {σ9 H9 s9} I9 n9=>by
    obtain⟨m',hm,w9⟩:=hN σ9 H9 n9
    obtain⟨b1,b2⟩:=back I9
    exact⟨m',hm,i+1,σ9,H9,I9.unpinned,b1,b2,w9⟩
   refine wpAny_mono (hg s3 H3 fp _ s8 σ6 H7 x7 u _ I7' r7 (step x7 H7 y7)) (fun _ s9 ⟨σ9,H9,I9,q9⟩=>?_) fun _ _ z=>z.elim
   refine wpAny_mono (hf s3 H3 fp _ s9 σ9 H9 _ I9 q9) (fun okb s10 ⟨H10,I10,q10⟩=>?_) fun _ _ z=>z.elim
   cases okb with
   |false=>
    rw[if_neg Bool.false_ne_true] at q10 ⊢
    exact again I10 q10
   |true=>
    rw[if_pos rfl] at q10 ⊢
    refine wpAny_mono (hk s3 H3 fp _ s10 σ9 H10 _ I10 q10) (fun y s11 ⟨yv,H11,I11,ry,q11⟩=>?_) fun _ _ z=>z.elim
    refine wpAny_mono (hv s3 H3 fp _ s11 σ9 H11 _ I11 q11) (fun z s12 ⟨zv,H12,I12,rz,kvs,k,ek,e12,l12,n12⟩=>?_) fun _ _ z=>z.elim
    subst ek
    exact U6 (X:=An X scope cl T M s3 H3 fp) I12 e12 l12 ry rz fun s13 I13=>again I13 n12
 exact codeAny_compStart_dict (loop _ rfl) (Tn.self _ 0 _ _ _ st4 (loop _ rfl))


end D3
set_option maxHeartbeats 1000000
namespace D3
open PySem PySem.Spec
open PyProof.Rows hiding St
open L2 hiding St
theorem Wc{K:W.Frag}{t:DTE}{i:Nat}{E:Ends}{σ:St}{H:Hp}(h:Ih K (Br t (Aw i)) E σ H):B5 K t σ H fun v H1=>E.nx (σ.set i (some v)) H1:=by
 obtain⟨σD,G,D,rs,rg,h,cl⟩:=h
 exact⟨σD,G,fun x G1=>D.nx (σD.set i (some x)) G1,rs,rg,h,fun d G' q H' x' rg' v dv=>cl.nx _ _ q _ x' rg' _ ((rs.ext x').set dv i)⟩
section
variable{X:Cx}{elt iter tg kx vx:Expr}{ifs:List Expr}{scope:Scope}{pos:Pos}{ti te tk tv:DTE}{tf:DTT}{g:DTG}{T M:List Str}
theorem Xj{i0:Nat}{y0:Str}{py spos:Pos}(hc:X.calm=true)(ok:CompOz X scope (Bz X.env.cells scope.names []) T M)(hi:QE X iter ti)(hg:QGz X scope T M tg g)(hf:QFz X scope T M ifs tf)(hk:QEz X scope T M kx tk)(hv:QEz X scope T M vx tv)(hN:X.N.Nodup)(hsw:swapsWith (.DictComp kx vx [⟨tg,iter,ifs,0⟩] scope pos) (some (.Name y0 py)) spos.line X.env=pure true)(hi0:X.N[i0]? = some y0:=by rfl)(hy:Loc X.env.scope y0:=by first|exact .inl rfl|exact .inr rfl)(hfn:X.fn y0=true∨X.env.scope.names.lookup y0=some .local:=by first|exact .inl rfl|exact .inr rfl)(hs:∀x,foldedSetIterable iter X.env x=pure x:=by intro _;rfl):QS X (.Assign [.Name y0 py] (.DictComp kx vx [⟨tg,iter,ifs,0⟩] scope pos) spos) (Br (Wr T.length ti g tf tk tv) (Aw i0)):=
 (Xr (g:=Ek X.K g) (tf:=Ef X.K tf) (tk:=B5 X.K tk) (tv:=B5 X.K tv) hc ok (Qr hi) hg hf hk hv hN hi0 hy hfn hsw hs).imp fun E0 σ H h0=>by
 obtain⟨σD,G,Q',rs,rg,h,cl⟩:=Wc h0
 refine⟨σD,G,_,rs,rg,h,fun d G1 ⟨ds,ei,L⟩ H1 x1 rg1 v dv=>?_⟩
 obtain⟨a,rfl⟩:=Kd ei dv
 refine⟨a,rfl,?_⟩
 have lp:=fun p hp=>Rt (J:=jOf X.K d a) (rs.ext x1) rg1 hp (fun d' G' q=>(cl d' G' q).go x1) (fun H' G' x' rg' s'=>D4 (Gi rg' s' (dv.ext x'))) (L p (rg1.free hp))
 cases dv with
 |tup e r=>exact .inr ⟨⟨_,.inl (.inl e)⟩,lp⟩
 |lint e=>exact .inl ⟨⟨_,e.sq⟩,lp⟩
 |ref=>
  simp only[Av] at ei
  split at ei
  ·rename_i ds' q
   obtain⟨xs,e,r⟩:=rg1 a _ q
   exact .inl ⟨⟨_,.inl (.inl e)⟩,lp⟩
  ·cases ei
end
end D3
set_option maxRecDepth 100000
set_option maxHeartbeats 1000000
namespace D3
open PySem PySem.Spec
open PyProof.Rows hiding St
open L2 hiding St
section
variable{X:Cx}{e:Expr}{te:DTE}{pos:Pos}
end
end D3
set_option maxRecDepth 100000
set_option maxHeartbeats 1000000
namespace D3
open PySem PySem.Spec
open PyProof.Rows hiding St
open L2 hiding St
section
variable{X:Cx}{e:Expr}{ta:DTE}
end
section
variable{X:Cx}{a b:Expr}{ta:TA}{tA:DTA}{p p0 pos pos0:Pos}
end
end D3
set_option maxRecDepth 100000
set_option maxHeartbeats 1000000
namespace D3
open PySem PySem.Spec
open PyProof.Rows hiding St
open L2 hiding St
section
variable{P:Program}{w:World}{A:Around}{R:Result→Shared→Prop}{it S:Addr}{fp wr:List Addr}{n:Nat}{V:Nat→Value→Prop}{st:Nat→Heap→Prop}{bt:Nat→Nat→Bool}{kw:List (Str×Value)}
abbrev MxEnd(R:Result→Shared→Prop)(V:Nat→Value→Prop)(bt:Nat→Nat→Bool)(n:Nat)(wr:List Addr)(S:Addr)(s:Shared):Prop:=
 ∀v g tk,V (argBest bt (n-1)) v→(∀b o,b ∉ wr→b≠S→s.heap.get? b=some o→g.get? b=some o)→R (.ok (.ret v)) { s with heap:=g,toks:=tk }
theorem Jp:(toString "max" ++ toString ".loop" : String) = "max.loop":=by decide
theorem Aal(W:Walks P w A.in1 it fp wr n V st)(cmp:CmpOf P w A.in1 .Gt V bt)(off:S ∉ fp)(k:Nat):∀(j:Nat) (s:Shared) (best:Value) (c:Nat),n-(j+1)=k→j+1≤n→st (j+1) s.heap→V (argBest bt j) best→
  s.heap.get? S=some (seqObj "list" #[best,best] c)→MxEnd R V bt n wr S s→codeAny (model P w) A (.builtin "max.loop" ⟨[.ref it,.none,.ref S],kw⟩) R s:=by
 have offW:S ∉ wr:=fun z=>off (W.sub _ z)
 induction k with
 |zero=>
  intro j s best c e1 e2 h0 hb hS fin
  have e3:j+1=n:=by omega
  refine codeAny_builtin F.entry_max_loop ?_;rw[Around.under_plainId F.plain_max_loop _]
  show wpAny _ A.in1 (seqItems? (.ref S) >>= _) _ _ s;refine wpAny_bind (wpAny_seqItems hS rfl ?_)
  show wpAny _ A.in1 (tryCatch (pyNext (.ref it)) _ >>= _) _ _ s;refine wpAny_bind (wpAny_tryCatch (W.done s _ _ (e3 ▸ h0) fun g tk kp=>?_))
  show wpAny _ A.in1 (updateSeq S (fun _=>#[]) >>= _) _ _ _;refine wpAny_bind (wpAny_updateSeq (kp S _ offW hS) rfl (wpAny_bind (wpAny_letGo (wpAny_pure ?_))))
  exact fin best _ tk (by rw[←e3];exact hb) fun b o nw nS e=>(Heap.get?_update_other _ _ (Ne.symm nS)).trans (kp b o nw e)
 |succ k ih=>
  intro j s best c e1 e2 h0 hb hS fin
  have e3:j+1<n:=by omega
  refine codeAny_builtin F.entry_max_loop ?_;rw[Around.under_plainId F.plain_max_loop _]
  show wpAny _ A.in1 (seqItems? (.ref S) >>= _) _ _ s;refine wpAny_bind (wpAny_seqItems hS rfl ?_)
  show wpAny _ A.in1 (tryCatch (pyNext (.ref it)) _ >>= _) _ _ s;refine wpAny_bind (wpAny_tryCatch (W.item (j+1) s _ _ e3 h0 fun v g tk hv h1 kp=>?_))
  have hS2:=kp S _ offW hS
  show wpAny _ A.in1 (tryCatch (holding [v,v] (richCompare .Gt v best >>= _)) _ >>= _) _ _ _
  refine wpAny_bind (wpAny_tryCatch (wpAny_holding (wpAny_bind (cmp (j+1) (argBest bt j) v best _ _ _ hv hb (wpAny_bind (wpAny_holding (wpAny_truthy_bool (wpAny_bind (wpAny_letGo (wpAny_pure ?_))))))))));cases q:bt (j+1) (argBest bt j) with
  |true=>
   simp only[if_true];refine wpAny_bind (wpAny_updateSeq hS2 rfl (wpAny_bind (wpAny_letGo ?_)));rw[Jp]
   refine wpAny_pure ⟨plainId_quiet F.plain_max_loop _,ih (j+1) _ v _ (by omega) e3 (W.frame _ _ _ h1 fun b hf o e=>?_) (by simp only[argBest,q,if_true];exact hv) (Heap.get?_update_self _ hS2 rfl) fun v' g' tk' hv' kp'=>?_⟩
   ·exact(Heap.get?_update_other _ _ fun z:S=b=>off (by rw[z];exact hf)).trans e
   ·exact fin v' g' tk' hv' fun b o nw nS e=>kp' b o nw nS ((Heap.get?_update_other _ _ (Ne.symm nS)).trans (kp b o nw e))
  |false=>
   simp only[Bool.false_eq_true,if_false];refine wpAny_bind (wpAny_letGo ?_);rw[Jp]
   refine wpAny_pure ⟨plainId_quiet F.plain_max_loop _,ih (j+1) _ best c (by omega) e3 h1 (by simp only[argBest,q,Bool.false_eq_true,if_false];exact hb) hS2 fun v' g' tk' hv' kp'=>?_⟩
   exact fin v' g' tk' hv' fun b o nw nS e=>kp' b o nw nS (kp b o nw e)
theorem Ye(W:Walks P w A.in1 it fp wr n V st)(cmp:CmpOf P w A.in1 .Gt V bt)(off:S ∉ fp)(hn:0<n){s:Shared}{c:Nat}(h0:st 0 s.heap)(hS:s.heap.get? S=some (seqObj "list" #[] c))(fin:MxEnd R V bt n wr S s) :
  codeAny (model P w) A (.builtin "max.loop" ⟨[.ref it,.none,.ref S],kw⟩) R s:=by
 have offW:S ∉ wr:=fun z=>off (W.sub _ z)
 refine codeAny_builtin F.entry_max_loop ?_;rw[Around.under_plainId F.plain_max_loop _]
 show wpAny _ A.in1 (seqItems? (.ref S) >>= _) _ _ s;refine wpAny_bind (wpAny_seqItems hS rfl ?_)
 show wpAny _ A.in1 (tryCatch (pyNext (.ref it)) _ >>= _) _ _ s;refine wpAny_bind (wpAny_tryCatch (W.item 0 s _ _ hn h0 fun v g tk hv h1 kp=>?_))
 have hS2:=kp S _ offW hS
 show wpAny _ A.in1 (updateSeq S (fun _=>#[v,v]) >>= _) _ _ _;refine wpAny_bind (wpAny_updateSeq hS2 rfl ?_);rw[Jp]
 refine wpAny_pure ⟨plainId_quiet F.plain_max_loop _,Aal W cmp off _ 0 _ v _ rfl hn (W.frame _ _ _ h1 fun b hf o e=>?_) hv (Heap.get?_update_self _ hS2 rfl) fun v' g' tk' hv' kp'=>?_⟩
 ·exact(Heap.get?_update_other _ _ fun z:S=b=>off (by rw[z];exact hf)).trans e
 ·exact fin v' g' tk' hv' fun b o nw nS e=>kp' b o nw nS ((Heap.get?_update_other _ _ (Ne.symm nS)).trans (kp b o nw e))
theorem Aam{d:Value}{k:Str}(W:Walks P w A.in1 it fp wr 0 V st)(off:S ∉ fp){s:Shared}{c:Nat}(h0:st 0 s.heap)(hS:s.heap.get? S=some (seqObj "list" #[] c))(fin:∀g tk,(∀b o,b ∉ wr→s.heap.get? b=some o→g.get? b=some o)→R (.ok (.ret d)) { s with heap:=g,toks:=tk }) :
  codeAny (model P w) A (.builtin "max.loop" ⟨[.ref it,.none,.ref S],[(k,d)]⟩) R s:=by
 refine codeAny_builtin F.entry_max_loop ?_;rw[Around.under_plainId F.plain_max_loop _]
 show wpAny _ A.in1 (seqItems? (.ref S) >>= _) _ _ s;refine wpAny_bind (wpAny_seqItems hS rfl ?_)
 show wpAny _ A.in1 (tryCatch (pyNext (.ref it)) _ >>= _) _ _ s;refine wpAny_bind (wpAny_tryCatch (W.done s _ _ h0 fun g tk kp=>?_))
 show wpAny _ A.in1 (rule _ >>= _) _ _ _
 exact wpAny_bind (wpAny_rule (wpAny_pure (fin g tk kp)))
end
section
variable{P:Program}{w:World}{A:Around}{E:Value→Shared→Prop}{s:Shared}
def EndIs(M:Model)(A:Around)(Q:Value→Shared→Prop)(E:Value→Shared→Prop)(f:Fin)(s':Shared):Prop:=match f with
 |.done (.ret v)=>Q v s'
 |.done _=>False
 |.again c=>c.quiet=true∧codeAny M A c (fun r s2=>match r with|.ok (.ret v)=>Q v s2|.ok _=>False|.error e=>E e s2) s'
theorem Va{id:String}{b:Builtin}{args:List Value}{kw:List (Str×Value)}{Q:Value→Shared→Prop}(hk:builtinKind id=none)(hp:plainId id=true)(hb:entryFor table id=some b)(ha:argsOk id ⟨args,kw⟩)(hc:wpAny (model P w) A.in1 (b ⟨args,kw⟩) (EndIs (model P w) A Q E) E s):wpAny (model P w) A (call (.builtin id) args kw) Q E s:=by
 refine wpAny_call (codeAny_call_builtin hp hb ?_)
 have go:=wpAny_mono hc (Q':=fun fin s'=>match fin with
   |.done f=>(match (Except.ok f:Result) with|.ok (.ret v)=>Q v s'|.ok _=>False|.error e=>E e s')|.again c'=>c'.quiet=true∧codeAny (model P w) A c' (fun r s'=>match r with|.ok (.ret v)=>Q v s'|.ok _=>False|.error e=>E e s') s')
  (fun fin s' z=>by
   cases fin with
   |done f=>cases f with
    |ret v=>exact z
    |_=>exact z.elim
   |again c=>exact z) fun _ _ z=>z
 simp only[checkBuiltinCall,hk]
 cases q:Manifest.signature? id with
 |none=>exact wpAny_pure go
 |some sig=>
  have e:Bind.checkArgs id sig ⟨args,kw⟩=pure ():=by simpa only[argsOk,q] using ha
  simp only[e];exact wpAny_pure go
theorem Aao(x d:Value):argsOk "max" ⟨[x],[(Str.ofString "default",d)]⟩:=by unfold argsOk;kernel_rfl
theorem Aan{l:Addr}{vs:List Value}{ns:List Int}{d:Value}{Q:Value→Shared→Prop}(hh:A.handled=none)(hl:s.heap.IsList l vs.toArray)(hi:IntsAre vs ns)(h0:ns=[]→∀g tk,(∀b o,s.heap.get? b=some o→g.get? b=some o)→Q d { s with heap:=g,toks:=tk })(h:∀(g:Heap) (M:Int) (t tk:Tok),(∀b o,s.heap.get? b=some o→g.get? b=some o)→M∈ns→(∀a∈ns,a≤M)→Q (.int M t) { s with heap:=g,toks:=tk }):wpAny (model P w) A (call (.builtin "max") [.ref l] [(Str.ofString "default",d)]) Q E s:=by
 refine Va F.kind_max F.plain_max F.entry_max (Aao _ _) ?_
 show wpAny _ A.in1 (Builtin.Builtins.bindParams "max" ["key", "default"] 0 ⟨[],[(Str.ofString "default",d)]⟩ >>= _) _ _ s
 refine wpAny_bind (wpAny_of_eq (show Builtin.Builtins.bindParams "max" ["key", "default"] 0 ⟨[],[(Str.ofString "default",d)]⟩=pure [none,some d] from rfl) (wpAny_bind (wpAny_pure ?_)))
 obtain⟨xs,e⟩:=hi.allInts.items
 have hns:ns=xs.toList.map (·.1):=by rw[←hi.numsOf,←nums_intItems,←e]
 rw[e] at hl
 refine wpAny_bind (iter_intList hl fun s₂ e2 st hfp hlI=>?_)
 subst e2
 have W:=Walks.list (prog:=P) (w:=w) (A:=A.in1) hh _ l hlI (intItems xs)
 have hsz:(intItems xs).size=xs.size:=by simp[intItems]
 refine wpAny_bind (wpAny_newObj_type ?_);rw[Jp]
 have old:∀b o,s.heap.get? b=some o→(s.heap.push { cls:=Value.type "list_iterator",data:=Data.fields #[Value.ref l,Value.int 0 0] }).get? b=some o:=fun b o z=>Heap.get?_push_of_some _ z
 have ne:∀b o,s.heap.get? b=some o→b ∉ [s.heap.objs.size]:=fun b o z m=>Nat.ne_of_lt (Heap.lt_size z) (List.mem_singleton.mp m)
 generalize hg:s.heap.push { cls:=Value.type "list_iterator",data:=Data.fields #[Value.ref l,Value.int 0 0] }=g1 at *
 have off:g1.objs.size ∉ [s.heap.objs.size,l]:=fun m=>Nat.lt_irrefl _ (hfp _ m)
 have fr:=W.frame 0 g1 (g1.push { cls:=.type "list",data:=.seq ([]:List Value).toArray }) st fun b _ o z=>Heap.get?_push_of_some _ z
 have hS:(g1.push { cls:=.type "list",data:=.seq ([]:List Value).toArray }).get? g1.objs.size=some (seqObj "list" #[] 0):=Heap.get?_push_size _ rfl
 rcases Nat.eq_zero_or_pos xs.size with z|z
 ·have hx0:ns=[]:=by rw[hns,Array.eq_empty_of_size_eq_zero z];rfl
  rw[show(intItems xs).size=0 by omega] at W
  refine wpAny_pure ⟨plainId_quiet F.plain_max_loop _,Aam W off fr hS fun g tk kp=>?_⟩
  exact h0 hx0 g tk fun b o z=>kp b o (ne b o z) (Heap.get?_push_of_some _ (old b o z))
 ·refine wpAny_pure ⟨plainId_quiet F.plain_max_loop _,Ye W (CmpOf.ints_gt (numAt xs) fun _ _=>intItems_at) off (by omega) fr hS fun v g tk hv kp=>?_⟩
  obtain⟨t,rfl⟩:=intItems_at hv
  rw[hsz]
  obtain⟨g1',g2⟩:=argBest_gt (numAt xs) (xs.size-1)
  refine h g _ t tk (fun b o z=>kp b o (ne b o z) (Nat.ne_of_lt (Heap.lt_size (old b o z))) (Heap.get?_push_of_some _ (old b o z))) ?_ fun a ha=>?_
  ·rw[hns,numAt_eq];exact getD_mem (by rw[List.length_map,Array.length_toList];omega)
  ·rw[hns] at ha
   obtain⟨j,hj,rfl⟩:=mem_getD ha
   rw[List.length_map,Array.length_toList] at hj
   rw[←numAt_eq];exact g2 j (by omega)
end
section
variable{X:Cx}{e:Expr}{p pos:Pos}
def tMaxD(te:TE):TE:=fun σ H Q=>te σ H fun x H1=>∃(l:Addr) (ns:List Int),x=.ref l∧SqL X.K H1 l (ns.map V.int)∧(ns=[]→Q .non H1)∧∀M∈ns,(∀a∈ns,a≤M)→Q (.int M) H1
theorem Z0{te:TE}{kp np:Pos}{j:Nat}(hc:X.calm=true)(hg:Gl X "max")(hm:X.mg "max" = none)(he:PE X e te)(hs:starEach [e] X.env=[(false,eval e X.env)]:=by rfl):PE X (.Call (.Name "max" p) [e] [⟨some "default",.Constant .none j np,kp⟩] pos) (tMaxD (X:=X) te):=by
 intro pins s σ H Q I h
 refine wpAny_Call_Name_kw (D8 I hg hm boot_max ?_ (by decide) (by decide))
 have ha:PA X [e] (Ls te Qc):=E2 he pa_nil hs
 have hkw:PK X [⟨some "default",.Constant .none j np,kp⟩] (Ls (tC .non) Qc):=Sw Ac6 Wh
 refine PyProof.Rows.callWith_kw (thn (ha pos pins s σ H (fun vs H1=>match vs with
   |[x]=>∃(l:Addr) (ns:List Int),x=.ref l∧SqL X.K H1 l (ns.map V.int)∧(ns=[]→Q .non H1)∧∀M∈ns,(∀a∈ns,a≤M)→Q (.int M) H1
   |_=>False) I h) fun us s1 ⟨vs,H1,I1,r1,q1⟩=>?_) (by rw[hs];rfl) (by rw[hs];rfl) rfl rfl
 match vs,r1,q1 with
 |[x],.cons (b:=u) rx .nil,⟨l,ns,ex,hl,q0,q⟩=>
  subst ex
  obtain rfl:u=Value.ref l:=rx
  refine thn (hkw pos pins s1 σ H1 (fun zs H2=>zs=[.non]∧H2=H1) I1 ⟨rfl,rfl⟩) fun ws s2 ⟨zs,H2,I2,r2,ez,eH⟩=>?_
  subst ez eH
  obtain⟨z,rfl,rz⟩:=Fy r2
  obtain rfl:z=Value.none:=rz
  obtain⟨its,rv,pl,_⟩:=I2.list hl
  exact Aan (I2.ok.hd hc) pl.isList (D3.E6 rv) (fun e0 g tk k=>⟨.non,H2,I2.kept k,rfl,q0 e0⟩) fun g M t tk k h1 h2=>⟨.int M,H2,I2.kept k,⟨t,rfl⟩,q M h1 h2⟩
def Abl(te:DTE):DTE:=fun σ G Q=>te σ G fun x G1=>∃p,x=.ref p∧∃ns:List Int,G1 p=some (.lst (ns.map D.int))∧(ns=[]→Q .non G1)∧∀M∈ns,(∀a∈ns,a≤M)→Q (.int M) G1
theorem Acm{te:DTE}{kp np:Pos}{j:Nat}(hc:X.calm=true)(hm:X.mg "max" = none)(he:QE X e te)(hg:Gl X "max":=by rfl)(hs:starEach [e] X.env=[(false,eval e X.env)]:=by rfl):QE X (.Call (.Name "max" p) [e] [⟨some "default",.Constant .none j np,kp⟩] pos) (Abl te):=
 (Z0 hc hg hm he hs).imp fun σ H Q ⟨σD,G,Q',rs,rg,h,cl⟩=>by
  refine⟨σD,G,_,rs,rg,h,fun x G1 ⟨l,ex,ns,eg,q0,q⟩ H1 x1 rg1 v dv=>?_⟩
  subst ex
  cases dv
  obtain⟨ys,eh,r⟩:=rg1 l _ eg
  rw[Er r] at eh
  exact⟨l,ns,rfl,.inl (.inl eh),fun e0=>cl _ _ (q0 e0) _ x1 rg1 _ .non,fun M h1 h2=>cl _ _ (q M h1 h2) _ x1 rg1 _ (.int M)⟩
end
end D3
set_option maxRecDepth 100000
set_option maxHeartbeats 1000000
namespace D3
open PySem PySem.Spec
open PyProof.Rows hiding St
open L2 hiding St
section
variable{X:Cx}{elt iter tg:Expr}{ifs:List Expr}{scope:Scope}{pos:Pos}{ti te:DTE}{tf:DTT}{g:DTG}{T M:List Str}
def Ge(n:Nat)(tA:DTA)(g:DTG)(tf:DTT)(te:DTE):DTE:=fun σ G Q=>tA σ G fun ds G1=>∃i j,ds=[.int i,.int j]∧(-(2 ^ 62)≤i∧i<2 ^ 62∧-(2 ^ 62)≤j∧j<2 ^ 62)∧∀p,G1 p=none→Ii n p (C6 i j) (fun _=>True) g tf te σ (Ab G1 p (.lst [])) Q
theorem T9{a b:Expr}{tA:DTA}{p p2:Pos}(hc:X.calm=true)(ok:CompOz X scope (Bz X.env.cells scope.names []) T M)(hm:X.mg "range" = none)(ha:QA X [a,b] tA)(hg:QGz X scope T M tg g)(hf:QFz X scope T M ifs tf)(he:QEz X scope T M elt te)(hgl:Gl X "range":=by rfl)(hst:starEach [a,b] X.env=[(false,eval a X.env),(false,eval b X.env)]:=by rfl)(hst2:starEach [b] X.env=[(false,eval b X.env)]:=by rfl)(hs:∀x,foldedSetIterable (.Call (.Name "range" p) [a,b] [] p2) X.env x=pure x:=by intro _;rfl):QE X (.ListComp elt [⟨tg,.Call (.Name "range" p) [a,b] [] p2,ifs,0⟩] scope pos) (Ge T.length tA g tf te):=
 (Ep (g:=Ek X.K g) (tf:=Ef X.K tf) (te:=B5 X.K te) hc ok (Hj hgl hm ha hst hst2) hg hf he hs).imp fun σ H Q ⟨σD,G,Q',rs,rg,h,cl⟩=>by
 refine⟨σD,G,_,rs,rg,h,fun ds G1 ⟨i,j,ej,hij,L⟩ H1 x1 rg1 vs dv=>?_⟩
 subst ej
 obtain⟨v,w,rfl,r,r'⟩:=dv.two
 cases r;cases r'
 refine⟨i,j,rfl,hij,fun p hp=>C3 (J:=Itr i (j-i).toNat) (rs.ext x1) rg1 hp (fun d' G' q=>(cl d' G' q).go x1) (fun H' G' x' rg' _=>D4 (G:=G') ?_) (L p (rg1.free hp))⟩
 refine⟨fun k hk=>by rw[Bh] at hk;exact hk,fun k x H2 hk y=>?_,by show(j-i).toNat≤_;rw[Bh];exact Nat.le_refl _⟩
 rw[Bh] at hk
 obtain⟨e1,e2⟩:=y
 refine⟨e1,_,Ec hk,?_⟩
 rw[e2]
 exact .int _
end
section
variable{X:Cx}{elt iter tg kx vx:Expr}{ifs:List Expr}{scope:Scope}{pos:Pos}{ti te tk tv:DTE}{tf:DTT}{g:DTG}{T M:List Str}
theorem Ra{i0:Nat}{y0:Str}{py spos:Pos}{a b:Expr}{tA:DTA}{p p2:Pos}(hc:X.calm=true)(ok:CompOz X scope (Bz X.env.cells scope.names []) T M)(hm:X.mg "range" = none)(ha:QA X [a,b] tA)(hg:QGz X scope T M tg g)(hf:QFz X scope T M ifs tf)(he:QEz X scope T M elt te)(hN:X.N.Nodup)(hsw:swapsWith (.ListComp elt [⟨tg,.Call (.Name "range" p) [a,b] [] p2,ifs,0⟩] scope pos) (some (.Name y0 py)) spos.line X.env=pure true)(hi0:X.N[i0]? = some y0:=by rfl)(hy:Loc X.env.scope y0:=by first|exact .inl rfl|exact .inr rfl)(hfn:X.fn y0=true∨X.env.scope.names.lookup y0=some .local:=by first|exact .inl rfl|exact .inr rfl)(hgl:Gl X "range":=by rfl)(hst:starEach [a,b] X.env=[(false,eval a X.env),(false,eval b X.env)]:=by rfl)(hst2:starEach [b] X.env=[(false,eval b X.env)]:=by rfl)(hs:∀x,foldedSetIterable (.Call (.Name "range" p) [a,b] [] p2) X.env x=pure x:=by intro _;rfl):QS X (.Assign [.Name y0 py] (.ListComp elt [⟨tg,.Call (.Name "range" p) [a,b] [] p2,ifs,0⟩] scope pos) spos) (Br (Ge T.length tA g tf te) (Aw i0)):=
 (Zt (g:=Ek X.K g) (tf:=Ef X.K tf) (te:=B5 X.K te) hc ok (Hj hgl hm ha hst hst2) hg hf he hN hi0 hy hfn hsw hs).imp fun E0 σ H h0=>by
 obtain⟨σD,G,Q',rs,rg,h,cl⟩:=Wc h0
 refine⟨σD,G,_,rs,rg,h,fun ds G1 ⟨i,j,ej,hij,L⟩ H1 x1 rg1 vs dv=>?_⟩
 subst ej
 obtain⟨v,w,rfl,r,r'⟩:=dv.two
 cases r;cases r'
 refine⟨i,j,rfl,hij,fun p hp=>C3 (J:=Itr i (j-i).toNat) (rs.ext x1) rg1 hp (fun d' G' q=>(cl d' G' q).go x1) (fun H' G' x' rg' _=>D4 (G:=G') ?_) (L p (rg1.free hp))⟩
 refine⟨fun k hk=>by rw[Bh] at hk;exact hk,fun k x H2 hk y=>?_,by show(j-i).toNat≤_;rw[Bh];exact Nat.le_refl _⟩
 rw[Bh] at hk
 obtain⟨e1,e2⟩:=y
 refine⟨e1,_,Ec hk,?_⟩
 rw[e2]
 exact .int _

end
end D3
set_option maxRecDepth 100000
set_option maxHeartbeats 1000000
namespace D3
open PySem PySem.Spec
open PyProof.Rows hiding St
open L2 hiding St
section
variable{X:Cx}
def dRepL:DR2:=fun x y G Q=>∃a k,x=.ref a∧y=.int k∧∃xs,G a=some (.lst xs)∧0≤k∧xs.length*k.toNat≤sizeLine∧k<2 ^ 60∧∀p,G p=none→Q (.ref p) (Ab G p (.lst (List.replicate k.toNat xs).flatten))
theorem DVs.rep{K:W.Frag}{H:Hp}{ds:List D}{vs:List V}(h:DVs K H ds vs):∀n:Nat,DVs K H (List.replicate n ds).flatten (List.replicate n vs).flatten
 |0=>.nil
 |n+1=>by rw[List.replicate_succ,List.replicate_succ,List.flatten_cons,List.flatten_cons];exact h.append (h.rep n)
theorem Wn:QOp X (binaryOp .Mult) dRepL:=by
 intro pins s σ H x y v u Q I rx ry ⟨dx,dy,G,Q',hx,hy,rg,⟨a,k,ex,ey,xs,ga,k0,hz,k1,h⟩,cl⟩
 subst ex ey
 cases hx;cases hy
 obtain⟨vs,ea,ra⟩:=rg a _ ga
 exact Ade pins s σ H _ _ v u Q I rx ry ⟨a,k,vs,rfl,rfl,ea,by omega,by omega,by rw[←ra.length];exact hz,fun p hp=>cl _ _ (h p (rg.free hp)) _ (Ext.fresh hp) (rg.lst hp (ra.rep _)) _ (.ref p)⟩
end
section
theorem Hw:fillsNumberSlot (.type "tuple") "mul" = pure false:=
 PySem.fillsNumberSlot_seq (id:="tuple.__mul__") (r:=some (.builtin "tuple.__rmul__")) PySem.F.slot_tuple_mul.lookup (by decide +kernel) PySem.F.slot_tuple_rmul.lookup (by decide +kernel)
theorem Nk:seqRepeat? (.type "tuple")=pure (some (.builtin "tuple.__mul__")):=by
 unfold seqRepeat?
 rw[PySem.seqSlot_of (T:="tuple") (name:="__mul__") (id:="tuple.__mul__") PySem.F.slot_tuple_mul.lookup (by decide +kernel),PySem.seqSlot_of (T:="tuple") (name:="__rmul__") (id:="tuple.__rmul__") PySem.F.slot_tuple_rmul.lookup (by decide +kernel)]
 rfl
theorem Ky(a:Int)(t:Tok)(l:Addr)(items:Array Value)(n:Nat)(dd:Option Addr)(sl:Array (Option Value)) :
  Meets (Builtin.«int.__rmul__» ⟨[.int a t,.ref l],[]⟩) (fun _ R s=>s.heap.get? l=some { cls:=.type "tuple",dict:=dd,data:=.seq items n,slots:=sl }∧R (.ok (.ret Value.notImplemented)) s):=
 .of_wp fun prog w A R s h=>by obtain⟨hp,g,d,tk,os⟩:=s;obtain⟨hl,h⟩:=h;wp_walk;exact⟨_,rfl,h⟩
theorem Q2(l:Addr)(items:Array Value)(n:Nat)(dd:Option Addr)(sl:Array (Option Value))(x:Int)(u:Tok)(h2:2≤x)(h3:x<2 ^ 60)(he:items.isEmpty=false)(hz:items.size*x.toNat≤sizeLine) :
  Meets (Builtin.«tuple.__mul__» ⟨[.ref l,.int x u],[]⟩) (fun _ R s=>s.heap.get? l=some { cls:=.type "tuple",dict:=dd,data:=.seq items n,slots:=sl }∧R (.ok (.ret (Value.ref s.heap.objs.size))) { s with heap:=s.heap.push { cls:=Value.type "tuple",data:=Data.seq ((List.replicate x.toNat items).foldl (fun a b=>a++b) #[]) } }):=
 .of_wp fun prog w A R s h=>by
  obtain⟨hp,g,d,tk,os⟩:=s;obtain⟨hl,h⟩:=h
  wp_walk
  refine B8 (by simp;omega) ?_
  wp_walk
  have ex:(items.size:Int)*x=((items.size*x.toNat:Nat):Int):=by
   rw[Int.natCast_mul,Int.toNat_of_nonneg (by omega)]
  have hs:=sizeLine_eq
  refine B8 (by rw[he];simp;omega) ?_
  dsimp only
  refine B8 (by rw[he];simp;omega) ?_
  refine B8 (by rw[ex];omega) ?_
  refine B8 (by rw[ex];unfold Builtin.Tuple.tupleTooMany;rw[decide_eq_true_eq];omega) ?_
  have fit:(List.foldl (fun x1 x2=>x1++x2) #[] (List.replicate x.toNat items)).size≤sizeLine:=by
   have e:=E8 items.toList x.toNat []
   rw[List.nil_append] at e
   have e:List.foldl (fun x1 x2=>x1++x2) #[] (List.replicate x.toNat items)=(List.replicate x.toNat items.toList).flatten.toArray:=by simpa using e
   rw[e,List.size_toArray,M5,Array.length_toList,Nat.mul_comm];exact hz
  exact wpAny_bind (m:=Builtin.Tuple.tupleExact _) (wpAny_newObj_type (wpAny_pure ⟨_,rfl,h⟩) fit)
end
section
variable{X:Cx}
def dRepT:DR2:=fun x y G Q=>∃xs k,x=.tup xs∧y=.int k∧xs≠[]∧2≤k∧k<2 ^ 60∧xs.length*k.toNat≤sizeLine∧Q (.tup (List.replicate k.toNat xs).flatten) G
theorem Wm:QOp X (binaryOp .Mult) dRepT:=by
 intro pins s σ H x y v u Q I rx ry ⟨dx,dy,G,Q',hx,hy,rg,⟨xs,k,ex,ey,hne,k2,k60,hz,q⟩,cl⟩
 subst ex ey
 cases hy
 cases hx with
 |@tup _ a vs ea ra=>
  cases rx
  obtain⟨t,rfl⟩:=ry
  obtain⟨its,r1,p1,_⟩:=I.tuple (.inl (.inl ea))
  obtain⟨⟨cls,dd,data,sl⟩,ho,hcl,n,hd⟩:=id p1
  simp only at hcl hd
  subst hcl hd
  have l1:=r1.length
  have l2:=ra.length
  have hsz:its.toArray.size*k.toNat≤sizeLine:=by rw[List.size_toArray,←l1,←l2];exact hz
  have he:its.toArray.isEmpty=false:=by
   cases its with
   |nil=>exact absurd (List.eq_nil_of_length_eq_zero (by rw[l2,l1];rfl)) hne
   |cons _ _=>rfl
  have hnew:List.foldl (fun a b=>a++b) #[] (List.replicate k.toNat its.toArray)=(List.replicate k.toNat its).flatten.toArray:=by
   have:=E8 its k.toNat []
   rw[List.nil_append] at this
   exact this
  refine wpAny_binaryOp_repeat_ref (T:="tuple") (U:="int") (by decide) ⟨_,ho,rfl⟩ (fun s'=>typeIs_int s' k t) Hw PySem.F.fills_int_mul PySem.F.slot_int_rmul Nk PySem.F.slot_int_index.lookup
   (call_meets PySem.F.slot_int_rmul (typeIs_int s k t) PySem.F.entry_int_rmul (PySem.F.args_int_rmul_2 _ _) (Ky k t a its.toArray n dd sl)
    ⟨ho,rfl,⟨_,ho,rfl⟩,call_meets PySem.F.slot_tuple_mul ⟨_,ho,rfl⟩ PySem.F.entry_tuple_mul (PySem.F.args_tuple_mul_2 _ _) (Q2 a its.toArray n dd sl k t k2 k60 he hsz) ⟨ho,?_⟩⟩)
  rw[hnew]
  have hp:=I.hok.fresh (Nat.le_refl s.heap.objs.size)
  refine⟨.ref s.heap.objs.size,_,I.laid (t':=s.toks) (o:=.tup (List.replicate k.toNat vs).flatten) (fun b o z=>Heap.get?_push_of_some _ z) (Nat.le_refl _) (show ObjOk X.prog X.w _ _ _ (.tup _) from⟨by rw[M5,Nat.mul_comm,←l2];exact hz,_,r1.rep k.toNat,IsTup.new _ _⟩),rfl,?_⟩
  exact cl _ G q _ (Ext.fresh hp) (rg.tup hp) _ (.tup Ak ((ra.rep _).ext (Ext.fresh hp)))
end
end D3
set_option maxRecDepth 100000
namespace D3
open PySem PySem.Spec PyProof.Rows L2
section
variable{X:Cx}{pos:Pos}
theorem q_v1{i:Nat}{x:Str}(h:X.N[i]? = some x∧X.env.scope.names.lookup x=some .local∧(x == ("__debug__" : Str))=false∧(x == ("__classdict__" : Str))=false):QE X (.Name x pos) (Am i):=Abd h.1 (.inl h.2.1) h.2.2.1 h.2.2.2
theorem q_v2{i:Nat}{x:Str}(h:X.N[i]? = some x∧X.env.scope.names.lookup x=some .cell∧(x == ("__debug__" : Str))=false∧(x == ("__classdict__" : Str))=false):QE X (.Name x pos) (Am i):=Abd h.1 (.inr (.inl h.2.1)) h.2.2.1 h.2.2.2
end
end D3
set_option maxRecDepth 100000
set_option maxHeartbeats 4000000
namespace K2
open PySem L2 D3
def top(i:Nat):Stmt:=PySem.Challenge.pw_laidmarks_k44_whole_fairways.main.body.getD i (.Pass ⟨0,0,0,0⟩)
abbrev Pa:List Str:=["len", "range", "abs", "divmod", "max", "min", "tuple", "int", "bool", "list", "str", "isinstance", "all", "sorted", "repr", "dict", "zip", "set"]
theorem exPow{p:Int→Int→Prop}{i j:Int}:(∃a b,D.int i=D.int a∧D.int j=D.int b∧p a b)↔p i j:=⟨fun⟨_,_,e1,e2,h⟩=>by cases e1;cases e2;exact h,fun h=>⟨i,j,rfl,rfl,h⟩⟩
theorem Aa5{α:Type}{xs:List α}{i:Int}(h0:0≤i)(h1:i<xs.length):∃x,atI xs i=some x∧x∈xs:=by
 obtain⟨k,rfl⟩:=Int.eq_ofNat_of_zero_le h0
 have hk:k<xs.length:=by omega
 exact⟨xs[k],Dc (List.getElem?_eq_getElem hk),List.getElem_mem hk⟩
section
variable{P:Program}{w:World}{K:W.Frag}{mg:Str→Option Value}{base:Heap}
structure Blt(mg:Str→Option Value):Prop where
 blt:∀{x:Str},x∈Pa→mg x=none
abbrev s_L_cell:Stmt:=top 105
abbrev Y6:List Str:=["_law_script", "_law_k"]
abbrev p_L_cell:List Str:=["_law_script", "_law_k"]
theorem T5:FnScope Y6 p_L_cell (defScope s_L_cell):=⟨rfl,rfl,rfl,by decide +kernel,rfl,by decide +kernel,by decide +kernel⟩
def spCell:DSp:=fun ds G Q _=>∃ns k,ds=[.lint ns,.int k]∧0≤k∧∀n,Q (.int n) G
theorem Aai{f:Addr}{fd:FuncData}(F:Fun K "_law_cell" "_law_cell" s_L_cell f fd)(T:Blt mg):FnOk P w K mg base CX0 1 f fd p_L_cell (liftSp K spCell):=by
 refine okD F T5 (fun ds G Q E h=>?_) (fun cdv A outer s H XE ds G Q E hr h=>?_)
 ·obtain⟨a,c,rfl,_⟩:=h;rfl
 ·obtain⟨ns,k,rfl,k0,q⟩:=h
  refine⟨_,(@qss_cons _ _ _ _ _ (@qs_if _ _ _ _ _ _ _ _ (@qt_cmp _ _ _ _ _ _ _ _ (@o_lt _) (@q_v1 _ _ 1 _ (by exact⟨rfl,rfl,rfl,rfl⟩)) (@q_callB _ _ _ _ _ _ _ _ _ (@c_len _) (T.blt (by decide)) (by decide +kernel) (@qa_consP _ _ _ _ _ (@q_v1 _ _ 0 _ (by exact⟨rfl,rfl,rfl,rfl⟩)) (@qa_nil _) (by rfl)) (by rfl) (by decide) (by decide) (by rfl) (by rfl)) (nomark _)) (@qss_one _ _ _ (@qs_ret _ _ _ _ (@C4 _ _ _ _ _ _ (@q_v1 _ _ 0 _ (by exact⟨rfl,rfl,rfl,rfl⟩)) (@q_v1 _ _ 1 _ (by exact⟨rfl,rfl,rfl,rfl⟩)) (by intro _ _ ;rfl)))) (@qss_nil _)) (@qss_one _ _ _ (@qs_ret _ _ _ _ (@q_int _ _ _ _)))),?_⟩
  obtain⟨k,rfl⟩:=Int.eq_ofNat_of_zero_le k0
  simp only[Bj,Cq,Bw,nOp,Am,Ah,List.map_cons,List.map_nil,List.length_cons,List.length_nil,Nat.zero_add,Nat.reduceAdd,Nat.reduceSub,List.replicate,List.cons_append,List.nil_append,List.getElem?_cons_succ,List.getElem?_cons_zero,Option.some.injEq,nCB,Aj,Aq,List.cons.injEq,and_true,dI0,D.int.injEq,D.bl.injEq,Bc,dIx,exists_eq_left',Uy,Bm,nC,decide_eq_true_eq,Ov]
  by_cases h:k<ns.length
  ·refine it0 (by omega) ?_
   have e:ns[k]? = some ns[k]:=by simp[h]
   exact⟨_,Ad8 (by rw[List.getElem?_map,e];rfl),Fq.of (q _)⟩
  ·refine it1 (by omega) ?_
   exact Fq.of (q _)
abbrev s_L_mix:Stmt:=top 106
abbrev Aa8:List Str:=["_law_cell_here", "_law_k", "_law_some", "_law_stir"]
abbrev E3:List Str:=["_law_cell_here", "_law_k"]
theorem sc_L_mix:FnScope Aa8 E3 (defScope s_L_mix):=⟨rfl,rfl,rfl,by decide +kernel,rfl,by decide +kernel,by decide +kernel⟩
def N6:DSp:=fun ds G Q _=>∃c k,ds=[.int c,.int k]∧0≤k∧k<100000∧∀n,Q (.int n) G
theorem Adn{f:Addr}{fd:FuncData}(F:Fun K "_law_mix" "_law_mix" s_L_mix f fd)(T:Blt mg):FnOk P w K mg base CX0 1 f fd E3 (liftSp K N6):=by
 refine okD F sc_L_mix (fun ds G Q E h=>?_) (fun cdv A outer s H XE ds G Q E hr h=>?_)
 ·obtain⟨a,c,rfl,_⟩:=h;rfl
 ·obtain⟨c,k,rfl,k0,k1,q⟩:=h
  refine⟨_,(@qss_cons _ _ _ _ _ (@qs_set _ _ _ _ 2 _ _ sc_L_mix.nd (@q_lst _ _ _ _ (@qa_consP _ _ _ _ _ (@q_int _ _ _ _) (@qa_consP _ _ _ _ _ (@q_int _ _ _ _) (@qa_consP _ _ _ _ _ (@q_int _ _ _ _) (@qa_consP _ _ _ _ _ (@q_int _ _ _ _) (@qa_consP _ _ _ _ _ (@q_int _ _ _ _) (@qa_consP _ _ _ _ _ (@q_int _ _ _ _) (@qa_consP _ _ _ _ _ (@q_int _ _ _ _) (@qa_consP _ _ _ _ _ (@q_int _ _ _ _) (@qa_consP _ _ _ _ _ (@q_int _ _ _ _) (@qa_consP _ _ _ _ _ (@q_int _ _ _ _) (@qa_consP _ _ _ _ _ (@q_int _ _ _ _) (@qa_consP _ _ _ _ _ (@q_int _ _ _ _) (@qa_consP _ _ _ _ _ (@q_int _ _ _ _) (@qa_nil _) (by rfl)) (by rfl)) (by rfl)) (by rfl)) (by rfl)) (by rfl)) (by rfl)) (by rfl)) (by rfl)) (by rfl)) (by rfl)) (by rfl)) (by rfl))) (by rfl) (by exact .inl rfl) (by rfl) (by exact .inl rfl)) (@qss_cons _ _ _ _ _ (@qs_set _ _ _ _ 3 _ _ sc_L_mix.nd (@q_op _ _ _ _ _ _ _ _ (@F0 _) (@q_op _ _ _ _ _ _ _ _ (@o_addD _) (@q_op _ _ _ _ _ _ _ _ (@N8 _) (@q_v1 _ _ 0 _ (by exact⟨rfl,rfl,rfl,rfl⟩)) (@q_int _ _ _ _)) (@q_int _ _ _ _)) (@C4 _ _ _ _ _ _ (@q_v1 _ _ 2 _ (by exact⟨rfl,rfl,rfl,rfl⟩)) (@q_op _ _ _ _ _ _ _ _ (@N8 _) (@q_v1 _ _ 1 _ (by exact⟨rfl,rfl,rfl,rfl⟩)) (@q_int _ _ _ _)) (by intro _ _ ;rfl))) (by rfl) (by exact .inl rfl) (by rfl) (by exact .inl rfl)) (@qss_cons _ _ _ _ _ (@qs_set _ _ _ _ 3 _ _ sc_L_mix.nd (@q_op _ _ _ _ _ _ _ _ (@o_addD _) (@q_op _ _ _ _ _ _ _ _ (@o_addD _) (@q_v1 _ _ 3 _ (by exact⟨rfl,rfl,rfl,rfl⟩)) (@q_op _ _ _ _ _ _ _ _ (@F0 _) (@q_int _ _ _ _) (@q_v1 _ _ 1 _ (by exact⟨rfl,rfl,rfl,rfl⟩)))) (@q_op _ _ _ _ _ _ _ _ (@F0 _) (@q_int _ _ _ _) (@q_op _ _ _ _ _ _ _ _ (@Qt _) (@q_v1 _ _ 1 _ (by exact⟨rfl,rfl,rfl,rfl⟩)) (@q_int _ _ _ _)))) (by rfl) (by exact .inl rfl) (by rfl) (by exact .inl rfl)) (@qss_cons _ _ _ _ _ (@qs_set _ _ _ _ 3 _ _ sc_L_mix.nd (@q_op _ _ _ _ _ _ _ _ (@N8 _) (@q_v1 _ _ 3 _ (by exact⟨rfl,rfl,rfl,rfl⟩)) (@q_int _ _ _ _)) (by rfl) (by exact .inl rfl) (by rfl) (by exact .inl rfl)) (@qss_one _ _ _ (@qs_ret _ _ _ _ (@q_op _ _ _ _ _ _ _ _ (@Qt _) (@q_op _ _ _ _ _ _ _ _ (@N8 _) (@q_op _ _ _ _ _ _ _ _ (@o_addD _) (@q_op _ _ _ _ _ _ _ _ (@F0 _) (@q_v1 _ _ 3 _ (by exact⟨rfl,rfl,rfl,rfl⟩)) (@q_v1 _ _ 3 _ (by exact⟨rfl,rfl,rfl,rfl⟩))) (@q_op _ _ _ _ _ _ _ _ (@F0 _) (@q_int _ _ _ _) (@q_v1 _ _ 1 _ (by exact⟨rfl,rfl,rfl,rfl⟩)))) (@q_int _ _ _ _)) (@q_int _ _ _ _)))))))),?_⟩
  have sz:13≤sizeLine:=szl (by decide)
  simp only[Bj,Br,Fn,Aj,nC,Aq,List.length_cons,List.length_nil,Nat.zero_add,Nat.reduceAdd,sz,Aw,nOp,Am,Ah,List.map_cons,List.map_nil,Nat.reduceSub,List.replicate,List.cons_append,List.nil_append,List.set_cons_succ,List.set_cons_zero,List.getElem?_cons_zero,Option.some.injEq,dI,D.int.injEq,List.getElem?_cons_succ,dIx,CMul,Int.reducePow,Int.reduceNeg,Qf,Bc,and_assoc,exists_eq_left',Int.reduceLT,true_and,Bl,and_self,true_or]
  intro p hp
  have h0:0≤k % 13:=Int.emod_nonneg _ (by decide)
  have h1:k % 13<13:=Int.emod_lt_of_pos _ (by decide)
  have p1:∀x:Int,0≤x % 2147483647∧x % 2147483647<2147483647:=fun x=>⟨Int.emod_nonneg _ (by decide),Int.emod_lt_of_pos _ (by decide)⟩
  have p2:∀x:Int,0≤x % 1000000007∧x % 1000000007<1000000007:=fun x=>⟨Int.emod_nonneg _ (by decide),Int.emod_lt_of_pos _ (by decide)⟩
  obtain⟨d,hd,hm⟩:=Aa5 (xs:=[D.int 48271,.int 69621,.int 16807,.int 39373,.int 30269,.int 40014,.int 40692,.int 50021,.int 61687,.int 71993,.int 83869,.int 95561,.int 30307]) h0 h1
  obtain⟨m,rfl⟩:∃m,d=.int m:=by
   simp only[List.mem_cons,List.not_mem_nil,or_false] at hm
   rcases hm with rfl|rfl|rfl|rfl|rfl|rfl|rfl|rfl|rfl|rfl|rfl|rfl|rfl<;>exact⟨_,rfl⟩
  have a1:=p1 c
  simp only[Dq Aa,hd,Option.some.injEq,Int.reduceNeg,exists_eq_left',D.int.injEq]
  refine⟨.inl ⟨by omega,by omega⟩,.inl ⟨?_,?_⟩,G,Sub.new hp,q _⟩
  ·exact Int.lt_of_lt_of_le (by decide) (p2 _).1
  ·exact Int.lt_trans (p2 _).2 (by decide)
abbrev s_L_box:Stmt:=top 107
abbrev Aa9:List Str:=["_law_script", "_law_k", "_law_lap", "_law_cell_here", "_law_number", "_law_j"]
abbrev p_L_box:List Str:=["_law_script", "_law_k", "_law_lap"]
theorem sc_L_box:FnScope Aa9 p_L_box (defScope s_L_box):=⟨rfl,rfl,rfl,by decide +kernel,rfl,by decide +kernel,by decide +kernel⟩
def spBox:DSp:=fun ds G Q _=>∃ns k lap,ds=[.lint ns,.int k,.int lap]∧(0≤k∧k<100∧0≤lap∧lap<10)∧∀p,G p=none→∀n,Q (.ref p) (Ab G p (.lst [.int n]))
theorem Adq{f:Addr}{fd:FuncData}(F:Fun K "_law_box" "_law_box" s_L_box f fd)(T:Blt mg)(Ag4:Def P w K mg base CX0 1 "_law_cell" p_L_cell spCell)(Ag5:Def P w K mg base CX0 1 "_law_mix" E3 N6):FnOk P w K mg base CX0 2 f fd p_L_box (liftSp K spBox):=by
 refine okD F sc_L_box (fun ds G Q E h=>?_) (fun cdv A outer s H XE ds G Q E hr h=>?_)
 ·obtain⟨a,c,l,rfl,_⟩:=h;rfl
 ·obtain⟨ns,k,lap,rfl,⟨k0,k1,l0,l1⟩,q⟩:=h
  refine⟨_,(@qss_cons _ _ _ _ _ (@qs_set _ _ _ _ 3 _ _ sc_L_box.nd (@q_call _ _ _ _ _ _ _ _ noX _ _ _ Ag4 (hr.mono (by decide)) (@passN _ _) (@qa_consP _ _ _ _ _ (@q_v1 _ _ 0 _ (by exact⟨rfl,rfl,rfl,rfl⟩)) (@qa_consP _ _ _ _ _ (@q_v1 _ _ 1 _ (by exact⟨rfl,rfl,rfl,rfl⟩)) (@qa_nil _) (by rfl)) (by rfl)) (by rfl) (by decide) (by rfl) (by rfl)) (by rfl) (by exact .inl rfl) (by rfl) (by exact .inl rfl)) (@qss_cons _ _ _ _ _ (@qs_if _ _ _ _ _ _ _ _ (@qt_of _ _ _ (@qw_and _ _ _ _ _ _ _ (@qt_cmp _ _ _ _ _ _ _ _ (@o_eq _) (@q_op _ _ _ _ _ _ _ _ (@N8 _) (@q_v1 _ _ 3 _ (by exact⟨rfl,rfl,rfl,rfl⟩)) (@q_int _ _ _ _)) (@q_int _ _ _ _) (nomark _)) (@qw_and1 _ _ _ _ (@qt_cmp _ _ _ _ _ _ _ _ (@o_eq _) (@q_v1 _ _ 2 _ (by exact⟨rfl,rfl,rfl,rfl⟩)) (@q_int _ _ _ _) (nomark _))))) (@qss_one _ _ _ (@qs_ret _ _ _ _ (@q_lst _ _ _ _ (@qa_consP _ _ _ _ _ (@q_op _ _ _ _ _ _ _ _ (@Qt _) (@q_callB _ _ _ _ _ _ _ _ _ (@Abt _) (T.blt (by decide)) (by decide +kernel) (@qa_consP _ _ _ _ _ (@q_v1 _ _ 3 _ (by exact⟨rfl,rfl,rfl,rfl⟩)) (@qa_nil _) (by rfl)) (by rfl) (by decide) (by decide) (by rfl) (by rfl)) (@q_int _ _ _ _)) (@qa_nil _) (by rfl))))) (@qss_nil _)) (@qss_cons _ _ _ _ _ (@qs_set _ _ _ _ 4 _ _ sc_L_box.nd (@q_int _ _ _ _) (by rfl) (by exact .inl rfl) (by rfl) (by exact .inl rfl)) (@qss_cons _ _ _ _ _ (@Ea _ _ _ _ _ _ _ _ _ _ PassesOwn.never rfl (T.blt (by decide)) (@qa_consP _ _ _ _ _ (@q_int _ _ _ _) (@qa_nil _) (by rfl)) (@qg_name _ _ 5 _ sc_L_box.nd (by rfl) (by exact .inl rfl) (by exact .inl rfl)) (@qss_one _ _ _ (@qs_set _ _ _ _ 4 _ _ sc_L_box.nd (@q_op _ _ _ _ _ _ _ _ (@o_addD _) (@q_op _ _ _ _ _ _ _ _ (@F0 _) (@q_v1 _ _ 4 _ (by exact⟨rfl,rfl,rfl,rfl⟩)) (@q_int _ _ _ _)) (@q_call _ _ _ _ _ _ _ _ noX _ _ _ Ag5 (hr.mono (by decide)) (@passN _ _) (@qa_consP _ _ _ _ _ (@q_v1 _ _ 3 _ (by exact⟨rfl,rfl,rfl,rfl⟩)) (@qa_consP _ _ _ _ _ (@q_op _ _ _ _ _ _ _ _ (@o_addD _) (@q_op _ _ _ _ _ _ _ _ (@F0 _) (@q_int _ _ _ _) (@q_v1 _ _ 2 _ (by exact⟨rfl,rfl,rfl,rfl⟩))) (@q_v1 _ _ 5 _ (by exact⟨rfl,rfl,rfl,rfl⟩))) (@qa_nil _) (by rfl)) (by rfl)) (by rfl) (by decide) (by rfl) (by rfl))) (by rfl) (by exact .inl rfl) (by rfl) (by exact .inl rfl))) (by rfl) (by rfl) (by intro _ ;rfl)) (@qss_one _ _ _ (@qs_ret _ _ _ _ (@q_lst _ _ _ _ (@qa_consP _ _ _ _ _ (@q_v1 _ _ 4 _ (by exact⟨rfl,rfl,rfl,rfl⟩)) (@qa_nil _) (by rfl))))))))),?_⟩
  have sz:1≤sizeLine:=szl (by decide)
  simp only[Bj,Br,Ar,Aj,Am,Ah,List.map_cons,List.map_nil,List.length_cons,List.length_nil,Nat.zero_add,Nat.reduceAdd,Nat.reduceSub,List.replicate,List.cons_append,List.nil_append,List.getElem?_cons_zero,Option.some.injEq,List.getElem?_cons_succ,Aq,spCell,List.cons.injEq,and_true,Aw,Cq,Vs,Bw,nOp,List.set_cons_succ,List.set_cons_zero,nC,dI,D.int.injEq,dEq,eqS,D.bl.injEq,Bc,Fn,nCB,Qf,sz,true_and,and_assoc,exists_eq_left',Int.reduceLT,Bm,Ig,Int.reducePow,Int.reduceNeg,Int.reduceLE,Int.reduceToNat,decide_eq_true_eq,reduceCtorEq,if_false,exists_and_left,k0]
  refine⟨ns,rfl,fun n=>?_⟩
  by_cases h2:n % 2=0
  ·refine it0 h2 ?_
   by_cases hl:lap=0
   ·refine it0 hl ?_;exact fun p hp=>Fq.of (q p hp _)
   ·refine it1 hl ?_
    refine B1 (fun i σ G'=>∃v v',σ=[some (.lint ns),some (.int k),some (.int lap),some (.int n),some (.int v),v']∧G=G') ⟨0,none,rfl,rfl⟩ ?_ ?_
    ·rintro i σ G' hi ⟨v,v',rfl,rfl⟩
     simp only[Aw,Br,nOp,Am,List.set_cons_succ,List.set_cons_zero,List.getElem?_cons_succ,List.getElem?_cons_zero,Option.some.injEq,nC,dI,D.int.injEq,CMul,Int.reducePow,Int.reduceNeg,Ar,Aj,Aq,N6,List.cons.injEq,and_true,Bl,and_assoc,exists_and_left,exists_eq_left',Int.reduceLT,and_self,true_or,true_and,or_true]
     refine⟨by omega,by omega,fun m=>Fs.of ⟨_,_,rfl,rfl⟩⟩
    ·rintro σ G' ⟨v,v',rfl,rfl⟩
     simp only[Bc,Fn,Aj,Am,List.getElem?_cons_succ,List.getElem?_cons_zero,Option.some.injEq,Aq,List.length_cons,List.length_nil,Nat.zero_add,sz,true_and,exists_eq_left']
     exact fun p hp=>Fq.of (q p hp _)
  ·refine it1 h2 ?_
   refine B1 (fun i σ G'=>∃v v',σ=[some (.lint ns),some (.int k),some (.int lap),some (.int n),some (.int v),v']∧G=G') ⟨0,none,rfl,rfl⟩ ?_ ?_
   ·rintro i σ G' hi ⟨v,v',rfl,rfl⟩
    simp only[Aw,Br,nOp,Am,List.set_cons_succ,List.set_cons_zero,List.getElem?_cons_succ,List.getElem?_cons_zero,Option.some.injEq,nC,dI,D.int.injEq,CMul,Int.reducePow,Int.reduceNeg,Ar,Aj,Aq,N6,List.cons.injEq,and_true,Bl,and_assoc,exists_and_left,exists_eq_left',Int.reduceLT,and_self,true_or,true_and,or_true]
    refine⟨by omega,by omega,fun m=>Fs.of ⟨_,_,rfl,rfl⟩⟩
   ·rintro σ G' ⟨v,v',rfl,rfl⟩
    simp only[Bc,Fn,Aj,Am,List.getElem?_cons_succ,List.getElem?_cons_zero,Option.some.injEq,Aq,List.length_cons,List.length_nil,Nat.zero_add,sz,true_and,exists_eq_left']
    exact fun p hp=>Fq.of (q p hp _)
abbrev s_L_take:Stmt:=top 108
abbrev Y4:List Str:=["_law_box_here", "_law_count", "_law_left", "_law_digit"]
abbrev p_L_take:List Str:=["_law_box_here", "_law_count"]
theorem sc_L_take:FnScope Y4 p_L_take (defScope s_L_take):=⟨rfl,rfl,rfl,by decide +kernel,rfl,by decide +kernel,by decide +kernel⟩
def spTake:DSp:=fun ds G Q _=>∃a c,ds=[.ref a,.int c]∧(∃b,G a=some (.lst [.int b]))∧(0<c∧c<1073741824)∧∀r b',0≤r→r<c→Q (.int r) (Ab G a (.lst [.int b']))
theorem Z8{f:Addr}{fd:FuncData}(F:Fun K "_law_take" "_law_take" s_L_take f fd)(T:Blt mg):FnOk P w K mg base CX0 1 f fd p_L_take (liftSp K spTake):=by
 refine okD F sc_L_take (fun ds G Q E h=>?_) (fun cdv A outer s H XE ds G Q E hr h=>?_)
 ·obtain⟨a,c,rfl,_⟩:=h;rfl
 ·obtain⟨a,c,rfl,⟨b,hG⟩,⟨c0,c1⟩,q⟩:=h
  refine⟨_,(@qss_cons _ _ _ _ _ (@Dn _ _ _ _ _ _ (@q_callB _ _ _ _ _ _ _ _ _ (@Yw _) (T.blt (by decide)) (by decide +kernel) (@qa_consP _ _ _ _ _ (@C4 _ _ _ _ _ _ (@q_v1 _ _ 0 _ (by exact⟨rfl,rfl,rfl,rfl⟩)) (@q_int _ _ _ _) (by intro _ _ ;rfl)) (@qa_consP _ _ _ _ _ (@q_v1 _ _ 1 _ (by exact⟨rfl,rfl,rfl,rfl⟩)) (@qa_nil _) (by rfl)) (by rfl)) (by rfl) (by decide) (by decide) (by rfl) (by rfl)) (@qg_tup _ _ _ _ _ 2 rfl (@qgs_cons _ _ _ _ _ (@qg_name _ _ 2 _ sc_L_take.nd (by rfl) (by exact .inl rfl) (by exact .inl rfl)) (@qgs_cons _ _ _ _ _ (@qg_name _ _ 3 _ sc_L_take.nd (by rfl) (by exact .inl rfl) (by exact .inl rfl)) (@qgs_nil _) (by rfl)) (by rfl)) (by rfl) (by rfl)) (by rfl) (by rfl) (by rfl)) (@qss_cons _ _ _ _ _ (@Dn _ _ _ _ _ _ (@q_v1 _ _ 2 _ (by exact⟨rfl,rfl,rfl,rfl⟩)) (@Wg _ _ _ _ _ _ _ (@q_v1 _ _ 0 _ (by exact⟨rfl,rfl,rfl,rfl⟩)) (@q_int _ _ _ _) (@Wd _) (by intro _ ;rfl)) (by rfl) (by rfl) (by rfl)) (@qss_one _ _ _ (@qs_ret _ _ _ _ (@q_v1 _ _ 3 _ (by exact⟨rfl,rfl,rfl,rfl⟩)))))),?_⟩
  simp only[Bj,Br,nCB,Aj,nOp,Am,Ah,List.map_cons,List.map_nil,List.length_cons,List.length_nil,Nat.zero_add,Nat.reduceAdd,Nat.reduceSub,List.replicate,List.cons_append,List.nil_append,List.getElem?_cons_zero,Option.some.injEq,nC,dIx,D.int.injEq,List.getElem?_cons_succ,Aq,List.cons.injEq,and_true,Qf,Fb,D.tup.injEq,C9,Aw,Fc,List.set_cons_succ,List.set_cons_zero,mSub,V5,Bc,exists_eq_left',D.ref.injEq,hG,GO.lst.injEq,ix0,and_assoc,exists_and_left,true_and,c0,c1,Dq hG,Zc]
  exact Fq.of (q _ _ (Int.emod_nonneg _ (by omega)) (Int.emod_lt_of_pos _ c0))
def hid(G:Gp)(a:Addr):Gp:=fun b=>if b=a then none else G b
theorem Aau{G:Gp}{a:Addr}:Sub (hid G a) G:=fun b o h=>by
 unfold hid at h
 split at h
 ·cases h
 ·exact h
theorem Aav{G:Gp}{a:Addr}{o:GO}:hid (Ab G a o) a=hid G a:=by
 funext b;unfold hid Ab
 by_cases e:b=a<;>simp[e]
theorem Te{G:Gp}{a p:Addr}{o:GO}(h:a≠p):hid (Ab G p o) a=Ab (hid G a) p o:=by
 funext b;unfold hid Ab
 by_cases e:b=a
 ·subst e;simp[h]
 ·simp[e]
theorem Ke{G:Gp}{a p:Addr}(h:G p=none):hid G a p=none:=by
 unfold hid;split<;>first|rfl|exact h
structure Step(a:Addr)(G G':Gp):Prop where
 box:∃b,G' a=some (.lst [.int b])
 sub:Sub (hid G a) (hid G' a)
theorem Step.trans{a:Addr}{G G1 G2:Gp}(x:Step a G G1)(y:Step a G1 G2):Step a G G2:=⟨y.box,x.sub.trans y.sub⟩
theorem Step.refl{a:Addr}{G:Gp}(h:∃b,G a=some (.lst [.int b])):Step a G G:=⟨h,Sub.refl _⟩
theorem Step.take{a:Addr}{G G1:Gp}(x:Step a G G1)(b:Int):Step a G (Ab G1 a (.lst [.int b])):=⟨⟨b,Aa⟩,by rw[Aav];exact x.sub⟩
theorem Step.ne{a p:Addr}{G:Gp}(x:∃b,G a=some (.lst [.int b]))(h:G p=none):a≠p:=fun e=>by subst e;obtain⟨b,hb⟩:=x;rw[h] at hb;cases hb
theorem Step.lay{a p:Addr}{G G1:Gp}{o:GO}(x:Step a G G1)(h:G1 p=none):Step a G (Ab G1 p o):=by
 have n:=Step.ne x.box h
 obtain⟨b,hb⟩:=x.box
 exact⟨⟨b,by rw[Ae n];exact hb⟩,by rw[Te n];exact x.sub.skip (Ke h)⟩
theorem Step.get{a p:Addr}{G G1:Gp}{o:GO}(x:Step a G G1)(n:a≠p)(h:G p=some o):G1 p=some o:=by
 have e:hid G a p=some o:=by unfold hid;rw[if_neg (Ne.symm n)];exact h
 exact Aau _ _ (x.sub p o e)
theorem Step.back{a b:Addr}{G G1:Gp}(x:Step a G G1)(h:G1 b=none):G b=none:=by
 have n:=Step.ne x.box h
 have e:=x.sub.none (Ke (a:=a) h)
 unfold hid at e
 rwa [if_neg (Ne.symm n)] at e
theorem Step.write{a p:Addr}{G G1:Gp}{o:GO}(x:Step a G G1)(h:G p=none)(n:a≠p):Step a G (Ab G1 p o):=by
 obtain⟨b,hb⟩:=x.box
 refine⟨⟨b,by rw[Ae n];exact hb⟩,?_⟩
 rw[Te n]
 intro c u e
 rw[Ae (gne e (Ke h))];exact x.sub c u e
def nw(G G':Gp):Gp:=fun b=>if (G b).isNone=true then G' b else none
theorem Bb{G:Gp}{p q:Addr}{o u:GO}(h:G p=some o)(hq:G q=none):Ab G q u p=some o:=by rw[Ae (gne h hq)];exact h
theorem Bn{a:Addr}{G:Gp}{c:Int}{Q:DK}{E:DX}(hG:∃b,G a=some (.lst [.int b]))(c0:0<c)(c1:c<1073741824)(h:∀r b',0≤r→r<c→Q (.int r) (Ab G a (.lst [.int b']))):spTake [.ref a,.int c] G Q E:=⟨a,c,rfl,hG,⟨c0,c1⟩,h⟩
end
end K2
set_option maxRecDepth 100000
set_option maxHeartbeats 4000000
namespace K2
open PySem L2 D3
section
variable{P:Program}{w:World}{K:W.Frag}{mg:Str→Option Value}{base:Heap}
def A8(lo hi:Int):D→Bool
 |.int i=>decide (lo≤i)&&decide (i≤hi)
 |_=>false
structure Nums(mg:Str→Option Value):Prop extends Blt mg where
 LEAST_COLUMNS:∃t,mg "LEAST_COLUMNS" = some (.int 2 t)
 MOST_COLUMNS:∃t,mg "MOST_COLUMNS" = some (.int 16 t)
 LEAST_ROWS:∃t,mg "LEAST_ROWS" = some (.int 1 t)
 MOST_ROWS:∃t,mg "MOST_ROWS" = some (.int 9 t)
 LAND:∃t,mg "LAND" = some (.int 0 t)
 MOST_DEPTH:∃t,mg "MOST_DEPTH" = some (.int 9 t)
 LEAST_DRAUGHT:∃t,mg "LEAST_DRAUGHT" = some (.int 1 t)
 MOST_DRAUGHT:∃t,mg "MOST_DRAUGHT" = some (.int 9 t)
 LAST_DAY:∃t,mg "LAST_DAY" = some (.int 400 t)
 LAST_NUMBER:∃t,mg "LAST_NUMBER" = some (.int 99 t)
 MOST_NOTICES:∃t,mg "MOST_NOTICES" = some (.int 30 t)
 LAST_ROW:∃t,mg "LAST_ROW" = some (.int 8 t)
abbrev s_is_whole_within:Stmt:=top 13
abbrev Gw:List Str:=["thing", "low", "high"]
abbrev p_is_whole_within:List Str:=["thing", "low", "high"]
theorem Fu:FnScope Gw p_is_whole_within (defScope s_is_whole_within):=⟨rfl,rfl,rfl,by decide +kernel,rfl,by decide +kernel,by decide +kernel⟩
def spWhole:DSp:=fun ds G Q _=>∃d lo hi,ds=[d,.int lo,.int hi]∧Kn G d∧Q (.bl (A8 lo hi d)) G
theorem X1{f:Addr}{fd:FuncData}(F:Fun K "is_whole_within" "is_whole_within" s_is_whole_within f fd)(T:Nums mg):FnOk P w K mg base CX0 1 f fd p_is_whole_within (liftSp K spWhole):=by
 refine okD F Fu (fun ds G Q E h=>?_) (fun cdv A outer s H XE ds G Q E hr h=>?_)
 ·obtain⟨d,lo,hi,rfl,_⟩:=h;rfl
 ·obtain⟨d,lo,hi,rfl,⟨t,ht⟩,k⟩:=h
  refine⟨_,(@qss_one _ _ _ (@qs_ret _ _ _ _ (@q_and _ _ _ _ _ _ _ (@q_callB _ _ _ _ _ _ _ _ _ (@c_isinst _) (T.blt (by decide)) (by decide +kernel) (@qa_consP _ _ _ _ _ (@q_v1 _ _ 0 _ (by exact⟨rfl,rfl,rfl,rfl⟩)) (@qa_consP _ _ _ _ _ (@q_globty _ _ _ "int" (T.blt (by decide)) (by decide +kernel) (by rfl) (by decide) (by decide)) (@qa_nil _) (by rfl)) (by rfl)) (by rfl) (by decide) (by decide) (by rfl) (by rfl)) (@q_and _ _ _ _ _ _ _ (@q_not _ _ _ _ (@q_callB _ _ _ _ _ _ _ _ _ (@c_isinst _) (T.blt (by decide)) (by decide +kernel) (@qa_consP _ _ _ _ _ (@q_v1 _ _ 0 _ (by exact⟨rfl,rfl,rfl,rfl⟩)) (@qa_consP _ _ _ _ _ (@q_globty _ _ _ "bool" (T.blt (by decide)) (by decide +kernel) (by rfl) (by decide) (by decide)) (@qa_nil _) (by rfl)) (by rfl)) (by rfl) (by decide) (by decide) (by rfl) (by rfl))) (@q_one _ _ _ _ _ (@Zp _ _ _ _ _ _ _ _ _ _ _ _ (@o_le _) (@o_le _) (@q_v1 _ _ 1 _ (by exact⟨rfl,rfl,rfl,rfl⟩)) (@q_v1 _ _ 0 _ (by exact⟨rfl,rfl,rfl,rfl⟩)) (@q_v1 _ _ 2 _ (by exact⟨rfl,rfl,rfl,rfl⟩)) (by with_unfolding_all rfl))))))),?_⟩
  simp only[Bc,Se,nCB,Aj,Am,Ah,List.map_cons,List.map_nil,List.length_cons,List.length_nil,Nat.zero_add,Nat.reduceAdd,Nat.reduceSub,List.replicate,List.cons_append,List.nil_append,List.getElem?_cons_zero,Option.some.injEq,nC,Aq,List.cons.injEq,D.ty.injEq,and_true,D.bl.injEq,Abk,D7,List.getElem?_cons_succ,dI0,exists_eq_left',D.int.injEq,decide_eq_true_eq,and_assoc,exists_and_left,Aa1,true_and,ht,Ad5]
  have other:(pyIs t "int" = false∨pyIs t "bool" = true)→Q (.bl false) G→if pyIs t "int" = true then if (!pyIs t "bool")=true then ∃j,d=D.int j∧if lo≤j then ∃i,d=D.int i∧Fq Q (D.bl (decide (i≤hi))) G else Fq Q (D.bl false) G else Fq Q (D.bl false) G else Fq Q (D.bl false) G:=fun h q=>by
   rcases h with h|h
   ·rw[h,if_neg Bool.false_ne_true];exact Fq.of q
   ·rw[h];split
    ·rw[if_neg (by decide)];exact Fq.of q
    ·exact Fq.of q
  cases d with
  |int i=>
   cases ht
   rw[if_pos (by decide),if_pos (by decide)]
   refine⟨i,rfl,?_⟩
   by_cases h:lo≤i
   ·rw[if_pos h]
    refine⟨i,rfl,Fq.of ?_⟩
    simpa[A8,h] using k
   ·rw[if_neg h]
    refine Fq.of ?_
    simpa[A8,h] using k
  |bl b=>cases ht;exact other (.inr (by decide)) k
  |non=>cases ht;exact other (.inl (by decide)) k
  |str x=>cases ht;exact other (.inl (by decide)) k
  |tup ds=>cases ht;exact other (.inl (by decide)) k
  |ty n=>cases ht
  |lint ns=>cases ht
  |ref a=>
   refine other (.inl ?_) k
   simp only[B9] at ht
   split at ht<;>first|(cases ht;decide)|cases ht
def A5:D→Int
 |.int i=>i
 |_=>0
def Db:List D→Bool
 |x::y::r=>decide (A5 x<A5 y)&&Db (y::r)
 |_=>true
def ltD:D→Bool
 |.tup [u,v]=>decide (A5 u<A5 v)
 |_=>false
def risB(lo hi:Int):D→Bool
 |.tup ds=>ds.all (A8 lo hi)&&Db ds
 |_=>false
abbrev Lv:D→Bool:=risB 0 8
theorem Qx{xs:List D}:Ir xs (some 1) none=xs.drop 1:=by
 simp only[Ir,HT.sIx,if_neg (show ¬(1:Int)<0 by decide)]
 cases xs with
 |nil=>rfl
 |cons x r=>simp
theorem J2{x y:D}{xs ys:List D}:Bx [x::xs,y::ys]=.tup [x,y]::Bx [xs,ys]:=by
 have e:Di [x::xs,y::ys]=Di [xs,ys]+1:=by simp only[Di,List.length_cons];omega
 unfold Bx
 rw[e,List.range_succ_eq_map,List.map_cons,List.map_map]
 rfl
theorem Kj:∀xs:List D,(Bx [xs,xs.drop 1]).all ltD=Db xs
 |[]=>rfl
 |[x]=>by simp[Bx,Di,Db]
 |x::y::r=>by
  show(Bx [x::y::r,y::r]).all ltD=_
  rw[J2,List.all_cons]
  have:=Kj (y::r)
  simp only[List.drop_succ_cons,List.drop_zero] at this
  rw[this];rfl
theorem Da{xs ys:List D}{z:D}(h:z∈Bx [xs,ys]):∃u v,z=.tup [u,v]∧u∈xs∧v∈ys:=by
 obtain⟨i,hi,e⟩:=List.getElem_of_mem h
 have hl:i<Di [xs,ys]:=by rw[←Ci];exact hi
 have:=Oc hl
 rw[List.getElem?_eq_getElem hi,e] at this
 cases this
 have h1:=F7 hl xs (by simp)
 have h2:=F7 hl ys (by simp)
 exact⟨_,_,rfl,by simp[List.getD,h1],by simp[List.getD,h2]⟩
theorem Bd{α:Type}{xs:List α}:xs.filter (fun _=>true)=xs:=List.filter_eq_self.mpr fun _ _=>rfl
theorem Jo{G:Gp}{d:D}{t:String}(ht:B9 G d=some t)(h:t≠"tuple"):pyIs t "tuple" = false∧∀xs,d≠.tup xs:=by
 refine⟨?_,fun xs e=>by subst e;cases ht;exact h rfl⟩
 have:=Km ht
 simp only[List.mem_cons,List.not_mem_nil,or_false] at this
 rcases this with rfl|rfl|rfl|rfl|rfl|rfl|rfl<;>first|rfl|exact absurd rfl h
abbrev s_are_rising_within:Stmt:=top 14
abbrev Fh:List Str:=["thing", "low", "high"]
abbrev Az:List Str:=["thing", "low", "high"]
theorem Ex:FnScope Fh Az (defScope s_are_rising_within):=⟨rfl,rfl,rfl,by decide +kernel,rfl,by decide +kernel,by decide +kernel⟩
theorem nd_are_rising_within_1:((["number"]:List Str)++(["thing", "low", "high"]:List Str)).Nodup:=by decide +kernel
theorem Cn:((["ahead", "number"]:List Str)++(["thing", "low", "high"]:List Str)).Nodup:=by decide +kernel
def Eo:DSp:=fun ds G Q _=>∃d lo hi,ds=[d,.int lo,.int hi]∧KnT G 1 d∧(∀xs,d=.tup xs→xs.length<sizeLine)∧Q (.bl (risB lo hi d)) G
theorem Ui{f:Addr}{fd:FuncData}(F:Fun K "are_rising_within" "are_rising_within" s_are_rising_within f fd)(T:Nums mg)(Agw:Def P w K mg base CX0 1 "is_whole_within" p_is_whole_within spWhole):FnOk P w K mg base CX0 2 f fd Az (liftSp K Eo):=by
 refine okD F Ex (fun ds G Q E h=>?_) (fun cdv A outer s H XE ds G Q E hr h=>?_)
 ·obtain⟨d,lo,hi,rfl,_⟩:=h;rfl
 ·obtain⟨d,lo,hi,rfl,kn,hz,k⟩:=h
  refine⟨_,(@qss_cons _ _ _ _ _ (@qs_if _ _ _ _ _ _ _ _ (@qt_of _ _ _ (@Dt _ _ _ _ _ _ _ (@qt_not _ _ _ _ (@qt_tru _ _ _ (@q_callB _ _ _ _ _ _ _ _ _ (@c_isinst _) (T.blt (by decide)) (by decide +kernel) (@qa_consP _ _ _ _ _ (@q_v1 _ _ 0 _ (by exact⟨rfl,rfl,rfl,rfl⟩)) (@qa_consP _ _ _ _ _ (@q_globty _ _ _ "tuple" (T.blt (by decide)) (by decide +kernel) (by rfl) (by decide) (by decide)) (@qa_nil _) (by rfl)) (by rfl)) (by rfl) (by decide) (by decide) (by rfl) (by rfl)) (by intro _ ;rfl))) (@qw_or1 _ _ _ _ (@qt_not _ _ _ _ (@qt_tru _ _ _ (@q_callB _ _ _ _ _ _ _ _ _ (@c_all _ rfl) (T.blt (by decide)) (by decide +kernel) (@qa_consP _ _ _ _ _ (@q_compz _ _ _ _ _ _ _ _ _ _ _ ["number"] ["thing", "low", "high"] rfl (@compOz _ _ _ _ (by rfl) (by rfl) (by rfl) (by rfl) (by rfl)) (@q_v1 _ _ 0 _ (by exact⟨rfl,rfl,rfl,rfl⟩)) (fun _ _ _=>(@qg_name _ _ 0 _ nd_are_rising_within_1 (by rfl) (by exact .inl rfl) (by exact .inr rfl))) (fun _ _ _=>(@qf_nil _)) (fun _ _ _=>(@q_call _ _ _ _ _ _ _ _ noX _ _ _ Agw (hr.mono (by decide)) (@passN _ _) (@qa_consP _ _ _ _ _ (@q_v1 _ _ 0 _ (by exact⟨rfl,rfl,rfl,rfl⟩)) (@qa_consP _ _ _ _ _ (@q_v2 _ _ 2 _ (by exact⟨rfl,rfl,rfl,rfl⟩)) (@qa_consP _ _ _ _ _ (@q_v2 _ _ 3 _ (by exact⟨rfl,rfl,rfl,rfl⟩)) (@qa_nil _) (by rfl)) (by rfl)) (by rfl)) (by rfl) (by decide) (by rfl) (by rfl))) (by intro _ ;rfl)) (@qa_nil _) (by rfl)) (by rfl) (by decide) (by decide) (by rfl) (by rfl)) (by intro _ ;rfl)))))) (@qss_one _ _ _ (@qs_ret _ _ _ _ (@q_bl _ _ _ _))) (@qss_nil _)) (@qss_one _ _ _ (@qs_ret _ _ _ _ (@q_callB _ _ _ _ _ _ _ _ _ (@c_all _ rfl) (T.blt (by decide)) (by decide +kernel) (@qa_consP _ _ _ _ _ (@q_compzZ2 _ _ _ _ _ _ _ _ ["ahead", "number"] ["thing", "low", "high"] _ _ _ _ _ _ _ _ rfl (@compOz _ _ _ _ (by rfl) (by rfl) (by rfl) (by rfl) (by rfl)) (T.blt (by decide)) (@qa_consP _ _ _ _ _ (@q_v1 _ _ 0 _ (by exact⟨rfl,rfl,rfl,rfl⟩)) (@qa_consP _ _ _ _ _ (@F4 _ _ _ _ _ _ _ _ _ (@q_v1 _ _ 0 _ (by exact⟨rfl,rfl,rfl,rfl⟩)) (@F2 _ _ _ (@q_int _ _ _ _)) (@F3 _)) (@qa_nil _) (by rfl)) (by rfl)) (fun _ _ _=>(@qg_tup _ _ _ _ _ 2 rfl (@qgs_cons _ _ _ _ _ (@qg_name _ _ 0 _ Cn (by rfl) (by exact .inl rfl) (by exact .inr rfl)) (@qgs_cons _ _ _ _ _ (@qg_name _ _ 1 _ Cn (by rfl) (by exact .inl rfl) (by exact .inr rfl)) (@qgs_nil _) (by rfl)) (by rfl)) (by rfl) (by rfl))) (fun _ _ _=>(@qf_nil _)) (fun _ _ _=>(@q_cmp _ _ _ _ _ _ _ _ (@o_lt _) (@q_v1 _ _ 0 _ (by exact⟨rfl,rfl,rfl,rfl⟩)) (@q_v1 _ _ 1 _ (by exact⟨rfl,rfl,rfl,rfl⟩)) (nomark _))) (by rfl) (by rfl) (by rfl) (by intro _ ;rfl)) (@qa_nil _) (by rfl)) (by rfl) (by decide) (by decide) (by rfl) (by rfl))))),?_⟩
  obtain⟨t,ht⟩:=kn.kn
  simp only[Bj,Cq,nOr,Dh,C0,nCB,Aj,Am,Ah,List.map_cons,List.map_nil,List.length_cons,List.length_nil,Nat.zero_add,Nat.reduceAdd,Nat.reduceSub,List.replicate,List.cons_append,List.nil_append,List.getElem?_cons_zero,Option.some.injEq,nC,Aq,List.cons.injEq,D.ty.injEq,and_true,Bc,Bm,F6,nSl,N9,D.int.injEq,F5,true_and,exists_eq_left',if_true,C5,and_assoc,exists_and_left,Dr,ht]
  refine⟨pyIs t "tuple",rfl,?_⟩
  by_cases htt:t = "tuple"
  ·subst htt
   obtain⟨xs,rfl⟩:=Ms ht
   rw[if_neg (by decide)]
   have k2:Q (.bl (xs.all (A8 lo hi)&&Db xs)) G:=k
   have hz1:=hz xs rfl
   refine⟨xs,rfl,fun p hp=>?_⟩
   refine Ay (fun x=>.bl (A8 lo hi x)) (fun _=>true) hz1 (fun _=>rfl) (by decide) (fun x ys hx hl R1 R2 g1 _=>?_) ?_
   ·have kx:Kn (Ab G p (.lst ys)) x:=Kn.new (kn.2 xs rfl x hx) hp
    simp only[Co,Ar,Aj,Am,List.replicate,List.cons_append,List.nil_append,List.set_cons_zero,List.getElem?_cons_zero,Option.some.injEq,List.getElem?_cons_succ,Aq,spWhole,List.cons.injEq,and_true,Aa,hl,As,true_and,and_assoc,exists_and_left,exists_eq_left',D.int.injEq,kx,if_true]
    exact Fg.of (g1 rfl)
   ·refine⟨p,rfl,xs.map (A8 lo hi),by rw[Aa,Bd,List.map_map];rfl,?_⟩
    have ea:(xs.map (A8 lo hi)).all id=xs.all (A8 lo hi):=by simp[List.all_map]
    refine⟨_,rfl,?_⟩
    rw[ea]
    cases hc:xs.all (A8 lo hi) with
    |false=>
     rw[if_pos (by decide)]
     rw[hc] at k2
     exact⟨G,Sub.new hp,by simpa using k2⟩
    |true=>
     rw[if_neg (by decide)]
     rw[hc] at k2
     have allI:∀x∈xs,∃i,x=.int i:=fun x hx=>by
      have:=List.all_eq_true.mp hc x hx
      cases x with
      |int i=>exact⟨i,rfl⟩
      |_=>exact absurd (show false=true from this) Bool.false_ne_true
     rw[F1,Qx]
     have sg:Sub G (Ab G p (.lst ((xs.filter fun _=>true).map fun x=>.bl (A8 lo hi x)))):=Sub.new hp
     generalize Ab G p (.lst ((xs.filter fun _=>true).map fun x=>.bl (A8 lo hi x)))=G1 at *
     refine⟨[xs,xs.drop 1],rfl,fun p2 hp2=>?_⟩
     have hzl:(Bx [xs,xs.drop 1]).length<sizeLine:=by
      rw[Ci]
      refine Nat.lt_of_le_of_lt ?_ hz1
      simp only[Di];omega
     refine Et (fun z=>match z with|.tup [u,v]=>[some u,some v,some (.tup xs),some (.int lo),some (.int hi)]|_=>[none,none,some (.tup xs),some (.int lo),some (.int hi)]) (fun z=>.bl (ltD z)) (fun _=>true) hzl (fun _=>rfl) (fun z hz=>?_) (fun z ys hzm hl R1 R2 g1 _=>?_) ?_
     ·obtain⟨u,v,rfl,_,_⟩:=Da hz
      refine⟨⟨[some u,some v],rfl,rfl⟩,fun G' R h=>?_⟩
      simp only[Fb,D.tup.injEq,C9,Aw,Fc,List.replicate,List.cons_append,List.nil_append,List.set_cons_zero,List.set_cons_succ,exists_eq_left',List.length_cons,List.length_nil,Nat.zero_add,Nat.reduceAdd,List.cons.injEq,and_assoc,exists_and_left,true_and]
      exact h
     ·obtain⟨u,v,rfl,hu,hv⟩:=Da hzm
      obtain⟨i,rfl⟩:=allI u hu
      obtain⟨j,rfl⟩:=allI v (List.mem_of_mem_drop hv)
      simp only[Co,nOp,Am,List.getElem?_cons_zero,Option.some.injEq,List.getElem?_cons_succ,dI0,Aa,hl,As,true_and,exists_eq_left',D.int.injEq,if_true]
      exact Fg.of (g1 rfl)
     ·refine⟨p2,rfl,(Bx [xs,xs.drop 1]).map ltD,by rw[Aa,Bd,List.map_map];rfl,?_⟩
      have e2:((Bx [xs,xs.drop 1]).map ltD).all id=Db xs:=by rw[List.all_map];exact Kj xs
      rw[e2]
      exact⟨G,sg.skip hp2,by simpa using k2⟩
  ·obtain⟨e,nt⟩:=Jo ht htt
   rw[e,if_pos (by decide)]
   refine Fq.of ?_
   cases d with
   |tup xs=>exact absurd rfl (nt xs)
   |_=>exact k
abbrev s_are_rows:Stmt:=top 88
abbrev Sb:List Str:=["thing"]
abbrev Cw:List Str:=["thing"]
theorem Pl:FnScope Sb Cw (defScope s_are_rows):=⟨rfl,rfl,rfl,by decide +kernel,rfl,by decide +kernel,by decide +kernel⟩
def Mt:DSp:=fun ds G Q _=>∃d,ds=[d]∧KnT G 1 d∧(∀xs,d=.tup xs→xs.length<sizeLine)∧Q (.bl (Lv d)) G
theorem Aaa{f:Addr}{fd:FuncData}(F:Fun K "are_rows" "are_rows" s_are_rows f fd)(T:Nums mg)(Ag0:Def P w K mg base CX0 2 "are_rising_within" Az Eo):FnOk P w K mg base CX0 3 f fd Cw (liftSp K Mt):=by
 refine okD F Pl (fun ds G Q E h=>?_) (fun cdv A outer s H XE ds G Q E hr h=>?_)
 ·obtain⟨d,rfl,_⟩:=h;rfl
 ·obtain⟨d,rfl,kn,hz,k⟩:=h
  refine⟨_,(@qss_one _ _ _ (@qs_ret _ _ _ _ (@q_call _ _ _ _ _ _ _ _ noX _ _ _ Ag0 (hr.mono (by decide)) (@passN _ _) (@qa_consP _ _ _ _ _ (@q_v1 _ _ 0 _ (by exact⟨rfl,rfl,rfl,rfl⟩)) (@qa_consP _ _ _ _ _ (@q_int _ _ _ _) (@qa_consP _ _ _ _ _ (@q_globx _ _ _ _ T.LAST_ROW (by rfl) (by decide)) (@qa_nil _) (by rfl)) (by rfl)) (by rfl)) (by rfl) (by decide) (by rfl) (by rfl)))),?_⟩
  simp only[Bc,Ar,Aj,Am,Ah,List.map_cons,List.map_nil,List.length_cons,List.length_nil,Nat.zero_add,Nat.reduceSub,List.replicate,List.cons_append,List.nil_append,List.getElem?_cons_zero,Option.some.injEq,nC,Aq,Eo,List.cons.injEq,D.int.injEq,and_true,and_assoc,exists_and_left,exists_eq_left',kn,true_and]
  exact⟨hz,Fq.of k⟩
def V6:D→Bool
 |.tup cs=>decide (2≤cs.length)&&decide (cs.length≤16)&&cs.all Lv
 |_=>false
def SzT(d:D):Prop:=∀xs,d=.tup xs→xs.length<sizeLine∧∀y∈xs,∀ys,y=.tup ys→ys.length<sizeLine
abbrev s_is_channel:Stmt:=top 89
abbrev Nx:List Str:=["thing"]
abbrev B4:List Str:=["thing"]
theorem Lb:FnScope Nx B4 (defScope s_is_channel):=⟨rfl,rfl,rfl,by decide +kernel,rfl,by decide +kernel,by decide +kernel⟩
theorem Iy:((["rows"]:List Str)++(["thing"]:List Str)).Nodup:=by decide +kernel
def Mw:DSp:=fun ds G Q _=>∃d,ds=[d]∧KnT G 2 d∧SzT d∧Q (.bl (V6 d)) G
theorem Aah{f:Addr}{fd:FuncData}(F:Fun K "is_channel" "is_channel" s_is_channel f fd)(T:Nums mg)(Ag6:Def P w K mg base CX0 3 "are_rows" Cw Mt):FnOk P w K mg base CX0 4 f fd B4 (liftSp K Mw):=by
 refine okD F Lb (fun ds G Q E h=>?_) (fun cdv A outer s H XE ds G Q E hr h=>?_)
 ·obtain⟨d,rfl,_⟩:=h;rfl
 ·obtain⟨d,rfl,kn,hz,k⟩:=h
  refine⟨_,(@qss_cons _ _ _ _ _ (@qs_if _ _ _ _ _ _ _ _ (@qt_of _ _ _ (@Dt _ _ _ _ _ _ _ (@qt_not _ _ _ _ (@qt_tru _ _ _ (@q_callB _ _ _ _ _ _ _ _ _ (@c_isinst _) (T.blt (by decide)) (by decide +kernel) (@qa_consP _ _ _ _ _ (@q_v1 _ _ 0 _ (by exact⟨rfl,rfl,rfl,rfl⟩)) (@qa_consP _ _ _ _ _ (@q_globty _ _ _ "tuple" (T.blt (by decide)) (by decide +kernel) (by rfl) (by decide) (by decide)) (@qa_nil _) (by rfl)) (by rfl)) (by rfl) (by decide) (by decide) (by rfl) (by rfl)) (by intro _ ;rfl))) (@qw_or1 _ _ _ _ (@qt_not _ _ _ _ (@qt_chain _ _ _ _ _ _ _ _ _ _ _ _ (@o_le _) (@o_le _) (@q_globx _ _ _ _ T.LEAST_COLUMNS (by rfl) (by decide)) (@q_callB _ _ _ _ _ _ _ _ _ (@c_len _) (T.blt (by decide)) (by decide +kernel) (@qa_consP _ _ _ _ _ (@q_v1 _ _ 0 _ (by exact⟨rfl,rfl,rfl,rfl⟩)) (@qa_nil _) (by rfl)) (by rfl) (by decide) (by decide) (by rfl) (by rfl)) (@q_globx _ _ _ _ T.MOST_COLUMNS (by rfl) (by decide)) (by with_unfolding_all rfl)))))) (@qss_one _ _ _ (@qs_ret _ _ _ _ (@q_bl _ _ _ _))) (@qss_nil _)) (@qss_one _ _ _ (@qs_ret _ _ _ _ (@q_callB _ _ _ _ _ _ _ _ _ (@c_all _ rfl) (T.blt (by decide)) (by decide +kernel) (@qa_consP _ _ _ _ _ (@q_compz _ _ _ _ _ _ _ _ _ _ _ ["rows"] ["thing"] rfl (@compOz _ _ _ _ (by rfl) (by rfl) (by rfl) (by rfl) (by rfl)) (@q_v1 _ _ 0 _ (by exact⟨rfl,rfl,rfl,rfl⟩)) (fun _ _ _=>(@qg_name _ _ 0 _ Iy (by rfl) (by exact .inl rfl) (by exact .inr rfl))) (fun _ _ _=>(@qf_nil _)) (fun _ _ _=>(@q_call _ _ _ _ _ _ _ _ noX _ _ _ Ag6 (hr.mono (by decide)) (@passN _ _) (@qa_consP _ _ _ _ _ (@q_v1 _ _ 0 _ (by exact⟨rfl,rfl,rfl,rfl⟩)) (@qa_nil _) (by rfl)) (by rfl) (by decide) (by rfl) (by rfl))) (by intro _ ;rfl)) (@qa_nil _) (by rfl)) (by rfl) (by decide) (by decide) (by rfl) (by rfl))))),?_⟩
  obtain⟨t,ht⟩:=kn.kn
  simp only[Bj,Cq,nOr,Dh,C0,nCB,Aj,Am,Ah,List.map_cons,List.map_nil,List.length_cons,List.length_nil,Nat.zero_add,Nat.reduceSub,List.replicate,List.cons_append,List.nil_append,List.getElem?_cons_zero,Option.some.injEq,nC,Aq,List.cons.injEq,D.ty.injEq,and_true,Bc,Bm,C5,exists_eq_left',if_true,Bw,D7,dI0,D.int.injEq,D.bl.injEq,Bool.not_false,decide_eq_true_eq,and_assoc,exists_and_left,Dr,true_and,ht]
  refine⟨pyIs t "tuple",rfl,?_⟩
  by_cases htt:t = "tuple"
  ·subst htt
   obtain⟨xs,rfl⟩:=Ms ht
   rw[if_neg (by decide)]
   refine⟨xs.length,rfl,?_⟩
   have k2:Q (.bl (decide (2≤xs.length)&&decide (xs.length≤16)&&xs.all Lv)) G:=k
   obtain⟨hz1,hz2⟩:=hz xs rfl
   by_cases h1:2≤xs.length
   ·rw[if_pos (by omega)]
    by_cases h9:xs.length≤16
    ·rw[if_neg (by simp;omega)]
     rw[decide_eq_true h1,decide_eq_true h9] at k2
     refine⟨xs,rfl,fun p hp=>?_⟩
     refine Ay (fun x=>.bl (Lv x)) (fun _=>true) hz1 (fun _=>rfl) (by decide) (fun x ys hx hl R1 R2 g1 _=>?_) ?_
     ·have kx:KnT (Ab G p (.lst ys)) 1 x:=KnT.new hp (kn.2 xs rfl x hx)
      have zx:=hz2 x hx
      simp only[Co,Ar,Aj,Am,List.replicate,List.cons_append,List.nil_append,List.set_cons_zero,List.getElem?_cons_zero,Option.some.injEq,Aq,Mt,List.cons.injEq,and_true,Aa,hl,As,true_and,exists_eq_left',kx,if_true]
      exact⟨zx,Fg.of (g1 rfl)⟩
     ·refine⟨p,rfl,xs.map Lv,by rw[Aa,Bd,List.map_map];rfl,?_⟩
      refine⟨G,Sub.new hp,?_⟩
      simpa[List.all_map] using k2
    ·rw[if_pos (by simp;omega)]
     refine Fq.of ?_
     simpa[h9] using k2
   ·rw[if_neg (by omega)]
    refine Fq.of ?_
    simpa[h1] using k2
  ·obtain⟨e,nt⟩:=Jo ht htt
   rw[e,if_pos (by decide)]
   refine Fq.of ?_
   cases d with
   |tup xs=>exact absurd rfl (nt xs)
   |_=>exact k
abbrev s_check_channel:Stmt:=top 90
abbrev Jk:List Str:=["thing"]
abbrev p_check_channel:List Str:=["thing"]
theorem Hv:FnScope Jk p_check_channel (defScope s_check_channel):=⟨rfl,rfl,rfl,by decide +kernel,rfl,by decide +kernel,by decide +kernel⟩
def spCheckC:DSp:=fun ds G Q _=>∃d,ds=[d]∧KnT G 2 d∧SzT d∧V6 d=true∧Q .non G
theorem Um{f:Addr}{fd:FuncData}(F:Fun K "check_channel" "check_channel" s_check_channel f fd)(T:Nums mg)(Ag7:Def P w K mg base CX0 4 "is_channel" B4 Mw):FnOk P w K mg base CX0 5 f fd p_check_channel (liftSp K spCheckC):=by
 refine okD F Hv (fun ds G Q E h=>?_) (fun cdv A outer s H XE ds G Q E hr h=>?_)
 ·obtain⟨d,rfl,_⟩:=h;rfl
 ·obtain⟨d,rfl,kn,hz,hc,k⟩:=h
  refine⟨_,(@qss_one _ _ _ (@qs_if _ _ _ _ _ _ _ _ (@qt_not _ _ _ _ (@qt_tru _ _ _ (@q_call _ _ _ _ _ _ _ _ noX _ _ _ Ag7 (hr.mono (by decide)) (@passN _ _) (@qa_consP _ _ _ _ _ (@q_v1 _ _ 0 _ (by exact⟨rfl,rfl,rfl,rfl⟩)) (@qa_nil _) (by rfl)) (by rfl) (by decide) (by rfl) (by rfl)) (by intro _ ;rfl))) (@qss_one _ _ _ (@qs_never _ _)) (@qss_nil _))),?_⟩
  simp only[Cq,Dh,C0,Ar,Aj,Am,Ah,List.map_cons,List.map_nil,List.length_cons,List.length_nil,Nat.zero_add,Nat.reduceSub,List.replicate,List.cons_append,List.nil_append,List.getElem?_cons_zero,Option.some.injEq,Aq,Mw,List.cons.injEq,and_true,Bm,exists_eq_left',kn,true_and]
  refine⟨hz,_,rfl,?_⟩
  rw[hc,if_neg (by decide)]
  exact Fq.of k
end
end K2
set_option maxRecDepth 100000
set_option maxHeartbeats 4000000
namespace K2
open PySem L2 D3
section
variable{P:Program}{w:World}{K:W.Frag}{mg:Str→Option Value}{base:Heap}
def Ai(c:List Int):D:=.tup (c.map D.int)
def seaD(s:List (List Int)):D:=.tup (s.map Ai)
structure SeaOk(s:List (List Int))(h:Nat):Prop where
 wide:2≤s.length∧s.length≤16
 high:1≤h∧h≤9
 col:∀c∈s,c.length=h∧∀x∈c,0≤x∧x≤9
def Fa(lo hi:Int):DSp:=fun ds G Q _=>∃i,ds=[.int i]∧lo≤i∧i≤hi∧Q (.bl true) G
def spChk(lo hi:Int):DSp:=fun ds G Q _=>∃i,ds=[.int i]∧lo≤i∧i≤hi∧Q .non G
abbrev s_is_depth:Stmt:=top 25
abbrev R8:List Str:=["thing"]
abbrev Cu:List Str:=["thing"]
theorem Pj:FnScope R8 Cu (defScope s_is_depth):=⟨rfl,rfl,rfl,by decide +kernel,rfl,by decide +kernel,by decide +kernel⟩
theorem Yb{f:Addr}{fd:FuncData}(F:Fun K "is_depth" "is_depth" s_is_depth f fd)(T:Nums mg)(Agw:Def P w K mg base CX0 1 "is_whole_within" p_is_whole_within spWhole):FnOk P w K mg base CX0 2 f fd Cu (liftSp K (Fa 0 9)):=by
 refine okD F Pj (fun ds G Q E h=>?_) (fun cdv A outer s H XE ds G Q E hr h=>?_)
 ·obtain⟨i,rfl,_⟩:=h;rfl
 ·obtain⟨i,rfl,h1,h2,k⟩:=h
  refine⟨_,(@qss_one _ _ _ (@qs_ret _ _ _ _ (@q_call _ _ _ _ _ _ _ _ noX _ _ _ Agw (hr.mono (by decide)) (@passN _ _) (@qa_consP _ _ _ _ _ (@q_v1 _ _ 0 _ (by exact⟨rfl,rfl,rfl,rfl⟩)) (@qa_consP _ _ _ _ _ (@q_globx _ _ _ _ T.LAND (by rfl) (by decide)) (@qa_consP _ _ _ _ _ (@q_globx _ _ _ _ T.MOST_DEPTH (by rfl) (by decide)) (@qa_nil _) (by rfl)) (by rfl)) (by rfl)) (by rfl) (by decide) (by rfl) (by rfl)))),?_⟩
  have kn:Kn G (.int i):=⟨_,rfl⟩
  simp only[Bc,Ar,Aj,Am,Ah,List.map_cons,List.map_nil,List.length_cons,List.length_nil,Nat.zero_add,Nat.reduceSub,List.replicate,List.cons_append,List.nil_append,List.getElem?_cons_zero,Option.some.injEq,nC,Aq,spWhole,List.cons.injEq,D.int.injEq,and_true,A8,and_assoc,exists_and_left,exists_eq_left',kn,h1,decide_true,h2,true_and]
  exact Fq.of k
abbrev s_is_draught:Stmt:=top 26
abbrev Nw:List Str:=["thing"]
abbrev B3:List Str:=["thing"]
theorem La:FnScope Nw B3 (defScope s_is_draught):=⟨rfl,rfl,rfl,by decide +kernel,rfl,by decide +kernel,by decide +kernel⟩
theorem Rg{f:Addr}{fd:FuncData}(F:Fun K "is_draught" "is_draught" s_is_draught f fd)(T:Nums mg)(Agw:Def P w K mg base CX0 1 "is_whole_within" p_is_whole_within spWhole):FnOk P w K mg base CX0 2 f fd B3 (liftSp K (Fa 1 9)):=by
 refine okD F La (fun ds G Q E h=>?_) (fun cdv A outer s H XE ds G Q E hr h=>?_)
 ·obtain⟨i,rfl,_⟩:=h;rfl
 ·obtain⟨i,rfl,h1,h2,k⟩:=h
  refine⟨_,(@qss_one _ _ _ (@qs_ret _ _ _ _ (@q_call _ _ _ _ _ _ _ _ noX _ _ _ Agw (hr.mono (by decide)) (@passN _ _) (@qa_consP _ _ _ _ _ (@q_v1 _ _ 0 _ (by exact⟨rfl,rfl,rfl,rfl⟩)) (@qa_consP _ _ _ _ _ (@q_globx _ _ _ _ T.LEAST_DRAUGHT (by rfl) (by decide)) (@qa_consP _ _ _ _ _ (@q_globx _ _ _ _ T.MOST_DRAUGHT (by rfl) (by decide)) (@qa_nil _) (by rfl)) (by rfl)) (by rfl)) (by rfl) (by decide) (by rfl) (by rfl)))),?_⟩
  have kn:Kn G (.int i):=⟨_,rfl⟩
  simp only[Bc,Ar,Aj,Am,Ah,List.map_cons,List.map_nil,List.length_cons,List.length_nil,Nat.zero_add,Nat.reduceSub,List.replicate,List.cons_append,List.nil_append,List.getElem?_cons_zero,Option.some.injEq,nC,Aq,spWhole,List.cons.injEq,D.int.injEq,and_true,A8,and_assoc,exists_and_left,exists_eq_left',kn,h1,decide_true,h2,true_and]
  exact Fq.of k
abbrev s_is_day:Stmt:=top 27
abbrev Y3:List Str:=["thing"]
abbrev D0:List Str:=["thing"]
theorem T4:FnScope Y3 D0 (defScope s_is_day):=⟨rfl,rfl,rfl,by decide +kernel,rfl,by decide +kernel,by decide +kernel⟩
theorem Adp{f:Addr}{fd:FuncData}(F:Fun K "is_day" "is_day" s_is_day f fd)(T:Nums mg)(Agw:Def P w K mg base CX0 1 "is_whole_within" p_is_whole_within spWhole):FnOk P w K mg base CX0 2 f fd D0 (liftSp K (Fa 0 400)):=by
 refine okD F T4 (fun ds G Q E h=>?_) (fun cdv A outer s H XE ds G Q E hr h=>?_)
 ·obtain⟨i,rfl,_⟩:=h;rfl
 ·obtain⟨i,rfl,h1,h2,k⟩:=h
  refine⟨_,(@qss_one _ _ _ (@qs_ret _ _ _ _ (@q_call _ _ _ _ _ _ _ _ noX _ _ _ Agw (hr.mono (by decide)) (@passN _ _) (@qa_consP _ _ _ _ _ (@q_v1 _ _ 0 _ (by exact⟨rfl,rfl,rfl,rfl⟩)) (@qa_consP _ _ _ _ _ (@q_int _ _ _ _) (@qa_consP _ _ _ _ _ (@q_globx _ _ _ _ T.LAST_DAY (by rfl) (by decide)) (@qa_nil _) (by rfl)) (by rfl)) (by rfl)) (by rfl) (by decide) (by rfl) (by rfl)))),?_⟩
  have kn:Kn G (.int i):=⟨_,rfl⟩
  simp only[Bc,Ar,Aj,Am,Ah,List.map_cons,List.map_nil,List.length_cons,List.length_nil,Nat.zero_add,Nat.reduceSub,List.replicate,List.cons_append,List.nil_append,List.getElem?_cons_zero,Option.some.injEq,nC,Aq,spWhole,List.cons.injEq,D.int.injEq,and_true,A8,and_assoc,exists_and_left,exists_eq_left',kn,h1,decide_true,h2,true_and]
  exact Fq.of k
theorem Eu{α:Type}(c:List α):(c.map fun _=>true).all id=true:=by simp
abbrev s_is_column:Stmt:=top 28
abbrev P8:List Str:=["thing"]
abbrev Cb:List Str:=["thing"]
theorem Nh:FnScope P8 Cb (defScope s_is_column):=⟨rfl,rfl,rfl,by decide +kernel,rfl,by decide +kernel,by decide +kernel⟩
theorem Kz:((["depth"]:List Str)++(["thing"]:List Str)).Nodup:=by decide +kernel
def Gc:DSp:=fun ds G Q _=>∃c,ds=[Ai c]∧1≤c.length∧c.length≤9∧(∀x∈c,0≤x∧x≤9)∧Q (.bl true) G
theorem Ul{f:Addr}{fd:FuncData}(F:Fun K "is_column" "is_column" s_is_column f fd)(T:Nums mg)(Ag8:Def P w K mg base CX0 2 "is_depth" Cu (Fa 0 9)):FnOk P w K mg base CX0 3 f fd Cb (liftSp K Gc):=by
 refine okD F Nh (fun ds G Q E h=>?_) (fun cdv A outer s H XE ds G Q E hr h=>?_)
 ·obtain⟨c,rfl,_⟩:=h;rfl
 ·obtain⟨c,rfl,h1,h9,hx,k⟩:=h
  refine⟨_,(@qss_cons _ _ _ _ _ (@qs_if _ _ _ _ _ _ _ _ (@qt_of _ _ _ (@Dt _ _ _ _ _ _ _ (@qt_not _ _ _ _ (@qt_tru _ _ _ (@q_callB _ _ _ _ _ _ _ _ _ (@c_isinst _) (T.blt (by decide)) (by decide +kernel) (@qa_consP _ _ _ _ _ (@q_v1 _ _ 0 _ (by exact⟨rfl,rfl,rfl,rfl⟩)) (@qa_consP _ _ _ _ _ (@q_globty _ _ _ "tuple" (T.blt (by decide)) (by decide +kernel) (by rfl) (by decide) (by decide)) (@qa_nil _) (by rfl)) (by rfl)) (by rfl) (by decide) (by decide) (by rfl) (by rfl)) (by intro _ ;rfl))) (@qw_or1 _ _ _ _ (@qt_not _ _ _ _ (@qt_chain _ _ _ _ _ _ _ _ _ _ _ _ (@o_le _) (@o_le _) (@q_globx _ _ _ _ T.LEAST_ROWS (by rfl) (by decide)) (@q_callB _ _ _ _ _ _ _ _ _ (@c_len _) (T.blt (by decide)) (by decide +kernel) (@qa_consP _ _ _ _ _ (@q_v1 _ _ 0 _ (by exact⟨rfl,rfl,rfl,rfl⟩)) (@qa_nil _) (by rfl)) (by rfl) (by decide) (by decide) (by rfl) (by rfl)) (@q_globx _ _ _ _ T.MOST_ROWS (by rfl) (by decide)) (by with_unfolding_all rfl)))))) (@qss_one _ _ _ (@qs_ret _ _ _ _ (@q_bl _ _ _ _))) (@qss_nil _)) (@qss_one _ _ _ (@qs_ret _ _ _ _ (@q_callB _ _ _ _ _ _ _ _ _ (@c_all _ rfl) (T.blt (by decide)) (by decide +kernel) (@qa_consP _ _ _ _ _ (@q_compz _ _ _ _ _ _ _ _ _ _ _ ["depth"] ["thing"] rfl (@compOz _ _ _ _ (by rfl) (by rfl) (by rfl) (by rfl) (by rfl)) (@q_v1 _ _ 0 _ (by exact⟨rfl,rfl,rfl,rfl⟩)) (fun _ _ _=>(@qg_name _ _ 0 _ Kz (by rfl) (by exact .inl rfl) (by exact .inr rfl))) (fun _ _ _=>(@qf_nil _)) (fun _ _ _=>(@q_call _ _ _ _ _ _ _ _ noX _ _ _ Ag8 (hr.mono (by decide)) (@passN _ _) (@qa_consP _ _ _ _ _ (@q_v1 _ _ 0 _ (by exact⟨rfl,rfl,rfl,rfl⟩)) (@qa_nil _) (by rfl)) (by rfl) (by decide) (by rfl) (by rfl))) (by intro _ ;rfl)) (@qa_nil _) (by rfl)) (by rfl) (by decide) (by decide) (by rfl) (by rfl))))),?_⟩
  unfold Ai
  simp only[Bj,Cq,nOr,Dh,C0,nCB,Aj,Am,Ah,List.map_cons,List.map_nil,List.length_cons,List.length_nil,Nat.zero_add,Nat.reduceSub,List.replicate,List.cons_append,List.nil_append,List.getElem?_cons_zero,Option.some.injEq,nC,Aq,List.cons.injEq,D.ty.injEq,and_true,Bc,Bm,C5,exists_eq_left',Kb,if_true,Bw,D7,dI0,D.int.injEq,D.bl.injEq,Bool.not_false,decide_eq_true_eq,M4,and_assoc,exists_and_left,Dr,true_and,Wb]
  refine⟨true,rfl,it1 (by decide) (it0 (by simp;omega) (it1 (by simp;omega) fun p hp=>?_))⟩
  have hz:(c.map D.int).length<sizeLine:=by rw[List.length_map,sizeLine_eq];omega
  refine Ay (fun x=>.bl true) (fun _=>true) hz (fun _=>by first|rfl|trivial) (by decide) (fun x ys hx' hl R1 R2 g1 _=>?_) ?_
  ·obtain⟨i,hi,rfl⟩:=List.mem_map.mp hx'
   simp only[Co,Ar,Aj,Am,List.replicate,List.cons_append,List.nil_append,List.set_cons_zero,List.getElem?_cons_zero,Option.some.injEq,Aq,Fa,List.cons.injEq,and_true,Aa,hl,As,true_and,exists_eq_left',D.int.injEq,if_true]
   exact⟨(hx i hi).1,(hx i hi).2,Fg.of (g1 rfl)⟩
  ·refine⟨p,rfl,c.map (fun _=>true),by rw[Aa,Bd,List.map_map,List.map_map];rfl,?_⟩
   refine⟨G,Sub.new hp,?_⟩
   rw[Eu];exact k
abbrev s_is_sea:Stmt:=top 29
abbrev Y1:List Str:=["thing"]
abbrev Dy:List Str:=["thing"]
theorem T2:FnScope Y1 Dy (defScope s_is_sea):=⟨rfl,rfl,rfl,by decide +kernel,rfl,by decide +kernel,by decide +kernel⟩
theorem nd_is_sea_1:((["column"]:List Str)++(["thing"]:List Str)).Nodup:=by decide +kernel
theorem Pp:((["column"]:List Str)++(["thing"]:List Str)).Nodup:=by decide +kernel
def Sd:DSp:=fun ds G Q _=>∃s h,ds=[seaD s]∧SeaOk s h∧Q (.bl true) G
theorem Adl{f:Addr}{fd:FuncData}(F:Fun K "is_sea" "is_sea" s_is_sea f fd)(T:Nums mg)(Ag9:Def P w K mg base CX0 3 "is_column" Cb Gc):FnOk P w K mg base CX0 4 f fd Dy (liftSp K Sd):=by
 refine okD F T2 (fun ds G Q E h=>?_) (fun cdv A outer s H XE ds G Q E hr h=>?_)
 ·obtain⟨c,_,rfl,_⟩:=h;rfl
 ·obtain⟨c,h,rfl,ok,k⟩:=h
  refine⟨_,(@qss_cons _ _ _ _ _ (@qs_if _ _ _ _ _ _ _ _ (@qt_of _ _ _ (@Dt _ _ _ _ _ _ _ (@qt_not _ _ _ _ (@qt_tru _ _ _ (@q_callB _ _ _ _ _ _ _ _ _ (@c_isinst _) (T.blt (by decide)) (by decide +kernel) (@qa_consP _ _ _ _ _ (@q_v2 _ _ 0 _ (by exact⟨rfl,rfl,rfl,rfl⟩)) (@qa_consP _ _ _ _ _ (@q_globty _ _ _ "tuple" (T.blt (by decide)) (by decide +kernel) (by rfl) (by decide) (by decide)) (@qa_nil _) (by rfl)) (by rfl)) (by rfl) (by decide) (by decide) (by rfl) (by rfl)) (by intro _ ;rfl))) (@qw_or1 _ _ _ _ (@qt_not _ _ _ _ (@qt_chain _ _ _ _ _ _ _ _ _ _ _ _ (@o_le _) (@o_le _) (@q_globx _ _ _ _ T.LEAST_COLUMNS (by rfl) (by decide)) (@q_callB _ _ _ _ _ _ _ _ _ (@c_len _) (T.blt (by decide)) (by decide +kernel) (@qa_consP _ _ _ _ _ (@q_v2 _ _ 0 _ (by exact⟨rfl,rfl,rfl,rfl⟩)) (@qa_nil _) (by rfl)) (by rfl) (by decide) (by decide) (by rfl) (by rfl)) (@q_globx _ _ _ _ T.MOST_COLUMNS (by rfl) (by decide)) (by with_unfolding_all rfl)))))) (@qss_one _ _ _ (@qs_ret _ _ _ _ (@q_bl _ _ _ _))) (@qss_nil _)) (@qss_cons _ _ _ _ _ (@qs_if _ _ _ _ _ _ _ _ (@qt_not _ _ _ _ (@qt_tru _ _ _ (@q_callB _ _ _ _ _ _ _ _ _ (@c_all _ rfl) (T.blt (by decide)) (by decide +kernel) (@qa_consP _ _ _ _ _ (@q_compz _ _ _ _ _ _ _ _ _ _ _ ["column"] ["thing"] rfl (@compOz _ _ _ _ (by rfl) (by rfl) (by rfl) (by rfl) (by rfl)) (@q_v2 _ _ 0 _ (by exact⟨rfl,rfl,rfl,rfl⟩)) (fun _ _ _=>(@qg_name _ _ 0 _ nd_is_sea_1 (by rfl) (by exact .inl rfl) (by exact .inr rfl))) (fun _ _ _=>(@qf_nil _)) (fun _ _ _=>(@q_call _ _ _ _ _ _ _ _ noX _ _ _ Ag9 (hr.mono (by decide)) (@passN _ _) (@qa_consP _ _ _ _ _ (@q_v1 _ _ 0 _ (by exact⟨rfl,rfl,rfl,rfl⟩)) (@qa_nil _) (by rfl)) (by rfl) (by decide) (by rfl) (by rfl))) (by intro _ ;rfl)) (@qa_nil _) (by rfl)) (by rfl) (by decide) (by decide) (by rfl) (by rfl)) (by intro _ ;rfl))) (@qss_one _ _ _ (@qs_ret _ _ _ _ (@q_bl _ _ _ _))) (@qss_nil _)) (@qss_one _ _ _ (@qs_ret _ _ _ _ (@q_callB _ _ _ _ _ _ _ _ _ (@c_all _ rfl) (T.blt (by decide)) (by decide +kernel) (@qa_consP _ _ _ _ _ (@q_compz _ _ _ _ _ _ _ _ _ _ _ ["column"] ["thing"] rfl (@compOz _ _ _ _ (by rfl) (by rfl) (by rfl) (by rfl) (by rfl)) (@q_v2 _ _ 0 _ (by exact⟨rfl,rfl,rfl,rfl⟩)) (fun _ _ _=>(@qg_name _ _ 0 _ Pp (by rfl) (by exact .inl rfl) (by exact .inr rfl))) (fun _ _ _=>(@qf_nil _)) (fun _ _ _=>(@q_cmp _ _ _ _ _ _ _ _ (@o_eq _) (@q_callB _ _ _ _ _ _ _ _ _ (@c_len _) (T.blt (by decide)) (by decide +kernel) (@qa_consP _ _ _ _ _ (@q_v1 _ _ 0 _ (by exact⟨rfl,rfl,rfl,rfl⟩)) (@qa_nil _) (by rfl)) (by rfl) (by decide) (by decide) (by rfl) (by rfl)) (@q_callB _ _ _ _ _ _ _ _ _ (@c_len _) (T.blt (by decide)) (by decide +kernel) (@qa_consP _ _ _ _ _ (@C4 _ _ _ _ _ _ (@q_v2 _ _ 1 _ (by exact⟨rfl,rfl,rfl,rfl⟩)) (@q_int _ _ _ _) (by intro _ _ ;rfl)) (@qa_nil _) (by rfl)) (by rfl) (by decide) (by decide) (by rfl) (by rfl)) (nomark _))) (by intro _ ;rfl)) (@qa_nil _) (by rfl)) (by rfl) (by decide) (by decide) (by rfl) (by rfl)))))),?_⟩
  unfold seaD
  simp only[Bj,Cq,nOr,Dh,C0,nCB,Aj,Am,Ah,List.map_cons,List.map_nil,List.length_cons,List.length_nil,Nat.zero_add,Nat.reduceSub,List.replicate,List.cons_append,List.nil_append,List.getElem?_cons_zero,Option.some.injEq,nC,Aq,List.cons.injEq,D.ty.injEq,and_true,Bc,Bm,C5,exists_eq_left',Kb,if_true,Bw,D7,dI0,D.int.injEq,D.bl.injEq,Bool.not_false,decide_eq_true_eq,M4,and_assoc,exists_and_left,Dr,true_and,Wb]
  have hw:=ok.wide
  refine⟨true,rfl,it1 (by decide) (it0 (by simp;omega) (it1 (by simp;omega) fun p hp=>?_))⟩
  have hz:(c.map Ai).length<sizeLine:=by rw[List.length_map,sizeLine_eq];omega
  refine Ay (fun x=>.bl true) (fun _=>true) hz (fun _=>by first|rfl|trivial) (by decide) (fun x ys hx' hl R1 R2 g1 _=>?_) ?_
  ·obtain⟨i,hi,rfl⟩:=List.mem_map.mp hx'
   obtain⟨e,hx⟩:=ok.col i hi
   have h1:=ok.high
   simp only[Co,Ar,Aj,Am,List.replicate,List.cons_append,List.nil_append,List.set_cons_zero,List.getElem?_cons_zero,Option.some.injEq,Aq,Gc,List.cons.injEq,and_true,Aa,hl,As,true_and,exists_eq_left',if_true]
   exact⟨i,rfl,by omega,by omega,hx,Fg.of (g1 rfl)⟩
  ·refine⟨p,rfl,c.map (fun _=>true),by rw[Aa,Bd,List.map_map,List.map_map];rfl,true,by rw[Eu];rfl,it1 (by decide) fun p2 hp2=>?_⟩
   have at0:atI (c.map Ai) 0=some (Ai (c.headD [])):=by
    cases c with
    |nil=>simp at hw
    |cons x r=>rw[List.map_cons,Zc];rfl
   have hc0:(c.headD []).length=h:=(ok.col _ (by cases c with|nil=>simp at hw|cons x r=>simp)).1
   refine Ay (fun x=>.bl true) (fun _=>true) hz (fun _=>by first|rfl|trivial) (by decide) (fun x ys hx' hl R1 R2 g1 _=>?_) ?_
   ·obtain⟨i,hi,rfl⟩:=List.mem_map.mp hx'
    obtain⟨e,hx⟩:=ok.col i hi
    simp only[Co,nOp,nCB,Aj,Am,List.replicate,List.cons_append,List.nil_append,List.set_cons_zero,List.getElem?_cons_zero,Option.some.injEq,Aq,List.cons.injEq,and_true,List.getElem?_cons_succ,nC,dIx,D.int.injEq,dEq,eqS,Aa,hl,As,true_and,exists_eq_left',Kc,if_true]
    refine⟨h,by simp[Ai,Dj,e],Ai (c.headD []),at0,h,by rw[←hc0];simp only[Ai,Dj,List.length_map],?_⟩
    rw[decide_eq_true rfl]
    exact Fg.of (g1 rfl)
   ·refine⟨p2,rfl,c.map (fun _=>true),by rw[Aa,Bd,List.map_map,List.map_map];rfl,?_⟩
    refine⟨G,(Sub.new hp).trans (Sub.new hp2),?_⟩
    rw[Eu];exact k
abbrev s_check_sea:Stmt:=top 31
abbrev Qa:List Str:=["thing"]
abbrev Cd:List Str:=["thing"]
theorem Ni:FnScope Qa Cd (defScope s_check_sea):=⟨rfl,rfl,rfl,by decide +kernel,rfl,by decide +kernel,by decide +kernel⟩
def Eb:DSp:=fun ds G Q _=>∃s h,ds=[seaD s]∧SeaOk s h∧Q .non G
theorem Pn{f:Addr}{fd:FuncData}(F:Fun K "check_sea" "check_sea" s_check_sea f fd)(T:Nums mg)(Aha:Def P w K mg base CX0 4 "is_sea" Dy Sd):FnOk P w K mg base CX0 5 f fd Cd (liftSp K Eb):=by
 refine okD F Ni (fun ds G Q E h=>?_) (fun cdv A outer s H XE ds G Q E hr h=>?_)
 ·obtain⟨c,_,rfl,_⟩:=h;rfl
 ·obtain⟨c,h,rfl,ok,k⟩:=h
  refine⟨_,(@qss_one _ _ _ (@qs_if _ _ _ _ _ _ _ _ (@qt_not _ _ _ _ (@qt_tru _ _ _ (@q_call _ _ _ _ _ _ _ _ noX _ _ _ Aha (hr.mono (by decide)) (@passN _ _) (@qa_consP _ _ _ _ _ (@q_v1 _ _ 0 _ (by exact⟨rfl,rfl,rfl,rfl⟩)) (@qa_nil _) (by rfl)) (by rfl) (by decide) (by rfl) (by rfl)) (by intro _ ;rfl))) (@qss_one _ _ _ (@qs_never _ _)) (@qss_nil _))),?_⟩
  simp only[Cq,Dh,C0,Ar,Aj,Am,Ah,List.map_cons,List.map_nil,List.length_cons,List.length_nil,Nat.zero_add,Nat.reduceSub,List.replicate,List.cons_append,List.nil_append,List.getElem?_cons_zero,Option.some.injEq,Aq,Sd,List.cons.injEq,and_true,Bm,exists_and_left,exists_eq_left']
  refine⟨c,rfl,h,ok,?_⟩
  first|exact Fq.of k|exact⟨true,rfl,it1 (by decide) (Fq.of k)⟩
abbrev s_check_draught:Stmt:=top 33
abbrev Jj:List Str:=["thing"]
abbrev p_check_draught:List Str:=["thing"]
theorem Hu:FnScope Jj p_check_draught (defScope s_check_draught):=⟨rfl,rfl,rfl,by decide +kernel,rfl,by decide +kernel,by decide +kernel⟩
theorem Ix{f:Addr}{fd:FuncData}(F:Fun K "check_draught" "check_draught" s_check_draught f fd)(T:Nums mg)(Ahb:Def P w K mg base CX0 2 "is_draught" B3 (Fa 1 9)):FnOk P w K mg base CX0 3 f fd p_check_draught (liftSp K (spChk 1 9)):=by
 refine okD F Hu (fun ds G Q E h=>?_) (fun cdv A outer s H XE ds G Q E hr h=>?_)
 ·obtain⟨c,rfl,_⟩:=h;rfl
 ·obtain⟨c,rfl,h1,h2,k⟩:=h
  refine⟨_,(@qss_one _ _ _ (@qs_if _ _ _ _ _ _ _ _ (@qt_not _ _ _ _ (@qt_tru _ _ _ (@q_call _ _ _ _ _ _ _ _ noX _ _ _ Ahb (hr.mono (by decide)) (@passN _ _) (@qa_consP _ _ _ _ _ (@q_v1 _ _ 0 _ (by exact⟨rfl,rfl,rfl,rfl⟩)) (@qa_nil _) (by rfl)) (by rfl) (by decide) (by rfl) (by rfl)) (by intro _ ;rfl))) (@qss_one _ _ _ (@qs_never _ _)) (@qss_nil _))),?_⟩
  simp only[Cq,Dh,C0,Ar,Aj,Am,Ah,List.map_cons,List.map_nil,List.length_cons,List.length_nil,Nat.zero_add,Nat.reduceSub,List.replicate,List.cons_append,List.nil_append,List.getElem?_cons_zero,Option.some.injEq,Aq,Fa,List.cons.injEq,and_true,Bm,exists_eq_left',D.int.injEq]
  exact⟨h1,h2,true,rfl,it1 (by decide) (Fq.of k)⟩
abbrev s_check_day:Stmt:=top 34
abbrev Qb:List Str:=["thing"]
abbrev p_check_day:List Str:=["thing"]
theorem Nj:FnScope Qb p_check_day (defScope s_check_day):=⟨rfl,rfl,rfl,by decide +kernel,rfl,by decide +kernel,by decide +kernel⟩
theorem Po{f:Addr}{fd:FuncData}(F:Fun K "check_day" "check_day" s_check_day f fd)(T:Nums mg)(Ahc:Def P w K mg base CX0 2 "is_day" D0 (Fa 0 400)):FnOk P w K mg base CX0 3 f fd p_check_day (liftSp K (spChk 0 400)):=by
 refine okD F Nj (fun ds G Q E h=>?_) (fun cdv A outer s H XE ds G Q E hr h=>?_)
 ·obtain⟨c,rfl,_⟩:=h;rfl
 ·obtain⟨c,rfl,h1,h2,k⟩:=h
  refine⟨_,(@qss_one _ _ _ (@qs_if _ _ _ _ _ _ _ _ (@qt_not _ _ _ _ (@qt_tru _ _ _ (@q_call _ _ _ _ _ _ _ _ noX _ _ _ Ahc (hr.mono (by decide)) (@passN _ _) (@qa_consP _ _ _ _ _ (@q_v1 _ _ 0 _ (by exact⟨rfl,rfl,rfl,rfl⟩)) (@qa_nil _) (by rfl)) (by rfl) (by decide) (by rfl) (by rfl)) (by intro _ ;rfl))) (@qss_one _ _ _ (@qs_never _ _)) (@qss_nil _))),?_⟩
  simp only[Cq,Dh,C0,Ar,Aj,Am,Ah,List.map_cons,List.map_nil,List.length_cons,List.length_nil,Nat.zero_add,Nat.reduceSub,List.replicate,List.cons_append,List.nil_append,List.getElem?_cons_zero,Option.some.injEq,Aq,Fa,List.cons.injEq,and_true,Bm,exists_eq_left',D.int.injEq]
  exact⟨h1,h2,true,rfl,it1 (by decide) (Fq.of k)⟩
end
end K2
set_option maxRecDepth 100000
set_option maxHeartbeats 4000000
namespace K2
open PySem L2 D3
section
variable{P:Program}{w:World}{K:W.Frag}{mg:Str→Option Value}{base:Heap}
def Cf(s:List (List Int))(c r:Nat):Int:=(s.getD c []).getD r 0
abbrev s_depth_at:Stmt:=top 35
abbrev R9:List Str:=["sea", "cell", "column", "row"]
abbrev Cv:List Str:=["sea", "cell"]
theorem sc_depth_at:FnScope R9 Cv (defScope s_depth_at):=⟨rfl,rfl,rfl,by decide +kernel,rfl,by decide +kernel,by decide +kernel⟩
def He:DSp:=fun ds G Q _=>∃s c r,ds=[seaD s,.tup [.int (c:Nat),.int (r:Nat)]]∧c<s.length∧r<(s.getD c []).length∧Q (.int (Cf s c r)) G
theorem Rh{f:Addr}{fd:FuncData}(F:Fun K "depth_at" "depth_at" s_depth_at f fd)(T:Nums mg):FnOk P w K mg base CX0 1 f fd Cv (liftSp K He):=by
 refine okD F sc_depth_at (fun ds G Q E h=>?_) (fun cdv A outer s H XE ds G Q E hr h=>?_)
 ·obtain⟨_,_,_,rfl,_⟩:=h;rfl
 ·obtain⟨s,c,r,rfl,hc,hr',k⟩:=h
  refine⟨_,(@qss_cons _ _ _ _ _ (@Dn _ _ _ _ _ _ (@q_v1 _ _ 1 _ (by exact⟨rfl,rfl,rfl,rfl⟩)) (@qg_tup _ _ _ _ _ 2 rfl (@qgs_cons _ _ _ _ _ (@qg_name _ _ 2 _ sc_depth_at.nd (by rfl) (by exact .inl rfl) (by exact .inl rfl)) (@qgs_cons _ _ _ _ _ (@qg_name _ _ 3 _ sc_depth_at.nd (by rfl) (by exact .inl rfl) (by exact .inl rfl)) (@qgs_nil _) (by rfl)) (by rfl)) (by rfl) (by rfl)) (by rfl) (by rfl) (by rfl)) (@qss_one _ _ _ (@qs_ret _ _ _ _ (@C4 _ _ _ _ _ _ (@C4 _ _ _ _ _ _ (@q_v1 _ _ 0 _ (by exact⟨rfl,rfl,rfl,rfl⟩)) (@q_v1 _ _ 2 _ (by exact⟨rfl,rfl,rfl,rfl⟩)) (by intro _ _ ;rfl)) (@q_v1 _ _ 3 _ (by exact⟨rfl,rfl,rfl,rfl⟩)) (by intro _ _ ;rfl))))),?_⟩
  unfold seaD
  simp only[Bj,Br,Am,Ah,List.map_cons,List.map_nil,List.length_cons,List.length_nil,Nat.zero_add,Nat.reduceAdd,Nat.reduceSub,List.replicate,List.cons_append,List.nil_append,List.getElem?_cons_succ,List.getElem?_cons_zero,Option.some.injEq,Fb,C9,Aw,Fc,Bc,nOp,List.set_cons_succ,List.set_cons_zero,dIx,exists_eq_left',Kc,D.tup.injEq,List.cons.injEq,and_assoc,exists_and_left,true_and,D.int.injEq]
  refine⟨Ai (s.getD c []),Dc (by simp[hc]),.int (Cf s c r),?_,Fq.of k⟩
  show atI ((s.getD c []).map D.int) (r:Int)=_
  unfold Cf
  generalize s.getD c []=col at *
  refine Dc ?_
  rw[List.getElem?_map,List.getElem?_eq_getElem hr',List.getD_eq_getElem?_getD,List.getElem?_eq_getElem hr'];rfl
abbrev s_is_shoal:Stmt:=top 37
abbrev R6:List Str:=["sea", "cell", "draught"]
abbrev p_is_shoal:List Str:=["sea", "cell", "draught"]
theorem Pi:FnScope R6 p_is_shoal (defScope s_is_shoal):=⟨rfl,rfl,rfl,by decide +kernel,rfl,by decide +kernel,by decide +kernel⟩
def spShoal:DSp:=fun ds G Q _=>∃s c r d,ds=[seaD s,.tup [.int (c:Nat),.int (r:Nat)],.int d]∧c<s.length∧r<(s.getD c []).length∧Q (.bl (decide (Cf s c r<d))) G
theorem X4{f:Addr}{fd:FuncData}(F:Fun K "is_shoal" "is_shoal" s_is_shoal f fd)(T:Nums mg)(Ahd:Def P w K mg base CX0 1 "depth_at" Cv He):FnOk P w K mg base CX0 2 f fd p_is_shoal (liftSp K spShoal):=by
 refine okD F Pi (fun ds G Q E h=>?_) (fun cdv A outer s H XE ds G Q E hr h=>?_)
 ·obtain⟨_,_,_,_,rfl,_⟩:=h;rfl
 ·obtain⟨s,c,r,d,rfl,hc,hr',k⟩:=h
  refine⟨_,(@qss_one _ _ _ (@qs_ret _ _ _ _ (@q_cmp _ _ _ _ _ _ _ _ (@o_lt _) (@q_call _ _ _ _ _ _ _ _ noX _ _ _ Ahd (hr.mono (by decide)) (@passN _ _) (@qa_consP _ _ _ _ _ (@q_v1 _ _ 0 _ (by exact⟨rfl,rfl,rfl,rfl⟩)) (@qa_consP _ _ _ _ _ (@q_v1 _ _ 1 _ (by exact⟨rfl,rfl,rfl,rfl⟩)) (@qa_nil _) (by rfl)) (by rfl)) (by rfl) (by decide) (by rfl) (by rfl)) (@q_v1 _ _ 2 _ (by exact⟨rfl,rfl,rfl,rfl⟩)) (nomark _)))),?_⟩
  simp only[Bc,nOp,Ar,Aj,Am,Ah,List.map_cons,List.map_nil,List.length_cons,List.length_nil,Nat.zero_add,Nat.reduceAdd,Nat.reduceSub,List.replicate,List.cons_append,List.nil_append,List.getElem?_cons_zero,Option.some.injEq,List.getElem?_cons_succ,Aq,dI0,exists_eq_left',D.int.injEq]
  refine⟨s,c,r,rfl,hc,hr',?_⟩
  exact⟨_,rfl,Fq.of k⟩
abbrev s_is_row:Stmt:=top 87
abbrev Y2:List Str:=["thing"]
abbrev Dz:List Str:=["thing"]
theorem T3:FnScope Y2 Dz (defScope s_is_row):=⟨rfl,rfl,rfl,by decide +kernel,rfl,by decide +kernel,by decide +kernel⟩
theorem Adm{f:Addr}{fd:FuncData}(F:Fun K "is_row" "is_row" s_is_row f fd)(T:Nums mg)(Agw:Def P w K mg base CX0 1 "is_whole_within" p_is_whole_within spWhole):FnOk P w K mg base CX0 2 f fd Dz (liftSp K (Fa 0 8)):=by
 refine okD F T3 (fun ds G Q E h=>?_) (fun cdv A outer s H XE ds G Q E hr h=>?_)
 ·obtain⟨i,rfl,_⟩:=h;rfl
 ·obtain⟨i,rfl,h1,h2,k⟩:=h
  refine⟨_,(@qss_one _ _ _ (@qs_ret _ _ _ _ (@q_call _ _ _ _ _ _ _ _ noX _ _ _ Agw (hr.mono (by decide)) (@passN _ _) (@qa_consP _ _ _ _ _ (@q_v1 _ _ 0 _ (by exact⟨rfl,rfl,rfl,rfl⟩)) (@qa_consP _ _ _ _ _ (@q_int _ _ _ _) (@qa_consP _ _ _ _ _ (@q_globx _ _ _ _ T.LAST_ROW (by rfl) (by decide)) (@qa_nil _) (by rfl)) (by rfl)) (by rfl)) (by rfl) (by decide) (by rfl) (by rfl)))),?_⟩
  have kn:Kn G (.int i):=⟨_,rfl⟩
  simp only[Bc,Ar,Aj,Am,Ah,List.map_cons,List.map_nil,List.length_cons,List.length_nil,Nat.zero_add,Nat.reduceSub,List.replicate,List.cons_append,List.nil_append,List.getElem?_cons_zero,Option.some.injEq,nC,Aq,spWhole,List.cons.injEq,D.int.injEq,and_true,A8,and_assoc,exists_and_left,exists_eq_left',kn,h1,decide_true,h2,true_and]
  exact Fq.of k
abbrev s_check_held:Stmt:=top 61
abbrev Ny:List Str:=["thing"]
abbrev p_check_held:List Str:=["thing"]
theorem Lc:FnScope Ny p_check_held (defScope s_check_held):=⟨rfl,rfl,rfl,by decide +kernel,rfl,by decide +kernel,by decide +kernel⟩
theorem Aad{f:Addr}{fd:FuncData}(F:Fun K "check_held" "check_held" s_check_held f fd)(T:Nums mg)(Agw:Def P w K mg base CX0 1 "is_whole_within" p_is_whole_within spWhole):FnOk P w K mg base CX0 2 f fd p_check_held (liftSp K (spChk 0 99)):=by
 refine okD F Lc (fun ds G Q E h=>?_) (fun cdv A outer s H XE ds G Q E hr h=>?_)
 ·obtain⟨i,rfl,_⟩:=h;rfl
 ·obtain⟨i,rfl,h1,h2,k⟩:=h
  refine⟨_,(@qss_one _ _ _ (@qs_if _ _ _ _ _ _ _ _ (@qt_not _ _ _ _ (@qt_tru _ _ _ (@q_call _ _ _ _ _ _ _ _ noX _ _ _ Agw (hr.mono (by decide)) (@passN _ _) (@qa_consP _ _ _ _ _ (@q_v1 _ _ 0 _ (by exact⟨rfl,rfl,rfl,rfl⟩)) (@qa_consP _ _ _ _ _ (@q_int _ _ _ _) (@qa_consP _ _ _ _ _ (@q_globx _ _ _ _ T.LAST_NUMBER (by rfl) (by decide)) (@qa_nil _) (by rfl)) (by rfl)) (by rfl)) (by rfl) (by decide) (by rfl) (by rfl)) (by intro _ ;rfl))) (@qss_one _ _ _ (@qs_never _ _)) (@qss_nil _))),?_⟩
  have kn:Kn G (.int i):=⟨_,rfl⟩
  simp only[Cq,Dh,C0,Ar,Aj,Am,Ah,List.map_cons,List.map_nil,List.length_cons,List.length_nil,Nat.zero_add,Nat.reduceSub,List.replicate,List.cons_append,List.nil_append,List.getElem?_cons_zero,Option.some.injEq,nC,Aq,spWhole,List.cons.injEq,D.int.injEq,and_true,A8,Bm,and_assoc,exists_and_left,exists_eq_left',kn,h1,decide_true,h2,true_and]
  first|exact Fq.of k|exact⟨true,rfl,it1 (by decide) (Fq.of k)⟩
def Qk:DSp:=fun ds G Q _=>∃s h p,ds=[seaD s,.ref p]∧SeaOk s h∧G p=some (.lst [])∧Q (.bl true) G
abbrev s_are_notices:Stmt:=top 59
abbrev Lq:List Str:=["sea", "thing", "by_number", "notice"]
abbrev Bu:List Str:=["sea", "thing"]
theorem sc_are_notices:FnScope Lq Bu (defScope s_are_notices):=⟨rfl,rfl,rfl,by decide +kernel,rfl,by decide +kernel,by decide +kernel⟩
theorem Rf{f:Addr}{fd:FuncData}(F:Fun K "are_notices" "are_notices" s_are_notices f fd)(T:Nums mg)(Ahe:Def P w K mg base CX0 5 "check_sea" Cd Eb):FnOk P w K mg base CX0 6 f fd Bu (liftSp K Qk):=by
 refine okD F sc_are_notices (fun ds G Q E h=>?_) (fun cdv A outer s H XE ds G Q E hr h=>?_)
 ·obtain⟨_,_,_,rfl,_⟩:=h;rfl
 ·obtain⟨s,h,p,rfl,ok,hp,k⟩:=h
  refine⟨_,(@qss_cons _ _ _ _ _ (@Cg _ _ _ _ (@q_call _ _ _ _ _ _ _ _ noX _ _ _ Ahe (hr.mono (by decide)) (@passN _ _) (@qa_consP _ _ _ _ _ (@q_v1 _ _ 0 _ (by exact⟨rfl,rfl,rfl,rfl⟩)) (@qa_nil _) (by rfl)) (by rfl) (by decide) (by rfl) (by rfl)) (by rfl)) (@qss_cons _ _ _ _ _ (@qs_if _ _ _ _ _ _ _ _ (@qt_of _ _ _ (@Dt _ _ _ _ _ _ _ (@qt_not _ _ _ _ (@qt_tru _ _ _ (@q_callB _ _ _ _ _ _ _ _ _ (@c_isinst _) (T.blt (by decide)) (by decide +kernel) (@qa_consP _ _ _ _ _ (@q_v1 _ _ 1 _ (by exact⟨rfl,rfl,rfl,rfl⟩)) (@qa_consP _ _ _ _ _ (@q_globty _ _ _ "list" (T.blt (by decide)) (by decide +kernel) (by rfl) (by decide) (by decide)) (@qa_nil _) (by rfl)) (by rfl)) (by rfl) (by decide) (by decide) (by rfl) (by rfl)) (by intro _ ;rfl))) (@qw_or1 _ _ _ _ (@qt_cmp _ _ _ _ _ _ _ _ (@Za _) (@q_callB _ _ _ _ _ _ _ _ _ (@c_len _) (T.blt (by decide)) (by decide +kernel) (@qa_consP _ _ _ _ _ (@q_v1 _ _ 1 _ (by exact⟨rfl,rfl,rfl,rfl⟩)) (@qa_nil _) (by rfl)) (by rfl) (by decide) (by decide) (by rfl) (by rfl)) (@q_globx _ _ _ _ T.MOST_NOTICES (by rfl) (by decide)) (nomark _))))) (@qss_one _ _ _ (@qs_ret _ _ _ _ (@q_bl _ _ _ _))) (@qss_nil _)) (@qss_cons _ _ _ _ _ (@qs_set _ _ _ _ 2 _ _ sc_are_notices.nd (@Qo _ _) (by rfl) (by exact .inl rfl) (by rfl) (by exact .inl rfl)) (@qss_cons _ _ _ _ _ (@qs_for _ _ _ _ _ _ _ _ PassesOwn.never rfl (@q_v1 _ _ 1 _ (by exact⟨rfl,rfl,rfl,rfl⟩)) (@Vx _ _) (@Qn _ _) (by intro _ ;rfl)) (@qss_one _ _ _ (@qs_ret _ _ _ _ (@q_bl _ _ _ _))))))),?_⟩
  have ty:B9 G (.ref p)=some "list":=by simp only[B9,hp]
  simp only[Bj,Fj,Ar,Aj,Am,Ah,List.map_cons,List.map_nil,List.length_cons,List.length_nil,Nat.zero_add,Nat.reduceAdd,Nat.reduceSub,List.replicate,List.cons_append,List.nil_append,List.getElem?_cons_zero,Option.some.injEq,Aq,Eb,List.cons.injEq,and_true,Cq,nOr,Dh,C0,nCB,List.getElem?_cons_succ,nC,D.ty.injEq,Bc,Bm,Br,V0,Aw,Vr,List.set_cons_succ,List.set_cons_zero,exists_eq_left',if_true,Bw,nOp,dI0,D.int.injEq,D.bl.injEq,decide_eq_true_eq,and_assoc,exists_and_left,Aa0,true_and,ty]
  refine⟨s,rfl,h,ok,true,rfl,it1 (by decide) ⟨0,by simp[Dj,hp],it1 (by decide) fun p1 hp1=>?_⟩⟩
  have e1:Av (Ab G p1 (.dkk [])) (.ref p)=some []:=by simp only[Av,Bb hp hp1]
  refine⟨[],e1,V2 e1 ?_⟩
  simp only[Bc,nC]
  exact⟨G,Sub.new hp1,k⟩
abbrev s_check_notices:Stmt:=top 60
abbrev Ji:List Str:=["sea", "thing"]
abbrev p_check_notices:List Str:=["sea", "thing"]
theorem Ht:FnScope Ji p_check_notices (defScope s_check_notices):=⟨rfl,rfl,rfl,by decide +kernel,rfl,by decide +kernel,by decide +kernel⟩
def spNoneC:DSp:=fun ds G Q _=>∃s h p,ds=[seaD s,.ref p]∧SeaOk s h∧G p=some (.lst [])∧Q .non G
theorem Iw{f:Addr}{fd:FuncData}(F:Fun K "check_notices" "check_notices" s_check_notices f fd)(T:Nums mg)(Ahf:Def P w K mg base CX0 6 "are_notices" Bu Qk):FnOk P w K mg base CX0 7 f fd p_check_notices (liftSp K spNoneC):=by
 refine okD F Ht (fun ds G Q E h=>?_) (fun cdv A outer s H XE ds G Q E hr h=>?_)
 ·obtain⟨_,_,_,rfl,_⟩:=h;rfl
 ·obtain⟨s,h,p,rfl,ok,hp,k⟩:=h
  refine⟨_,(@qss_one _ _ _ (@qs_if _ _ _ _ _ _ _ _ (@qt_not _ _ _ _ (@qt_tru _ _ _ (@q_call _ _ _ _ _ _ _ _ noX _ _ _ Ahf (hr.mono (by decide)) (@passN _ _) (@qa_consP _ _ _ _ _ (@q_v1 _ _ 0 _ (by exact⟨rfl,rfl,rfl,rfl⟩)) (@qa_consP _ _ _ _ _ (@q_v1 _ _ 1 _ (by exact⟨rfl,rfl,rfl,rfl⟩)) (@qa_nil _) (by rfl)) (by rfl)) (by rfl) (by decide) (by rfl) (by rfl)) (by intro _ ;rfl))) (@qss_one _ _ _ (@qs_never _ _)) (@qss_nil _))),?_⟩
  simp only[Cq,Dh,C0,Ar,Aj,Am,Ah,List.map_cons,List.map_nil,List.length_cons,List.length_nil,Nat.zero_add,Nat.reduceAdd,Nat.reduceSub,List.replicate,List.cons_append,List.nil_append,List.getElem?_cons_zero,Option.some.injEq,List.getElem?_cons_succ,Aq,Bm,exists_eq_left']
  refine⟨s,h,p,rfl,ok,hp,?_⟩
  first|exact Fq.of k|exact⟨true,rfl,it1 (by decide) (Fq.of k)⟩
end
end K2
set_option maxRecDepth 100000
set_option maxHeartbeats 4000000
namespace K2
open PySem L2 D3
section
variable{P:Program}{w:World}{K:W.Frag}{mg:Str→Option Value}{base:Heap}{C:Addr}
structure Sy(K:PySem.W.Frag)(mg:Str→Option Value)(C:Addr):Prop extends Nums mg where
 cls:Cls K C
 na_sea:NoAttr K C "sea"
 na_placed:NoAttr K C "placed"
 na_adrift:NoAttr K C "adrift"
 na_undone:NoAttr K C "undone"
 Chart:mg "Chart" = some (.ref C)
def F9(C:Addr)(G:Gp)(x:Addr)(d:D)(a:Addr):Prop:=∃b c,G x=some (.ins C [("sea",d),("placed",.ref a),("adrift",.ref b),("undone",.ref c)])∧G a=some (.dkk [])∧G b=some (.dkk [])∧G c=some (.lst [])
theorem E1{g f:Str}{e d:D}{r:List (Str×D)}(h:g≠f):Ee f d ((g,e)::r)=(g,e)::Ee f d r:=if_neg h
abbrev s_Chart_init:Stmt:=inCls (top 63) 0
abbrev N0:List Str:=["self", "sea"]
abbrev Bs:List Str:=["self", "sea"]
theorem Ld:FnScope N0 Bs (defScope s_Chart_init):=⟨rfl,rfl,rfl,by decide +kernel,rfl,by decide +kernel,by decide +kernel⟩
def Mv(C:Addr):DSp:=fun ds G Q _=>∃x d,ds=[.ref x,d]∧G x=some (.ins C [])∧∀G' a,F9 C G' x d a→G a=none→(∀y o,y≠x→G y=some o→G' y=some o)→Q .non G'
theorem Aac{f:Addr}{fd:FuncData}(F:Fun K "__init__" "Chart.__init__" s_Chart_init f fd)(T:Sy K mg C):FnOk P w K mg base CX0 1 f fd Bs (liftSp K (Mv C)):=by
 refine okD F Ld (fun ds G Q E h=>?_) (fun cdv A outer s H XE ds G Q E hr h=>?_)
 ·obtain⟨_,_,rfl,_⟩:=h;rfl
 ·obtain⟨x,d,rfl,hx,k⟩:=h
  refine⟨_,(@qss_cons _ _ _ _ _ (@Mx _ _ _ _ _ _ _ _ _ T.cls T.na_sea (@q_v1 _ _ 0 _ (by exact⟨rfl,rfl,rfl,rfl⟩)) (@q_v1 _ _ 1 _ (by exact⟨rfl,rfl,rfl,rfl⟩)) (by rfl)) (@qss_cons _ _ _ _ _ (@Mx _ _ _ _ _ _ _ _ _ T.cls T.na_placed (@q_v1 _ _ 0 _ (by exact⟨rfl,rfl,rfl,rfl⟩)) (@Qo _ _) (by rfl)) (@qss_cons _ _ _ _ _ (@Mx _ _ _ _ _ _ _ _ _ T.cls T.na_adrift (@q_v1 _ _ 0 _ (by exact⟨rfl,rfl,rfl,rfl⟩)) (@Qo _ _) (by rfl)) (@qss_one _ _ _ (@Mx _ _ _ _ _ _ _ _ _ T.cls T.na_undone (@q_v1 _ _ 0 _ (by exact⟨rfl,rfl,rfl,rfl⟩)) (@q_lst _ _ _ _ (@qa_nil _)) (by rfl)))))),?_⟩
  simp only[Bj,Abi,Am,Ah,List.map_cons,List.map_nil,List.length_cons,List.length_nil,Nat.zero_add,Nat.reduceAdd,Nat.reduceSub,List.replicate,List.cons_append,List.nil_append,List.getElem?_cons_succ,List.getElem?_cons_zero,Option.some.injEq,V0,Fn,Aq,exists_eq_left',D.ref.injEq,hx]
  have ne:∀{G:Gp} {a b:Addr} {o:GO},G a=some o→G b=none→a≠b:=fun h h' z=>by subst z;rw[h] at h';cases h'
  have f1:∀a,Ee "placed" a [("sea",d)]=([("sea",d),("placed",a)]:List (Str×D)):=fun a=>by rw[E1 (by decide)];rfl
  have f2:∀a b,Ee "adrift" b [("sea",d),("placed",a)]=([("sea",d),("placed",a),("adrift",b)]:List (Str×D)):=fun a b=>by rw[E1 (by decide),E1 (by decide)];rfl
  have f3:∀a b c,Ee "undone" c [("sea",d),("placed",a),("adrift",b)]=([("sea",d),("placed",a),("adrift",b),("undone",c)]:List (Str×D)):=fun a b c=>by rw[E1 (by decide),E1 (by decide),E1 (by decide)];rfl
  refine⟨[],rfl,by decide,fun p hp=>?_⟩
  have e1:Ab G x (.ins C (Ee "sea" d [])) x=some (.ins C [("sea",d)]):=Aa
  have k1:∀y o,y≠x→G y=some o→Ab G x (.ins C (Ee "sea" d [])) y=some o:=fun y o n h=>by rw[Ae n];exact h
  have gp:G p=none:=by
   by_cases z:p=x
   ·rw[z,Aa] at hp;cases hp
   ·rw[Ae z] at hp;exact hp
  generalize Ab G x (.ins C (Ee "sea" d []))=G1 at *
  have n1:=ne e1 hp
  refine⟨[("sea",d)],by rw[Ae n1];exact e1,by simp,fun p1 hp1=>?_⟩
  rw[f1] at hp1 ⊢
  have e2:Ab (Ab G1 p (.dkk [])) x (.ins C [("sea",d),("placed",.ref p)]) x=some (.ins C [("sea",d),("placed",.ref p)]):=Aa
  have a2:Ab (Ab G1 p (.dkk [])) x (.ins C [("sea",d),("placed",.ref p)]) p=some (.dkk []):=by rw[Ae n1.symm];exact Aa
  have k2:∀y o,y≠x→G y=some o→Ab (Ab G1 p (.dkk [])) x (.ins C [("sea",d),("placed",.ref p)]) y=some o:=fun y o n h=>by rw[Ae n];exact Bb (k1 y o n h) hp
  generalize Ab (Ab G1 p (.dkk [])) x (.ins C [("sea",d),("placed",.ref p)])=G2 at *
  have n2:=ne e2 hp1
  refine⟨[("sea",d),("placed",.ref p)],by rw[Ae n2];exact e2,by simp,Nat.zero_le _,fun p2 hp2=>?_⟩
  rw[f2] at hp2 ⊢
  have e3:Ab (Ab G2 p1 (.dkk [])) x (.ins C [("sea",d),("placed",.ref p),("adrift",.ref p1)]) x=some (.ins C [("sea",d),("placed",.ref p),("adrift",.ref p1)]):=Aa
  have a3:Ab (Ab G2 p1 (.dkk [])) x (.ins C [("sea",d),("placed",.ref p),("adrift",.ref p1)]) p=some (.dkk []):=by rw[Ae n1.symm];exact Bb a2 hp1
  have b3:Ab (Ab G2 p1 (.dkk [])) x (.ins C [("sea",d),("placed",.ref p),("adrift",.ref p1)]) p1=some (.dkk []):=by rw[Ae n2.symm];exact Aa
  have k3:∀y o,y≠x→G y=some o→Ab (Ab G2 p1 (.dkk [])) x (.ins C [("sea",d),("placed",.ref p),("adrift",.ref p1)]) y=some o:=fun y o n h=>by rw[Ae n];exact Bb (k2 y o n h) hp1
  generalize Ab (Ab G2 p1 (.dkk [])) x (.ins C [("sea",d),("placed",.ref p),("adrift",.ref p1)])=G3 at *
  have n3:=ne e3 hp2
  refine⟨[("sea",d),("placed",.ref p),("adrift",.ref p1)],by rw[Ae n3];exact e3,by simp,Fq.of (k _ p ?_ gp fun y o n h=>?_)⟩
  ·rw[f3]
   exact⟨p1,p2,Aa,by rw[Ae n1.symm];exact Bb a3 hp2,by rw[Ae n2.symm];exact Bb b3 hp2,by rw[Ae n3.symm];exact Aa⟩
  ·rw[Ae n];exact Bb (k3 y o n h) hp2
end
end K2
set_option maxRecDepth 100000
set_option maxHeartbeats 4000000
namespace K2
open PySem L2 D3
section
variable{P:Program}{w:World}{K:W.Frag}{mg:Str→Option Value}{base:Heap}{C T0:Addr}
theorem Jl{G G':Gp}{l:Addr}{o:GO}(s:Sub G G'):Sub (Ab G l o) (Ab G' l o):=fun b u h=>by
 by_cases z:b=l
 ·subst z;rw[Aa] at h ⊢;exact h
 ·rw[Ae z] at h ⊢;exact s b u h
theorem Ad3{n:Nat}{p:Addr}{same:Gp→Prop}{g:DTG}{tf:DTT}{tk tv:DTE}{σ:DSt}{G:Gp}{Q:DK}(s:same (Ab G p (.dkk [])))(h:Q (.ref p) (Ab G p (.dkk []))):V8 n p [] same g tf tk tv σ (Ab G p (.dkk [])) Q:=
 ⟨fun i kvs G'=>kvs=[]∧G'=Ab G p (.dkk []),⟨rfl,rfl⟩,fun i kvs G' _ e=>⟨by rw[e.2];exact s,by rw[e.1,e.2];exact Aa⟩,fun i x kvs G' e=>by simp at e,fun kvs G' e=>by rw[e.2];exact h⟩
abbrev s_in_order:Stmt:=top 73
abbrev Kw:List Str:=["notices", "held", "by_number"]
abbrev p_in_order:List Str:=["notices", "held"]
theorem sc_in_order:FnScope Kw p_in_order (defScope s_in_order):=⟨rfl,rfl,rfl,by decide +kernel,rfl,by decide +kernel,by decide +kernel⟩
theorem Lg:((["notice"]:List Str)++(["notices", "held", "by_number"]:List Str)).Nodup:=by decide +kernel
def spOrder(T0:Addr)(q:Str):DSp:=fun ds G Q _=>∃p h,ds=[.ref p,.int h]∧G p=some (.lst [])∧G T0=some (.tbl q)∧∀l,G l=none→Q (.ref l) (Ab G l (.lst []))
theorem X8{f c0:Addr}{fd:FuncData}(F:Fun K "in_order" "in_order" s_in_order f fd)(T:Nums mg)(hfc:fd.code=.ref c0)(hC:PySem.W.codeHdIn K c0 T0=true):FnOk P w K mg base CX0 1 f fd p_in_order (liftSp K (spOrder T0 ("in_order" ++ ".<locals>." ++ "<lambda>"))):=by
 refine okDc F hfc sc_in_order (fun ds G Q E h=>?_) (fun A outer s H XE ds G Q E hr h=>?_)
 ·obtain⟨_,_,rfl,_⟩:=h;rfl
 ·obtain⟨p,h,rfl,hp,hT,k⟩:=h
  have hcode:(Mq CX0 P w K mg base Kw "in_order" (defScope s_in_order) f (.ref c0) A outer s H XE).nox.env.code=.ref c0:=rfl
  refine⟨_,(@qss_cons _ _ _ _ _ (@Xj _ _ _ _ _ _ _ _ _ _ _ _ _ ["notice"] ["notices", "held", "by_number"] 2 _ _ _ rfl (@compOz _ _ _ _ (by rfl) (by rfl) (by rfl) (by rfl) (by rfl)) (@q_v1 _ _ 0 _ (by exact⟨rfl,rfl,rfl,rfl⟩)) (fun _ _ _=>(@qg_name _ _ 0 _ Lg (by rfl) (by exact .inl rfl) (by exact .inr rfl))) (fun _ _ _=>(@qf_one _ _ _ (@qt_cmp _ _ _ _ _ _ _ _ (@o_le _) (@C4 _ _ _ _ _ _ (@q_v1 _ _ 0 _ (by exact⟨rfl,rfl,rfl,rfl⟩)) (@q_int _ _ _ _) (by intro _ _ ;rfl)) (@q_v2 _ _ 2 _ (by exact⟨rfl,rfl,rfl,rfl⟩)) (nomark _)))) (fun _ _ _=>(@C4 _ _ _ _ _ _ (@q_v1 _ _ 0 _ (by exact⟨rfl,rfl,rfl,rfl⟩)) (@q_int _ _ _ _) (by intro _ _ ;rfl))) (fun _ _ _=>(@q_v1 _ _ 0 _ (by exact⟨rfl,rfl,rfl,rfl⟩))) sc_in_order.nd rfl (by rfl) (by first|exact .inl rfl|exact .inr rfl) (by first|exact .inl rfl|exact .inr rfl) (by intro _ ;rfl)) (@qss_one _ _ _ (@qs_ret _ _ _ _ (@Xk _ _ _ _ _ _ _ _ _ _ _ _ _ _ _ rfl (T.blt (by decide)) (@q_v1 _ _ 2 _ (by exact⟨rfl,rfl,rfl,rfl⟩)) hcode hC rfl (by rfl) (by rfl) (by rfl) (by rfl) (by rfl))))),?_⟩
  simp only[Bj,Br,Wr,Am,Ah,List.map_cons,List.map_nil,List.length_cons,List.length_nil,Nat.zero_add,Nat.reduceAdd,Nat.reduceSub,List.replicate,List.cons_append,List.nil_append,List.getElem?_cons_zero,Option.some.injEq,Aw,Bc,nSortV0,List.set_cons_succ,List.set_cons_zero,List.getElem?_cons_succ,exists_eq_left']
  refine⟨[],by simp only[Av,hp],fun p1 hp1=>Ad3 (by simp only[Av,Bb hp hp1]) ⟨p1,rfl,Aa,Bb hT hp1,fun l hl=>?_⟩⟩
  have hl0:G l=none:=by
   by_cases z:l=p1
   ·rw[z];exact hp1
   ·rw[Ae z] at hl;exact hl
  exact⟨_,Jl (Sub.new hp1),k l hl0⟩
abbrev s_chart_behind:Stmt:=top 74
abbrev K4:List Str:=["sea", "notices", "held", "last_day", "chart", "number", "day", "deed", "do_deed"]
abbrev Bp:List Str:=["sea", "notices", "held", "last_day"]
theorem sc_chart_behind:FnScope K4 Bp (defScope s_chart_behind):=⟨rfl,rfl,rfl,by decide +kernel,rfl,by decide +kernel,by decide +kernel⟩
def J8(C T0:Addr)(q:Str):DSp:=fun ds G Q _=>∃d p h dy,ds=[d,.ref p,.int h,dy]∧G p=some (.lst [])∧G T0=some (.tbl q)∧∀x a G',Sub G G'→G x=none→G a=none→F9 C G' x d a→Q (.ref x) G'
theorem Uo{f fi:Addr}{fd fdi:FuncData}{q:Str}(F:Fun K "chart_behind" "chart_behind" s_chart_behind f fd)(T:Sy K mg C)(Ahg:Def P w K mg base CX0 1 "in_order" p_in_order (spOrder T0 q))(M_Chart:Mk K C fi)(F_Chart:FnOk P w K mg base CX0 1 fi fdi Bs (liftSp K (Mv C)))(B_Chart:Binds K fdi Bs []):FnOk P w K mg base CX0 4 f fd Bp (liftSp K (J8 C T0 q)):=by
 refine okD F sc_chart_behind (fun ds G Q E h=>?_) (fun cdv A outer s H XE ds G Q E hr h=>?_)
 ·obtain⟨_,_,_,_,rfl,_⟩:=h;rfl
 ·obtain⟨d,p,h,dy,rfl,hp,hT,k⟩:=h
  refine⟨_,(@qss_cons _ _ _ _ _ (@qs_set _ _ _ _ 4 _ _ sc_chart_behind.nd (@Acn _ _ _ _ _ _ _ _ _ _ _ _ _ M_Chart F_Chart (hr.mono (by decide)) T.Chart B_Chart (@qa_consP _ _ _ _ _ (@q_v1 _ _ 0 _ (by exact⟨rfl,rfl,rfl,rfl⟩)) (@qa_nil _) (by rfl)) (by rfl) (by decide) (by rfl) (by rfl)) (by rfl) (by exact .inl rfl) (by rfl) (by exact .inl rfl)) (@qss_cons _ _ _ _ _ (@qs_for _ _ _ _ _ _ _ _ PassesOwn.never rfl (@q_call _ _ _ _ _ _ _ _ noX _ _ _ Ahg (hr.mono (by decide)) (@passN _ _) (@qa_consP _ _ _ _ _ (@q_v1 _ _ 1 _ (by exact⟨rfl,rfl,rfl,rfl⟩)) (@qa_consP _ _ _ _ _ (@q_v1 _ _ 2 _ (by exact⟨rfl,rfl,rfl,rfl⟩)) (@qa_nil _) (by rfl)) (by rfl)) (by rfl) (by decide) (by rfl) (by rfl)) (@Vx _ _) (@Qn _ _) (by intro _ ;rfl)) (@qss_one _ _ _ (@qs_ret _ _ _ _ (@q_v1 _ _ 4 _ (by exact⟨rfl,rfl,rfl,rfl⟩)))))),?_⟩
  simp only[Bj,Br,Abm,Aj,Am,Ah,List.map_cons,List.map_nil,List.length_cons,List.length_nil,Nat.zero_add,Nat.reduceAdd,Nat.reduceSub,List.replicate,List.cons_append,List.nil_append,List.getElem?_cons_zero,Option.some.injEq,Aq,Mv,List.cons.injEq,D.ref.injEq,and_true,Aw,Vr,Ar,List.set_cons_succ,List.set_cons_zero,List.getElem?_cons_succ,spOrder,and_assoc,exists_and_left,exists_eq_left',D.int.injEq,true_and,Aa]
  intro x hx G' a ca ga kp
  have ga:G a=none:=by
   by_cases z:a=x
   ·rw[z];exact hx
   ·rw[Ae z] at ga;exact ga
  have k1:Sub G G':=fun b o h=>kp b o (fun z=>by subst z;rw[hx] at h;cases h) (Bb h hx)
  refine⟨k1 _ _ hp,k1 _ _ hT,fun l hl=>?_⟩
  have e1:Av (Ab G' l (.lst [])) (.ref l)=some []:=by simp only[Av,Aa]
  refine⟨[],e1,V2 e1 ?_⟩
  simp only[Bc,Am,List.getElem?_cons_succ,List.getElem?_cons_zero,Option.some.injEq,exists_eq_left']
  exact⟨G',Sub.new hl,k x a G' k1 hx ga ca⟩
abbrev s_chart_of:Stmt:=top 75
abbrev Sa:List Str:=["sea", "notices", "held", "day"]
abbrev p_chart_of:List Str:=["sea", "notices", "held", "day"]
theorem Pk:FnScope Sa p_chart_of (defScope s_chart_of):=⟨rfl,rfl,rfl,by decide +kernel,rfl,by decide +kernel,by decide +kernel⟩
def spChartOf(C T0:Addr)(q:Str):DSp:=fun ds G Q _=>∃s h p,ds=[seaD s,.ref p,.int 0,.int 0]∧SeaOk s h∧G p=some (.lst [])∧G T0=some (.tbl q)∧∀x a G',Sub G G'→G x=none→G a=none→F9 C G' x (seaD s) a→Q (.ref x) G'
theorem Ri{f:Addr}{fd:FuncData}{q:Str}(F:Fun K "chart_of" "chart_of" s_chart_of f fd)(T:Sy K mg C)(Ahh:Def P w K mg base CX0 7 "check_notices" p_check_notices spNoneC)(Ahi:Def P w K mg base CX0 2 "check_held" p_check_held (spChk 0 99))(Ahj:Def P w K mg base CX0 3 "check_day" p_check_day (spChk 0 400))(Ahk:Def P w K mg base CX0 4 "chart_behind" Bp (J8 C T0 q)):FnOk P w K mg base CX0 9 f fd p_chart_of (liftSp K (spChartOf C T0 q)):=by
 refine okD F Pk (fun ds G Q E h=>?_) (fun cdv A outer s H XE ds G Q E hr h=>?_)
 ·obtain⟨_,_,_,rfl,_⟩:=h;rfl
 ·obtain⟨s,h,p,rfl,ok,hp,hT,k⟩:=h
  refine⟨_,(@qss_cons _ _ _ _ _ (@Cg _ _ _ _ (@q_call _ _ _ _ _ _ _ _ noX _ _ _ Ahh (hr.mono (by decide)) (@passN _ _) (@qa_consP _ _ _ _ _ (@q_v1 _ _ 0 _ (by exact⟨rfl,rfl,rfl,rfl⟩)) (@qa_consP _ _ _ _ _ (@q_v1 _ _ 1 _ (by exact⟨rfl,rfl,rfl,rfl⟩)) (@qa_nil _) (by rfl)) (by rfl)) (by rfl) (by decide) (by rfl) (by rfl)) (by rfl)) (@qss_cons _ _ _ _ _ (@Cg _ _ _ _ (@q_call _ _ _ _ _ _ _ _ noX _ _ _ Ahi (hr.mono (by decide)) (@passN _ _) (@qa_consP _ _ _ _ _ (@q_v1 _ _ 2 _ (by exact⟨rfl,rfl,rfl,rfl⟩)) (@qa_nil _) (by rfl)) (by rfl) (by decide) (by rfl) (by rfl)) (by rfl)) (@qss_cons _ _ _ _ _ (@Cg _ _ _ _ (@q_call _ _ _ _ _ _ _ _ noX _ _ _ Ahj (hr.mono (by decide)) (@passN _ _) (@qa_consP _ _ _ _ _ (@q_v1 _ _ 3 _ (by exact⟨rfl,rfl,rfl,rfl⟩)) (@qa_nil _) (by rfl)) (by rfl) (by decide) (by rfl) (by rfl)) (by rfl)) (@qss_one _ _ _ (@qs_ret _ _ _ _ (@q_call _ _ _ _ _ _ _ _ noX _ _ _ Ahk (hr.mono (by decide)) (@passN _ _) (@qa_consP _ _ _ _ _ (@q_v1 _ _ 0 _ (by exact⟨rfl,rfl,rfl,rfl⟩)) (@qa_consP _ _ _ _ _ (@q_v1 _ _ 1 _ (by exact⟨rfl,rfl,rfl,rfl⟩)) (@qa_consP _ _ _ _ _ (@q_v1 _ _ 2 _ (by exact⟨rfl,rfl,rfl,rfl⟩)) (@qa_consP _ _ _ _ _ (@q_v1 _ _ 3 _ (by exact⟨rfl,rfl,rfl,rfl⟩)) (@qa_nil _) (by rfl)) (by rfl)) (by rfl)) (by rfl)) (by rfl) (by decide) (by rfl) (by rfl))))))),?_⟩
  simp only[Bj,Fj,Ar,Aj,Am,Ah,List.map_cons,List.map_nil,List.length_cons,List.length_nil,Nat.zero_add,Nat.reduceAdd,Nat.reduceSub,List.replicate,List.cons_append,List.nil_append,List.getElem?_cons_zero,Option.some.injEq,List.getElem?_cons_succ,Aq,spChk,List.cons.injEq,and_true,Bc,exists_eq_left',D.int.injEq,Int.reduceLE,true_and]
  exact⟨s,h,p,rfl,ok,hp,seaD s,p,0,.int 0,rfl,hp,hT,fun x a G' e1 e2 e3 e4=>Fq.of (k x a G' e1 e2 e3 e4)⟩
end
end K2
set_option maxRecDepth 100000
set_option maxHeartbeats 4000000
namespace K2
open PySem L2 D3
section
variable{P:Program}{w:World}{K:W.Frag}{mg:Str→Option Value}{base:Heap}{C:Addr}
abbrev s_places_of:Stmt:=top 76
abbrev P7:List Str:=["chart"]
abbrev Ca:List Str:=["chart"]
theorem Ng:FnScope P7 Ca (defScope s_places_of):=⟨rfl,rfl,rfl,by decide +kernel,rfl,by decide +kernel,by decide +kernel⟩
def J6(C:Addr):DSp:=fun ds G Q _=>∃x d a,ds=[.ref x]∧F9 C G x d a∧∀l,D6 G a l=none→Q (.ref l) (Ab (D6 G a) l (.lst []))
theorem Uj{f:Addr}{fd:FuncData}(F:Fun K "places_of" "places_of" s_places_of f fd)(T:Sy K mg C):FnOk P w K mg base CX0 1 f fd Ca (liftSp K (J6 C)):=by
 refine okD F Ng (fun ds G Q E h=>?_) (fun cdv A outer s H XE ds G Q E hr h=>?_)
 ·obtain⟨_,_,_,rfl,_⟩:=h;rfl
 ·obtain⟨x,d,a,rfl,⟨b,c,hx,ha,hb,hc⟩,k⟩:=h
  refine⟨_,(@qss_one _ _ _ (@qs_ret _ _ _ _ (@q_callB _ _ _ _ _ _ _ _ _ (@Yv _) (T.blt (by decide)) (by decide +kernel) (@qa_consP _ _ _ _ _ (@Xm _ _ _ _ _ _ _ _ _ _ ["mark", "cell", "look", "sinker"] ["chart"] rfl (@compOz _ _ _ _ (by rfl) (by rfl) (by rfl) (by rfl) (by rfl)) (@Abe _ _ _ _ _ _ T.cls T.na_placed (@q_v1 _ _ 0 _ (by exact⟨rfl,rfl,rfl,rfl⟩)) (by rfl)) (by rfl) (by rfl) (by intro _ ;rfl)) (@qa_nil _) (by rfl)) (by rfl) (by decide) (by decide) (by rfl) (by rfl)))),?_⟩
  simp only[Bc,nCB,Aj,S7,nFld,Am,Ah,List.map_cons,List.map_nil,List.length_cons,List.length_nil,Nat.zero_add,Nat.reduceSub,List.replicate,List.cons_append,List.nil_append,List.getElem?_cons_zero,Option.some.injEq,Aq,List.cons.injEq,and_true,exists_eq_left',D.ref.injEq,Aa,GO.lst.injEq,hx]
  refine⟨_,rfl,.ref a,by first|rfl|decide|simp[List.lookup],a,rfl,ha,fun p hp=>⟨[],rfl,by decide,fun l ms hl pm _=>?_⟩⟩
  obtain rfl:=pm.eq_nil
  have hp':D6 G a p=none:=by unfold D6;split<;>first|rfl|exact hp
  have hl':D6 G a l=none:=by
   by_cases z:l=p
   ·rw[z];exact hp'
   ·rw[Ae z] at hl;exact hl
  exact⟨_,Jl (Sub.new hp'),k l hl'⟩
abbrev s_marks_against:Stmt:=top 82
abbrev Jg:List Str:=["places", "cell", "column", "row", "against", "mark", "mark_column", "mark_row", "shape", "colour", "lit"]
abbrev Bi:List Str:=["places", "cell"]
theorem sc_marks_against:FnScope Jg Bi (defScope s_marks_against):=⟨rfl,rfl,rfl,by decide +kernel,rfl,by decide +kernel,by decide +kernel⟩
def Hf:DSp:=fun ds G Q _=>∃p c r,ds=[.ref p,.tup [c,r]]∧G p=some (.lst [])∧Q (.tup []) G
theorem Rj{f:Addr}{fd:FuncData}(F:Fun K "marks_against" "marks_against" s_marks_against f fd)(T:Sy K mg C):FnOk P w K mg base CX0 2 f fd Bi (liftSp K Hf):=by
 refine okD F sc_marks_against (fun ds G Q E h=>?_) (fun cdv A outer s H XE ds G Q E hr h=>?_)
 ·obtain⟨_,_,_,rfl,_⟩:=h;rfl
 ·obtain⟨p,c,r,rfl,hp,k⟩:=h
  refine⟨_,(@qss_cons _ _ _ _ _ (@Dn _ _ _ _ _ _ (@q_v1 _ _ 1 _ (by exact⟨rfl,rfl,rfl,rfl⟩)) (@qg_tup _ _ _ _ _ 2 rfl (@qgs_cons _ _ _ _ _ (@qg_name _ _ 2 _ sc_marks_against.nd (by rfl) (by exact .inl rfl) (by exact .inl rfl)) (@qgs_cons _ _ _ _ _ (@qg_name _ _ 3 _ sc_marks_against.nd (by rfl) (by exact .inl rfl) (by exact .inl rfl)) (@qgs_nil _) (by rfl)) (by rfl)) (by rfl) (by rfl)) (by rfl) (by rfl) (by rfl)) (@qss_cons _ _ _ _ _ (@qs_set _ _ _ _ 4 _ _ sc_marks_against.nd (@q_lst _ _ _ _ (@qa_nil _)) (by rfl) (by exact .inl rfl) (by rfl) (by exact .inl rfl)) (@qss_cons _ _ _ _ _ (@qs_for _ _ _ _ _ _ _ _ PassesOwn.never rfl (@q_v1 _ _ 0 _ (by exact⟨rfl,rfl,rfl,rfl⟩)) (@Vx _ _) (@Qn _ _) (by intro _ ;rfl)) (@qss_one _ _ _ (@qs_ret _ _ _ _ (@q_callTy _ _ _ _ _ _ _ _ _ (@c_tuple _) (T.blt (by decide)) (by decide +kernel) (@qa_consP _ _ _ _ _ (@q_v1 _ _ 4 _ (by exact⟨rfl,rfl,rfl,rfl⟩)) (@qa_nil _) (by rfl)) (by rfl) (by decide) (by decide) (by rfl) (by rfl))))))),?_⟩
  simp only[Bj,Br,Am,Ah,List.map_cons,List.map_nil,List.length_cons,List.length_nil,Nat.zero_add,Nat.reduceAdd,Nat.reduceSub,List.replicate,List.cons_append,List.nil_append,List.getElem?_cons_succ,List.getElem?_cons_zero,Option.some.injEq,Fb,C9,Aw,Fc,Fn,Aq,Vr,List.set_cons_succ,List.set_cons_zero,exists_eq_left',D.tup.injEq,List.cons.injEq,and_assoc,exists_and_left,true_and]
  refine⟨Nat.zero_le _,fun p1 hp1=>?_⟩
  have e1:Av (Ab G p1 (.lst [])) (.ref p)=some []:=by simp only[Av,Bb hp hp1]
  refine⟨[],e1,V2 e1 ?_⟩
  simp only[Bc,nCB,Aj,Am,List.getElem?_cons_succ,List.getElem?_cons_zero,Option.some.injEq,Aq,List.cons.injEq,and_true,exists_eq_left']
  exact⟨[],by simp only[Av,Aa],G,Sub.new hp1,k⟩
theorem Ad6{n:Nat}{p:Addr}{same:Gp→Prop}{g:DTG}{tf:DTT}{te:DTE}{σ:DSt}{G:Gp}{Q:DK}(s:same (Ab G p (.lst [])))(h:Q (.ref p) (Ab G p (.lst []))):Ii n p [] same g tf te σ (Ab G p (.lst [])) Q:=
 ⟨fun i ys G'=>ys=[]∧G'=Ab G p (.lst []),⟨rfl,rfl⟩,fun i ys G' _ e=>⟨by rw[e.2];exact s,by rw[e.1,e.2];exact Aa⟩,fun i x ys G' e=>by simp at e,fun ys G' e=>by rw[e.2];exact h⟩
abbrev s_places_shown:Stmt:=top 77
abbrev K3:List Str:=["chart", "night"]
abbrev p_places_shown:List Str:=["chart", "night"]
theorem Iu:FnScope K3 p_places_shown (defScope s_places_shown):=⟨rfl,rfl,rfl,by decide +kernel,rfl,by decide +kernel,by decide +kernel⟩
theorem Cm:((["mark", "cell", "look"]:List Str)++(["chart", "night"]:List Str)).Nodup:=by decide +kernel
def spShown(C:Addr):DSp:=fun ds G Q _=>∃x d a,ds=[.ref x,.bl false]∧F9 C G x d a∧∀l,D6 G a l=none→Q (.ref l) (Ab (D6 G a) l (.lst []))
theorem X3{f:Addr}{fd:FuncData}(F:Fun K "places_shown" "places_shown" s_places_shown f fd)(T:Sy K mg C)(Ahl:Def P w K mg base CX0 1 "places_of" Ca (J6 C)):FnOk P w K mg base CX0 2 f fd p_places_shown (liftSp K (spShown C)):=by
 refine okD F Iu (fun ds G Q E h=>?_) (fun cdv A outer s H XE ds G Q E hr h=>?_)
 ·obtain⟨_,_,_,rfl,_⟩:=h;rfl
 ·obtain⟨x,d,a,rfl,ca,k⟩:=h
  refine⟨_,(@qss_one _ _ _ (@qs_ret _ _ _ _ (@q_compz _ _ _ _ _ _ _ _ _ _ _ ["mark", "cell", "look"] ["chart", "night"] rfl (@compOz _ _ _ _ (by rfl) (by rfl) (by rfl) (by rfl) (by rfl)) (@q_call _ _ _ _ _ _ _ _ noX _ _ _ Ahl (hr.mono (by decide)) (@passN _ _) (@qa_consP _ _ _ _ _ (@q_v1 _ _ 0 _ (by exact⟨rfl,rfl,rfl,rfl⟩)) (@qa_nil _) (by rfl)) (by rfl) (by decide) (by rfl) (by rfl)) (fun _ _ _=>(@qg_tup _ _ _ _ _ 3 rfl (@qgs_cons _ _ _ _ _ (@qg_name _ _ 0 _ Cm (by rfl) (by exact .inl rfl) (by exact .inr rfl)) (@qgs_cons _ _ _ _ _ (@qg_name _ _ 1 _ Cm (by rfl) (by exact .inl rfl) (by exact .inr rfl)) (@qgs_cons _ _ _ _ _ (@qg_name _ _ 2 _ Cm (by rfl) (by exact .inl rfl) (by exact .inr rfl)) (@qgs_nil _) (by rfl)) (by rfl)) (by rfl)) (by rfl) (by rfl))) (fun _ _ _=>(@qf_one _ _ _ (@qt_of _ _ _ (@Dt _ _ _ _ _ _ _ (@qt_tru _ _ _ (@C4 _ _ _ _ _ _ (@q_v1 _ _ 2 _ (by exact⟨rfl,rfl,rfl,rfl⟩)) (@q_int _ _ _ _) (by intro _ _ ;rfl)) (by intro _ ;rfl)) (@qw_or1 _ _ _ _ (@qt_not _ _ _ _ (@qt_tru _ _ _ (@q_v2 _ _ 4 _ (by exact⟨rfl,rfl,rfl,rfl⟩)) (by intro _ ;rfl)))))))) (fun _ _ _=>(@Ie _ _ _ _ _ (@qa_consP _ _ _ _ _ (@q_v1 _ _ 0 _ (by exact⟨rfl,rfl,rfl,rfl⟩)) (@qa_consP _ _ _ _ _ (@q_v1 _ _ 1 _ (by exact⟨rfl,rfl,rfl,rfl⟩)) (@qa_consP _ _ _ _ _ (@q_v1 _ _ 2 _ (by exact⟨rfl,rfl,rfl,rfl⟩)) (@qa_nil _) (by rfl)) (by rfl)) (by rfl)))) (by intro _ ;rfl)))),?_⟩
  simp only[Bc,C5,Ar,Aj,Am,Ah,List.map_cons,List.map_nil,List.length_cons,List.length_nil,Nat.zero_add,Nat.reduceAdd,Nat.reduceSub,List.replicate,List.cons_append,List.nil_append,List.getElem?_cons_zero,Option.some.injEq,Aq,exists_eq_left']
  refine⟨x,d,a,rfl,ca,fun l hl=>⟨[],by simp only[Av,Aa],fun p hp=>Ad6 (by simp only[Av,Bb Aa hp]) ?_⟩⟩
  have hp':D6 G a p=none:=by
   by_cases z:p=l
   ·rw[z];exact hl
   ·rw[Ae z] at hp;exact hp
  exact⟨_,Jl (Sub.new hl),k p hp'⟩
def Ce(s:List (List Int))(d:Int)(c:Nat):List Int:=((List.range (s.getD c []).length).filter fun r=>!decide (Cf s c r<d)).map fun(r:Nat)=>(r:Int)
abbrev s_free_rows:Stmt:=top 83
abbrev P9:List Str:=["sea", "places", "draught", "column", "told", "row", "cell"]
abbrev Cc:List Str:=["sea", "places", "draught", "column"]
theorem sc_free_rows:FnScope P9 Cc (defScope s_free_rows):=⟨rfl,rfl,rfl,by decide +kernel,rfl,by decide +kernel,by decide +kernel⟩
def Ql:DSp:=fun ds G Q _=>∃s l d c,ds=[seaD s,.ref l,.int d,.int (c:Nat)]∧c<s.length∧(s.getD c []).length≤9∧G l=some (.lst [])∧Q (Ai (Ce s d c)) G
theorem Aae{f:Addr}{fd:FuncData}(F:Fun K "free_rows" "free_rows" s_free_rows f fd)(T:Sy K mg C)(Ahm:Def P w K mg base CX0 2 "is_shoal" p_is_shoal spShoal)(Ahn:Def P w K mg base CX0 2 "marks_against" Bi Hf):FnOk P w K mg base CX0 3 f fd Cc (liftSp K Ql):=by
 refine okD F sc_free_rows (fun ds G Q E h=>?_) (fun cdv A outer s H XE ds G Q E hr h=>?_)
 ·obtain⟨_,_,_,_,rfl,_⟩:=h;rfl
 ·obtain⟨s,l,d,c,rfl,hc,h9,hl,k⟩:=h
  refine⟨_,(@qss_cons _ _ _ _ _ (@qs_set _ _ _ _ 4 _ _ sc_free_rows.nd (@q_lst _ _ _ _ (@qa_nil _)) (by rfl) (by exact .inl rfl) (by rfl) (by exact .inl rfl)) (@qss_cons _ _ _ _ _ (@Ea _ _ _ _ _ _ _ _ _ _ PassesOwn.never rfl (T.blt (by decide)) (@qa_consP _ _ _ _ _ (@q_callB _ _ _ _ _ _ _ _ _ (@c_len _) (T.blt (by decide)) (by decide +kernel) (@qa_consP _ _ _ _ _ (@C4 _ _ _ _ _ _ (@q_v1 _ _ 0 _ (by exact⟨rfl,rfl,rfl,rfl⟩)) (@q_v1 _ _ 3 _ (by exact⟨rfl,rfl,rfl,rfl⟩)) (by intro _ _ ;rfl)) (@qa_nil _) (by rfl)) (by rfl) (by decide) (by decide) (by rfl) (by rfl)) (@qa_nil _) (by rfl)) (@qg_name _ _ 5 _ sc_free_rows.nd (by rfl) (by exact .inl rfl) (by exact .inl rfl)) (@qss_cons _ _ _ _ _ (@qs_set _ _ _ _ 6 _ _ sc_free_rows.nd (@Ie _ _ _ _ _ (@qa_consP _ _ _ _ _ (@q_v1 _ _ 3 _ (by exact⟨rfl,rfl,rfl,rfl⟩)) (@qa_consP _ _ _ _ _ (@q_v1 _ _ 5 _ (by exact⟨rfl,rfl,rfl,rfl⟩)) (@qa_nil _) (by rfl)) (by rfl))) (by rfl) (by exact .inl rfl) (by rfl) (by exact .inl rfl)) (@qss_one _ _ _ (@qs_if _ _ _ _ _ _ _ _ (@qt_of _ _ _ (@qw_and _ _ _ _ _ _ _ (@qt_not _ _ _ _ (@qt_tru _ _ _ (@q_call _ _ _ _ _ _ _ _ noX _ _ _ Ahm (hr.mono (by decide)) (@passN _ _) (@qa_consP _ _ _ _ _ (@q_v1 _ _ 0 _ (by exact⟨rfl,rfl,rfl,rfl⟩)) (@qa_consP _ _ _ _ _ (@q_v1 _ _ 6 _ (by exact⟨rfl,rfl,rfl,rfl⟩)) (@qa_consP _ _ _ _ _ (@q_v1 _ _ 2 _ (by exact⟨rfl,rfl,rfl,rfl⟩)) (@qa_nil _) (by rfl)) (by rfl)) (by rfl)) (by rfl) (by decide) (by rfl) (by rfl)) (by intro _ ;rfl))) (@qw_and1 _ _ _ _ (@qt_not _ _ _ _ (@qt_tru _ _ _ (@q_call _ _ _ _ _ _ _ _ noX _ _ _ Ahn (hr.mono (by decide)) (@passN _ _) (@qa_consP _ _ _ _ _ (@q_v1 _ _ 1 _ (by exact⟨rfl,rfl,rfl,rfl⟩)) (@qa_consP _ _ _ _ _ (@q_v1 _ _ 6 _ (by exact⟨rfl,rfl,rfl,rfl⟩)) (@qa_nil _) (by rfl)) (by rfl)) (by rfl) (by decide) (by rfl) (by rfl)) (by intro _ ;rfl)))))) (@qss_one _ _ _ (@Cg _ _ _ _ (@N7 _ _ _ _ _ _ _ (@q_v1 _ _ 4 _ (by exact⟨rfl,rfl,rfl,rfl⟩)) (@q_v1 _ _ 5 _ (by exact⟨rfl,rfl,rfl,rfl⟩)) (by rfl) (by rfl) (by rfl) (by rfl) (by rfl)) (by rfl))) (@qss_nil _)))) (by rfl) (by rfl) (by intro _ ;rfl)) (@qss_one _ _ _ (@qs_ret _ _ _ _ (@q_callTy _ _ _ _ _ _ _ _ _ (@c_tuple _) (T.blt (by decide)) (by decide +kernel) (@qa_consP _ _ _ _ _ (@q_v1 _ _ 4 _ (by exact⟨rfl,rfl,rfl,rfl⟩)) (@qa_nil _) (by rfl)) (by rfl) (by decide) (by decide) (by rfl) (by rfl)))))),?_⟩
  have e0:El G (seaD s) (c:Nat)=some (Ai (s.getD c [])):=by
   show atI (s.map Ai) (c:Int)=_
   exact Dc (by simp[hc])
  simp only[Bj,Br,Fn,Aq,List.length_nil,Aw,Ig,Aj,nCB,nOp,Am,Ah,List.map_cons,List.map_nil,List.length_cons,Nat.zero_add,Nat.reduceAdd,Nat.reduceSub,List.replicate,List.cons_append,List.nil_append,List.set_cons_succ,List.set_cons_zero,List.getElem?_cons_zero,Option.some.injEq,List.getElem?_cons_succ,dIx,List.cons.injEq,and_true,D.int.injEq,Int.reducePow,Int.reduceNeg,and_assoc,exists_eq_left']
  refine⟨Nat.zero_le _,fun p hp=>⟨_,e0,(s.getD c []).length,by simp only[Ai,Dj,List.length_map],by omega,by omega,?_⟩⟩
  have npl:l≠p:=fun z=>by subst z;rw[hl] at hp;cases hp
  refine B1 (fun i σ G'=>∃v1 v2,σ=[some (seaD s),some (.ref l),some (.int d),some (.int c),some (.ref p),v1,v2]∧G'=Ab G p (.lst (((List.range i).filter fun r=>!decide (Cf s c r<d)).map fun(r:Nat)=>D.int (r:Int)))) ⟨none,none,rfl,rfl⟩ ?_ ?_
  ·rintro i σ G' hi ⟨v1,v2,rfl,rfl⟩
   have hi:i<(s.getD c []).length:=by simpa using hi
   have hz:((List.range i).filter fun r=>!decide (Cf s c r<d)).length≤i:=by
    have:=List.length_filter_le (fun r=>!decide (Cf s c r<d)) (List.range i)
    rwa [List.length_range] at this
   simp only[Aw,Bj,Br,Qe,Aj,Am,List.set_cons_succ,List.set_cons_zero,List.getElem?_cons_succ,List.getElem?_cons_zero,Option.some.injEq,Aq,List.length_cons,List.length_nil,Nat.zero_add,Nat.reduceAdd,Cq,Vs,Dh,C0,Ar,spShoal,List.cons.injEq,and_true,Fj,Tr,exists_eq_left',D.ref.injEq,Bm,reduceCtorEq,Aa,GO.lst.injEq,As,if_false,and_assoc,exists_and_left,D.int.injEq,D.tup.injEq]
   refine⟨szl (by decide),s,rfl,c,rfl,i,rfl,hc,hi,decide (Cf s c i<d),rfl,?_⟩
   have next:∀b:Bool,(!decide (Cf s c i<d))=b→((List.range (i+1)).filter fun r=>!decide (Cf s c r<d)).map (fun(r:Nat)=>D.int (r:Int))=((List.range i).filter fun r=>!decide (Cf s c r<d)).map (fun(r:Nat)=>D.int (r:Int))++(if b=true then [D.int (i:Int)] else []):=fun b hb=>by
    rw[List.range_succ,List.filter_append,List.map_append]
    congr 1
    cases b<;>simp[hb]
   by_cases hd:Cf s c i<d
   ·refine it1 (by simp[hd]) (Fs.of ⟨_,_,rfl,?_⟩)
    rw[next false (by simp[hd])];simp
   ·refine it0 (by simp[hd]) ⟨l,_,_,rfl,by rw[Ae npl];exact hl,false,rfl,it0 (by decide) ⟨⟨_,Aa⟩,_,Aa,?_,?_⟩⟩
    ·rw[List.length_map,sizeLine_eq];omega
    ·rw[As]
     refine Fs.of ⟨_,_,rfl,?_⟩
     rw[next true (by simp[hd])];rfl
  ·rintro σ G' ⟨v1,v2,rfl,rfl⟩
   simp only[Bc,nCB,Aj,Am,List.getElem?_cons_succ,List.getElem?_cons_zero,Option.some.injEq,Aq,List.cons.injEq,and_true,exists_eq_left']
   refine⟨((List.range (s.getD c []).length).filter fun r=>!decide (Cf s c r<d)).map fun(r:Nat)=>D.int (r:Int),by simp only[Av,Aa,Int.toNat_natCast],G,Sub.new hp,?_⟩
   have k2:Q (.tup ((Ce s d c).map D.int)) G:=k
   rw[Ce,List.map_map] at k2
   exact k2
end
end K2
set_option maxRecDepth 100000
set_option maxHeartbeats 4000000
namespace K2
open PySem L2 D3
section
variable{P:Program}{w:World}{K:W.Frag}{mg:Str→Option Value}{base:Heap}{C T0:Addr}
def B7(s:List (List Int))(d:Int):List (List Int):=(List.range s.length).map (Ce s d)
def chD(cs:List (List Int)):D:=.tup (cs.map Ai)
abbrev s_channel_of:Stmt:=top 84
abbrev Nz:List Str:=["sea", "notices", "held", "day", "draught", "night", "chart", "places"]
abbrev p_channel_of:List Str:=["sea", "notices", "held", "day", "draught", "night"]
theorem sc_channel_of:FnScope Nz p_channel_of (defScope s_channel_of):=⟨rfl,rfl,rfl,by decide +kernel,rfl,by decide +kernel,by decide +kernel⟩
theorem Iz:((["column"]:List Str)++(["sea", "notices", "held", "day", "draught", "night", "chart", "places"]:List Str)).Nodup:=by decide +kernel
def spChannel(T0:Addr)(q:Str):DSp:=fun ds G Q _=>∃s h p d,ds=[seaD s,.ref p,.int 0,.int 0,.int d,.bl false]∧SeaOk s h∧1≤d∧d≤9∧G p=some (.lst [])∧G T0=some (.tbl q)∧Q (chD (B7 s d)) G
theorem Nl{f:Addr}{fd:FuncData}{q:Str}(F:Fun K "channel_of" "channel_of" s_channel_of f fd)(T:Sy K mg C)(Aho:Def P w K mg base CX0 9 "chart_of" p_chart_of (spChartOf C T0 q))(Ahp:Def P w K mg base CX0 3 "check_draught" p_check_draught (spChk 1 9))(Ahq:Def P w K mg base CX0 2 "places_shown" p_places_shown (spShown C))(Ahr:Def P w K mg base CX0 3 "free_rows" Cc Ql):FnOk P w K mg base CX0 10 f fd p_channel_of (liftSp K (spChannel T0 q)):=by
 refine okD F sc_channel_of (fun ds G Q E h=>?_) (fun cdv A outer s H XE ds G Q E hr h=>?_)
 ·obtain⟨_,_,_,_,rfl,_⟩:=h;rfl
 ·obtain⟨s,h,p,d,rfl,ok,d1,d9,hp,hT,k⟩:=h
  refine⟨_,(@qss_cons _ _ _ _ _ (@qs_set _ _ _ _ 6 _ _ sc_channel_of.nd (@q_call _ _ _ _ _ _ _ _ noX _ _ _ Aho (hr.mono (by decide)) (@passN _ _) (@qa_consP _ _ _ _ _ (@q_v1 _ _ 0 _ (by exact⟨rfl,rfl,rfl,rfl⟩)) (@qa_consP _ _ _ _ _ (@q_v1 _ _ 1 _ (by exact⟨rfl,rfl,rfl,rfl⟩)) (@qa_consP _ _ _ _ _ (@q_v1 _ _ 2 _ (by exact⟨rfl,rfl,rfl,rfl⟩)) (@qa_consP _ _ _ _ _ (@q_v1 _ _ 3 _ (by exact⟨rfl,rfl,rfl,rfl⟩)) (@qa_nil _) (by rfl)) (by rfl)) (by rfl)) (by rfl)) (by rfl) (by decide) (by rfl) (by rfl)) (by rfl) (by exact .inr rfl) (by rfl) (by exact .inl rfl)) (@qss_cons _ _ _ _ _ (@Cg _ _ _ _ (@q_call _ _ _ _ _ _ _ _ noX _ _ _ Ahp (hr.mono (by decide)) (@passN _ _) (@qa_consP _ _ _ _ _ (@q_v2 _ _ 4 _ (by exact⟨rfl,rfl,rfl,rfl⟩)) (@qa_nil _) (by rfl)) (by rfl) (by decide) (by rfl) (by rfl)) (by rfl)) (@qss_cons _ _ _ _ _ (@qs_set _ _ _ _ 7 _ _ sc_channel_of.nd (@q_call _ _ _ _ _ _ _ _ noX _ _ _ Ahq (hr.mono (by decide)) (@passN _ _) (@qa_consP _ _ _ _ _ (@q_v2 _ _ 6 _ (by exact⟨rfl,rfl,rfl,rfl⟩)) (@qa_consP _ _ _ _ _ (@q_v1 _ _ 5 _ (by exact⟨rfl,rfl,rfl,rfl⟩)) (@qa_nil _) (by rfl)) (by rfl)) (by rfl) (by decide) (by rfl) (by rfl)) (by rfl) (by exact .inr rfl) (by rfl) (by exact .inl rfl)) (@qss_one _ _ _ (@qs_ret _ _ _ _ (@q_callTy _ _ _ _ _ _ _ _ _ (@c_tuple _) (T.blt (by decide)) (by decide +kernel) (@qa_consP _ _ _ _ _ (@Xl _ _ _ _ _ _ _ _ _ ["column"] ["sea", "notices", "held", "day", "draught", "night", "chart", "places"] _ _ _ _ rfl (@compOz _ _ _ _ (by rfl) (by rfl) (by rfl) (by rfl) (by rfl)) (T.blt (by decide)) (@qa_consP _ _ _ _ _ (@q_callB _ _ _ _ _ _ _ _ _ (@c_len _) (T.blt (by decide)) (by decide +kernel) (@qa_consP _ _ _ _ _ (@q_v1 _ _ 0 _ (by exact⟨rfl,rfl,rfl,rfl⟩)) (@qa_nil _) (by rfl)) (by rfl) (by decide) (by decide) (by rfl) (by rfl)) (@qa_nil _) (by rfl)) (fun _ _ _=>(@qg_name _ _ 0 _ Iz (by rfl) (by exact .inl rfl) (by exact .inr rfl))) (fun _ _ _=>(@qf_nil _)) (fun _ _ _=>(@q_call _ _ _ _ _ _ _ _ noX _ _ _ Ahr (hr.mono (by decide)) (@passN _ _) (@qa_consP _ _ _ _ _ (@Abe _ _ _ _ _ _ T.cls T.na_sea (@q_v2 _ _ 7 _ (by exact⟨rfl,rfl,rfl,rfl⟩)) (by rfl)) (@qa_consP _ _ _ _ _ (@q_v2 _ _ 8 _ (by exact⟨rfl,rfl,rfl,rfl⟩)) (@qa_consP _ _ _ _ _ (@q_v2 _ _ 5 _ (by exact⟨rfl,rfl,rfl,rfl⟩)) (@qa_consP _ _ _ _ _ (@q_v1 _ _ 0 _ (by exact⟨rfl,rfl,rfl,rfl⟩)) (@qa_nil _) (by rfl)) (by rfl)) (by rfl)) (by rfl)) (by rfl) (by decide) (by rfl) (by rfl))) (by rfl) (by rfl) (by intro _ ;rfl)) (@qa_nil _) (by rfl)) (by rfl) (by decide) (by decide) (by rfl) (by rfl))))))),?_⟩
  simp only[Bj,Br,Ar,Aj,Am,Ah,List.map_cons,List.map_nil,List.length_cons,List.length_nil,Nat.zero_add,Nat.reduceAdd,Nat.reduceSub,List.replicate,List.cons_append,List.nil_append,List.getElem?_cons_zero,Option.some.injEq,List.getElem?_cons_succ,Aq,Aw,Fj,List.set_cons_succ,List.set_cons_zero,spChk,List.cons.injEq,and_true,Bc,nCB,S6,D.int.injEq,Int.reducePow,Int.reduceNeg,exists_eq_left',and_assoc,d1,d9,true_and]
  refine⟨s,h,p,rfl,ok,hp,hT,fun x a G' sb gx ga ca=>?_⟩
  have ca0:=ca
  obtain⟨b,c,hx,ha,_,_⟩:=ca
  have nxa:x≠a:=fun z=>by rw[z,ha] at hx;cases hx
  refine⟨x,seaD s,a,rfl,ca0,fun l hl=>⟨s.length,by simp[Dj,seaD],by omega,by have:=ok.wide;omega,fun p1 hp1=>?_⟩⟩
  have hx1:D6 G' a x=some (.ins C [("sea",seaD s),("placed",.ref a),("adrift",.ref b),("undone",.ref c)]):=by unfold D6;rw[if_neg nxa];exact hx
  have hx2:=Bb (u:=.lst []) hx1 hl
  have hl2:Ab (D6 G' a) l (.lst []) l=some (.lst []):=Aa
  have sb2:Sub G (Ab (D6 G' a) l (.lst [])):=fun y o e=>Bb (by unfold D6;rw[if_neg (fun z=>by rw[z,ga] at e;cases e)];exact sb y o e) hl
  generalize Ab (D6 G' a) l (.lst [])=G1 at *
  have hz:(D3.K8 ((s.length:Int)).toNat).length<sizeLine:=by rw[Ck,sizeLine_eq];have:=ok.wide;omega
  refine Ay (fun y=>Ai (Ce s d (A5 y).toNat)) (fun _=>true) hz (fun _=>trivial) (by decide) (fun y ys hy hlen R1 R2 g1 _=>?_) ?_
  ·obtain⟨i,hi,rfl⟩:∃i:Nat,i<s.length∧y=.int i:=by
    unfold D3.K8 at hy
    obtain⟨i,hi,rfl⟩:=List.mem_map.mp hy
    exact⟨i,by simpa using hi,rfl⟩
   have hx3:=Bb (u:=.lst ys) hx2 hp1
   have hl3:=Bb (u:=.lst ys) hl2 hp1
   simp only[Co,Ar,Aj,nFld,Am,List.replicate,List.cons_append,List.nil_append,List.set_cons_zero,List.getElem?_cons_succ,List.getElem?_cons_zero,Option.some.injEq,Aq,hlen,true_and,exists_eq_left',D.ref.injEq,hx3,if_true]
   have h9:(s.getD i []).length≤9:=by
    have hm:s.getD i []∈s:=by rw[List.getD_eq_getElem?_getD,List.getElem?_eq_getElem hi];exact List.getElem_mem hi
    have h1:=(ok.col _ hm).1
    have h2:=ok.high
    omega
   refine⟨_,rfl,seaD s,by first|rfl|decide|simp[List.lookup],s,l,d,i,rfl,hi,h9,hl3,Aa,?_⟩
   rw[As]
   exact Fg.of (g1 rfl)
  ·refine⟨(B7 s d).map Ai,?_,G,sb2.trans (Sub.new hp1),k⟩
   simp only[Av,Aa,Bd]
   unfold D3.K8 B7
   rw[List.map_map,List.map_map]
   simp[Function.comp_def,A5]
end
end K2
set_option maxRecDepth 100000
set_option maxHeartbeats 4000000
namespace K2
open PySem L2 D3
section
variable{P:Program}{w:World}{K:W.Frag}{mg:Str→Option Value}{base:Heap}
theorem Gd{G:Gp}:∀{ns:List Int},RepDs G (ns.map D.int) (ns.map PyData.int)
 |[]=>.nil
 |n::r=>.cons (.int n) Gd
theorem Gg:∀ns:List Int,PyData.canLayAll0 (ns.map PyData.int)=true
 |[]=>rfl
 |n::r=>by rw[List.map_cons,PyData.canLayAll0,Gg r];rfl
theorem Es:∀ns:List Int,PyData.depthAll (ns.map PyData.int)=0
 |[]=>rfl
 |n::r=>by rw[List.map_cons,PyData.depthAll,Es r];rfl
theorem Pc(i:Int):∀ns:List Int,((ns.map PyData.int).any fun y=>PyData.eqv y (.int i))=decide (i∈ns)
 |[]=>by simp
 |n::r=>by
  rw[List.map_cons,List.any_cons,Pc i r]
  show((n == i)||decide (i∈r))=_
  by_cases h:n=i
  ·subst h;simp
  ·have h':¬i=n:=fun e=>h e.symm
   simp[h,h']
theorem Qv{G:Gp}{i:Int}{ns:List Int}{neg:Bool}{Q:DK}(h:Q (.bl (if neg then !decide (i∈ns) else decide (i∈ns))) G):dInD neg (.int i) (.tup (ns.map D.int)) G Q:=
 ⟨.int i,ns.map PyData.int,.int i,.inr (.tup Gd),rfl,Gg ns,by rw[Es];exact Nat.le_trans (show 1+min 0 _≤1 by omega) (by decide),by rw[Pc];exact h⟩
structure WayOk(cs:List (List Int))(ws:List Int):Prop where
 chan:V6 (chD cs)=true
 len:ws.length=cs.length
 small:cs.length≤16∧∀c∈cs,c.length≤9
 row:∀(i:Nat) r c,ws[i]? = some r→cs[i]? = some c→(0≤r∧r≤8)∧r∈c
 step:∀(i:Nat) r t,ws[i]? = some r→ws[i+1]? = some t→t-r≤1∧r-t≤1
theorem kn_ch{G:Gp}{cs:List (List Int)}:KnT G 2 (chD cs):=⟨⟨_,rfl⟩,fun ds e x hx=>by
 cases e
 obtain⟨c,_,rfl⟩:=List.mem_map.mp hx
 refine⟨⟨_,rfl⟩,fun ds e y hy=>?_⟩
 cases e
 obtain⟨i,_,rfl⟩:=List.mem_map.mp hy
 exact⟨_,rfl⟩⟩
theorem Mr:∀{xs ys:List D} {z:D},z∈Bx [xs,ys]→∃(i:Nat) (u v:D),xs[i]? = some u∧ys[i]? = some v∧z=.tup [u,v]
 |[],ys,z,h=>by obtain⟨u,v,_,hu,_⟩:=Da h;cases hu
 |x::xs,[],z,h=>by obtain⟨u,v,_,_,hv⟩:=Da h;cases hv
 |x::xs,y::ys,z,h=>by
  rw[J2] at h
  rcases List.mem_cons.mp h with rfl|h
  ·exact⟨0,x,y,rfl,rfl,rfl⟩
  ·obtain⟨i,u,v,h1,h2,h3⟩:=Mr h
   exact⟨i+1,u,v,h1,h2,h3⟩
abbrev s_is_way:Stmt:=top 91
abbrev Y0:List Str:=["channel", "thing"]
abbrev p_is_way:List Str:=["channel", "thing"]
theorem T1:FnScope Y0 p_is_way (defScope s_is_way):=⟨rfl,rfl,rfl,by decide +kernel,rfl,by decide +kernel,by decide +kernel⟩
theorem nd_is_way_1:((["row", "rows"]:List Str)++(["channel", "thing"]:List Str)).Nodup:=by decide +kernel
theorem Il:((["ahead", "row"]:List Str)++(["channel", "thing"]:List Str)).Nodup:=by decide +kernel
def spWay:DSp:=fun ds G Q _=>∃cs ws,ds=[chD cs,Ai ws]∧WayOk cs ws∧Q (.bl true) G
theorem Adj{f:Addr}{fd:FuncData}(F:Fun K "is_way" "is_way" s_is_way f fd)(T:Nums mg)(Ahs:Def P w K mg base CX0 5 "check_channel" p_check_channel spCheckC)(Aht:Def P w K mg base CX0 2 "is_row" Dz (Fa 0 8)):FnOk P w K mg base CX0 6 f fd p_is_way (liftSp K spWay):=by
 refine okD F T1 (fun ds G Q E h=>?_) (fun cdv A outer s H XE ds G Q E hr h=>?_)
 ·obtain⟨_,_,rfl,_⟩:=h;rfl
 ·obtain⟨cs,ws,rfl,ok,k⟩:=h
  refine⟨_,(@qss_cons _ _ _ _ _ (@Cg _ _ _ _ (@q_call _ _ _ _ _ _ _ _ noX _ _ _ Ahs (hr.mono (by decide)) (@passN _ _) (@qa_consP _ _ _ _ _ (@q_v1 _ _ 0 _ (by exact⟨rfl,rfl,rfl,rfl⟩)) (@qa_nil _) (by rfl)) (by rfl) (by decide) (by rfl) (by rfl)) (by rfl)) (@qss_cons _ _ _ _ _ (@qs_if _ _ _ _ _ _ _ _ (@qt_of _ _ _ (@Dt _ _ _ _ _ _ _ (@qt_not _ _ _ _ (@qt_tru _ _ _ (@q_callB _ _ _ _ _ _ _ _ _ (@c_isinst _) (T.blt (by decide)) (by decide +kernel) (@qa_consP _ _ _ _ _ (@q_v1 _ _ 1 _ (by exact⟨rfl,rfl,rfl,rfl⟩)) (@qa_consP _ _ _ _ _ (@q_globty _ _ _ "tuple" (T.blt (by decide)) (by decide +kernel) (by rfl) (by decide) (by decide)) (@qa_nil _) (by rfl)) (by rfl)) (by rfl) (by decide) (by decide) (by rfl) (by rfl)) (by intro _ ;rfl))) (@qw_or1 _ _ _ _ (@qt_cmp _ _ _ _ _ _ _ _ (@o_ne _) (@q_callB _ _ _ _ _ _ _ _ _ (@c_len _) (T.blt (by decide)) (by decide +kernel) (@qa_consP _ _ _ _ _ (@q_v1 _ _ 1 _ (by exact⟨rfl,rfl,rfl,rfl⟩)) (@qa_nil _) (by rfl)) (by rfl) (by decide) (by decide) (by rfl) (by rfl)) (@q_callB _ _ _ _ _ _ _ _ _ (@c_len _) (T.blt (by decide)) (by decide +kernel) (@qa_consP _ _ _ _ _ (@q_v1 _ _ 0 _ (by exact⟨rfl,rfl,rfl,rfl⟩)) (@qa_nil _) (by rfl)) (by rfl) (by decide) (by decide) (by rfl) (by rfl)) (nomark _))))) (@qss_one _ _ _ (@qs_ret _ _ _ _ (@q_bl _ _ _ _))) (@qss_nil _)) (@qss_cons _ _ _ _ _ (@qs_if _ _ _ _ _ _ _ _ (@qt_not _ _ _ _ (@qt_tru _ _ _ (@q_callB _ _ _ _ _ _ _ _ _ (@c_all _ rfl) (T.blt (by decide)) (by decide +kernel) (@qa_consP _ _ _ _ _ (@q_compzZ2 _ _ _ _ _ _ _ _ ["row", "rows"] ["channel", "thing"] _ _ _ _ _ _ _ _ rfl (@compOz _ _ _ _ (by rfl) (by rfl) (by rfl) (by rfl) (by rfl)) (T.blt (by decide)) (@qa_consP _ _ _ _ _ (@q_v1 _ _ 1 _ (by exact⟨rfl,rfl,rfl,rfl⟩)) (@qa_consP _ _ _ _ _ (@q_v1 _ _ 0 _ (by exact⟨rfl,rfl,rfl,rfl⟩)) (@qa_nil _) (by rfl)) (by rfl)) (fun _ _ _=>(@qg_tup _ _ _ _ _ 2 rfl (@qgs_cons _ _ _ _ _ (@qg_name _ _ 0 _ nd_is_way_1 (by rfl) (by exact .inl rfl) (by exact .inr rfl)) (@qgs_cons _ _ _ _ _ (@qg_name _ _ 1 _ nd_is_way_1 (by rfl) (by exact .inl rfl) (by exact .inr rfl)) (@qgs_nil _) (by rfl)) (by rfl)) (by rfl) (by rfl))) (fun _ _ _=>(@qf_nil _)) (fun _ _ _=>(@q_and _ _ _ _ _ _ _ (@q_call _ _ _ _ _ _ _ _ noX _ _ _ Aht (hr.mono (by decide)) (@passN _ _) (@qa_consP _ _ _ _ _ (@q_v1 _ _ 0 _ (by exact⟨rfl,rfl,rfl,rfl⟩)) (@qa_nil _) (by rfl)) (by rfl) (by decide) (by rfl) (by rfl)) (@q_one _ _ _ _ _ (@q_cmp _ _ _ _ _ _ _ _ (@o_inD _ _ hr) (@q_v1 _ _ 0 _ (by exact⟨rfl,rfl,rfl,rfl⟩)) (@q_v1 _ _ 1 _ (by exact⟨rfl,rfl,rfl,rfl⟩)) (by with_unfolding_all rfl))))) (by rfl) (by rfl) (by rfl) (by intro _ ;rfl)) (@qa_nil _) (by rfl)) (by rfl) (by decide) (by decide) (by rfl) (by rfl)) (by intro _ ;rfl))) (@qss_one _ _ _ (@qs_ret _ _ _ _ (@q_bl _ _ _ _))) (@qss_nil _)) (@qss_one _ _ _ (@qs_ret _ _ _ _ (@q_callB _ _ _ _ _ _ _ _ _ (@c_all _ rfl) (T.blt (by decide)) (by decide +kernel) (@qa_consP _ _ _ _ _ (@q_compzZ2 _ _ _ _ _ _ _ _ ["ahead", "row"] ["channel", "thing"] _ _ _ _ _ _ _ _ rfl (@compOz _ _ _ _ (by rfl) (by rfl) (by rfl) (by rfl) (by rfl)) (T.blt (by decide)) (@qa_consP _ _ _ _ _ (@q_v1 _ _ 1 _ (by exact⟨rfl,rfl,rfl,rfl⟩)) (@qa_consP _ _ _ _ _ (@F4 _ _ _ _ _ _ _ _ _ (@q_v1 _ _ 1 _ (by exact⟨rfl,rfl,rfl,rfl⟩)) (@F2 _ _ _ (@q_int _ _ _ _)) (@F3 _)) (@qa_nil _) (by rfl)) (by rfl)) (fun _ _ _=>(@qg_tup _ _ _ _ _ 2 rfl (@qgs_cons _ _ _ _ _ (@qg_name _ _ 0 _ Il (by rfl) (by exact .inl rfl) (by exact .inr rfl)) (@qgs_cons _ _ _ _ _ (@qg_name _ _ 1 _ Il (by rfl) (by exact .inl rfl) (by exact .inr rfl)) (@qgs_nil _) (by rfl)) (by rfl)) (by rfl) (by rfl))) (fun _ _ _=>(@qf_nil _)) (fun _ _ _=>(@q_cmp _ _ _ _ _ _ _ _ (@o_le _) (@q_callB _ _ _ _ _ _ _ _ _ (@Abt _) (T.blt (by decide)) (by decide +kernel) (@qa_consP _ _ _ _ _ (@q_op _ _ _ _ _ _ _ _ (@C8 _) (@q_v1 _ _ 1 _ (by exact⟨rfl,rfl,rfl,rfl⟩)) (@q_v1 _ _ 0 _ (by exact⟨rfl,rfl,rfl,rfl⟩))) (@qa_nil _) (by rfl)) (by rfl) (by decide) (by decide) (by rfl) (by rfl)) (@q_int _ _ _ _) (nomark _))) (by rfl) (by rfl) (by rfl) (by intro _ ;rfl)) (@qa_nil _) (by rfl)) (by rfl) (by decide) (by decide) (by rfl) (by rfl))))))),?_⟩
  simp only[Bj,Fj,Ar,Aj,Am,Ah,List.map_cons,List.map_nil,List.length_cons,List.length_nil,Nat.zero_add,Nat.reduceAdd,Nat.reduceSub,List.replicate,List.cons_append,List.nil_append,List.getElem?_cons_zero,Option.some.injEq,Aq,spCheckC,List.cons.injEq,and_true,Cq,nOr,Dh,C0,nCB,List.getElem?_cons_succ,nC,D.ty.injEq,Bc,Bm,F6,nSl,N9,D.int.injEq,F5,true_and,exists_eq_left',if_true,Bw,nOp,dNe,eqS,D.bl.injEq,and_assoc,exists_and_left,Dr]
  have hsm:=ok.small
  have sz:SzT (chD cs):=fun xs e=>by
   cases e
   refine⟨by rw[List.length_map,sizeLine_eq];omega,fun y hy ys e=>?_⟩
   obtain⟨c,hc,rfl⟩:=List.mem_map.mp hy
   cases e
   rw[List.length_map,sizeLine_eq];have:=hsm.2 c hc;omega
  refine⟨kn_ch,sz,ok.chan, "tuple",rfl,true,rfl,it1 (by decide) ⟨ws.length,by simp[Ai,Dj],cs.length,by simp[chD,Dj],it1 (by simp[ok.len]) ⟨[ws.map D.int,cs.map Ai],rfl,fun p hp=>?_⟩⟩⟩
  have hzl:(Bx [ws.map D.int,cs.map Ai]).length<sizeLine:=by
   rw[Ci,sizeLine_eq]
   simp only[Di,List.length_map];omega
  refine Et (fun z=>match z with|.tup [u,v]=>[some u,some v,some (chD cs),some (Ai ws)]|_=>[none,none,some (chD cs),some (Ai ws)]) (fun z=>.bl true) (fun _=>true) hzl (fun _=>rfl) (fun z hz=>?_) (fun z ys hzm hl R1 R2 g1 _=>?_) ?_
  ·obtain⟨u,v,rfl,_,_⟩:=Da hz
   refine⟨⟨[some u,some v],rfl,rfl⟩,fun G' R h=>?_⟩
   simp only[Fb,D.tup.injEq,C9,Aw,Fc,List.replicate,List.cons_append,List.nil_append,List.set_cons_zero,List.set_cons_succ,exists_eq_left',List.length_cons,List.length_nil,Nat.zero_add,Nat.reduceAdd,List.cons.injEq,and_assoc,exists_and_left,true_and]
   exact h
  ·obtain⟨i,u,v,hu,hv,rfl⟩:=Mr hzm
   rw[List.getElem?_map] at hu hv
   obtain⟨r,hr1,rfl⟩:=Option.map_eq_some_iff.mp hu
   obtain⟨c,hc1,rfl⟩:=Option.map_eq_some_iff.mp hv
   obtain⟨⟨r0,r8⟩,rc⟩:=ok.row i r c hr1 hc1
   simp only[Co,Se,Ar,Aj,Am,List.getElem?_cons_zero,Option.some.injEq,Aq,Fa,List.cons.injEq,and_true,D.bl.injEq,nOp,List.getElem?_cons_succ,hl,true_and,exists_eq_left',Aa,As,if_true,D.int.injEq,r0,r8]
   refine Qv ?_
   simp only[decide_eq_true rc]
   exact⟨Aa,by rw[As];exact Fg.of (g1 rfl)⟩
  ·refine⟨p,rfl,(Bx [ws.map D.int,cs.map Ai]).map (fun _=>true),by rw[Aa,Bd,List.map_map];rfl,true,by rw[Eu];rfl,it1 (by decide) ?_⟩
   have sg:Sub G (Ab G p (.lst (((Bx [ws.map D.int,cs.map Ai]).filter fun _=>true).map fun _=>.bl true))):=Sub.new hp
   generalize Ab G p (.lst (((Bx [ws.map D.int,cs.map Ai]).filter fun _=>true).map fun _=>.bl true))=G1 at *
   unfold Ai
   rw[F1,Qx]
   refine⟨[ws.map D.int,(ws.map D.int).drop 1],rfl,fun p2 hp2=>?_⟩
   have hz2:(Bx [ws.map D.int,(ws.map D.int).drop 1]).length<sizeLine:=by
    rw[Ci,sizeLine_eq]
    have:=ok.len
    simp only[Di,List.length_map,List.length_drop];omega
   refine Et (fun z=>match z with|.tup [u,v]=>[some u,some v,some (chD cs),some (.tup (ws.map D.int))]|_=>[none,none,some (chD cs),some (.tup (ws.map D.int))]) (fun z=>.bl true) (fun _=>true) hz2 (fun _=>rfl) (fun z hz=>?_) (fun z ys hzm hl R1 R2 g1 _=>?_) ?_
   ·obtain⟨u,v,rfl,_,_⟩:=Da hz
    refine⟨⟨[some u,some v],rfl,rfl⟩,fun G' R h=>?_⟩
    simp only[Fb,D.tup.injEq,C9,Aw,Fc,List.replicate,List.cons_append,List.nil_append,List.set_cons_zero,List.set_cons_succ,exists_eq_left',List.length_cons,List.length_nil,Nat.zero_add,Nat.reduceAdd,List.cons.injEq,and_assoc,exists_and_left,true_and]
    exact h
   ·obtain⟨i,u,v,hu,hv,rfl⟩:=Mr hzm
    rw[List.getElem?_drop,List.getElem?_map] at hv
    rw[List.getElem?_map] at hu
    obtain⟨r,hr1,rfl⟩:=Option.map_eq_some_iff.mp hu
    obtain⟨t,ht1,rfl⟩:=Option.map_eq_some_iff.mp hv
    obtain⟨s1,s2⟩:=ok.step i r t hr1 (by rw[Nat.add_comm];exact ht1)
    have ab:(if t-r<0 then -(t-r) else t-r)≤1:=by split<;>omega
    simp only[Co,nOp,nCB,Aj,Am,List.getElem?_cons_succ,List.getElem?_cons_zero,Option.some.injEq,dI0,Aq,List.cons.injEq,D.int.injEq,and_true,nC,Aa,hl,As,true_and,exists_eq_left',if_true]
    rw[decide_eq_true ab]
    exact Fg.of (g1 rfl)
   ·refine⟨p2,rfl,(Bx [ws.map D.int,(ws.map D.int).drop 1]).map (fun _=>true),by rw[Aa,Bd,List.map_map];rfl,?_⟩
    rw[Eu]
    exact⟨G,sg.skip hp2,k⟩
end
end K2
set_option maxRecDepth 100000
set_option maxHeartbeats 4000000
namespace K2
open PySem L2 D3
section
variable{P:Program}{w:World}{K:W.Frag}{mg:Str→Option Value}{base:Heap}
def A6(c:List Int)(t:Int):Nat→Int→Int
 |0,e=>e
 |n+1,e=>if e+t∈c then A6 c t n (e+t) else e
abbrev s_edge_of:Stmt:=top 94
abbrev Vn:List Str:=["rows", "row", "step", "edge"]
abbrev De:List Str:=["rows", "row", "step"]
theorem sc_edge_of:FnScope Vn De (defScope s_edge_of):=⟨rfl,rfl,rfl,by decide +kernel,rfl,by decide +kernel,by decide +kernel⟩
def Qm:DSp:=fun ds G Q _=>∃(c:List Int) (r t:Int),ds=[Ai c,.int r,.int t]∧(t=1∨t = -1)∧(∀x∈c,0≤x∧x≤8)∧0≤r∧r≤8∧Q (.int (A6 c t 10 r)) G
theorem Aag{f:Addr}{fd:FuncData}(F:Fun K "edge_of" "edge_of" s_edge_of f fd)(T:Nums mg):FnOk P w K mg base CX0 1 f fd De (liftSp K Qm):=by
 refine okD F sc_edge_of (fun ds G Q E h=>?_) (fun cdv A outer s H XE ds G Q E hr h=>?_)
 ·obtain⟨_,_,_,rfl,_⟩:=h;rfl
 ·obtain⟨c,r,t,rfl,ht,hc,r0,r8,k⟩:=h
  refine⟨_,(@qss_cons _ _ _ _ _ (@qs_set _ _ _ _ 3 _ _ sc_edge_of.nd (@q_v1 _ _ 1 _ (by exact⟨rfl,rfl,rfl,rfl⟩)) (by rfl) (by exact .inl rfl) (by rfl) (by exact .inl rfl)) (@qss_cons _ _ _ _ _ (@Xi _ _ _ _ _ _ PassesOwn.never (@qt_cmp _ _ _ _ _ _ _ _ (@o_inD _ _ hr) (@q_op _ _ _ _ _ _ _ _ (@o_addD _) (@q_v1 _ _ 3 _ (by exact⟨rfl,rfl,rfl,rfl⟩)) (@q_v1 _ _ 2 _ (by exact⟨rfl,rfl,rfl,rfl⟩))) (@q_v1 _ _ 0 _ (by exact⟨rfl,rfl,rfl,rfl⟩)) (by with_unfolding_all rfl)) (@qss_one _ _ _ (@Wf _ _ _ _ 3 _ _ _ _ sc_edge_of.nd (@Wu _) (@q_v1 _ _ 2 _ (by exact⟨rfl,rfl,rfl,rfl⟩)) (by rfl) (by exact .inl rfl) (by exact .inl rfl)))) (@qss_one _ _ _ (@qs_ret _ _ _ _ (@q_v1 _ _ 3 _ (by exact⟨rfl,rfl,rfl,rfl⟩)))))),?_⟩
  simp only[Bj,Br,Am,Ah,List.map_cons,List.map_nil,List.length_cons,List.length_nil,Nat.zero_add,Nat.reduceAdd,Nat.reduceSub,List.replicate,List.cons_append,List.nil_append,List.getElem?_cons_succ,List.getElem?_cons_zero,Option.some.injEq,Aw,Wp,List.set_cons_succ,List.set_cons_zero,Bw,nOp,nAug,dI0,Bc,exists_eq_left']
  refine⟨fun m σ G'=>∃e,σ=[some (Ai c),some (.int r),some (.int t),some (.int e)]∧G'=G∧A6 c t 10 r=A6 c t m e∧0≤e∧e≤8∧(t=1→8-e<m)∧(t = -1→e<m),⟨10,r,rfl,rfl,rfl,r0,r8,fun _=>by omega,fun _=>by omega⟩,?_⟩
  rintro m σ G' ⟨e,rfl,rfl,he,e0,e8,h1,h2⟩
  refine⟨.int e,rfl,.int t,rfl,?_⟩
  show ∃d,_
  refine⟨Ai c,rfl,Qv ⟨_,rfl,?_⟩⟩
  by_cases hm:e+t∈c
  ·refine it0 (by simp[hm]) ?_
   obtain⟨c0,c8⟩:=hc _ hm
   cases m with
   |zero=>
    exfalso
    rcases ht with z|z
    ·have:=h1 z;omega
    ·have:=h2 z;omega
   |succ m=>
    refine⟨fun σ' G2=>σ'=[some (Ai c),some (.int r),some (.int t),some (.int (e+t))]∧G2=G',?_,.int e,rfl,.int t,rfl,e,rfl,t,rfl,Fs.of ⟨rfl,rfl⟩⟩
    rintro σ' G2 ⟨rfl,rfl⟩
    refine⟨m,Nat.lt_succ_self m,e+t,rfl,rfl,?_,c0,c8,fun z=>?_,fun z=>?_⟩
    ·rw[he,A6,if_pos hm]
    ·have:=h1 z;omega
    ·have:=h2 z;omega
  ·refine it1 (by simp[hm]) ⟨.int e,rfl,Fq.of ?_⟩
   have:A6 c t m e=e:=by
    cases m with
    |zero=>rfl
    |succ m=>rw[A6,if_neg hm]
   rw[←this,←he];exact k
end
end K2
set_option maxRecDepth 100000
set_option maxHeartbeats 4000000
namespace K2
open PySem L2 D3
def freeC(col:List Int)(d:Int):List Int:=((List.range col.length).filter fun r=>!decide (col.getD r 0<d)).map fun(r:Nat)=>(r:Int)
theorem mem_freeC{col:List Int}{d x:Int}:x∈freeC col d↔0≤x∧x<col.length∧d≤col.getD x.toNat 0:=by
 unfold freeC
 rw[List.mem_map]
 constructor
 ·rintro⟨r,hr,rfl⟩
  obtain⟨h1,h2⟩:=List.mem_filter.mp hr
  have h1:=List.mem_range.mp h1
  have h2:d≤col.getD r 0:=by simpa using h2
  exact⟨by omega,by omega,by rw[Int.toNat_natCast];exact h2⟩
 ·rintro⟨h0,h1,h2⟩
  obtain⟨r,rfl⟩:=Int.eq_ofNat_of_zero_le h0
  rw[Int.toNat_natCast] at h2
  exact⟨r,List.mem_filter.mpr ⟨List.mem_range.mpr (by omega),by simpa using h2⟩,rfl⟩
theorem Rs{col:List Int}{d:Int}:(freeC col d).Pairwise (· < ·):=by
 unfold freeC
 refine List.Pairwise.map _ (R:=(· < ·)) (fun a b h=>?_) (List.Pairwise.filter _ List.pairwise_lt_range)
 omega
theorem U5{col:List Int}{d:Int}:(freeC col d).length≤col.length:=by
 unfold freeC
 rw[List.length_map]
 exact Nat.le_trans (List.length_filter_le _ _) (by simp)
def By(m:Nat→Int)(cols:List Int):Nat→Int
 |0=>m 0
 |i+1=>if ((i+1:Nat):Int)∈cols then m (i+1) else By m cols i+1
def Bv(m e:Nat→Int)(cols:List Int)(n:Nat):Bool:=(List.range n).all fun i=>decide (By m cols (i+1)≤e (i+1))
theorem Uv{m e:Nat→Int}{cols:List Int}{n i:Nat}(h:i<n)(he:¬By m cols (i+1)≤e (i+1)):Bv m e cols n=false:=by
 unfold Bv
 rw[List.all_eq_false]
 exact⟨i,List.mem_range.mpr h,by simpa using he⟩
def Ac(m e:Nat→Int):Nat→Int×List Int
 |0=>(m 0,[])
 |i+1=>if (Ac m e i).1+1>e (i+1) then (m (i+1),(Ac m e i).2++[((i+1:Nat):Int)]) else ((Ac m e i).1+1,(Ac m e i).2)
theorem Cj{m e:Nat→Int}:∀{n:Nat},∀x∈(Ac m e n).2,1≤x∧x≤n
 |0,x,h=>by simp[Ac] at h
 |n+1,x,h=>by
  rw[Ac] at h
  split at h
  ·rcases List.mem_append.mp h with h|h
   ·have:=Cj (n:=n) x h;omega
   ·have:=List.mem_singleton.mp h;omega
  ·have:=Cj (n:=n) x h;omega
theorem wantN_rise{m e:Nat→Int}:∀{n:Nat},(Ac m e n).2.Pairwise (· < ·)
 |0=>by simp[Ac]
 |n+1=>by
  rw[Ac]
  split
  ·refine List.pairwise_append.mpr ⟨wantN_rise,by simp,fun a ha b hb=>?_⟩
   have:=Cj a ha
   have:=List.mem_singleton.mp hb
   omega
  ·exact wantN_rise
theorem Ha{m e:Nat→Int}:∀{n:Nat},(Ac m e n).2.length≤n
 |0=>by simp[Ac]
 |n+1=>by
  have:=Ha (m:=m) (e:=e) (n:=n)
  rw[Ac]
  split
  ·rw[List.length_append,List.length_singleton];omega
  ·show(Ac m e n).2.length≤_;omega
def ivl(lo:Int)(n:Nat):List Int:=(List.range n).map fun k:Nat=>lo+k
theorem mem_ivl{lo x:Int}{n:Nat}:x∈ivl lo n↔lo≤x∧x<lo+n:=by
 unfold ivl
 rw[List.mem_map]
 constructor
 ·rintro⟨k,hk,rfl⟩
  have:=List.mem_range.mp hk
  omega
 ·rintro⟨h1,h2⟩
  exact⟨(x-lo).toNat,List.mem_range.mpr (by omega),by omega⟩
theorem ivl_rise{lo:Int}{n:Nat}:(ivl lo n).Pairwise (· < ·):=by
 unfold ivl
 refine List.Pairwise.map _ (R:=(· < ·)) (fun a b h=>?_) List.pairwise_lt_range
 omega
theorem M8{lo:Int}{n:Nat}:(ivl lo n).length=n:=by simp[ivl]
theorem Ch{s:List (List Int)}{d:Int}{c:Nat}:Ce s d c=freeC (s.getD c []) d:=rfl
theorem Ko:∀{c:List Int},c.Pairwise (· < ·)→Db (c.map D.int)=true
 |[],_=>rfl
 |[x],_=>rfl
 |x::y::r,h=>by
  obtain⟨h1,h2⟩:=List.pairwise_cons.mp h
  show(decide (x<y)&&Db ((y::r).map D.int))=true
  rw[Ko h2,decide_eq_true (h1 y (by simp))];rfl
theorem Sr{c:List Int}{lo hi:Int}(h:c.Pairwise (· < ·))(hb:∀x∈c,lo≤x∧x≤hi):risB lo hi (Ai c)=true:=by
 show((c.map D.int).all (A8 lo hi)&&Db (c.map D.int))=true
 rw[Ko h,Bool.and_true,List.all_eq_true]
 intro x hx
 obtain⟨i,hi,rfl⟩:=List.mem_map.mp hx
 obtain⟨a,b⟩:=hb i hi
 show(decide (lo≤i)&&decide (i≤_))=true
 rw[decide_eq_true a,decide_eq_true b];rfl
theorem SeaOk.at{s:List (List Int)}{h:Nat}(ok:SeaOk s h){i:Nat}(hi:i<s.length):(s.getD i []).length=h∧∀x∈s.getD i [],0≤x∧x≤9:=by
 refine ok.col _ ?_
 rw[List.getD_eq_getElem?_getD,List.getElem?_eq_getElem hi];exact List.getElem_mem hi
structure FairOk(s:List (List Int))(h:Nat)(d:Int)(ws:List Int):Prop where
 sea:SeaOk s h
 d1:1≤d
 d9:d≤9
 len:ws.length=s.length
 row:∀i:Nat,i<s.length→0≤ws.getD i 0∧ws.getD i 0<h∧d≤(s.getD i []).getD (ws.getD i 0).toNat 0
 step:∀i:Nat,i+1<s.length→ws.getD (i+1) 0-ws.getD i 0≤1∧ws.getD i 0-ws.getD (i+1) 0≤1
theorem Kf{ws:List Int}{i:Nat}{r:Int}(h:ws[i]? = some r):ws.getD i 0=r:=by rw[List.getD_eq_getElem?_getD,h];rfl
theorem Kh{s:List (List Int)}{d:Int}{i:Nat}{c:List Int}(h:(B7 s d)[i]? = some c):i<s.length∧c=Ce s d i:=by
 unfold B7 at h
 rw[List.getElem?_map] at h
 obtain⟨j,hj,rfl⟩:=Option.map_eq_some_iff.mp h
 obtain⟨h1,h2⟩:=List.getElem?_eq_some_iff.mp hj
 simp at h1 h2
 subst h2
 exact⟨h1,rfl⟩
theorem Gj{s:List (List Int)}{d:Int}:(B7 s d).length=s.length:=by simp[B7]
theorem FairOk.free{s:List (List Int)}{h:Nat}{d:Int}{ws:List Int}(ok:FairOk s h d ws){i:Nat}(hi:i<s.length):∀x∈Ce s d i,0≤x∧x≤8:=fun x hx=>by
 rw[Ch] at hx
 obtain⟨h1,h2,_⟩:=mem_freeC.mp hx
 rw[(ok.sea.at hi).1] at h2
 have:=ok.sea.high
 omega
theorem FairOk.way{s:List (List Int)}{h:Nat}{d:Int}{ws:List Int}(ok:FairOk s h d ws):WayOk (B7 s d) ws:=by
 have hw:=ok.sea.wide
 have hh:=ok.sea.high
 have cm:∀c∈B7 s d,∃i,i<s.length∧c=Ce s d i:=fun c hc=>by
  obtain⟨i,hi,e⟩:=List.getElem_of_mem hc
  exact⟨i,Kh (List.getElem?_eq_some_iff.mpr ⟨hi,e⟩)⟩
 refine⟨?_,by rw[Gj];exact ok.len,⟨by rw[Gj];omega,fun c hc=>?_⟩,fun i r c hr hc=>?_,fun i r t hr ht=>?_⟩
 ·show(decide (2≤((B7 s d).map Ai).length)&&decide (((B7 s d).map Ai).length≤16)&&((B7 s d).map Ai).all Lv)=true
  rw[List.length_map,Gj,decide_eq_true hw.1,decide_eq_true hw.2,Bool.true_and,Bool.true_and,List.all_eq_true]
  intro x hx
  obtain⟨c,hc,rfl⟩:=List.mem_map.mp hx
  obtain⟨i,hi,rfl⟩:=cm c hc
  exact Sr (by rw[Ch];exact Rs) (ok.free hi)
 ·obtain⟨i,hi,rfl⟩:=cm c hc
  rw[Ch]
  refine Nat.le_trans U5 ?_
  rw[(ok.sea.at hi).1];omega
 ·obtain⟨hi,rfl⟩:=Kh hc
  have e:=Kf hr
  obtain⟨a,b,g⟩:=ok.row i hi
  rw[e] at a b g
  have hl:=(ok.sea.at hi).1
  refine⟨⟨a,by omega⟩,?_⟩
  rw[Ch]
  exact mem_freeC.mpr ⟨a,by rw[hl];exact b,g⟩
 ·have hi:i+1<s.length:=by
   have:=(List.getElem?_eq_some_iff.mp ht).1
   rw[ok.len] at this;exact this
  have:=ok.step i hi
  rw[Kf hr,Kf ht] at this
  exact this
def Ao(ws:List Int)(t:Int)(i:Nat):Int:=ws.getD i 0*t
def Ap(s:List (List Int))(d:Int)(ws:List Int)(t:Int)(i:Nat):Int:=A6 (Ce s d i) t 10 (ws.getD i 0)*t
def B6(s:List (List Int))(d:Int)(ws:List Int)(t:Int):List D:=(List.range s.length).map fun i=>.tup [.int (Ao ws t i),.int (Ap s d ws t i)]
theorem Gh{s:List (List Int)}{d:Int}{ws:List Int}{t:Int}:(B6 s d ws t).length=s.length:=by simp[B6]
theorem F8{s:List (List Int)}{d:Int}{ws:List Int}{t:Int}{i:Nat}(h:i<s.length):atI (B6 s d ws t) (i:Int)=some (.tup [.int (Ao ws t i),.int (Ap s d ws t i)]):=Dc (by simp[B6,h])
theorem L9{i0 n:Nat}{g:DTG}{tb:DTS}{D:DEnds}{σ:DSt}{G:Gp}(P:Nat→DSt→Gp→Prop)(h0:P 0 σ G)(hs:∀i σ G,i0+i<n→P i σ G→g (.int ((i0+i:Nat):Int)) σ G fun σ2 G2=>tb { D with nx:=Fs (P (i+1)),ct:=Fs (P (i+1)),bk:=D.nx } σ2 G2)(hd:∀σ G,P (n-i0) σ G→D.nx σ G):N3 (C6 (i0:Int) (n:Int)) (fun _=>True) g tb D σ G:=by
 have e:((n:Int)-(i0:Int)).toNat=n-i0:=by omega
 refine⟨P,h0,fun _ _ _ _ _=>trivial,fun i x σ G hx p=>?_,fun σ G p=>hd σ G (by rw[Bh,e] at p;exact p)⟩
 have hi:i<n-i0:=by
  have:=(List.getElem?_eq_some_iff.mp hx).1
  rw[Bh,e] at this;exact this
 rw[Ec (by rw[e];exact hi)] at hx
 cases hx
 rw[show(i0:Int)+(i:Nat)=((i0+i:Nat):Int) by omega]
 exact hs i σ G (by omega) p
end K2
set_option maxRecDepth 100000
set_option maxHeartbeats 4000000
namespace K2
open PySem L2 D3
section
variable{P:Program}{w:World}{K:W.Frag}{mg:Str→Option Value}{base:Heap}{C T0 aS:Addr}
abbrev Qi:List (Key×D):=[(.inr "upper",.int (-1)),(.inr "lower",.int 1)]
structure Sz(P:Program)(w:World)(K:PySem.W.Frag)(mg:Str→Option Value)(C aS:Addr):Prop extends Sy K mg C where
 STEPS_OUT:mg "STEPS_OUT" = some (.ref aS)
 K_STEPS_OUT:KD P w K aS Qi
def Ad:Bool→Str×Int
 |true=>("upper",-1)
 |false=>("lower",1)
theorem Tj{c:List Int}{t:Int}(hc:∀x∈c,0≤x∧x≤8):∀{n:Nat} {r:Int},0≤r→r≤8→0≤A6 c t n r∧A6 c t n r≤8
 |0,r,h0,h8=>⟨h0,h8⟩
 |n+1,r,h0,h8=>by
  rw[A6]
  split
  ·rename_i h
   exact Tj hc (hc _ h).1 (hc _ h).2
  ·exact⟨h0,h8⟩
def Sf(t:Int):D→D
 |.tup [u,.tup c]=>.tup [.int (A5 u*t),.int (A6 (c.map A5) t 10 (A5 u)*t)]
 |_=>.non
theorem Td{c:List Int}:(c.map D.int).map A5=c:=by rw[List.map_map];exact List.map_id c
theorem Yi{s:List (List Int)}{d t:Int}{ws:List Int}(h:ws.length=s.length):(Bx [ws.map D.int,(B7 s d).map Ai]).map (Sf t)=B6 s d ws t:=by
 have e:Di [ws.map D.int,(B7 s d).map Ai]=s.length:=by simp only[Di,List.length_map,Gj];omega
 unfold Bx B6
 rw[List.map_map,e]
 refine List.map_congr_left fun i hi=>?_
 have hi:=List.mem_range.mp hi
 have e1:(ws.map D.int).getD i .non=.int (ws.getD i 0):=by simp[List.getD_eq_getElem?_getD,show i<ws.length by omega]
 have e2:((B7 s d).map Ai).getD i .non=Ai (Ce s d i):=by simp[List.getD_eq_getElem?_getD,B7,hi]
 show Sf t (.tup [(ws.map D.int).getD i .non,((B7 s d).map Ai).getD i .non])=_
 rw[e1,e2]
 show D.tup [_,.int (A6 ((List.map D.int (Ce s d i)).map A5) t 10 (ws.getD i 0)*t)]=_
 rw[Td];rfl
abbrev s_lane_of:Stmt:=top 95
abbrev Vm:List Str:=["sea", "draught", "fairway", "side", "channel", "step"]
abbrev p_lane_of:List Str:=["sea", "draught", "fairway", "side"]
theorem sc_lane_of:FnScope Vm p_lane_of (defScope s_lane_of):=⟨rfl,rfl,rfl,by decide +kernel,rfl,by decide +kernel,by decide +kernel⟩
theorem Gm:((["row", "rows"]:List Str)++(["sea", "draught", "fairway", "side", "channel", "step"]:List Str)).Nodup:=by decide +kernel
def spLane(T0:Addr)(q:Str):DSp:=fun ds G Q _=>∃s h d ws u,ds=[seaD s,.int d,Ai ws,.str (Ad u).1]∧FairOk s h d ws∧G T0=some (.tbl q)∧∀l,G l=none→Q (.ref l) (Ab G l (.lst (B6 s d ws (Ad u).2)))
theorem Aab{f:Addr}{fd:FuncData}{q:Str}(F:Fun K "lane_of" "lane_of" s_lane_of f fd)(T:Sz P w K mg C aS)(Ahu:Def P w K mg base CX0 10 "channel_of" p_channel_of (spChannel T0 q))(Ahv:Def P w K mg base CX0 6 "is_way" p_is_way spWay)(Ahw:Def P w K mg base CX0 1 "edge_of" De Qm):FnOk P w K mg base CX0 11 f fd p_lane_of (liftSp K (spLane T0 q)):=by
 refine okD F sc_lane_of (fun ds G Q E h=>?_) (fun cdv A outer s H XE ds G Q E hr h=>?_)
 ·obtain⟨_,_,_,_,_,rfl,_⟩:=h;rfl
 ·obtain⟨s,h,d,ws,u,rfl,ok,hT,k⟩:=h
  refine⟨_,(@qss_cons _ _ _ _ _ (@qs_set _ _ _ _ 4 _ _ sc_lane_of.nd (@q_call _ _ _ _ _ _ _ _ noX _ _ _ Ahu (hr.mono (by decide)) (@passN _ _) (@qa_consP _ _ _ _ _ (@q_v1 _ _ 0 _ (by exact⟨rfl,rfl,rfl,rfl⟩)) (@qa_consP _ _ _ _ _ (@q_lst _ _ _ _ (@qa_nil _)) (@qa_consP _ _ _ _ _ (@q_int _ _ _ _) (@qa_consP _ _ _ _ _ (@q_int _ _ _ _) (@qa_consP _ _ _ _ _ (@q_v1 _ _ 1 _ (by exact⟨rfl,rfl,rfl,rfl⟩)) (@qa_consP _ _ _ _ _ (@q_bl _ _ _ _) (@qa_nil _) (by rfl)) (by rfl)) (by rfl)) (by rfl)) (by rfl)) (by rfl)) (by rfl) (by decide) (by rfl) (by rfl)) (by rfl) (by exact .inl rfl) (by rfl) (by exact .inl rfl)) (@qss_cons _ _ _ _ _ (@qs_if _ _ _ _ _ _ _ _ (@qt_not _ _ _ _ (@qt_tru _ _ _ (@q_call _ _ _ _ _ _ _ _ noX _ _ _ Ahv (hr.mono (by decide)) (@passN _ _) (@qa_consP _ _ _ _ _ (@q_v1 _ _ 4 _ (by exact⟨rfl,rfl,rfl,rfl⟩)) (@qa_consP _ _ _ _ _ (@q_v1 _ _ 2 _ (by exact⟨rfl,rfl,rfl,rfl⟩)) (@qa_nil _) (by rfl)) (by rfl)) (by rfl) (by decide) (by rfl) (by rfl)) (by intro _ ;rfl))) (@qss_one _ _ _ (@qs_never _ _)) (@qss_nil _)) (@qss_cons _ _ _ _ _ (@qs_if _ _ _ _ _ _ _ _ (@qt_of _ _ _ (@Dt _ _ _ _ _ _ _ (@qt_not _ _ _ _ (@qt_tru _ _ _ (@q_callB _ _ _ _ _ _ _ _ _ (@c_isinst _) (T.blt (by decide)) (by decide +kernel) (@qa_consP _ _ _ _ _ (@q_v1 _ _ 3 _ (by exact⟨rfl,rfl,rfl,rfl⟩)) (@qa_consP _ _ _ _ _ (@q_globty _ _ _ "str" (T.blt (by decide)) (by decide +kernel) (by rfl) (by decide) (by decide)) (@qa_nil _) (by rfl)) (by rfl)) (by rfl) (by decide) (by decide) (by rfl) (by rfl)) (by intro _ ;rfl))) (@qw_or1 _ _ _ _ (@qt_cmp _ _ _ _ _ _ _ _ (@o_mnotin _ _ _ T.K_STEPS_OUT) (@q_v1 _ _ 3 _ (by exact⟨rfl,rfl,rfl,rfl⟩)) (@q_globr _ _ _ _ T.STEPS_OUT (by rfl) (by decide)) (by with_unfolding_all rfl))))) (@qss_one _ _ _ (@qs_never _ _)) (@qss_nil _)) (@qss_cons _ _ _ _ _ (@qs_set _ _ _ _ 5 _ _ sc_lane_of.nd (@q_mget _ _ _ _ _ _ _ _ T.K_STEPS_OUT (@q_globr _ _ _ _ T.STEPS_OUT (by rfl) (by decide)) (@q_v1 _ _ 3 _ (by exact⟨rfl,rfl,rfl,rfl⟩)) (by intro _ _ ;rfl)) (by rfl) (by exact .inr rfl) (by rfl) (by exact .inl rfl)) (@qss_one _ _ _ (@qs_ret _ _ _ _ (@q_compzZ2 _ _ _ _ _ _ _ _ ["row", "rows"] ["sea", "draught", "fairway", "side", "channel", "step"] _ _ _ _ _ _ _ _ rfl (@compOz _ _ _ _ (by rfl) (by rfl) (by rfl) (by rfl) (by rfl)) (T.blt (by decide)) (@qa_consP _ _ _ _ _ (@q_v1 _ _ 2 _ (by exact⟨rfl,rfl,rfl,rfl⟩)) (@qa_consP _ _ _ _ _ (@q_v1 _ _ 4 _ (by exact⟨rfl,rfl,rfl,rfl⟩)) (@qa_nil _) (by rfl)) (by rfl)) (fun _ _ _=>(@qg_tup _ _ _ _ _ 2 rfl (@qgs_cons _ _ _ _ _ (@qg_name _ _ 0 _ Gm (by rfl) (by exact .inl rfl) (by exact .inr rfl)) (@qgs_cons _ _ _ _ _ (@qg_name _ _ 1 _ Gm (by rfl) (by exact .inl rfl) (by exact .inr rfl)) (@qgs_nil _) (by rfl)) (by rfl)) (by rfl) (by rfl))) (fun _ _ _=>(@qf_nil _)) (fun _ _ _=>(@Ie _ _ _ _ _ (@qa_consP _ _ _ _ _ (@q_op _ _ _ _ _ _ _ _ (@F0 _) (@q_v1 _ _ 0 _ (by exact⟨rfl,rfl,rfl,rfl⟩)) (@q_v2 _ _ 7 _ (by exact⟨rfl,rfl,rfl,rfl⟩))) (@qa_consP _ _ _ _ _ (@q_op _ _ _ _ _ _ _ _ (@F0 _) (@q_call _ _ _ _ _ _ _ _ noX _ _ _ Ahw (hr.mono (by decide)) (@passN _ _) (@qa_consP _ _ _ _ _ (@q_v1 _ _ 1 _ (by exact⟨rfl,rfl,rfl,rfl⟩)) (@qa_consP _ _ _ _ _ (@q_v1 _ _ 0 _ (by exact⟨rfl,rfl,rfl,rfl⟩)) (@qa_consP _ _ _ _ _ (@q_v2 _ _ 7 _ (by exact⟨rfl,rfl,rfl,rfl⟩)) (@qa_nil _) (by rfl)) (by rfl)) (by rfl)) (by rfl) (by decide) (by rfl) (by rfl)) (@q_v2 _ _ 7 _ (by exact⟨rfl,rfl,rfl,rfl⟩))) (@qa_nil _) (by rfl)) (by rfl)))) (by rfl) (by rfl) (by rfl) (by intro _ ;rfl)))))))),?_⟩
  simp only[Bj,Br,Ar,Aj,Am,Ah,List.map_cons,List.map_nil,List.length_cons,List.length_nil,Nat.zero_add,Nat.reduceAdd,Nat.reduceSub,List.replicate,List.cons_append,List.nil_append,List.getElem?_cons_zero,Option.some.injEq,Fn,Aq,nC,List.getElem?_cons_succ,Aw,Cq,Dh,C0,List.set_cons_succ,List.set_cons_zero,Bm,nOr,nCB,List.cons.injEq,D.ty.injEq,and_true,Abn,Ts,Bc,F6,true_and,exists_eq_left',if_true,Bw,nOp,dMIn,D.bl.injEq,and_assoc,exists_and_left,Ab6]
  refine⟨Nat.zero_le _,fun p hp=>⟨s,h,p,d,rfl,ok.sea,ok.d1,ok.d9,Aa,Bb hT hp,⟨B7 s d,ws,rfl,ok.way,true,rfl,it1 (by decide) ⟨by decide,true,rfl,it1 (by decide) ?_⟩⟩⟩⟩
  have e1:Jt Qi (.inr (Ad u).1)=some (.int (Ad u).2):=by cases u<;>rfl
  have ht:(Ad u).2=1∨(Ad u).2 = -1:=by cases u<;>simp[Ad]
  refine it1 (by rw[e1];simp) ⟨_,e1,[ws.map D.int,(B7 s d).map Ai],rfl,fun p1 hp1=>?_⟩
  clear e1
  generalize (Ad u).2=t at *
  generalize (Ad u).1=x at *
  have hp1':G p1=none:=by
   by_cases z:p1=p
   ·rw[z];exact hp
   ·rw[Ae z] at hp1;exact hp1
  have hw:=ok.sea.wide
  have hzl:(Bx [ws.map D.int,(B7 s d).map Ai]).length<sizeLine:=by
   rw[Ci,sizeLine_eq]
   have:=ok.len
   simp only[Di,List.length_map];omega
  refine Et (fun z=>match z with|.tup [u,v]=>[some u,some v,some (seaD s),some (.int d),some (Ai ws),some (.str x),some (chD (B7 s d)),some (.int t)]|_=>[none,none,some (seaD s),some (.int d),some (Ai ws),some (.str x),some (chD (B7 s d)),some (.int t)]) (Sf t) (fun _=>true) hzl (fun _=>rfl) (fun z hz=>?_) (fun z ys hzm hl R1 R2 g1 _=>?_) ?_
  ·obtain⟨u,v,rfl,_,_⟩:=Da hz
   refine⟨⟨[some u,some v],rfl,rfl⟩,fun G' R h=>?_⟩
   simp only[Fb,D.tup.injEq,C9,Aw,Fc,List.replicate,List.cons_append,List.nil_append,List.set_cons_zero,List.set_cons_succ,exists_eq_left',List.length_cons,List.length_nil,Nat.zero_add,Nat.reduceAdd,List.cons.injEq,and_assoc,exists_and_left,true_and]
   exact h
  ·obtain⟨i,u,v,hu,hv,rfl⟩:=Mr hzm
   rw[List.getElem?_map] at hu hv
   obtain⟨r,hr1,rfl⟩:=Option.map_eq_some_iff.mp hu
   obtain⟨c,hc1,rfl⟩:=Option.map_eq_some_iff.mp hv
   obtain⟨⟨r0,r8⟩,rc⟩:=ok.way.row i r c hr1 hc1
   obtain⟨hi,rfl⟩:=Kh hc1
   have hb:=ok.free hi
   have g2:=g1 rfl
   have ef:Sf t (.tup [.int r,Ai (Ce s d i)])=.tup [.int (r*t),.int (A6 (Ce s d i) t 10 r*t)]:=by
    show D.tup [_,.int (A6 ((List.map D.int (Ce s d i)).map A5) t 10 r*t)]=_
    rw[Td];rfl
   rw[ef] at g2
   have he:=Tj (t:=t) (n:=10) hb r0 r8
   simp only[Co,Qe,Aj,nOp,Am,List.getElem?_cons_zero,Option.some.injEq,List.getElem?_cons_succ,dI,CMul,Int.reducePow,Int.reduceNeg,Ar,Aq,List.length_cons,List.length_nil,Nat.zero_add,Nat.reduceAdd,hl,true_and,exists_eq_left',D.int.injEq,if_true]
   exact⟨.inl ⟨by omega,by omega⟩,_,_,_,rfl,ht,hb,r0,r8,_,rfl,.inl ⟨by omega,by omega⟩,szl (by decide),Aa,by rw[As];exact Fg.of g2⟩
  ·refine⟨_,Jl (Sub.new hp),?_⟩
   rw[Bd,Yi ok.len]
   exact k p1 hp1'
theorem Ads{G:Gp}{c:List Int}:KnT G 1 (Ai c):=⟨⟨_,rfl⟩,fun ds e y hy=>by
 cases e
 obtain⟨i,_,rfl⟩:=List.mem_map.mp hy
 exact⟨_,rfl⟩⟩
structure ColsOk(n:Nat)(cs:List Int):Prop where
 rise:cs.Pairwise (· < ·)
 inn:∀x∈cs,1≤x∧x≤n-1
 len:cs.length≤16
end
end K2
set_option maxRecDepth 100000
set_option maxHeartbeats 4000000
namespace K2
open PySem L2 D3
section
variable{P:Program}{w:World}{K:W.Frag}{mg:Str→Option Value}{base:Heap}{C T0 aS:Addr}
abbrev s_keeps:Stmt:=top 96
abbrev Aa7:List Str:=["sea", "draught", "fairway", "side", "columns", "lane", "out", "column", "middle", "edge"]
abbrev p_keeps:List Str:=["sea", "draught", "fairway", "side", "columns"]
theorem sc_keeps:FnScope Aa7 p_keeps (defScope s_keeps):=⟨rfl,rfl,rfl,by decide +kernel,rfl,by decide +kernel,by decide +kernel⟩
def spKeeps(T0:Addr)(q:Str):DSp:=fun ds G Q _=>∃s h d ws u cs,ds=[seaD s,.int d,Ai ws,.str (Ad u).1,Ai cs]∧FairOk s h d ws∧ColsOk s.length cs∧G T0=some (.tbl q)∧Q (.bl (Bv (Ao ws (Ad u).2) (Ap s d ws (Ad u).2) cs (s.length-1))) G
theorem Ya{f:Addr}{fd:FuncData}{q:Str}(F:Fun K "keeps" "keeps" s_keeps f fd)(T:Sz P w K mg C aS)(Agx:Def P w K mg base CX0 11 "lane_of" p_lane_of (spLane T0 q))(Ag0:Def P w K mg base CX0 2 "are_rising_within" Az Eo):FnOk P w K mg base CX0 12 f fd p_keeps (liftSp K (spKeeps T0 q)):=by
 refine okD F sc_keeps (fun ds G Q E h=>?_) (fun cdv A outer s H XE ds G Q E hr h=>?_)
 ·obtain⟨_,_,_,_,_,_,rfl,_⟩:=h;rfl
 ·obtain⟨s,h,d,ws,u,cs,rfl,ok,co,hT,k⟩:=h
  refine⟨_,(@qss_cons _ _ _ _ _ (@qs_set _ _ _ _ 5 _ _ sc_keeps.nd (@q_call _ _ _ _ _ _ _ _ noX _ _ _ Agx (hr.mono (by decide)) (@passN _ _) (@qa_consP _ _ _ _ _ (@q_v1 _ _ 0 _ (by exact⟨rfl,rfl,rfl,rfl⟩)) (@qa_consP _ _ _ _ _ (@q_v1 _ _ 1 _ (by exact⟨rfl,rfl,rfl,rfl⟩)) (@qa_consP _ _ _ _ _ (@q_v1 _ _ 2 _ (by exact⟨rfl,rfl,rfl,rfl⟩)) (@qa_consP _ _ _ _ _ (@q_v1 _ _ 3 _ (by exact⟨rfl,rfl,rfl,rfl⟩)) (@qa_nil _) (by rfl)) (by rfl)) (by rfl)) (by rfl)) (by rfl) (by decide) (by rfl) (by rfl)) (by rfl) (by exact .inl rfl) (by rfl) (by exact .inl rfl)) (@qss_cons _ _ _ _ _ (@qs_if _ _ _ _ _ _ _ _ (@qt_not _ _ _ _ (@qt_tru _ _ _ (@q_call _ _ _ _ _ _ _ _ noX _ _ _ Ag0 (hr.mono (by decide)) (@passN _ _) (@qa_consP _ _ _ _ _ (@q_v1 _ _ 4 _ (by exact⟨rfl,rfl,rfl,rfl⟩)) (@qa_consP _ _ _ _ _ (@q_int _ _ _ _) (@qa_consP _ _ _ _ _ (@q_op _ _ _ _ _ _ _ _ (@C8 _) (@q_callB _ _ _ _ _ _ _ _ _ (@c_len _) (T.blt (by decide)) (by decide +kernel) (@qa_consP _ _ _ _ _ (@q_v1 _ _ 5 _ (by exact⟨rfl,rfl,rfl,rfl⟩)) (@qa_nil _) (by rfl)) (by rfl) (by decide) (by decide) (by rfl) (by rfl)) (@q_int _ _ _ _)) (@qa_nil _) (by rfl)) (by rfl)) (by rfl)) (by rfl) (by decide) (by rfl) (by rfl)) (by intro _ ;rfl))) (@qss_one _ _ _ (@qs_never _ _)) (@qss_nil _)) (@qss_cons _ _ _ _ _ (@qs_set _ _ _ _ 6 _ _ sc_keeps.nd (@C4 _ _ _ _ _ _ (@C4 _ _ _ _ _ _ (@q_v1 _ _ 5 _ (by exact⟨rfl,rfl,rfl,rfl⟩)) (@q_int _ _ _ _) (by intro _ _ ;rfl)) (@q_int _ _ _ _) (by intro _ _ ;rfl)) (by rfl) (by exact .inl rfl) (by rfl) (by exact .inl rfl)) (@qss_cons _ _ _ _ _ (@Ol _ _ _ _ _ _ _ _ _ _ _ PassesOwn.never rfl (T.blt (by decide)) (@qa_consP _ _ _ _ _ (@q_int _ _ _ _) (@qa_consP _ _ _ _ _ (@q_callB _ _ _ _ _ _ _ _ _ (@c_len _) (T.blt (by decide)) (by decide +kernel) (@qa_consP _ _ _ _ _ (@q_v1 _ _ 5 _ (by exact⟨rfl,rfl,rfl,rfl⟩)) (@qa_nil _) (by rfl)) (by rfl) (by decide) (by decide) (by rfl) (by rfl)) (@qa_nil _) (by rfl)) (by rfl)) (@qg_name _ _ 7 _ sc_keeps.nd (by rfl) (by exact .inl rfl) (by exact .inl rfl)) (@qss_cons _ _ _ _ _ (@Dn _ _ _ _ _ _ (@C4 _ _ _ _ _ _ (@q_v1 _ _ 5 _ (by exact⟨rfl,rfl,rfl,rfl⟩)) (@q_v1 _ _ 7 _ (by exact⟨rfl,rfl,rfl,rfl⟩)) (by intro _ _ ;rfl)) (@qg_tup _ _ _ _ _ 2 rfl (@qgs_cons _ _ _ _ _ (@qg_name _ _ 8 _ sc_keeps.nd (by rfl) (by exact .inl rfl) (by exact .inl rfl)) (@qgs_cons _ _ _ _ _ (@qg_name _ _ 9 _ sc_keeps.nd (by rfl) (by exact .inl rfl) (by exact .inl rfl)) (@qgs_nil _) (by rfl)) (by rfl)) (by rfl) (by rfl)) (by rfl) (by rfl) (by rfl)) (@qss_cons _ _ _ _ _ (@qs_set _ _ _ _ 6 _ _ sc_keeps.nd (@M3 _ _ _ _ _ _ _ _ (@qt_cmp _ _ _ _ _ _ _ _ (@o_inD _ _ hr) (@q_v1 _ _ 7 _ (by exact⟨rfl,rfl,rfl,rfl⟩)) (@q_v1 _ _ 4 _ (by exact⟨rfl,rfl,rfl,rfl⟩)) (by with_unfolding_all rfl)) (@q_v1 _ _ 8 _ (by exact⟨rfl,rfl,rfl,rfl⟩)) (@q_op _ _ _ _ _ _ _ _ (@o_addD _) (@q_v1 _ _ 6 _ (by exact⟨rfl,rfl,rfl,rfl⟩)) (@q_int _ _ _ _))) (by rfl) (by exact .inl rfl) (by rfl) (by exact .inl rfl)) (@qss_one _ _ _ (@qs_if _ _ _ _ _ _ _ _ (@qt_cmp _ _ _ _ _ _ _ _ (@Za _) (@q_v1 _ _ 6 _ (by exact⟨rfl,rfl,rfl,rfl⟩)) (@q_v1 _ _ 9 _ (by exact⟨rfl,rfl,rfl,rfl⟩)) (nomark _)) (@qss_one _ _ _ (@qs_ret _ _ _ _ (@q_bl _ _ _ _))) (@qss_nil _))))) (by rfl) (by rfl) (by rfl) (by intro _ ;rfl)) (@qss_one _ _ _ (@qs_ret _ _ _ _ (@q_bl _ _ _ _))))))),?_⟩
  simp only[Bj,Br,Ar,Aj,Am,Ah,List.map_cons,List.map_nil,List.length_cons,List.length_nil,Nat.zero_add,Nat.reduceAdd,Nat.reduceSub,List.replicate,List.cons_append,List.nil_append,List.getElem?_cons_zero,Option.some.injEq,List.getElem?_cons_succ,Aq,Aw,Cq,Dh,C0,List.set_cons_succ,List.set_cons_zero,nC,nOp,nCB,List.cons.injEq,and_true,dI0,D.int.injEq,Bm,dIx,Qu,Int.reducePow,Int.reduceNeg,and_assoc,exists_and_left,exists_eq_left',Int.reduceLE,Int.reduceLT,true_and]
  have hw:=ok.sea.wide
  refine⟨s,h,d,ws,u,rfl,ok,hT,fun l hl=>⟨s.length,by rw[Jr Aa,Gh],Ai cs,1,_,rfl,Ads,fun xs e=>(by cases e;rw[List.length_map,sizeLine_eq];have:=co.len;omega),true,by rw[Sr co.rise co.inn];rfl,it1 (by decide) ?_⟩⟩
  generalize (Ad u).2=t at *
  generalize (Ad u).1=x at *
  refine⟨_,by rw[Dq Aa];exact F8 (i:=0) (by omega),.int (Ao ws t 0),rfl,s.length,by rw[Jr Aa,Gh],by omega,by omega,?_⟩
  refine L9 (i0:=1) (n:=s.length) (fun i σ G'=>∃v1 v2 v3,σ=[some (seaD s),some (.int d),some (Ai ws),some (.str x),some (Ai cs),some (.ref l),some (.int (By (Ao ws t) cs i)),v1,v2,v3]∧G'=Ab G l (.lst (B6 s d ws t))∧∀j,j<i→By (Ao ws t) cs (j+1)≤Ap s d ws t (j+1)) ⟨none,none,none,rfl,rfl,fun j hj=>absurd hj (by omega)⟩ ?_ ?_
  ·rintro i σ G' hi ⟨v1,v2,v3,rfl,rfl,hj⟩
   rw[Nat.add_comm 1 i] at hi ⊢
   have ea:El (Ab G l (.lst (B6 s d ws t))) (.ref l) ((i+1:Nat):Int)=some (.tup [.int (Ao ws t (i+1)),.int (Ap s d ws t (i+1))]):=by rw[Dq Aa];exact F8 hi
   simp only[Aw,Bj,Br,nOp,Am,List.set_cons_succ,List.set_cons_zero,List.getElem?_cons_succ,List.getElem?_cons_zero,Option.some.injEq,dIx,Fb,C9,Fc,nIf,Bw,Cq,dI0,D.bl.injEq,Bc,nC,Bm,exists_eq_left',decide_eq_true_eq,Bl,D.int.injEq,ea,D.tup.injEq,List.length_cons,List.length_nil,Nat.zero_add,Nat.reduceAdd,List.cons.injEq,and_assoc,exists_and_left,true_and]
   refine Qv ⟨_,rfl,?_⟩
   have fin:∀o,By (Ao ws t) cs (i+1)=o→if Ap s d ws t (i+1)<o then Fq Q (.bl false) (Ab G l (.lst (B6 s d ws t))) else Fs (fun σ G'=>∃v1 v2 v3,σ=[some (seaD s),some (.int d),some (Ai ws),some (.str x),some (Ai cs),some (.ref l),some (.int (By (Ao ws t) cs (i+1))),v1,v2,v3]∧G'=Ab G l (.lst (B6 s d ws t))∧∀j,j<i+1→By (Ao ws t) cs (j+1)≤Ap s d ws t (j+1)) [some (seaD s),some (.int d),some (Ai ws),some (.str x),some (Ai cs),some (.ref l),some (.int o),some (.int ((i+1:Nat):Int)),some (.int (Ao ws t (i+1))),some (.int (Ap s d ws t (i+1)))] (Ab G l (.lst (B6 s d ws t))):=fun o eo=>by
    by_cases hb:Ap s d ws t (i+1)<o
    ·refine it0 hb ⟨G,Sub.new hl,?_⟩
     rw[Uv (i:=i) (by omega) (by rw[eo];omega)] at k
     exact k
    ·refine it1 hb (Fs.of ⟨_,_,_,by rw[eo],rfl,fun j hj'=>?_⟩)
     by_cases z:j<i
     ·exact hj j z
     ·rw[show j=i by omega,eo];omega
   by_cases hm:((i+1:Nat):Int)∈cs
   ·refine it0 (by simpa using hm) (fin _ ?_)
    rw[By,if_pos hm]
   ·refine it1 (by simpa using hm) (fin _ ?_)
    rw[By,if_neg hm]
  ·rintro σ G' ⟨v1,v2,v3,rfl,rfl,hj⟩
   simp only[Bc,nC]
   refine⟨G,Sub.new hl,?_⟩
   have:Bv (Ao ws t) (Ap s d ws t) cs (s.length-1)=true:=by
    unfold Bv
    rw[List.all_eq_true]
    intro i hi
    exact decide_eq_true (hj i (List.mem_range.mp hi))
   rw[←this];exact k
end
end K2
set_option maxRecDepth 100000
set_option maxHeartbeats 4000000
namespace K2
open PySem L2 D3
section
variable{P:Program}{w:World}{K:W.Frag}{mg:Str→Option Value}{base:Heap}{C T0 aS:Addr}
abbrev s_columns_wanted:Stmt:=top 97
abbrev Ic:List Str:=["lane", "wanted", "out", "column", "middle", "edge"]
abbrev Ba:List Str:=["lane"]
theorem sc_columns_wanted:FnScope Ic Ba (defScope s_columns_wanted):=⟨rfl,rfl,rfl,by decide +kernel,rfl,by decide +kernel,by decide +kernel⟩
def Gb:DSp:=fun ds G Q _=>∃l s h d ws t,ds=[.ref l]∧FairOk s h d ws∧G l=some (.lst (B6 s d ws t))∧∀p,G p=none→Q (.ref p) (Ab G p (.lst ((Ac (Ao ws t) (Ap s d ws t) (s.length-1)).2.map D.int)))
theorem Ug{f:Addr}{fd:FuncData}(F:Fun K "columns_wanted" "columns_wanted" s_columns_wanted f fd)(T:Sz P w K mg C aS):FnOk P w K mg base CX0 1 f fd Ba (liftSp K Gb):=by
 refine okD F sc_columns_wanted (fun ds G Q E h=>?_) (fun cdv A outer s H XE ds G Q E hr h=>?_)
 ·obtain⟨_,_,_,_,_,_,rfl,_⟩:=h;rfl
 ·obtain⟨l,s,h,d,ws,t,rfl,ok,hl,k⟩:=h
  refine⟨_,(@qss_cons _ _ _ _ _ (@qs_set _ _ _ _ 1 _ _ sc_columns_wanted.nd (@q_lst _ _ _ _ (@qa_nil _)) (by rfl) (by exact .inl rfl) (by rfl) (by exact .inl rfl)) (@qss_cons _ _ _ _ _ (@qs_set _ _ _ _ 2 _ _ sc_columns_wanted.nd (@C4 _ _ _ _ _ _ (@C4 _ _ _ _ _ _ (@q_v1 _ _ 0 _ (by exact⟨rfl,rfl,rfl,rfl⟩)) (@q_int _ _ _ _) (by intro _ _ ;rfl)) (@q_int _ _ _ _) (by intro _ _ ;rfl)) (by rfl) (by exact .inl rfl) (by rfl) (by exact .inl rfl)) (@qss_cons _ _ _ _ _ (@Ol _ _ _ _ _ _ _ _ _ _ _ PassesOwn.never rfl (T.blt (by decide)) (@qa_consP _ _ _ _ _ (@q_int _ _ _ _) (@qa_consP _ _ _ _ _ (@q_callB _ _ _ _ _ _ _ _ _ (@c_len _) (T.blt (by decide)) (by decide +kernel) (@qa_consP _ _ _ _ _ (@q_v1 _ _ 0 _ (by exact⟨rfl,rfl,rfl,rfl⟩)) (@qa_nil _) (by rfl)) (by rfl) (by decide) (by decide) (by rfl) (by rfl)) (@qa_nil _) (by rfl)) (by rfl)) (@qg_name _ _ 3 _ sc_columns_wanted.nd (by rfl) (by exact .inl rfl) (by exact .inl rfl)) (@qss_cons _ _ _ _ _ (@Dn _ _ _ _ _ _ (@C4 _ _ _ _ _ _ (@q_v1 _ _ 0 _ (by exact⟨rfl,rfl,rfl,rfl⟩)) (@q_v1 _ _ 3 _ (by exact⟨rfl,rfl,rfl,rfl⟩)) (by intro _ _ ;rfl)) (@qg_tup _ _ _ _ _ 2 rfl (@qgs_cons _ _ _ _ _ (@qg_name _ _ 4 _ sc_columns_wanted.nd (by rfl) (by exact .inl rfl) (by exact .inl rfl)) (@qgs_cons _ _ _ _ _ (@qg_name _ _ 5 _ sc_columns_wanted.nd (by rfl) (by exact .inl rfl) (by exact .inl rfl)) (@qgs_nil _) (by rfl)) (by rfl)) (by rfl) (by rfl)) (by rfl) (by rfl) (by rfl)) (@qss_cons _ _ _ _ _ (@Wf _ _ _ _ 2 _ _ _ _ sc_columns_wanted.nd (@Wu _) (@q_int _ _ _ _) (by rfl) (by exact .inl rfl) (by exact .inl rfl)) (@qss_one _ _ _ (@qs_ifM _ _ _ _ _ _ _ _ (@qt_cmp _ _ _ _ _ _ _ _ (@Za _) (@q_v1 _ _ 2 _ (by exact⟨rfl,rfl,rfl,rfl⟩)) (@q_v1 _ _ 5 _ (by exact⟨rfl,rfl,rfl,rfl⟩)) (nomark _)) (@qss_cons _ _ _ _ _ (@Cg _ _ _ _ (@N7 _ _ _ _ _ _ _ (@q_v1 _ _ 1 _ (by exact⟨rfl,rfl,rfl,rfl⟩)) (@q_v1 _ _ 3 _ (by exact⟨rfl,rfl,rfl,rfl⟩)) (by rfl) (by rfl) (by rfl) (by rfl) (by rfl)) (by rfl)) (@qss_one _ _ _ (@qs_set _ _ _ _ 2 _ _ sc_columns_wanted.nd (@q_v1 _ _ 4 _ (by exact⟨rfl,rfl,rfl,rfl⟩)) (by rfl) (by exact .inl rfl) (by rfl) (by exact .inl rfl)))) (@qss_nil _))))) (by rfl) (by rfl) (by rfl) (by intro _ ;rfl)) (@qss_one _ _ _ (@qs_ret _ _ _ _ (@q_v1 _ _ 1 _ (by exact⟨rfl,rfl,rfl,rfl⟩))))))),?_⟩
  simp only[Bj,Br,Fn,Aq,List.length_nil,Aw,nOp,Am,Ah,List.map_cons,List.map_nil,List.length_cons,Nat.zero_add,Nat.reduceAdd,Nat.reduceSub,List.replicate,List.cons_append,List.nil_append,List.set_cons_succ,List.set_cons_zero,List.getElem?_cons_zero,Option.some.injEq,nC,dIx,D.int.injEq,Qu,Aj,nCB,List.cons.injEq,and_true,Int.reducePow,Int.reduceNeg,and_assoc,exists_and_left,exists_eq_left',Int.reduceLE,Int.reduceLT,true_and]
  have hw:=ok.sea.wide
  refine⟨Nat.zero_le _,fun p hp=>?_⟩
  have hl1:=Bb (u:=.lst []) hl hp
  have npl:l≠p:=gne hl hp
  refine⟨_,by rw[Dq hl1];exact F8 (i:=0) (by omega),.int (Ao ws t 0),rfl,s.length,by rw[Jr hl1,Gh],by omega,by omega,?_⟩
  refine L9 (i0:=1) (n:=s.length) (fun i σ G'=>∃v1 v2 v3,σ=[some (.ref l),some (.ref p),some (.int (Ac (Ao ws t) (Ap s d ws t) i).1),v1,v2,v3]∧G'=Ab G p (.lst ((Ac (Ao ws t) (Ap s d ws t) i).2.map D.int))) ⟨none,none,none,rfl,rfl⟩ ?_ ?_
  ·rintro i σ G' hi ⟨v1,v2,v3,rfl,rfl⟩
   rw[Nat.add_comm 1 i] at hi ⊢
   have ea:El (Ab G p (.lst ((Ac (Ao ws t) (Ap s d ws t) i).2.map D.int))) (.ref l) ((i+1:Nat):Int)=some (.tup [.int (Ao ws t (i+1)),.int (Ap s d ws t (i+1))]):=by rw[Dq (Bb hl hp)];exact F8 hi
   simp only[Aw,Bj,Br,nOp,Am,List.set_cons_succ,List.set_cons_zero,List.getElem?_cons_zero,Option.some.injEq,List.getElem?_cons_succ,dIx,Fb,C9,Fc,nAug,nC,dI0,D.int.injEq,Zb,Bw,D.bl.injEq,Fj,Tr,exists_eq_left',D.ref.injEq,Aa,GO.lst.injEq,As,Bm,decide_eq_true_eq,ea,D.tup.injEq,List.length_cons,List.length_nil,Nat.zero_add,Nat.reduceAdd,List.cons.injEq,and_assoc,exists_and_left,true_and]
   refine⟨_,?_,fun σ' G' m=>Fs.of m⟩
   by_cases hb:Ap s d ws t (i+1)<(Ac (Ao ws t) (Ap s d ws t) i).1+1
   ·refine it0 hb ⟨⟨_,rfl⟩,?_,Fs.of ⟨_,_,_,by rw[Ac,if_pos hb],by rw[Ac,if_pos hb,List.map_append];rfl⟩⟩
    rw[List.length_map,sizeLine_eq]
    have:=Ha (m:=Ao ws t) (e:=Ap s d ws t) (n:=i)
    omega
   ·refine it1 hb (Fs.of ⟨_,_,_,by rw[Ac,if_neg hb],by rw[Ac,if_neg hb]⟩)
  ·rintro σ G' ⟨v1,v2,v3,rfl,rfl⟩
   simp only[Bc,Am,List.getElem?_cons_succ,List.getElem?_cons_zero,Option.some.injEq,exists_eq_left']
   exact Fq.of (k p hp)
abbrev s_least_columns:Stmt:=top 98
abbrev Jh:List Str:=["sea", "draught", "fairway", "side"]
abbrev p_least_columns:List Str:=["sea", "draught", "fairway", "side"]
theorem Hs:FnScope Jh p_least_columns (defScope s_least_columns):=⟨rfl,rfl,rfl,by decide +kernel,rfl,by decide +kernel,by decide +kernel⟩
def spLeast(T0:Addr)(q:Str):DSp:=fun ds G Q _=>∃s h d ws u,ds=[seaD s,.int d,Ai ws,.str (Ad u).1]∧FairOk s h d ws∧G T0=some (.tbl q)∧Q (Ai (Ac (Ao ws (Ad u).2) (Ap s d ws (Ad u).2) (s.length-1)).2) G
theorem X9{f:Addr}{fd:FuncData}{q:Str}(F:Fun K "least_columns" "least_columns" s_least_columns f fd)(T:Sz P w K mg C aS)(Agx:Def P w K mg base CX0 11 "lane_of" p_lane_of (spLane T0 q))(Ag1:Def P w K mg base CX0 1 "columns_wanted" Ba Gb):FnOk P w K mg base CX0 12 f fd p_least_columns (liftSp K (spLeast T0 q)):=by
 refine okD F Hs (fun ds G Q E h=>?_) (fun cdv A outer s H XE ds G Q E hr h=>?_)
 ·obtain⟨_,_,_,_,_,rfl,_⟩:=h;rfl
 ·obtain⟨s,h,d,ws,u,rfl,ok,hT,k⟩:=h
  refine⟨_,(@qss_one _ _ _ (@qs_ret _ _ _ _ (@q_callTy _ _ _ _ _ _ _ _ _ (@c_tuple _) (T.blt (by decide)) (by decide +kernel) (@qa_consP _ _ _ _ _ (@q_call _ _ _ _ _ _ _ _ noX _ _ _ Ag1 (hr.mono (by decide)) (@passN _ _) (@qa_consP _ _ _ _ _ (@q_call _ _ _ _ _ _ _ _ noX _ _ _ Agx (hr.mono (by decide)) (@passN _ _) (@qa_consP _ _ _ _ _ (@q_v1 _ _ 0 _ (by exact⟨rfl,rfl,rfl,rfl⟩)) (@qa_consP _ _ _ _ _ (@q_v1 _ _ 1 _ (by exact⟨rfl,rfl,rfl,rfl⟩)) (@qa_consP _ _ _ _ _ (@q_v1 _ _ 2 _ (by exact⟨rfl,rfl,rfl,rfl⟩)) (@qa_consP _ _ _ _ _ (@q_v1 _ _ 3 _ (by exact⟨rfl,rfl,rfl,rfl⟩)) (@qa_nil _) (by rfl)) (by rfl)) (by rfl)) (by rfl)) (by rfl) (by decide) (by rfl) (by rfl)) (@qa_nil _) (by rfl)) (by rfl) (by decide) (by rfl) (by rfl)) (@qa_nil _) (by rfl)) (by rfl) (by decide) (by decide) (by rfl) (by rfl)))),?_⟩
  simp only[Bc,nCB,Aj,Ar,Am,Ah,List.map_cons,List.map_nil,List.length_cons,List.length_nil,Nat.zero_add,Nat.reduceAdd,Nat.reduceSub,List.replicate,List.cons_append,List.nil_append,List.getElem?_cons_zero,Option.some.injEq,List.getElem?_cons_succ,Aq,List.cons.injEq,and_true,exists_eq_left']
  refine⟨s,h,d,ws,u,rfl,ok,hT,fun l hl=>?_⟩
  refine⟨l,s,h,d,ws,_,rfl,ok,Aa,fun p hp=>⟨_,A0 Aa,?_⟩⟩
  exact⟨G,(Sub.new hl).trans (Sub.new hp),k⟩
end
end K2
set_option maxRecDepth 100000
set_option maxHeartbeats 4000000
namespace K2
open PySem L2 D3
section
variable{P:Program}{w:World}{K:W.Frag}{mg:Str→Option Value}{base:Heap}
structure PartF(s:List (List Int))(h:Nat)(d:Int)(ws:List Int)(i:Nat)(row:Int):Prop where
 sl:s.length=i
 wl:ws.length=i
 col:∀c∈s,c.length=h∧∀x∈c,0≤x∧x≤9
 rwo:∀j:Nat,j<i→0≤ws.getD j 0∧ws.getD j 0<h∧d≤(s.getD j []).getD (ws.getD j 0).toNat 0
 step:∀j:Nat,j+1<i→ws.getD (j+1) 0-ws.getD j 0≤1∧ws.getD j 0-ws.getD (j+1) 0≤1
 r0:0≤row
 r1:row<h
 last:∀j:Nat,j+1=i→ws.getD j 0=row
theorem Ox{α:Type}{l:List α}{x z:α}{j:Nat}(h:j<l.length):(l++[x]).getD j z=l.getD j z:=by
 rw[List.getD_eq_getElem?_getD,List.getD_eq_getElem?_getD,List.getElem?_append_left h]
theorem Oy{α:Type}{l:List α}{x z:α}:(l++[x]).getD l.length z=x:=by
 rw[List.getD_eq_getElem?_getD,List.getElem?_append_right (Nat.le_refl _),Nat.sub_self];rfl
theorem PartF.snoc{s:List (List Int)}{h:Nat}{d:Int}{ws:List Int}{i:Nat}{row row':Int}{c:List Int}(p:PartF s h d ws i row)(h1:row'-row≤1)(h2:row-row'≤1)(r0:0≤row')(r1:row'<h)(hc:c.length=h)(hx:∀x∈c,0≤x∧x≤9)(hd:d≤c.getD row'.toNat 0):PartF (s++[c]) h d (ws++[row']) (i+1) row':=by
 have e1:∀j,j<i→(ws++[row']).getD j 0=ws.getD j 0:=fun j hj=>Ox (by rw[p.wl];exact hj)
 have e2:(ws++[row']).getD i 0=row':=by rw[←p.wl];exact Oy
 have e3:∀j,j<i→(s++[c]).getD j []=s.getD j []:=fun j hj=>Ox (by rw[p.sl];exact hj)
 have e4:(s++[c]).getD i []=c:=by rw[←p.sl];exact Oy
 refine⟨by simp[p.sl],by simp[p.wl],fun x hx'=>?_,fun j hj=>?_,fun j hj=>?_,r0,r1,fun j hj=>?_⟩
 ·rcases List.mem_append.mp hx' with z|z
  ·exact p.col x z
  ·rw[List.mem_singleton.mp z];exact⟨hc,hx⟩
 ·by_cases z:j<i
  ·rw[e1 j z,e3 j z];exact p.rwo j z
  ·rw[show j=i by omega,e2,e4];exact⟨r0,r1,hd⟩
 ·by_cases z:j+1<i
  ·rw[e1 j (by omega),e1 (j+1) z];exact p.step j z
  ·rw[show j+1=i by omega,e2,e1 j (by omega),p.last j (by omega)];exact⟨h1,h2⟩
 ·rw[show j=i by omega,e2]
theorem PartF.ok{s:List (List Int)}{h:Nat}{d:Int}{ws:List Int}{i:Nat}{row:Int}(p:PartF s h d ws i row)(hi:2≤i∧i≤16)(hh:1≤h∧h≤9)(d1:1≤d)(d9:d≤9):FairOk s h d ws:=
 ⟨⟨by rw[p.sl];exact hi,hh,p.col⟩,d1,d9,by rw[p.wl,p.sl],fun j hj=>p.rwo j (by rw[←p.sl];exact hj),fun j hj=>p.step j (by rw[←p.sl];exact hj)⟩
abbrev s_L_fair:Stmt:=top 109
abbrev Y5:List Str:=["_law_box_here", "_law_most", "_law_count", "_law_high", "_law_draught", "_law_row", "_law_rows", "_law_some", "_law_columns", "_law_column", "_law_depths", "_law_here", "_law_low"]
abbrev p_L_fair:List Str:=["_law_box_here", "_law_most"]
theorem sc_L_fair:FnScope Y5 p_L_fair (defScope s_L_fair):=⟨rfl,rfl,rfl,by decide +kernel,rfl,by decide +kernel,by decide +kernel⟩
def spFair:DSp:=fun ds G Q _=>∃a mo,ds=[.ref a,.int mo]∧2≤mo∧mo≤16∧(∃b,G a=some (.lst [.int b]))∧∀s h d ws G',FairOk s h d ws→Step a G G'→Q (.tup [seaD s,.int d,Ai ws]) G'
theorem Aaf{f:Addr}{fd:FuncData}(F:Fun K "_law_fair" "_law_fair" s_L_fair f fd)(T:Blt mg)(Agv:Def P w K mg base CX0 1 "_law_take" p_L_take spTake):FnOk P w K mg base CX0 2 f fd p_L_fair (liftSp K spFair):=by
 refine okD F sc_L_fair (fun ds G Q E h=>?_) (fun cdv A outer s H XE ds G Q E hr h=>?_)
 ·obtain⟨a,_,rfl,_⟩:=h;rfl
 ·obtain⟨a,mo,rfl,mo2,mo16,hG,q⟩:=h
  refine⟨_,(@qss_cons _ _ _ _ _ (@Ss _ _ 2 3 4 _ _ _ _ _ _ _ _ _ _ _ _ _ _ rfl sc_L_fair.nd (@qa_consP _ _ _ _ _ (@q_op _ _ _ _ _ _ _ _ (@o_addD _) (@q_int _ _ _ _) (@q_call _ _ _ _ _ _ _ _ noX _ _ _ Agv (hr.mono (by decide)) (@passN _ _) (@qa_consP _ _ _ _ _ (@q_v1 _ _ 0 _ (by exact⟨rfl,rfl,rfl,rfl⟩)) (@qa_consP _ _ _ _ _ (@q_op _ _ _ _ _ _ _ _ (@C8 _) (@q_v1 _ _ 1 _ (by exact⟨rfl,rfl,rfl,rfl⟩)) (@q_int _ _ _ _)) (@qa_nil _) (by rfl)) (by rfl)) (by rfl) (by decide) (by rfl) (by rfl))) (@qa_consP _ _ _ _ _ (@q_op _ _ _ _ _ _ _ _ (@o_addD _) (@q_int _ _ _ _) (@q_call _ _ _ _ _ _ _ _ noX _ _ _ Agv (hr.mono (by decide)) (@passN _ _) (@qa_consP _ _ _ _ _ (@q_v1 _ _ 0 _ (by exact⟨rfl,rfl,rfl,rfl⟩)) (@qa_consP _ _ _ _ _ (@q_int _ _ _ _) (@qa_nil _) (by rfl)) (by rfl)) (by rfl) (by decide) (by rfl) (by rfl))) (@qa_consP _ _ _ _ _ (@q_op _ _ _ _ _ _ _ _ (@o_addD _) (@q_int _ _ _ _) (@q_call _ _ _ _ _ _ _ _ noX _ _ _ Agv (hr.mono (by decide)) (@passN _ _) (@qa_consP _ _ _ _ _ (@q_v1 _ _ 0 _ (by exact⟨rfl,rfl,rfl,rfl⟩)) (@qa_consP _ _ _ _ _ (@q_int _ _ _ _) (@qa_nil _) (by rfl)) (by rfl)) (by rfl) (by decide) (by rfl) (by rfl))) (@qa_nil _) (by rfl)) (by rfl)) (by rfl)) (by rfl) (by rfl) (by rfl) (by decide) (by decide) (by decide) (by rfl) (by rfl) (by rfl) (by rfl) (by rfl)) (@qss_cons _ _ _ _ _ (@Ss _ _ 5 6 7 _ _ _ _ _ _ _ _ _ _ _ _ _ _ rfl sc_L_fair.nd (@qa_consP _ _ _ _ _ (@q_call _ _ _ _ _ _ _ _ noX _ _ _ Agv (hr.mono (by decide)) (@passN _ _) (@qa_consP _ _ _ _ _ (@q_v1 _ _ 0 _ (by exact⟨rfl,rfl,rfl,rfl⟩)) (@qa_consP _ _ _ _ _ (@q_v1 _ _ 3 _ (by exact⟨rfl,rfl,rfl,rfl⟩)) (@qa_nil _) (by rfl)) (by rfl)) (by rfl) (by decide) (by rfl) (by rfl)) (@qa_consP _ _ _ _ _ (@q_lst _ _ _ _ (@qa_nil _)) (@qa_consP _ _ _ _ _ (@q_op _ _ _ _ _ _ _ _ (@o_addD _) (@q_int _ _ _ _) (@q_call _ _ _ _ _ _ _ _ noX _ _ _ Agv (hr.mono (by decide)) (@passN _ _) (@qa_consP _ _ _ _ _ (@q_v1 _ _ 0 _ (by exact⟨rfl,rfl,rfl,rfl⟩)) (@qa_consP _ _ _ _ _ (@q_int _ _ _ _) (@qa_nil _) (by rfl)) (by rfl)) (by rfl) (by decide) (by rfl) (by rfl))) (@qa_nil _) (by rfl)) (by rfl)) (by rfl)) (by rfl) (by rfl) (by rfl) (by decide) (by decide) (by decide) (by rfl) (by rfl) (by rfl) (by rfl) (by rfl)) (@qss_cons _ _ _ _ _ (@qs_set _ _ _ _ 8 _ _ sc_L_fair.nd (@q_lst _ _ _ _ (@qa_nil _)) (by rfl) (by exact .inl rfl) (by rfl) (by exact .inl rfl)) (@qss_cons _ _ _ _ _ (@Ea _ _ _ _ _ _ _ _ _ _ PassesOwn.never rfl (T.blt (by decide)) (@qa_consP _ _ _ _ _ (@q_v1 _ _ 2 _ (by exact⟨rfl,rfl,rfl,rfl⟩)) (@qa_nil _) (by rfl)) (@qg_name _ _ 9 _ sc_L_fair.nd (by rfl) (by exact .inl rfl) (by exact .inl rfl)) (@qss_cons _ _ _ _ _ (@qs_set _ _ _ _ 5 _ _ sc_L_fair.nd (@q_callB _ _ _ _ _ _ _ _ _ (@Qy _ rfl) (T.blt (by decide)) (by decide +kernel) (@qa_consP _ _ _ _ _ (@q_op _ _ _ _ _ _ _ _ (@C8 _) (@q_v1 _ _ 3 _ (by exact⟨rfl,rfl,rfl,rfl⟩)) (@q_int _ _ _ _)) (@qa_consP _ _ _ _ _ (@q_callB _ _ _ _ _ _ _ _ _ (@Wy _ rfl) (T.blt (by decide)) (by decide +kernel) (@qa_consP _ _ _ _ _ (@q_int _ _ _ _) (@qa_consP _ _ _ _ _ (@q_op _ _ _ _ _ _ _ _ (@C8 _) (@q_op _ _ _ _ _ _ _ _ (@o_addD _) (@q_v1 _ _ 5 _ (by exact⟨rfl,rfl,rfl,rfl⟩)) (@q_call _ _ _ _ _ _ _ _ noX _ _ _ Agv (hr.mono (by decide)) (@passN _ _) (@qa_consP _ _ _ _ _ (@q_v1 _ _ 0 _ (by exact⟨rfl,rfl,rfl,rfl⟩)) (@qa_consP _ _ _ _ _ (@q_int _ _ _ _) (@qa_nil _) (by rfl)) (by rfl)) (by rfl) (by decide) (by rfl) (by rfl))) (@q_int _ _ _ _)) (@qa_nil _) (by rfl)) (by rfl)) (by rfl) (by decide) (by decide) (by rfl) (by rfl)) (@qa_nil _) (by rfl)) (by rfl)) (by rfl) (by decide) (by decide) (by rfl) (by rfl)) (by rfl) (by exact .inl rfl) (by rfl) (by exact .inl rfl)) (@qss_cons _ _ _ _ _ (@Cg _ _ _ _ (@N7 _ _ _ _ _ _ _ (@q_v1 _ _ 6 _ (by exact⟨rfl,rfl,rfl,rfl⟩)) (@q_v1 _ _ 5 _ (by exact⟨rfl,rfl,rfl,rfl⟩)) (by rfl) (by rfl) (by rfl) (by rfl) (by rfl)) (by rfl)) (@qss_cons _ _ _ _ _ (@qs_set _ _ _ _ 10 _ _ sc_L_fair.nd (@q_lst _ _ _ _ (@qa_nil _)) (by rfl) (by exact .inl rfl) (by rfl) (by exact .inl rfl)) (@qss_cons _ _ _ _ _ (@Ea _ _ _ _ _ _ _ _ _ _ PassesOwn.never rfl (T.blt (by decide)) (@qa_consP _ _ _ _ _ (@q_v1 _ _ 3 _ (by exact⟨rfl,rfl,rfl,rfl⟩)) (@qa_nil _) (by rfl)) (@qg_name _ _ 11 _ sc_L_fair.nd (by rfl) (by exact .inl rfl) (by exact .inl rfl)) (@qss_cons _ _ _ _ _ (@qs_set _ _ _ _ 12 _ _ sc_L_fair.nd (@q_cmp _ _ _ _ _ _ _ _ (@o_eq _) (@q_call _ _ _ _ _ _ _ _ noX _ _ _ Agv (hr.mono (by decide)) (@passN _ _) (@qa_consP _ _ _ _ _ (@q_v1 _ _ 0 _ (by exact⟨rfl,rfl,rfl,rfl⟩)) (@qa_consP _ _ _ _ _ (@q_op _ _ _ _ _ _ _ _ (@o_addD _) (@q_v1 _ _ 7 _ (by exact⟨rfl,rfl,rfl,rfl⟩)) (@q_int _ _ _ _)) (@qa_nil _) (by rfl)) (by rfl)) (by rfl) (by decide) (by rfl) (by rfl)) (@q_int _ _ _ _) (nomark _)) (by rfl) (by exact .inl rfl) (by rfl) (by exact .inl rfl)) (@qss_one _ _ _ (@Cg _ _ _ _ (@N7 _ _ _ _ _ _ _ (@q_v1 _ _ 10 _ (by exact⟨rfl,rfl,rfl,rfl⟩)) (@M3 _ _ _ _ _ _ _ _ (@qt_tru _ _ _ (@q_v1 _ _ 12 _ (by exact⟨rfl,rfl,rfl,rfl⟩)) (by intro _ ;rfl)) (@q_call _ _ _ _ _ _ _ _ noX _ _ _ Agv (hr.mono (by decide)) (@passN _ _) (@qa_consP _ _ _ _ _ (@q_v1 _ _ 0 _ (by exact⟨rfl,rfl,rfl,rfl⟩)) (@qa_consP _ _ _ _ _ (@q_v1 _ _ 4 _ (by exact⟨rfl,rfl,rfl,rfl⟩)) (@qa_nil _) (by rfl)) (by rfl)) (by rfl) (by decide) (by rfl) (by rfl)) (@q_op _ _ _ _ _ _ _ _ (@o_addD _) (@q_v1 _ _ 4 _ (by exact⟨rfl,rfl,rfl,rfl⟩)) (@q_call _ _ _ _ _ _ _ _ noX _ _ _ Agv (hr.mono (by decide)) (@passN _ _) (@qa_consP _ _ _ _ _ (@q_v1 _ _ 0 _ (by exact⟨rfl,rfl,rfl,rfl⟩)) (@qa_consP _ _ _ _ _ (@q_op _ _ _ _ _ _ _ _ (@C8 _) (@q_int _ _ _ _) (@q_v1 _ _ 4 _ (by exact⟨rfl,rfl,rfl,rfl⟩))) (@qa_nil _) (by rfl)) (by rfl)) (by rfl) (by decide) (by rfl) (by rfl)))) (by rfl) (by rfl) (by rfl) (by rfl) (by rfl)) (by rfl)))) (by rfl) (by rfl) (by intro _ ;rfl)) (@qss_cons _ _ _ _ _ (@Dn _ _ _ _ _ _ (@q_op _ _ _ _ _ _ _ _ (@o_addD _) (@q_v1 _ _ 4 _ (by exact⟨rfl,rfl,rfl,rfl⟩)) (@q_call _ _ _ _ _ _ _ _ noX _ _ _ Agv (hr.mono (by decide)) (@passN _ _) (@qa_consP _ _ _ _ _ (@q_v1 _ _ 0 _ (by exact⟨rfl,rfl,rfl,rfl⟩)) (@qa_consP _ _ _ _ _ (@q_op _ _ _ _ _ _ _ _ (@C8 _) (@q_int _ _ _ _) (@q_v1 _ _ 4 _ (by exact⟨rfl,rfl,rfl,rfl⟩))) (@qa_nil _) (by rfl)) (by rfl)) (by rfl) (by decide) (by rfl) (by rfl))) (@Wg _ _ _ _ _ _ _ (@q_v1 _ _ 10 _ (by exact⟨rfl,rfl,rfl,rfl⟩)) (@q_v1 _ _ 5 _ (by exact⟨rfl,rfl,rfl,rfl⟩)) (@Wd _) (by intro _ ;rfl)) (by rfl) (by rfl) (by rfl)) (@qss_one _ _ _ (@Cg _ _ _ _ (@N7 _ _ _ _ _ _ _ (@q_v1 _ _ 8 _ (by exact⟨rfl,rfl,rfl,rfl⟩)) (@q_callTy _ _ _ _ _ _ _ _ _ (@c_tuple _) (T.blt (by decide)) (by decide +kernel) (@qa_consP _ _ _ _ _ (@q_v1 _ _ 10 _ (by exact⟨rfl,rfl,rfl,rfl⟩)) (@qa_nil _) (by rfl)) (by rfl) (by decide) (by decide) (by rfl) (by rfl)) (by rfl) (by rfl) (by rfl) (by rfl) (by rfl)) (by rfl)))))))) (by rfl) (by rfl) (by intro _ ;rfl)) (@qss_one _ _ _ (@qs_ret _ _ _ _ (@Ie _ _ _ _ _ (@qa_consP _ _ _ _ _ (@q_callTy _ _ _ _ _ _ _ _ _ (@c_tuple _) (T.blt (by decide)) (by decide +kernel) (@qa_consP _ _ _ _ _ (@q_v1 _ _ 8 _ (by exact⟨rfl,rfl,rfl,rfl⟩)) (@qa_nil _) (by rfl)) (by rfl) (by decide) (by decide) (by rfl) (by rfl)) (@qa_consP _ _ _ _ _ (@q_v1 _ _ 4 _ (by exact⟨rfl,rfl,rfl,rfl⟩)) (@qa_consP _ _ _ _ _ (@q_callTy _ _ _ _ _ _ _ _ _ (@c_tuple _) (T.blt (by decide)) (by decide +kernel) (@qa_consP _ _ _ _ _ (@q_v1 _ _ 6 _ (by exact⟨rfl,rfl,rfl,rfl⟩)) (@qa_nil _) (by rfl)) (by rfl) (by decide) (by decide) (by rfl) (by rfl)) (@qa_nil _) (by rfl)) (by rfl)) (by rfl))))))))),?_⟩
  have sz0:0≤sizeLine:=Nat.zero_le _
  simp only[Bj,Abj,Aj,nOp,nC,Ar,Am,Ah,List.map_cons,List.map_nil,List.length_cons,List.length_nil,Nat.zero_add,Nat.reduceAdd,Nat.reduceSub,List.replicate,List.cons_append,List.nil_append,List.getElem?_cons_zero,Option.some.injEq,List.getElem?_cons_succ,dI0,D.int.injEq,Aq,List.cons.injEq,and_true,List.set_cons_succ,List.set_cons_zero,Fn,sz0,Br,Aw,Ig,Int.reducePow,Int.reduceNeg,and_assoc,exists_eq_left',true_and,exists_and_left]
  refine Bn hG (by omega) (by omega) fun n0 b1 n00 n01=>?_
  have s1:=(Step.refl hG).take b1
  generalize Ab G a (.lst [.int b1])=G1 at *
  rw[Bl]
  refine Bn s1.box (by decide) (by decide) fun h0 b2 h00 h01=>?_
  have s2:=s1.take b2
  generalize Ab G1 a (.lst [.int b2])=G2 at *
  rw[Bl]
  refine Bn s2.box (by decide) (by decide) fun d0 b3 d00 d01=>?_
  have s3:=s2.take b3
  generalize Ab G2 a (.lst [.int b3])=G3 at *
  rw[Bl]
  obtain⟨cnt,hcnt⟩:=Int.eq_ofNat_of_zero_le (show 0≤2+n0 by omega)
  obtain⟨h,hh⟩:=Int.eq_ofNat_of_zero_le (show 0≤1+h0 by omega)
  have hd1:1≤1+d0:=by omega
  have hd9:1+d0≤9:=by omega
  have c2:2≤cnt∧cnt≤16:=by omega
  have h19:1≤h∧h≤9:=by omega
  rw[hcnt,hh]
  generalize 1+d0=d at *
  refine Bn (c:=(h:Int)) s3.box (by omega) (by omega) fun r0 b4 r00 r01=>?_
  have s4:=s3.take b4
  generalize Ab G3 a (.lst [.int b4])=G4 at *
  intro pr hpr
  have npr:=Step.ne s4.box hpr
  have gpr:=s4.back hpr
  have s5:=s4.lay (o:=.lst []) hpr
  have vr:Ab G4 pr (.lst []) pr=some (.lst []):=Aa
  generalize Ab G4 pr (.lst [])=G5 at *
  refine Bn s5.box (by decide) (by decide) fun m0 b6 m00 m01=>?_
  have s6:=s5.take b6
  have vr:Ab G5 a (.lst [.int b6]) pr=some (.lst []):=by rw[Ae npr.symm];exact vr
  generalize Ab G5 a (.lst [.int b6])=G6 at *
  rw[Bl]
  have sm0:0<1+m0+1:=by omega
  have sm1:1+m0+1<1073741824:=by omega
  generalize 1+m0=sm at *
  intro pc hpc
  have npc:=Step.ne s6.box hpc
  have gpc:=s6.back hpc
  have npp:pr≠pc:=gne vr hpc
  have s7:=s6.lay (o:=.lst []) hpc
  have vr:=Bb (u:=.lst []) vr hpc
  have vc:Ab G6 pc (.lst []) pc=some (.lst []):=Aa
  generalize Ab G6 pc (.lst [])=G7 at *
  refine⟨_,rfl,by omega,by omega,?_⟩
  rw[Int.toNat_natCast]
  refine B1 (fun i σ G'=>∃row s ws v1 v2 v3 v4,σ=[some (.ref a),some (.int mo),some (.int (cnt:Nat)),some (.int (h:Nat)),some (.int d),some (.int row),some (.ref pr),some (.int sm),some (.ref pc),v1,v2,v3,v4]∧Step a G G'∧G' pr=some (.lst (ws.map D.int))∧G' pc=some (.lst (s.map Ai))∧PartF s h d ws i row) ⟨r0,[],[],none,none,none,none,rfl,s7,vr,vc,⟨rfl,rfl,fun c hc=>(by cases hc),fun j hj=>absurd hj (by omega),fun j hj=>absurd hj (by omega),r00,r01,fun j hj=>absurd hj (by omega)⟩⟩ ?_ ?_
  ·rintro i σ G8 hi ⟨row,s,ws,v1,v2,v3,v4,rfl,s8,vr,vc,pf⟩
   simp only[Aw,Bj,Br,nCB,Aj,nOp,Am,List.set_cons_succ,List.set_cons_zero,List.getElem?_cons_succ,List.getElem?_cons_zero,Option.some.injEq,nC,dI0,D.int.injEq,Ar,Aq,List.cons.injEq,and_true,Fj,Tr,Fn,List.length_nil,Ig,Int.reducePow,Int.reduceNeg,and_assoc,exists_eq_left',D.ref.injEq,exists_and_left]
   refine Bn s8.box (by decide) (by decide) fun t0 b9 t00 t01=>?_
   have s9:=s8.take b9
   have vr:Ab G8 a (.lst [.int b9]) pr=some (.lst (ws.map D.int)):=by rw[Ae npr.symm];exact vr
   have vc:Ab G8 a (.lst [.int b9]) pc=some (.lst (s.map Ai)):=by rw[Ae npc.symm];exact vc
   generalize Ab G8 a (.lst [.int b9])=G9 at *
   rw[Bl]
   have hrow:∃row',(if (if row+t0-1>0 then row+t0-1 else 0)<(h:Int)-1 then (if row+t0-1>0 then row+t0-1 else 0) else (h:Int)-1)=row'∧row'-row≤1∧row-row'≤1∧0≤row'∧row'<h:=by
    have:=pf.r0
    have:=pf.r1
    refine⟨_,rfl,?_⟩
    by_cases z1:row+t0-1>0
    ·rw[if_pos z1]
     by_cases z2:row+t0-1<(h:Int)-1
     ·rw[if_pos z2];omega
     ·rw[if_neg z2];omega
    ·rw[if_neg z1]
     by_cases z2:0<(h:Int)-1
     ·rw[if_pos z2];omega
     ·rw[if_neg z2];omega
   obtain⟨row',er,q1,q2,q3,q4⟩:=hrow
   simp only[D.int.injEq,vr,Option.some.injEq,GO.lst.injEq,Int.reduceNeg,exists_eq_left']
   rw[er]
   refine⟨⟨_,rfl⟩,by rw[List.length_map,pf.wl,sizeLine_eq];omega,Nat.zero_le _,?_⟩
   have s10:=s9.write (o:=.lst (ws.map D.int++[.int row'])) gpr npr
   have vr:Ab G9 pr (.lst (ws.map D.int++[.int row'])) pr=some (.lst ((ws++[row']).map D.int)):=by rw[Aa,List.map_append];rfl
   have vc:Ab G9 pr (.lst (ws.map D.int++[.int row'])) pc=some (.lst (s.map Ai)):=by rw[Ae npp.symm];exact vc
   generalize Ab G9 pr (.lst (ws.map D.int++[.int row']))=G10 at *
   intro pd hpd
   have npd:=Step.ne s10.box hpd
   have gpd:=s10.back hpd
   have nrd:pr≠pd:=gne vr hpd
   have ncd:pc≠pd:=gne vc hpd
   have s11:=s10.lay (o:=.lst []) hpd
   have vr:=Bb (u:=.lst []) vr hpd
   have vc:=Bb (u:=.lst []) vc hpd
   have vd:Ab G10 pd (.lst []) pd=some (.lst []):=Aa
   generalize Ab G10 pd (.lst [])=G11 at *
   refine⟨by omega,by omega,?_⟩
   rw[Int.toNat_natCast]
   refine B1 (fun j σ G'=>∃dl v3 v4,σ=[some (.ref a),some (.int mo),some (.int (cnt:Nat)),some (.int (h:Nat)),some (.int d),some (.int row'),some (.ref pr),some (.int sm),some (.ref pc),some (.int (i:Nat)),some (.ref pd),v3,v4]∧Step a G G'∧G' pr=some (.lst ((ws++[row']).map D.int))∧G' pc=some (.lst (s.map Ai))∧G' pd=some (.lst (dl.map D.int))∧dl.length=j∧∀x∈dl,0≤x∧x≤9) ⟨[],_,_,rfl,s11,vr,vc,vd,rfl,fun x hx=>by cases hx⟩ ?_ ?_
   ·rintro j σ G12 hj ⟨dl,v3,v4,rfl,s12,vr,vc,vd,hl,hx⟩
    simp only[Aw,Bj,Br,nOp,Ar,Aj,Am,List.set_cons_succ,List.set_cons_zero,List.getElem?_cons_zero,Option.some.injEq,List.getElem?_cons_succ,nC,Aq,dEq,eqS,Fj,Tr,nIf,C0,exists_eq_left',dI0,D.int.injEq,D.ref.injEq,Bl]
    refine Bn s12.box (by omega) (by omega) fun t1 b13 t10 t11=>?_
    have s13:=s12.take b13
    have vr:Ab G12 a (.lst [.int b13]) pr=some (.lst ((ws++[row']).map D.int)):=by rw[Ae npr.symm];exact vr
    have vc:Ab G12 a (.lst [.int b13]) pc=some (.lst (s.map Ai)):=by rw[Ae npc.symm];exact vc
    have vd:Ab G12 a (.lst [.int b13]) pd=some (.lst (dl.map D.int)):=by rw[Ae npd.symm];exact vd
    generalize Ab G12 a (.lst [.int b13])=G13 at *
    have szd:(dl.map D.int).length<sizeLine:=by rw[List.length_map,hl,sizeLine_eq];omega
    have hx':∀x:Int,0≤x→x≤9→∀y∈dl++[x],0≤y∧y≤9:=fun x x0 x9 y hy=>by
     rcases List.mem_append.mp hy with z|z
     ·exact hx y z
     ·rw[List.mem_singleton.mp z];exact⟨x0,x9⟩
    simp only[Option.some.injEq,vd,GO.lst.injEq,exists_eq_left']
    refine⟨⟨_,rfl⟩,decide (t1=0),rfl,?_⟩
    by_cases z:t1=0
    ·refine it0 (by simpa using z) (Bn s13.box (by omega) (by omega) fun x b x0 x1=>?_)
     exact⟨_,by rw[Ae npd.symm];exact vd,szd,Fs.of ⟨dl++[x],_,_,rfl,(s13.take b).write gpd npd,by rw[Ae nrd,Ae npr.symm];exact vr,by rw[Ae ncd,Ae npc.symm];exact vc,by rw[Aa,List.map_append];rfl,by simp[hl],hx' x x0 (by omega)⟩⟩
    ·refine it1 (by simpa using z) (Bn s13.box (by omega) (by omega) fun x b x0 x1=>?_)
     rw[Bl]
     exact⟨_,by rw[Ae npd.symm];exact vd,szd,Fs.of ⟨dl++[d+x],_,_,rfl,(s13.take b).write gpd npd,by rw[Ae nrd,Ae npr.symm];exact vr,by rw[Ae ncd,Ae npc.symm];exact vc,by rw[Aa,List.map_append];rfl,by simp[hl],hx' (d+x) (by omega) (by omega)⟩⟩
   ·rintro σ G12 ⟨dl,v3,v4,rfl,s12,vr,vc,vd,hl,hx⟩
    simp only[Bj,Br,nOp,Am,List.getElem?_cons_succ,List.getElem?_cons_zero,Option.some.injEq,Ar,Aj,nC,dI0,D.int.injEq,Aq,mSub,V5,Fj,Tr,nCB,List.cons.injEq,and_true,exists_eq_left',D.ref.injEq]
    refine Bn s12.box (by omega) (by omega) fun t1 b13 t10 t11=>?_
    have s13:=s12.take b13
    have vr:Ab G12 a (.lst [.int b13]) pr=some (.lst ((ws++[row']).map D.int)):=by rw[Ae npr.symm];exact vr
    have vc:Ab G12 a (.lst [.int b13]) pc=some (.lst (s.map Ai)):=by rw[Ae npc.symm];exact vc
    have vd:Ab G12 a (.lst [.int b13]) pd=some (.lst (dl.map D.int)):=by rw[Ae npd.symm];exact vd
    generalize Ab G12 a (.lst [.int b13])=G13 at *
    rw[Bl]
    simp only[vd,Option.some.injEq,GO.lst.injEq,exists_eq_left']
    obtain⟨k,rfl⟩:=Int.eq_ofNat_of_zero_le q3
    have hk:k<dl.length:=by omega
    refine⟨k,by unfold ixN;rw[if_pos (by omega),if_pos (by rw[List.length_map];omega)];simp,⟨_,by rw[Ae ncd];exact vc⟩,_,A0 Aa,_,by rw[Ae ncd];exact vc,by rw[List.length_map,pf.sl,sizeLine_eq];omega,Fs.of ⟨(k:Nat),s++[dl.set k (d+t1)],ws++[((k:Nat):Int)],_,_,_,_,rfl,(s13.write gpd npd).write gpc npc,by rw[Ae npp,Ae nrd];exact vr,?_,pf.snoc q1 q2 q3 q4 (by simp[hl]) (fun x hx'=>?_) ?_⟩⟩
    ·rw[Aa,List.map_append,←List.map_set];rfl
    ·rcases List.mem_or_eq_of_mem_set hx' with z|z
     ·exact hx x z
     ·rw[z];omega
    ·simp[List.getD_eq_getElem?_getD,hk];omega
  ·rintro σ G8 ⟨row,s,ws,v1,v2,v3,v4,rfl,s8,vr,vc,pf⟩
   simp only[Bc,Qe,Aj,nCB,Am,List.getElem?_cons_succ,List.getElem?_cons_zero,Option.some.injEq,Aq,List.cons.injEq,and_true,List.length_cons,List.length_nil,Nat.zero_add,Nat.reduceAdd,exists_eq_left']
   exact⟨_,A0 vc,_,A0 vr,szl (by decide),Fq.of (q s h d ws G8 (pf.ok c2 h19 hd1 hd9) s8)⟩
end
end K2
set_option maxRecDepth 100000
set_option maxHeartbeats 4000000
namespace K2
open PySem L2 D3
section
variable{P:Program}{w:World}{K:W.Frag}{mg:Str→Option Value}{base:Heap}{C T0 aS:Addr}
theorem O7{xs:List D}{j:Nat}:Ir xs none (some (j:Int))=xs.take j:=by
 simp only[Ir,HT.sIx,if_neg (show ¬((j:Int)<0) by omega),List.drop_zero,Nat.sub_zero]
 by_cases h:j≤xs.length
 ·congr 1;omega
 ·rw[List.take_of_length_le (by omega),List.take_of_length_le (by omega)]
theorem ColsOk.sub{n:Nat}{cs ds:List Int}(h:ColsOk n cs)(s:ds.Sublist cs):ColsOk n ds:=⟨h.rise.sublist s,fun x hx=>h.inn x (s.mem hx),Nat.le_trans s.length_le h.len⟩
theorem Ru{n:Nat}(h:n≤16):ColsOk n (ivl 1 (n-1)):=⟨ivl_rise,fun x hx=>by have:=mem_ivl.mp hx;omega,by rw[M8];omega⟩
theorem O0{n:Nat}(h:1≤n):D3.C6 1 (n:Int)=(ivl 1 (n-1)).map D.int:=by
 unfold D3.C6 ivl
 rw[List.map_map,show((n:Int)-1).toNat=n-1 by omega];rfl
theorem U8{n:Nat}{cs:List Int}{x:Int}(h:ColsOk n cs)(h1:1≤x)(h2:x≤n-1)(hl:cs.length≤15):ColsOk n (C7 (cs++[x])):=⟨Fp _,fun y hy=>by
 rcases List.mem_append.mp (mem_sortU.mp hy) with z|z
 ·exact h.inn y z
 ·rw[List.mem_singleton.mp z];exact⟨h1,h2⟩,Nat.le_trans (L7 _) (by rw[List.length_append,List.length_singleton];omega)⟩
theorem Hq{m e:Nat→Int}{n:Nat}(h:2≤n∧n≤16):ColsOk n (Ac m e (n-1)).2∧(Ac m e (n-1)).2.length≤15:=by
 have:=Ha (m:=m) (e:=e) (n:=n-1)
 exact⟨⟨wantN_rise,fun x hx=>by have:=Cj x hx;omega,by omega⟩,by omega⟩
end
end K2
set_option maxRecDepth 100000
set_option maxHeartbeats 4000000
namespace K2
open PySem L2 D3
section
variable{P:Program}{w:World}{K:W.Frag}{mg:Str→Option Value}{base:Heap}{C T0 aS:Addr}
theorem Fr{m:Nat→Int}{cs ds:List Int}:∀{i:Nat},(∀x:Int,1≤x→x≤i→(x∈cs↔x∈ds))→By m cs i=By m ds i
 |0,_=>rfl
 |i+1,h=>by
  have ih:=Fr (m:=m) (i:=i) fun x h1 h2=>h x h1 (by omega)
  have hx:=h ((i+1:Nat):Int) (by omega) (by omega)
  rw[By,By,ih]
  by_cases z:((i+1:Nat):Int)∈cs
  ·rw[if_pos z,if_pos (hx.mp z)]
  ·rw[if_neg z,if_neg fun y=>z (hx.mpr y)]
theorem En{m e:Nat→Int}{i:Nat}{x:Int}:∀{n:Nat},i≤n→x≤i→(x∈(Ac m e n).2↔x∈(Ac m e i).2)
 |0,h,_=>by rw[show i=0 by omega]
 |n+1,h,hx=>by
  by_cases z:i=n+1
  ·rw[z]
  ·have ih:=En (m:=m) (e:=e) (n:=n) (by omega) hx
   rw[Ac]
   split
   ·rw[List.mem_append,ih,List.mem_singleton]
    exact⟨fun h=>h.elim id fun e=>by omega,.inl⟩
   ·exact ih
theorem Oe{m e:Nat→Int}:∀{i:Nat},By m (Ac m e i).2 i=(Ac m e i).1
 |0=>rfl
 |i+1=>by
  have ih:=Oe (m:=m) (e:=e) (i:=i)
  have c:By m (Ac m e (i+1)).2 i=By m (Ac m e i).2 i:=Fr fun x _ h=>En (by omega) h
  have hn:((i+1:Nat):Int) ∉ (Ac m e i).2:=fun h=>by have:=Cj _ h;omega
  rw[By,c,ih]
  by_cases z:(Ac m e i).1+1>e (i+1)
  ·have e2:Ac m e (i+1)=(m (i+1),(Ac m e i).2++[((i+1:Nat):Int)]):=by rw[Ac,if_pos z]
   rw[e2,if_pos (by simp)]
  ·have e2:Ac m e (i+1)=((Ac m e i).1+1,(Ac m e i).2):=by rw[Ac,if_neg z]
   rw[e2,if_neg hn]
theorem Kl{m e:Nat→Int}{n:Nat}(h:∀i,i≤n→m i≤e i):Bv m e (Ac m e n).2 n=true:=by
 unfold Bv
 rw[List.all_eq_true]
 intro j hj
 have hj:=List.mem_range.mp hj
 have c:By m (Ac m e n).2 (j+1)=By m (Ac m e (j+1)).2 (j+1):=Fr fun x _ hx=>En (by omega) hx
 rw[c,Oe]
 refine decide_eq_true ?_
 rw[Ac]
 split
 ·exact h _ (by omega)
 ·show(Ac m e j).1+1≤_
  omega
theorem Gf{m:Nat→Int}{cs:List Int}{n:Nat}(hs:∀i,i<n→m (i+1)≤m i+1):∀i,i≤n→m i≤By m cs i
 |0,_=>Int.le_refl _
 |i+1,h=>by
  have:=Gf (cs:=cs) hs i (by omega)
  have:=hs i (by omega)
  rw[By]
  split
  ·exact Int.le_refl _
  ·omega
def Gy(cs:List Int)(i:Nat):Nat:=(cs.filter fun x=>decide (x≤(i:Int))).length
theorem O8{cs:List Int}{i:Nat}:Gy cs i≤Gy cs (i+1):=by
 unfold Gy
 induction cs with
 |nil=>exact Nat.le_refl _
 |cons x r ih=>
  rw[List.filter_cons,List.filter_cons]
  by_cases z:x≤(i:Int)
  ·rw[if_pos (by simpa using z),if_pos (by simp;omega)];simp only[List.length_cons];omega
  ·rw[if_neg (by simpa using z)]
   split
   ·simp only[List.length_cons];omega
   ·exact ih
theorem Yt{cs:List Int}{i:Nat}(h:((i+1:Nat):Int)∈cs):Gy cs i+1≤Gy cs (i+1):=by
 induction cs with
 |nil=>cases h
 |cons x r ih=>
  have hr:Gy r i≤Gy r (i+1):=O8
  unfold Gy at hr ih ⊢
  rw[List.filter_cons,List.filter_cons]
  by_cases e:x=((i+1:Nat):Int)
  ·rw[if_neg (by simp;omega),if_pos (by simp;omega)];simp only[List.length_cons];omega
  ·have ih:=ih ((List.mem_cons.mp h).resolve_left fun z=>e z.symm)
   by_cases z:x≤(i:Int)
   ·rw[if_pos (by simpa using z),if_pos (by simp;omega)];simp only[List.length_cons];omega
   ·rw[if_neg (by simpa using z),if_neg (by simp;omega)];exact ih
theorem E5{m e:Nat→Int}{cs:List Int}{n i:Nat}(h:Bv m e cs n=true)(hi:i<n):By m cs (i+1)≤e (i+1):=by
 unfold Bv at h
 exact of_decide_eq_true (List.all_eq_true.mp h i (List.mem_range.mpr hi))
theorem Kk{m e:Nat→Int}{cs:List Int}{n:Nat}(hs:∀i,i<n→m (i+1)≤m i+1)(hk:Bv m e cs n=true):(Ac m e n).2.length≤cs.length:=by
 have inv:∀i,i≤n→(Ac m e i).2.length<Gy cs i∨((Ac m e i).2.length=Gy cs i∧(Ac m e i).1≤By m cs i)∨(Ac m e i).2.length<Gy cs i:=fun i=>by
  induction i with
  |zero=>
   intro _
   rw[show Ac m e 0=(m 0,[]) from rfl]
   rcases Nat.eq_zero_or_pos (Gy cs 0) with z|z
   ·exact .inr (.inl ⟨z.symm,Int.le_refl _⟩)
   ·exact .inl z
  |succ i ih=>
   intro hi
   have hm:=Gf (cs:=cs) hs (i+1) hi
   have ha:=E5 hk (show i<n by omega)
   have hc:=O8 (cs:=cs) (i:=i)
   have ih:=ih (by omega)
   by_cases zm:((i+1:Nat):Int)∈cs
   ·have hc2:=Yt zm
    have eo:By m cs (i+1)=m (i+1):=by rw[By,if_pos zm]
    rw[Ac]
    split
    ·show((Ac m e i).2++[_]).length<_∨(((Ac m e i).2++[_]).length=_∧m (i+1)≤_)∨_
     rw[List.length_append,List.length_singleton]
     omega
    ·show(Ac m e i).2.length<_∨_
     omega
   ·have eo:By m cs (i+1)=By m cs i+1:=by rw[By,if_neg zm]
    rw[eo] at ha
    rw[Ac]
    split
    ·show((Ac m e i).2++[_]).length<_∨(((Ac m e i).2++[_]).length=_∧m (i+1)≤_)∨_
     rw[List.length_append,List.length_singleton]
     omega
    ·show(Ac m e i).2.length<_∨((Ac m e i).2.length=_∧(Ac m e i).1+1≤_)∨_
     rw[eo]
     omega
 have h1:Gy cs n≤cs.length:=List.length_filter_le _ _
 have:=inv n (Nat.le_refl n)
 omega
theorem D2{c:List Int}:∀{n:Nat} {r:Int},r≤A6 c 1 n r∧A6 c (-1) n r≤r
 |0,r=>⟨Int.le_refl _,Int.le_refl _⟩
 |n+1,r=>by
  have h1:=(D2 (c:=c) (n:=n) (r:=r+1)).1
  have h2:=(D2 (c:=c) (n:=n) (r:=r + -1)).2
  rw[A6,A6]
  constructor
  ·split<;>omega
  ·split<;>omega
theorem FairOk.far{s:List (List Int)}{h:Nat}{d:Int}{ws:List Int}(u:Bool){i:Nat}:Ao ws (Ad u).2 i≤Ap s d ws (Ad u).2 i:=by
 cases u with
 |true=>
  show ws.getD i 0*(-1)≤A6 (Ce s d i) (-1) 10 (ws.getD i 0)*(-1)
  have:=(D2 (c:=Ce s d i) (n:=10) (r:=ws.getD i 0)).2
  omega
 |false=>
  show ws.getD i 0*1≤A6 (Ce s d i) 1 10 (ws.getD i 0)*1
  have:=(D2 (c:=Ce s d i) (n:=10) (r:=ws.getD i 0)).1
  omega
theorem FairOk.near{s:List (List Int)}{h:Nat}{d:Int}{ws:List Int}(ok:FairOk s h d ws)(u:Bool){i:Nat}(hi:i<s.length-1):Ao ws (Ad u).2 (i+1)≤Ao ws (Ad u).2 i+1:=by
 have:=ok.step i (by omega)
 cases u with
 |true=>show ws.getD (i+1) 0*(-1)≤ws.getD i 0*(-1)+1;omega
 |false=>show ws.getD (i+1) 0*1≤ws.getD i 0*1+1;omega
theorem Dg{α:Type}{l:List α}{c i:Nat}{z:α}(h:i<c):(l.take c).getD i z=l.getD i z:=by
 rw[List.getD_eq_getElem?_getD,List.getD_eq_getElem?_getD,List.getElem?_take_of_lt h]
theorem FairOk.take{s:List (List Int)}{h:Nat}{d:Int}{ws:List Int}(ok:FairOk s h d ws){c:Nat}(h2:2≤c)(hc:c≤s.length):FairOk (s.take c) h d (ws.take c):=by
 have hw:=ok.sea.wide
 have hl:(s.take c).length=c:=by rw[List.length_take];omega
 refine⟨⟨by rw[hl];omega,ok.sea.high,fun x hx=>ok.sea.col x (List.mem_of_mem_take hx)⟩,ok.d1,ok.d9,by rw[hl,List.length_take,ok.len];omega,fun i hi=>?_,fun i hi=>?_⟩
 ·rw[hl] at hi
  rw[Dg hi,Dg hi];exact ok.row i (by omega)
 ·rw[hl] at hi
  rw[Dg hi,Dg (by omega)];exact ok.step i (by omega)
theorem Yj{s:List (List Int)}{d:Int}{ws:List Int}{t:Int}{c i:Nat}(h:i<c):Ao (ws.take c) t i=Ao ws t i∧Ap (s.take c) d (ws.take c) t i=Ap s d ws t i:=by
 unfold Ao Ap
 rw[Ch,Ch,Dg h,Dg h]
 exact⟨rfl,rfl⟩
theorem Acf{G:Gp}{s:List (List Int)}{c:Nat}{Q:DK}:Em G (seaD s) none (some (c:Int)) Q=Q (seaD (s.take c)) G:=by
 show Em G (.tup (s.map Ai)) none (some (c:Int)) Q=_
 rw[F1,O7,←List.map_take];rfl
theorem Acg{G:Gp}{s:List Int}{c:Nat}{Q:DK}:Em G (Ai s) none (some (c:Int)) Q=Q (Ai (s.take c)) G:=by
 show Em G (.tup (s.map D.int)) none (some (c:Int)) Q=_
 rw[F1,O7,←List.map_take];rfl
theorem Jn{G:Gp}{c:List Int}:RepD G (.tup (c.map D.int)) (.tuple (c.map PyData.int)):=.tup Gd
theorem Js(c:List Int):(PyData.tuple (c.map PyData.int)).canLay0=true:=by rw[PyData.canLay0];exact Gg c
theorem Ys:∀c:List Int,PyData.eqv (.list (c.map PyData.int)) (.list [])=c.isEmpty
 |[]=>by simp[PyData.eqv,PyData.eqvAll]
 |x::r=>by simp[PyData.eqv,PyData.eqvAll]
end
end K2
set_option maxRecDepth 100000
set_option maxHeartbeats 4000000
namespace K2
open PySem L2 D3
section
variable{P:Program}{w:World}{K:W.Frag}{mg:Str→Option Value}{base:Heap}{C T0 aS:Addr}
def Dm(m e:Nat→Int)(t a:Int):Bool:=decide (e t.toNat<m (a-1).toNat+t-a+1)
def D9(m e:Nat→Int)(t:Int):List Int:=(ivl 1 t.toNat).filter (Dm m e t)
def optD:Option Int→D
 |none=>.non
 |some i=>.int i
def Bo(m e:Nat→Int)(t:Int):Option Int:=(D9 m e t).getLast?
theorem Ka:∀{l:List Int} {M:Int},l.Pairwise (· < ·)→M∈l→(∀a∈l,a≤M)→l.getLast? = some M
 |[],M,_,h,_=>by cases h
 |[x],M,_,h,_=>by rw[List.mem_singleton.mp h];rfl
 |x::y::r,M,h,hm,hM=>by
  obtain⟨h1,h2⟩:=List.pairwise_cons.mp h
  have hm':M∈y::r:=by
   rcases List.mem_cons.mp hm with e|e
   ·have:=hM y (by simp);have:=h1 y (by simp);omega
   ·exact e
  rw[List.getLast?_cons_cons]
  exact Ka h2 hm' fun a ha=>hM a (List.mem_cons_of_mem _ ha)
theorem Du{m e:Nat→Int}{t:Int}:(D9 m e t).Pairwise (· < ·):=ivl_rise.filter _
abbrev LaneAt(G:Gp)(l:Addr)(s:List (List Int))(d:Int)(ws:List Int)(t:Int):Prop:=G l=some (.lst (B6 s d ws t))
theorem LaneAt.get{G:Gp}{l:Addr}{s:List (List Int)}{d:Int}{ws:List Int}{t:Int}(h:LaneAt G l s d ws t){i:Int}(h0:0≤i)(h1:i<s.length):El G (.ref l) i=some (.tup [.int (Ao ws t i.toNat),.int (Ap s d ws t i.toNat)]):=by
 obtain⟨k,rfl⟩:=Int.eq_ofNat_of_zero_le h0
 rw[Dq h,Int.toNat_natCast];exact F8 (by omega)
abbrev s_can_be_wrong:Stmt:=top 99
abbrev K5:List Str:=["lane", "start", "end", "out"]
abbrev Bq:List Str:=["lane", "start", "end"]
theorem sc_can_be_wrong:FnScope K5 Bq (defScope s_can_be_wrong):=⟨rfl,rfl,rfl,by decide +kernel,rfl,by decide +kernel,by decide +kernel⟩
def M1:DSp:=fun ds G Q _=>∃l s d ws t a b,ds=[.ref l,.int a,.int b]∧LaneAt G l s d ws t∧1≤a∧a≤b∧b<s.length∧Q (.bl (Dm (Ao ws t) (Ap s d ws t) b a)) G
theorem X0{f:Addr}{fd:FuncData}(F:Fun K "can_be_wrong" "can_be_wrong" s_can_be_wrong f fd)(T:Sz P w K mg C aS):FnOk P w K mg base CX0 1 f fd Bq (liftSp K M1):=by
 refine okD F sc_can_be_wrong (fun ds G Q E h=>?_) (fun cdv A outer s H XE ds G Q E hr h=>?_)
 ·obtain⟨_,_,_,_,_,_,_,rfl,_⟩:=h;rfl
 ·obtain⟨l,s,d,ws,t,a,b,rfl,hl,a1,ab,bn,k⟩:=h
  refine⟨_,(@qss_cons _ _ _ _ _ (@qs_set _ _ _ _ 3 _ _ sc_can_be_wrong.nd (@q_op _ _ _ _ _ _ _ _ (@o_addD _) (@q_op _ _ _ _ _ _ _ _ (@C8 _) (@q_op _ _ _ _ _ _ _ _ (@o_addD _) (@C4 _ _ _ _ _ _ (@C4 _ _ _ _ _ _ (@q_v1 _ _ 0 _ (by exact⟨rfl,rfl,rfl,rfl⟩)) (@q_op _ _ _ _ _ _ _ _ (@C8 _) (@q_v1 _ _ 1 _ (by exact⟨rfl,rfl,rfl,rfl⟩)) (@q_int _ _ _ _)) (by intro _ _ ;rfl)) (@q_int _ _ _ _) (by intro _ _ ;rfl)) (@q_v1 _ _ 2 _ (by exact⟨rfl,rfl,rfl,rfl⟩))) (@q_v1 _ _ 1 _ (by exact⟨rfl,rfl,rfl,rfl⟩))) (@q_int _ _ _ _)) (by rfl) (by exact .inl rfl) (by rfl) (by exact .inl rfl)) (@qss_one _ _ _ (@qs_ret _ _ _ _ (@q_cmp _ _ _ _ _ _ _ _ (@Za _) (@q_v1 _ _ 3 _ (by exact⟨rfl,rfl,rfl,rfl⟩)) (@C4 _ _ _ _ _ _ (@C4 _ _ _ _ _ _ (@q_v1 _ _ 0 _ (by exact⟨rfl,rfl,rfl,rfl⟩)) (@q_v1 _ _ 2 _ (by exact⟨rfl,rfl,rfl,rfl⟩)) (by intro _ _ ;rfl)) (@q_int _ _ _ _) (by intro _ _ ;rfl)) (nomark _))))),?_⟩
  simp only[Bj,Br,nOp,Am,Ah,List.map_cons,List.map_nil,List.length_cons,List.length_nil,Nat.zero_add,Nat.reduceAdd,Nat.reduceSub,List.replicate,List.cons_append,List.nil_append,List.getElem?_cons_zero,Option.some.injEq,List.getElem?_cons_succ,nC,dI0,D.int.injEq,dIx,Aw,Bc,List.set_cons_succ,List.set_cons_zero,exists_eq_left',Bl]
  refine⟨_,hl.get (by omega) (by omega),.int _,Zc,?_⟩
  rw[Bl]
  exact⟨_,rfl,_,hl.get (by omega) (by omega),.int _,atI1,_,rfl,Fq.of k⟩
abbrev s_start_of_stretch:Stmt:=top 100
abbrev Fw:List Str:=["lane", "end"]
abbrev p_start_of_stretch:List Str:=["lane", "end"]
theorem Fe:FnScope Fw p_start_of_stretch (defScope s_start_of_stretch):=⟨rfl,rfl,rfl,by decide +kernel,rfl,by decide +kernel,by decide +kernel⟩
theorem Eh:((["start"]:List Str)++(["lane", "end"]:List Str)).Nodup:=by decide +kernel
def spStart:DSp:=fun ds G Q _=>∃l s h d ws t b,ds=[.ref l,.int b]∧FairOk s h d ws∧LaneAt G l s d ws t∧1≤b∧b<s.length∧Q (optD (Bo (Ao ws t) (Ap s d ws t) b)) G
theorem X2{f:Addr}{fd:FuncData}(F:Fun K "start_of_stretch" "start_of_stretch" s_start_of_stretch f fd)(T:Sz P w K mg C aS)(Ahx:Def P w K mg base CX0 1 "can_be_wrong" Bq M1):FnOk P w K mg base CX0 2 f fd p_start_of_stretch (liftSp K spStart):=by
 refine okD F Fe (fun ds G Q E h=>?_) (fun cdv A outer s H XE ds G Q E hr h=>?_)
 ·obtain⟨_,_,_,_,_,_,_,rfl,_⟩:=h;rfl
 ·obtain⟨l,s,h,d,ws,t,b,rfl,ok,hl,b1,bn,k⟩:=h
  have hw:=ok.sea.wide
  refine⟨_,(@qss_one _ _ _ (@qs_ret _ _ _ _ (@Acm _ _ _ _ _ _ _ _ rfl (T.blt (by decide)) (@T9 _ _ _ _ _ _ _ _ _ ["start"] ["lane", "end"] _ _ _ _ _ rfl (@compOz _ _ _ _ (by rfl) (by rfl) (by rfl) (by rfl) (by rfl)) (T.blt (by decide)) (@qa_consP _ _ _ _ _ (@q_int _ _ _ _) (@qa_consP _ _ _ _ _ (@q_op _ _ _ _ _ _ _ _ (@o_addD _) (@q_v2 _ _ 1 _ (by exact⟨rfl,rfl,rfl,rfl⟩)) (@q_int _ _ _ _)) (@qa_nil _) (by rfl)) (by rfl)) (fun _ _ _=>(@qg_name _ _ 0 _ Eh (by rfl) (by exact .inl rfl) (by exact .inr rfl))) (fun _ _ _=>(@qf_one _ _ _ (@qt_tru _ _ _ (@q_call _ _ _ _ _ _ _ _ noX _ _ _ Ahx (hr.mono (by decide)) (@passN _ _) (@qa_consP _ _ _ _ _ (@q_v2 _ _ 1 _ (by exact⟨rfl,rfl,rfl,rfl⟩)) (@qa_consP _ _ _ _ _ (@q_v1 _ _ 0 _ (by exact⟨rfl,rfl,rfl,rfl⟩)) (@qa_consP _ _ _ _ _ (@q_v2 _ _ 2 _ (by exact⟨rfl,rfl,rfl,rfl⟩)) (@qa_nil _) (by rfl)) (by rfl)) (by rfl)) (by rfl) (by decide) (by rfl) (by rfl)) (by intro _ ;rfl)))) (fun _ _ _=>(@q_v1 _ _ 0 _ (by exact⟨rfl,rfl,rfl,rfl⟩))) (by rfl) (by rfl) (by rfl) (by intro _ ;rfl)) (by rfl) (by rfl)))),?_⟩
  simp only[Bc,Abl,Ge,Aj,nC,nOp,Am,Ah,List.map_cons,List.map_nil,List.length_cons,List.length_nil,Nat.zero_add,Nat.reduceAdd,Nat.reduceSub,List.replicate,List.cons_append,List.nil_append,List.getElem?_cons_succ,List.getElem?_cons_zero,Option.some.injEq,Aq,List.cons.injEq,D.int.injEq,and_true,Int.reducePow,Int.reduceNeg,and_assoc,exists_and_left,exists_eq_left',Int.reduceLE,Int.reduceLT,true_and,Bl]
  refine⟨by omega,by omega,fun p hp=>?_⟩
  obtain⟨b,rfl⟩:=Int.eq_ofNat_of_zero_le (show 0≤b by omega)
  have e1:D3.C6 1 ((b:Int)+1)=(ivl 1 b).map D.int:=by
   unfold D3.C6 ivl
   rw[List.map_map,show((b:Int)+1-1).toNat=b by omega];rfl
  rw[e1]
  have hz:((ivl 1 b).map D.int).length<sizeLine:=by rw[List.length_map,M8,sizeLine_eq];omega
  refine Ay (fun x=>x) (fun x=>Dm (Ao ws t) (Ap s d ws t) b (A5 x)) hz (fun _=>trivial) (by decide) (fun x ys hx hl' R1 R2 g1 g2=>?_) ?_
  ·obtain⟨a,ha,rfl⟩:=List.mem_map.mp hx
   have ha:=mem_ivl.mp ha
   simp only[C0,Ar,Aj,Am,List.replicate,List.cons_append,List.nil_append,List.set_cons_zero,List.getElem?_cons_succ,List.getElem?_cons_zero,Option.some.injEq,Aq,hl',true_and,exists_eq_left']
   refine⟨l,s,d,ws,t,a,b,rfl,Bb hl hp,by omega,by omega,bn,_,rfl,?_⟩
   cases z:Dm (Ao ws t) (Ap s d ws t) b a with
   |true=>exact it0 rfl ⟨Aa,by rw[As];exact Fg.of (g1 z)⟩
   |false=>exact it1 (by decide) (Fg.of (g2 z))
  ·have e2:(((ivl 1 b).map D.int).filter fun x=>Dm (Ao ws t) (Ap s d ws t) b (A5 x)).map (fun x=>x)=(D9 (Ao ws t) (Ap s d ws t) b).map D.int:=by
    rw[List.map_id',List.filter_map];rfl
   rw[e2]
   refine⟨p,rfl,_,Aa,fun e0=>⟨G,Sub.new hp,?_⟩,fun M h1 h2=>⟨G,Sub.new hp,?_⟩⟩
   ·unfold Bo at k;rw[e0] at k;exact k
   ·unfold Bo at k;rw[Ka Du h1 h2] at k;exact k
def A9(m e:Nat→Int)(n:Nat):D→Bool
 |.tup [.int a,.int b]=>decide (1≤b)&&decide (b≤(n:Int)-1)&&decide (1≤a)&&decide (a≤b)&&decide (Bo m e b=some a)
 |_=>false
theorem Pg{m e:Nat→Int}{n:Nat}{u v:D}:A9 m e n (.tup [u,v])=(A8 1 ((n:Int)-1) v&&(A8 1 (A5 v) u&&decide (Bo m e (A5 v)=some (A5 u)))):=by
 cases v with
 |int b=>
  cases u with
  |int a=>
   show(decide (1≤b)&&decide (b≤(n:Int)-1)&&decide (1≤a)&&decide (a≤b)&&decide (Bo m e b=some a))=((decide (1≤b)&&decide (b≤(n:Int)-1))&&((decide (1≤a)&&decide (a≤b))&&decide (Bo m e b=some a)))
   simp only[Bool.and_assoc]
  |_=>simp[A9,A8]
 |_=>cases u<;>simp[A9,A8]
theorem Ik{m e:Nat→Int}{n:Nat}{x:D}(h:∀u v,x≠.tup [u,v]):A9 m e n x=false:=by
 unfold A9
 split
 ·rename_i a b;exact absurd rfl (h (.int a) (.int b))
 ·rfl
theorem L3{lo hi:Int}{x:D}(h:A8 lo hi x=true):∃i,x=.int i∧lo≤i∧i≤hi:=by
 cases x with
 |int i=>simp[A8] at h;exact⟨i,rfl,h⟩
 |_=>exact absurd (show false=true from h) Bool.false_ne_true
abbrev s_is_stretch:Stmt:=top 101
abbrev Nv:List Str:=["lane", "thing", "start", "end"]
abbrev B2:List Str:=["lane", "thing"]
theorem sc_is_stretch:FnScope Nv B2 (defScope s_is_stretch):=⟨rfl,rfl,rfl,by decide +kernel,rfl,by decide +kernel,by decide +kernel⟩
def Hc:DSp:=fun ds G Q _=>∃l s h d ws t x,ds=[.ref l,x]∧FairOk s h d ws∧LaneAt G l s d ws t∧KnT G 1 x∧Q (.bl (A9 (Ao ws t) (Ap s d ws t) s.length x)) G
theorem Rc{f:Addr}{fd:FuncData}(F:Fun K "is_stretch" "is_stretch" s_is_stretch f fd)(T:Sz P w K mg C aS)(Agw:Def P w K mg base CX0 1 "is_whole_within" p_is_whole_within spWhole)(Ag2:Def P w K mg base CX0 2 "start_of_stretch" p_start_of_stretch spStart):FnOk P w K mg base CX0 3 f fd B2 (liftSp K Hc):=by
 refine okD F sc_is_stretch (fun ds G Q E h=>?_) (fun cdv A outer s H XE ds G Q E hr h=>?_)
 ·obtain⟨_,_,_,_,_,_,_,rfl,_⟩:=h;rfl
 ·obtain⟨l,s,h,d,ws,t,x,rfl,ok,hl,kn,k⟩:=h
  have hw:=ok.sea.wide
  obtain⟨ty,ht⟩:=kn.kn
  refine⟨_,(@qss_cons _ _ _ _ _ (@qs_if _ _ _ _ _ _ _ _ (@qt_of _ _ _ (@Dt _ _ _ _ _ _ _ (@qt_not _ _ _ _ (@qt_tru _ _ _ (@q_callB _ _ _ _ _ _ _ _ _ (@c_isinst _) (T.blt (by decide)) (by decide +kernel) (@qa_consP _ _ _ _ _ (@q_v1 _ _ 1 _ (by exact⟨rfl,rfl,rfl,rfl⟩)) (@qa_consP _ _ _ _ _ (@q_globty _ _ _ "tuple" (T.blt (by decide)) (by decide +kernel) (by rfl) (by decide) (by decide)) (@qa_nil _) (by rfl)) (by rfl)) (by rfl) (by decide) (by decide) (by rfl) (by rfl)) (by intro _ ;rfl))) (@qw_or1 _ _ _ _ (@qt_cmp _ _ _ _ _ _ _ _ (@o_ne _) (@q_callB _ _ _ _ _ _ _ _ _ (@c_len _) (T.blt (by decide)) (by decide +kernel) (@qa_consP _ _ _ _ _ (@q_v1 _ _ 1 _ (by exact⟨rfl,rfl,rfl,rfl⟩)) (@qa_nil _) (by rfl)) (by rfl) (by decide) (by decide) (by rfl) (by rfl)) (@q_int _ _ _ _) (nomark _))))) (@qss_one _ _ _ (@qs_ret _ _ _ _ (@q_bl _ _ _ _))) (@qss_nil _)) (@qss_cons _ _ _ _ _ (@Dn _ _ _ _ _ _ (@q_v1 _ _ 1 _ (by exact⟨rfl,rfl,rfl,rfl⟩)) (@qg_tup _ _ _ _ _ 2 rfl (@qgs_cons _ _ _ _ _ (@qg_name _ _ 2 _ sc_is_stretch.nd (by rfl) (by exact .inl rfl) (by exact .inl rfl)) (@qgs_cons _ _ _ _ _ (@qg_name _ _ 3 _ sc_is_stretch.nd (by rfl) (by exact .inl rfl) (by exact .inl rfl)) (@qgs_nil _) (by rfl)) (by rfl)) (by rfl) (by rfl)) (by rfl) (by rfl) (by rfl)) (@qss_cons _ _ _ _ _ (@qs_if _ _ _ _ _ _ _ _ (@qt_of _ _ _ (@Dt _ _ _ _ _ _ _ (@qt_not _ _ _ _ (@qt_tru _ _ _ (@q_call _ _ _ _ _ _ _ _ noX _ _ _ Agw (hr.mono (by decide)) (@passN _ _) (@qa_consP _ _ _ _ _ (@q_v1 _ _ 3 _ (by exact⟨rfl,rfl,rfl,rfl⟩)) (@qa_consP _ _ _ _ _ (@q_int _ _ _ _) (@qa_consP _ _ _ _ _ (@q_op _ _ _ _ _ _ _ _ (@C8 _) (@q_callB _ _ _ _ _ _ _ _ _ (@c_len _) (T.blt (by decide)) (by decide +kernel) (@qa_consP _ _ _ _ _ (@q_v1 _ _ 0 _ (by exact⟨rfl,rfl,rfl,rfl⟩)) (@qa_nil _) (by rfl)) (by rfl) (by decide) (by decide) (by rfl) (by rfl)) (@q_int _ _ _ _)) (@qa_nil _) (by rfl)) (by rfl)) (by rfl)) (by rfl) (by decide) (by rfl) (by rfl)) (by intro _ ;rfl))) (@qw_or1 _ _ _ _ (@qt_not _ _ _ _ (@qt_tru _ _ _ (@q_call _ _ _ _ _ _ _ _ noX _ _ _ Agw (hr.mono (by decide)) (@passN _ _) (@qa_consP _ _ _ _ _ (@q_v1 _ _ 2 _ (by exact⟨rfl,rfl,rfl,rfl⟩)) (@qa_consP _ _ _ _ _ (@q_int _ _ _ _) (@qa_consP _ _ _ _ _ (@q_v1 _ _ 3 _ (by exact⟨rfl,rfl,rfl,rfl⟩)) (@qa_nil _) (by rfl)) (by rfl)) (by rfl)) (by rfl) (by decide) (by rfl) (by rfl)) (by intro _ ;rfl)))))) (@qss_one _ _ _ (@qs_ret _ _ _ _ (@q_bl _ _ _ _))) (@qss_nil _)) (@qss_one _ _ _ (@qs_ret _ _ _ _ (@q_cmp _ _ _ _ _ _ _ _ (@o_eq _) (@q_v1 _ _ 2 _ (by exact⟨rfl,rfl,rfl,rfl⟩)) (@q_call _ _ _ _ _ _ _ _ noX _ _ _ Ag2 (hr.mono (by decide)) (@passN _ _) (@qa_consP _ _ _ _ _ (@q_v1 _ _ 0 _ (by exact⟨rfl,rfl,rfl,rfl⟩)) (@qa_consP _ _ _ _ _ (@q_v1 _ _ 3 _ (by exact⟨rfl,rfl,rfl,rfl⟩)) (@qa_nil _) (by rfl)) (by rfl)) (by rfl) (by decide) (by rfl) (by rfl)) (nomark _))))))),?_⟩
  simp only[Bj,Cq,nOr,Dh,C0,nCB,Aj,Am,Ah,List.map_cons,List.map_nil,List.length_cons,List.length_nil,Nat.zero_add,Nat.reduceAdd,Nat.reduceSub,List.replicate,List.cons_append,List.nil_append,List.getElem?_cons_succ,List.getElem?_cons_zero,Option.some.injEq,nC,Aq,List.cons.injEq,D.ty.injEq,and_true,Bc,Bm,Br,Fb,C9,Aw,Fc,Ar,List.set_cons_succ,List.set_cons_zero,nOp,dI0,D.int.injEq,dEq,eqS,exists_eq_left',if_true,Bw,dNe,D.bl.injEq,and_assoc,exists_and_left,Dr,true_and,ht]
  refine⟨pyIs ty "tuple",rfl,?_⟩
  by_cases htt:ty = "tuple"
  ·subst htt
   obtain⟨xs,rfl⟩:=Ms ht
   refine it1 (by decide) ⟨xs.length,rfl,?_⟩
   by_cases h2:xs.length=2
   ·obtain⟨u,v,rfl⟩:∃u v,xs=[u,v]:=by
     match xs,h2 with
     |[u,v],_=>exact⟨u,v,rfl⟩
    have ku:Kn G u:=kn.2 _ rfl u (by simp)
    have kv:Kn G v:=kn.2 _ rfl v (by simp)
    refine it1 (by simp) ⟨_,rfl,rfl,_,_,rfl,_,_,rfl,rfl,s.length,by rw[Jr hl,Gh],v,1,_,rfl,kv,_,rfl,?_⟩
    rw[Pg] at k
    cases z:A8 1 ((s.length:Int)-1) v with
    |false=>rw[z] at k;exact it0 rfl (Fq.of k)
    |true=>
     rw[z,Bool.true_and] at k
     obtain⟨b,rfl,b1,bn⟩:=L3 z
     refine it1 (by decide) ⟨u,1,b,rfl,ku,_,rfl,?_⟩
     cases z2:A8 1 b u with
     |false=>rw[show A8 1 (A5 (.int b)) u=false from z2] at k;exact it0 rfl (Fq.of k)
     |true=>
      rw[show A8 1 (A5 (.int b)) u=true from z2,Bool.true_and] at k
      obtain⟨a,rfl,a1,ab⟩:=L3 z2
      refine it1 (by decide) ⟨l,s,h,d,ws,t,b,rfl,ok,hl,b1,by omega,?_⟩
      cases z3:Bo (Ao ws t) (Ap s d ws t) b with
      |none=>
       rw[show Bo (Ao ws t) (Ap s d ws t) (A5 (.int b))=none from z3] at k
       exact⟨false,rfl,Fq.of k⟩
      |some c=>
       rw[show Bo (Ao ws t) (Ap s d ws t) (A5 (.int b))=some c from z3] at k
       refine⟨decide (a=c),rfl,Fq.of ?_⟩
       have:decide (some c=some (A5 (.int a)))=decide (a=c):=by
        rw[decide_eq_decide]
        exact⟨fun e=>(Option.some.inj e).symm,fun e=>by rw[e];rfl⟩
       rw[this] at k;exact k
   ·refine it0 (by simp;omega) (Fq.of ?_)
    rw[Ik (fun u v e=>by cases e;exact h2 rfl)] at k;exact k
  ·obtain⟨e,nt⟩:=Jo ht htt
   rw[e]
   refine it0 (by decide) (Fq.of ?_)
   rw[Ik (fun u v=>nt _)] at k;exact k
end
end K2
set_option maxRecDepth 100000
set_option maxHeartbeats 4000000
namespace K2
open PySem L2 D3
section
variable{P:Program}{w:World}{K:W.Frag}{mg:Str→Option Value}{base:Heap}{C T0 aS:Addr}
def Do:D→Bool
 |.tup [.tup [_,.int b],.tup [.int a,_]]=>decide (b<a)
 |_=>false
def Wj(m e:Nat→Int)(n:Nat):D→Bool
 |.tup xs=>xs.all (A9 m e n)&&(Bx [xs,xs.drop 1]).all Do
 |_=>false
theorem Q3{m e:Nat→Int}{n:Nat}{x:D}(h:A9 m e n x=true):∃a b,x=.tup [.int a,.int b]:=by
 unfold A9 at h
 split at h
 ·exact⟨_,_,rfl⟩
 ·cases h
abbrev s_is_paper:Stmt:=top 102
abbrev R7:List Str:=["sea", "draught", "fairway", "side", "thing", "lane"]
abbrev p_is_paper:List Str:=["sea", "draught", "fairway", "side", "thing"]
theorem sc_is_paper:FnScope R7 p_is_paper (defScope s_is_paper):=⟨rfl,rfl,rfl,by decide +kernel,rfl,by decide +kernel,by decide +kernel⟩
theorem nd_is_paper_1:((["stretch"]:List Str)++(["sea", "draught", "fairway", "side", "thing", "lane"]:List Str)).Nodup:=by decide +kernel
theorem Fk:((["ahead", "stretch"]:List Str)++(["sea", "draught", "fairway", "side", "thing", "lane"]:List Str)).Nodup:=by decide +kernel
def spPaper(T0:Addr)(q:Str):DSp:=fun ds G Q _=>∃s h d ws u x,ds=[seaD s,.int d,Ai ws,.str (Ad u).1,x]∧FairOk s h d ws∧G T0=some (.tbl q)∧KnT G 2 x∧(∀xs,x=.tup xs→xs.length<sizeLine)∧Q (.bl (Wj (Ao ws (Ad u).2) (Ap s d ws (Ad u).2) s.length x)) G
theorem X6{f:Addr}{fd:FuncData}{q:Str}(F:Fun K "is_paper" "is_paper" s_is_paper f fd)(T:Sz P w K mg C aS)(Agx:Def P w K mg base CX0 11 "lane_of" p_lane_of (spLane T0 q))(Ahy:Def P w K mg base CX0 3 "is_stretch" B2 Hc):FnOk P w K mg base CX0 12 f fd p_is_paper (liftSp K (spPaper T0 q)):=by
 refine okD F sc_is_paper (fun ds G Q E h=>?_) (fun cdv A outer s H XE ds G Q E hr h=>?_)
 ·obtain⟨_,_,_,_,_,_,rfl,_⟩:=h;rfl
 ·obtain⟨s,h,d,ws,u,x,rfl,ok,hT,kn,hz,k⟩:=h
  refine⟨_,(@qss_cons _ _ _ _ _ (@qs_set _ _ _ _ 5 _ _ sc_is_paper.nd (@q_call _ _ _ _ _ _ _ _ noX _ _ _ Agx (hr.mono (by decide)) (@passN _ _) (@qa_consP _ _ _ _ _ (@q_v1 _ _ 0 _ (by exact⟨rfl,rfl,rfl,rfl⟩)) (@qa_consP _ _ _ _ _ (@q_v1 _ _ 1 _ (by exact⟨rfl,rfl,rfl,rfl⟩)) (@qa_consP _ _ _ _ _ (@q_v1 _ _ 2 _ (by exact⟨rfl,rfl,rfl,rfl⟩)) (@qa_consP _ _ _ _ _ (@q_v1 _ _ 3 _ (by exact⟨rfl,rfl,rfl,rfl⟩)) (@qa_nil _) (by rfl)) (by rfl)) (by rfl)) (by rfl)) (by rfl) (by decide) (by rfl) (by rfl)) (by rfl) (by exact .inr rfl) (by rfl) (by exact .inl rfl)) (@qss_cons _ _ _ _ _ (@qs_if _ _ _ _ _ _ _ _ (@qt_of _ _ _ (@Dt _ _ _ _ _ _ _ (@qt_not _ _ _ _ (@qt_tru _ _ _ (@q_callB _ _ _ _ _ _ _ _ _ (@c_isinst _) (T.blt (by decide)) (by decide +kernel) (@qa_consP _ _ _ _ _ (@q_v1 _ _ 4 _ (by exact⟨rfl,rfl,rfl,rfl⟩)) (@qa_consP _ _ _ _ _ (@q_globty _ _ _ "tuple" (T.blt (by decide)) (by decide +kernel) (by rfl) (by decide) (by decide)) (@qa_nil _) (by rfl)) (by rfl)) (by rfl) (by decide) (by decide) (by rfl) (by rfl)) (by intro _ ;rfl))) (@qw_or1 _ _ _ _ (@qt_not _ _ _ _ (@qt_tru _ _ _ (@q_callB _ _ _ _ _ _ _ _ _ (@c_all _ rfl) (T.blt (by decide)) (by decide +kernel) (@qa_consP _ _ _ _ _ (@q_compz _ _ _ _ _ _ _ _ _ _ _ ["stretch"] ["sea", "draught", "fairway", "side", "thing", "lane"] rfl (@compOz _ _ _ _ (by rfl) (by rfl) (by rfl) (by rfl) (by rfl)) (@q_v1 _ _ 4 _ (by exact⟨rfl,rfl,rfl,rfl⟩)) (fun _ _ _=>(@qg_name _ _ 0 _ nd_is_paper_1 (by rfl) (by exact .inl rfl) (by exact .inr rfl))) (fun _ _ _=>(@qf_nil _)) (fun _ _ _=>(@q_call _ _ _ _ _ _ _ _ noX _ _ _ Ahy (hr.mono (by decide)) (@passN _ _) (@qa_consP _ _ _ _ _ (@q_v2 _ _ 6 _ (by exact⟨rfl,rfl,rfl,rfl⟩)) (@qa_consP _ _ _ _ _ (@q_v1 _ _ 0 _ (by exact⟨rfl,rfl,rfl,rfl⟩)) (@qa_nil _) (by rfl)) (by rfl)) (by rfl) (by decide) (by rfl) (by rfl))) (by intro _ ;rfl)) (@qa_nil _) (by rfl)) (by rfl) (by decide) (by decide) (by rfl) (by rfl)) (by intro _ ;rfl)))))) (@qss_one _ _ _ (@qs_ret _ _ _ _ (@q_bl _ _ _ _))) (@qss_nil _)) (@qss_one _ _ _ (@qs_ret _ _ _ _ (@q_callB _ _ _ _ _ _ _ _ _ (@c_all _ rfl) (T.blt (by decide)) (by decide +kernel) (@qa_consP _ _ _ _ _ (@q_compzZ2 _ _ _ _ _ _ _ _ ["ahead", "stretch"] ["sea", "draught", "fairway", "side", "thing", "lane"] _ _ _ _ _ _ _ _ rfl (@compOz _ _ _ _ (by rfl) (by rfl) (by rfl) (by rfl) (by rfl)) (T.blt (by decide)) (@qa_consP _ _ _ _ _ (@q_v1 _ _ 4 _ (by exact⟨rfl,rfl,rfl,rfl⟩)) (@qa_consP _ _ _ _ _ (@F4 _ _ _ _ _ _ _ _ _ (@q_v1 _ _ 4 _ (by exact⟨rfl,rfl,rfl,rfl⟩)) (@F2 _ _ _ (@q_int _ _ _ _)) (@F3 _)) (@qa_nil _) (by rfl)) (by rfl)) (fun _ _ _=>(@qg_tup _ _ _ _ _ 2 rfl (@qgs_cons _ _ _ _ _ (@qg_name _ _ 0 _ Fk (by rfl) (by exact .inl rfl) (by exact .inr rfl)) (@qgs_cons _ _ _ _ _ (@qg_name _ _ 1 _ Fk (by rfl) (by exact .inl rfl) (by exact .inr rfl)) (@qgs_nil _) (by rfl)) (by rfl)) (by rfl) (by rfl))) (fun _ _ _=>(@qf_nil _)) (fun _ _ _=>(@q_cmp _ _ _ _ _ _ _ _ (@o_lt _) (@C4 _ _ _ _ _ _ (@q_v1 _ _ 0 _ (by exact⟨rfl,rfl,rfl,rfl⟩)) (@q_int _ _ _ _) (by intro _ _ ;rfl)) (@C4 _ _ _ _ _ _ (@q_v1 _ _ 1 _ (by exact⟨rfl,rfl,rfl,rfl⟩)) (@q_int _ _ _ _) (by intro _ _ ;rfl)) (nomark _))) (by rfl) (by rfl) (by rfl) (by intro _ ;rfl)) (@qa_nil _) (by rfl)) (by rfl) (by decide) (by decide) (by rfl) (by rfl)))))),?_⟩
  simp only[Bj,Br,Ar,Aj,Am,Ah,List.map_cons,List.map_nil,List.length_cons,List.length_nil,Nat.zero_add,Nat.reduceAdd,Nat.reduceSub,List.replicate,List.cons_append,List.nil_append,List.getElem?_cons_zero,Option.some.injEq,List.getElem?_cons_succ,Aq,Aw,Cq,nOr,Dh,C0,nCB,List.set_cons_succ,List.set_cons_zero,nC,List.cons.injEq,D.ty.injEq,and_true,Bc,Bm,F6,nSl,N9,D.int.injEq,F5,true_and,exists_eq_left',if_true,C5,and_assoc,exists_and_left,Dr]
  refine⟨s,h,d,ws,u,rfl,ok,hT,fun l hl=>?_⟩
  have sb1:Sub G (Ab G l (.lst (B6 s d ws (Ad u).2))):=Sub.new hl
  have vl:LaneAt (Ab G l (.lst (B6 s d ws (Ad u).2))) l s d ws (Ad u).2:=Aa
  have kn1:KnT (Ab G l (.lst (B6 s d ws (Ad u).2))) 2 x:=KnT.new hl kn
  generalize Ab G l (.lst (B6 s d ws (Ad u).2))=G1 at *
  generalize (Ad u).2=t at *
  obtain⟨ty,ht⟩:=kn1.kn
  refine⟨ty,ht,pyIs ty "tuple",rfl,?_⟩
  by_cases htt:ty = "tuple"
  ·subst htt
   obtain⟨xs,rfl⟩:=Ms ht
   have k2:Q (.bl (xs.all (A9 (Ao ws t) (Ap s d ws t) s.length)&&(Bx [xs,xs.drop 1]).all Do)) G:=k
   have hz1:=hz xs rfl
   refine it1 (by decide) ⟨xs,rfl,fun p hp=>?_⟩
   refine Ay (fun x=>.bl (A9 (Ao ws t) (Ap s d ws t) s.length x)) (fun _=>true) hz1 (fun _=>rfl) (by decide) (fun x ys hx hl' R1 R2 g1 _=>?_) ?_
   ·have kx:KnT (Ab G1 p (.lst ys)) 1 x:=KnT.new hp (kn1.2 xs rfl x hx)
    simp only[Co,Ar,Aj,Am,List.replicate,List.cons_append,List.nil_append,List.set_cons_zero,List.getElem?_cons_succ,List.getElem?_cons_zero,Option.some.injEq,Aq,hl',true_and,exists_eq_left',if_true]
    exact⟨l,s,h,d,ws,t,x,rfl,ok,Bb vl hp,kx,Aa,by rw[As];exact Fg.of (g1 rfl)⟩
   ·refine⟨p,rfl,xs.map (A9 (Ao ws t) (Ap s d ws t) s.length),by rw[Aa,Bd,List.map_map];rfl,?_⟩
    have ea:(xs.map (A9 (Ao ws t) (Ap s d ws t) s.length)).all id=xs.all (A9 (Ao ws t) (Ap s d ws t) s.length):=by simp[List.all_map]
    refine⟨_,rfl,?_⟩
    rw[ea]
    cases hc:xs.all (A9 (Ao ws t) (Ap s d ws t) s.length) with
    |false=>
     rw[hc] at k2
     exact it0 rfl ⟨G,sb1.trans (Sub.new hp),by simpa using k2⟩
    |true=>
     rw[hc] at k2
     have allI:∀x∈xs,∃a b,x=.tup [.int a,.int b]:=fun x hx=>Q3 (List.all_eq_true.mp hc x hx)
     refine it1 (by decide) ?_
     rw[F1,Qx]
     have sg:Sub G (Ab G1 p (.lst ((xs.filter fun _=>true).map fun x=>.bl (A9 (Ao ws t) (Ap s d ws t) s.length x)))):=sb1.trans (Sub.new hp)
     generalize Ab G1 p (.lst ((xs.filter fun _=>true).map fun x=>.bl (A9 (Ao ws t) (Ap s d ws t) s.length x)))=G2 at *
     refine⟨[xs,xs.drop 1],rfl,fun p2 hp2=>?_⟩
     have hzl:(Bx [xs,xs.drop 1]).length<sizeLine:=by
      rw[Ci]
      refine Nat.lt_of_le_of_lt ?_ hz1
      simp only[Di];omega
     generalize (Ad u).1=sn at *
     refine Et (fun z=>match z with|.tup [u,v]=>[some u,some v,some (seaD s),some (.int d),some (Ai ws),some (.str sn),some (.tup xs),some (.ref l)]|_=>[none,none,some (seaD s),some (.int d),some (Ai ws),some (.str sn),some (.tup xs),some (.ref l)]) (fun z=>.bl (Do z)) (fun _=>true) hzl (fun _=>rfl) (fun z hz=>?_) (fun z ys hzm hl' R1 R2 g1 _=>?_) ?_
     ·obtain⟨u,v,rfl,_,_⟩:=Da hz
      refine⟨⟨[some u,some v],rfl,rfl⟩,fun G' R h=>?_⟩
      simp only[Fb,D.tup.injEq,C9,Aw,Fc,List.replicate,List.cons_append,List.nil_append,List.set_cons_zero,List.set_cons_succ,exists_eq_left',List.length_cons,List.length_nil,Nat.zero_add,Nat.reduceAdd,List.cons.injEq,and_assoc,exists_and_left,true_and]
      exact h
     ·obtain⟨u,v,rfl,hu,hv⟩:=Da hzm
      obtain⟨a1,b1,rfl⟩:=allI u hu
      obtain⟨a2,b2,rfl⟩:=allI v (List.mem_of_mem_drop hv)
      simp only[Co,nOp,Am,List.getElem?_cons_zero,Option.some.injEq,nC,dIx,D.int.injEq,List.getElem?_cons_succ,dI0,Aa,hl',As,true_and,exists_eq_left',Kc,Zc,atI1,if_true]
      exact Fg.of (g1 rfl)
     ·refine⟨p2,rfl,(Bx [xs,xs.drop 1]).map Do,by rw[Aa,Bd,List.map_map];rfl,?_⟩
      have e2:((Bx [xs,xs.drop 1]).map Do).all id=(Bx [xs,xs.drop 1]).all Do:=by simp[List.all_map]
      rw[e2]
      exact⟨G,sg.skip hp2,by simpa using k2⟩
  ·obtain⟨e,nt⟩:=Jo ht htt
   rw[e]
   refine it0 (by decide) ⟨G,sb1,?_⟩
   cases x with
   |tup xs=>exact absurd rfl (nt xs)
   |_=>exact k
abbrev s_paper_of:Stmt:=top 103
abbrev R5:List Str:=["sea", "draught", "fairway", "side", "lane"]
abbrev Ct:List Str:=["sea", "draught", "fairway", "side"]
theorem sc_paper_of:FnScope R5 Ct (defScope s_paper_of):=⟨rfl,rfl,rfl,by decide +kernel,rfl,by decide +kernel,by decide +kernel⟩
theorem Lf:((["column"]:List Str)++(["sea", "draught", "fairway", "side", "lane"]:List Str)).Nodup:=by decide +kernel
def Bg(m e:Nat→Int)(c:Int):D:=.tup [optD (Bo m e c),.int c]
def Hd(T0:Addr)(q:Str):DSp:=fun ds G Q _=>∃s h d ws u,ds=[seaD s,.int d,Ai ws,.str (Ad u).1]∧FairOk s h d ws∧G T0=some (.tbl q)∧Q (.tup ((Ac (Ao ws (Ad u).2) (Ap s d ws (Ad u).2) (s.length-1)).2.map (Bg (Ao ws (Ad u).2) (Ap s d ws (Ad u).2)))) G
theorem Re{f:Addr}{fd:FuncData}{q:Str}(F:Fun K "paper_of" "paper_of" s_paper_of f fd)(T:Sz P w K mg C aS)(Agx:Def P w K mg base CX0 11 "lane_of" p_lane_of (spLane T0 q))(Ag2:Def P w K mg base CX0 2 "start_of_stretch" p_start_of_stretch spStart)(Ag1:Def P w K mg base CX0 1 "columns_wanted" Ba Gb):FnOk P w K mg base CX0 12 f fd Ct (liftSp K (Hd T0 q)):=by
 refine okD F sc_paper_of (fun ds G Q E h=>?_) (fun cdv A outer s H XE ds G Q E hr h=>?_)
 ·obtain⟨_,_,_,_,_,rfl,_⟩:=h;rfl
 ·obtain⟨s,h,d,ws,u,rfl,ok,hT,k⟩:=h
  have hw:=ok.sea.wide
  refine⟨_,(@qss_cons _ _ _ _ _ (@qs_set _ _ _ _ 4 _ _ sc_paper_of.nd (@q_call _ _ _ _ _ _ _ _ noX _ _ _ Agx (hr.mono (by decide)) (@passN _ _) (@qa_consP _ _ _ _ _ (@q_v1 _ _ 0 _ (by exact⟨rfl,rfl,rfl,rfl⟩)) (@qa_consP _ _ _ _ _ (@q_v1 _ _ 1 _ (by exact⟨rfl,rfl,rfl,rfl⟩)) (@qa_consP _ _ _ _ _ (@q_v1 _ _ 2 _ (by exact⟨rfl,rfl,rfl,rfl⟩)) (@qa_consP _ _ _ _ _ (@q_v1 _ _ 3 _ (by exact⟨rfl,rfl,rfl,rfl⟩)) (@qa_nil _) (by rfl)) (by rfl)) (by rfl)) (by rfl)) (by rfl) (by decide) (by rfl) (by rfl)) (by rfl) (by exact .inr rfl) (by rfl) (by exact .inl rfl)) (@qss_one _ _ _ (@qs_ret _ _ _ _ (@q_callTy _ _ _ _ _ _ _ _ _ (@c_tuple _) (T.blt (by decide)) (by decide +kernel) (@qa_consP _ _ _ _ _ (@q_compz _ _ _ _ _ _ _ _ _ _ _ ["column"] ["sea", "draught", "fairway", "side", "lane"] rfl (@compOz _ _ _ _ (by rfl) (by rfl) (by rfl) (by rfl) (by rfl)) (@q_call _ _ _ _ _ _ _ _ noX _ _ _ Ag1 (hr.mono (by decide)) (@passN _ _) (@qa_consP _ _ _ _ _ (@q_v2 _ _ 4 _ (by exact⟨rfl,rfl,rfl,rfl⟩)) (@qa_nil _) (by rfl)) (by rfl) (by decide) (by rfl) (by rfl)) (fun _ _ _=>(@qg_name _ _ 0 _ Lf (by rfl) (by exact .inl rfl) (by exact .inr rfl))) (fun _ _ _=>(@qf_nil _)) (fun _ _ _=>(@Ie _ _ _ _ _ (@qa_consP _ _ _ _ _ (@q_call _ _ _ _ _ _ _ _ noX _ _ _ Ag2 (hr.mono (by decide)) (@passN _ _) (@qa_consP _ _ _ _ _ (@q_v2 _ _ 5 _ (by exact⟨rfl,rfl,rfl,rfl⟩)) (@qa_consP _ _ _ _ _ (@q_v1 _ _ 0 _ (by exact⟨rfl,rfl,rfl,rfl⟩)) (@qa_nil _) (by rfl)) (by rfl)) (by rfl) (by decide) (by rfl) (by rfl)) (@qa_consP _ _ _ _ _ (@q_v1 _ _ 0 _ (by exact⟨rfl,rfl,rfl,rfl⟩)) (@qa_nil _) (by rfl)) (by rfl)))) (by intro _ ;rfl)) (@qa_nil _) (by rfl)) (by rfl) (by decide) (by decide) (by rfl) (by rfl))))),?_⟩
  simp only[Bj,Br,Ar,Aj,Am,Ah,List.map_cons,List.map_nil,List.length_cons,List.length_nil,Nat.zero_add,Nat.reduceAdd,Nat.reduceSub,List.replicate,List.cons_append,List.nil_append,List.getElem?_cons_zero,Option.some.injEq,List.getElem?_cons_succ,Aq,Aw,Bc,nCB,C5,List.set_cons_succ,List.set_cons_zero,List.cons.injEq,and_true,exists_eq_left']
  refine⟨s,h,d,ws,u,rfl,ok,hT,fun l hl=>⟨l,s,h,d,ws,_,rfl,ok,Aa,fun p hp=>?_⟩⟩
  have sb2:Sub G (Ab (Ab G l (.lst (B6 s d ws (Ad u).2))) p (.lst ((Ac (Ao ws (Ad u).2) (Ap s d ws (Ad u).2) (s.length-1)).2.map D.int))):=(Sub.new hl).trans (Sub.new hp)
  have vl:LaneAt (Ab (Ab G l (.lst (B6 s d ws (Ad u).2))) p (.lst ((Ac (Ao ws (Ad u).2) (Ap s d ws (Ad u).2) (s.length-1)).2.map D.int))) l s d ws (Ad u).2:=Bb Aa hp
  have vp:Ab (Ab G l (.lst (B6 s d ws (Ad u).2))) p (.lst ((Ac (Ao ws (Ad u).2) (Ap s d ws (Ad u).2) (s.length-1)).2.map D.int)) p=some (.lst ((Ac (Ao ws (Ad u).2) (Ap s d ws (Ad u).2) (s.length-1)).2.map D.int)):=Aa
  generalize Ab (Ab G l (.lst (B6 s d ws (Ad u).2))) p (.lst ((Ac (Ao ws (Ad u).2) (Ap s d ws (Ad u).2) (s.length-1)).2.map D.int))=G2 at *
  obtain⟨co,lL⟩:=Hq (m:=Ao ws (Ad u).2) (e:=Ap s d ws (Ad u).2) hw
  generalize (Ac (Ao ws (Ad u).2) (Ap s d ws (Ad u).2) (s.length-1)).2=tL at *
  generalize (Ad u).2=t at *
  refine⟨_,A0 vp,fun p2 hp2=>?_⟩
  have hz:(tL.map D.int).length<sizeLine:=by rw[List.length_map,sizeLine_eq];omega
  refine Ay (fun x=>Bg (Ao ws t) (Ap s d ws t) (A5 x)) (fun _=>true) hz (fun _=>A0 (Bb vp hp2)) (by decide) (fun x ys hx hl' R1 R2 g1 _=>?_) ?_
  ·obtain⟨c,hc,rfl⟩:=List.mem_map.mp hx
   have hc:=co.inn c hc
   simp only[Co,Qe,Aj,Ar,Am,List.replicate,List.cons_append,List.nil_append,List.set_cons_zero,List.getElem?_cons_succ,List.getElem?_cons_zero,Option.some.injEq,Aq,List.length_cons,List.length_nil,Nat.zero_add,Nat.reduceAdd,hl',true_and,exists_eq_left',if_true]
   exact⟨l,s,h,d,ws,t,c,rfl,ok,Bb vl hp2,hc.1,by omega,szl (by decide),Aa,by rw[As];exact Fg.of (g1 rfl)⟩
  ·refine⟨_,A0 Aa,G,sb2.trans (Sub.new hp2),?_⟩
   rw[Bd,List.map_map]
   exact k
end
end K2
set_option maxRecDepth 100000
set_option maxHeartbeats 4000000
namespace K2
open PySem L2 D3
section
variable{P:Program}{w:World}{K:W.Frag}{mg:Str→Option Value}{base:Heap}{C T0 aS:Addr}
theorem L4{m e:Nat→Int}:∀{i:Nat},(Ac m e i).1=m ((Ac m e i).2.getLastD 0).toNat+((i:Int)-(Ac m e i).2.getLastD 0)
 |0=>by simp[Ac]
 |i+1=>by
  have ih:=L4 (m:=m) (e:=e) (i:=i)
  rw[Ac]
  split
  ·show m (i+1)=m (((Ac m e i).2++[((i+1:Nat):Int)]).getLastD 0).toNat+(((i+1:Nat):Int)-((Ac m e i).2++[((i+1:Nat):Int)]).getLastD 0)
   rw[List.getLastD_concat,Int.toNat_natCast];omega
  ·show(Ac m e i).1+1=m ((Ac m e i).2.getLastD 0).toNat+(((i+1:Nat):Int)-(Ac m e i).2.getLastD 0)
   omega
theorem Hh{l:List Int}(h:l.Pairwise (· < ·)):∀x∈l,x≤l.getLastD 0:=fun x hx=>by
 rcases List.eq_nil_or_concat l with rfl|⟨l,y,rfl⟩
 ·cases hx
 ·rw[List.concat_eq_append] at *
  rw[List.getLastD_concat]
  rcases List.mem_append.mp hx with z|z
  ·have:=(List.pairwise_append.mp h).2.2 x z y (by simp);omega
  ·rw[List.mem_singleton.mp z];exact Int.le_refl _
theorem Tb{l:List Int}(h:l≠[]):l.getLastD 0∈l:=by
 rcases List.eq_nil_or_concat l with rfl|⟨l,y,rfl⟩
 ·exact absurd rfl h
 ·rw[List.concat_eq_append,List.getLastD_concat];simp
theorem Aar{m e:Nat→Int}{i:Nat}:0≤(Ac m e i).2.getLastD 0∧(Ac m e i).2.getLastD 0≤i:=by
 by_cases h:(Ac m e i).2=[]
 ·rw[h];exact⟨Int.le_refl _,by show(0:Int)≤i;omega⟩
 ·have:=Cj _ (Tb h);omega
theorem Q4{m e:Nat→Int}{t a:Int}(h1:1≤a)(h2:a≤t)(h:Dm m e t a=true):∃b,Bo m e t=some b∧a≤b∧b≤t∧Dm m e t b=true:=by
 have hm:a∈D9 m e t:=List.mem_filter.mpr ⟨mem_ivl.mpr (by omega),h⟩
 have hne:D9 m e t≠[]:=fun z=>by rw[z] at hm;cases hm
 have hl:=Tb hne
 have hg:Bo m e t=some ((D9 m e t).getLastD 0):=Ka Du hl (Hh Du)
 obtain⟨g1,g2⟩:=List.mem_filter.mp hl
 have:=mem_ivl.mp g1
 exact⟨_,hg,Hh Du a hm,by omega,g2⟩
theorem Xb{m e:Nat→Int}{t a:Int}(h:Bo m e t=some a):1≤a∧a≤t∧Dm m e t a=true:=by
 have:a∈D9 m e t:=List.mem_of_getLast? h
 obtain⟨g1,g2⟩:=List.mem_filter.mp this
 have:=mem_ivl.mp g1
 exact⟨by omega,by omega,g2⟩
theorem Cs{m e:Nat→Int}:∀{n:Nat},∀c∈(Ac m e n).2,∃a,Bo m e c=some a∧1≤a∧a≤c∧∀x∈(Ac m e n).2,x<c→x<a
 |0,c,h=>by simp[Ac] at h
 |n+1,c,h=>by
  by_cases z:(Ac m e n).1+1>e (n+1)
  ·have e2:Ac m e (n+1)=(m (n+1),(Ac m e n).2++[((n+1:Nat):Int)]):=by rw[Ac,if_pos z]
   rw[e2] at h ⊢
   have old:∀x∈(Ac m e n).2++[((n+1:Nat):Int)],x<((n+1:Nat):Int)→x∈(Ac m e n).2:=fun x hx hlt=>by
    rcases List.mem_append.mp hx with y|y
    ·exact y
    ·have:=List.mem_singleton.mp y;omega
   rcases List.mem_append.mp h with y|y
   ·obtain⟨a,h1,h2,h3,h4⟩:=Cs c y
    have:=Cj c y
    exact⟨a,h1,h2,h3,fun x hx hlt=>h4 x (old x hx (by omega)) hlt⟩
   ·have ec:=List.mem_singleton.mp y
    subst ec
    have hl:=L4 (m:=m) (e:=e) (i:=n)
    have hg:=Aar (m:=m) (e:=e) (i:=n)
    have hw:Dm m e ((n+1:Nat):Int) ((Ac m e n).2.getLastD 0+1)=true:=by
     unfold Dm
     rw[Int.toNat_natCast,show(Ac m e n).2.getLastD 0+1-1=(Ac m e n).2.getLastD 0 by omega]
     exact decide_eq_true (by omega)
    obtain⟨b,h1,h2,h3,_⟩:=Q4 (by omega) (by omega) hw
    exact⟨b,h1,by omega,h3,fun x hx hlt=>by have:=Hh wantN_rise x (old x hx hlt);omega⟩
  ·have e2:Ac m e (n+1)=((Ac m e n).1+1,(Ac m e n).2):=by rw[Ac,if_neg z]
   rw[e2] at h ⊢
   exact Cs c h
theorem S2{m:Nat→Int}{cs:List Int}{a:Nat}:∀{k:Nat},(∀x:Int,(a:Int)<x→x≤(a+k:Nat)→x ∉ cs)→By m cs (a+k)=By m cs a+k
 |0,_=>by simp
 |k+1,h=>by
  have ih:=S2 (m:=m) (k:=k) fun x h1 h2=>h x h1 (by omega)
  rw[show a+(k+1)=(a+k)+1 by omega,By,if_neg (h _ (by omega) (by omega)),ih];omega
theorem Ph{m e:Nat→Int}{cs:List Int}{n:Nat}{a b:Int}(hs:∀i,i<n→m (i+1)≤m i+1)(hk:Bv m e cs n=true)(hb:b≤n)(h:Bo m e b=some a):∃c∈cs,a≤c∧c≤b:=by
 obtain⟨a1,ab,hw⟩:=Xb h
 refine Classical.byContradiction fun no=>?_
 have no:∀x:Int,a≤x→x≤b→x ∉ cs:=fun x h1 h2 h3=>no ⟨x,h3,h1,h2⟩
 obtain⟨a',ea⟩:=Int.eq_ofNat_of_zero_le (show 0≤a-1 by omega)
 obtain⟨b',eb⟩:=Int.eq_ofNat_of_zero_le (show 0≤b by omega)
 have r:=S2 (m:=m) (cs:=cs) (a:=a') (k:=b'-a') fun x h1 h2=>no x (by omega) (by omega)
 rw[show a'+(b'-a')=b' by omega] at r
 have h1:=Gf (cs:=cs) hs a' (by omega)
 have h2:=E5 hk (show b'-1<n by omega)
 rw[show b'-1+1=b' by omega] at h2
 unfold Dm at hw
 have hw:=of_decide_eq_true hw
 rw[ea,eb,Int.toNat_natCast,Int.toNat_natCast] at hw
 omega
theorem Oq{m:Nat→Int}{cs ds:List Int}{n:Nat}(hs:∀i,i<n→m (i+1)≤m i+1)(h:∀x∈cs,x∈ds):∀i,i≤n→By m ds i≤By m cs i
 |0,_=>Int.le_refl _
 |i+1,hi=>by
  have ih:=Oq hs h i (by omega)
  have hm:=Gf (cs:=cs) hs (i+1) hi
  rw[By]
  split
  ·exact hm
  ·rename_i z
   rw[By,if_neg fun y=>z (h _ y)];omega
theorem Ro{m e:Nat→Int}{cs ds:List Int}{n:Nat}(hs:∀i,i<n→m (i+1)≤m i+1)(h:∀x∈cs,x∈ds)(hk:Bv m e cs n=true):Bv m e ds n=true:=by
 unfold Bv
 rw[List.all_eq_true]
 intro i hi
 have hi:=List.mem_range.mp hi
 have:=Oq hs h (i+1) (by omega)
 have:=E5 hk hi
 exact decide_eq_true (by omega)
theorem Fo{m e m' e':Nat→Int}{c:Int}:∀{n:Nat},(∀i,i≤n→m' i=m i+c∧e' i=e i+c)→(Ac m' e' n).1=(Ac m e n).1+c∧(Ac m' e' n).2=(Ac m e n).2
 |0,h=>⟨(h 0 (Nat.le_refl _)).1,rfl⟩
 |n+1,h=>by
  obtain⟨h1,h2⟩:=Fo (n:=n) fun i hi=>h i (by omega)
  obtain⟨g1,g2⟩:=h (n+1) (Nat.le_refl _)
  rw[Ac,Ac,h1,h2,g1,g2]
  by_cases z:(Ac m e n).1+1>e (n+1)
  ·rw[if_pos z,if_pos (by omega)];exact⟨rfl,rfl⟩
  ·rw[if_neg z,if_neg (by omega)];exact⟨by show _+c+1=_+1+c;omega,rfl⟩
theorem W4{m e:Nat→Int}{n i:Nat}(h:i≤n):(Ac m e n).2.filter (fun x=>decide (x<((i+1:Nat):Int)))=(Ac m e i).2:=by
 refine Hg (wantN_rise.filter _) wantN_rise fun k=>?_
 rw[List.mem_filter,decide_eq_true_eq]
 constructor
 ·rintro⟨h1,h2⟩;exact(En h (by omega)).mp h1
 ·intro h1
  have:=Cj k h1
  exact⟨(En h (by omega)).mpr h1,by omega⟩
theorem Of{m e:Nat→Int}{c:Int}:∀{n:Nat},(∀i,i≤n→m i=c∧e i=c)→Ac m e n=(c,ivl 1 n)
 |0,h=>by rw[Ac,(h 0 (Nat.le_refl _)).1];rfl
 |n+1,h=>by
  obtain⟨h1,h2⟩:=h (n+1) (Nat.le_refl _)
  rw[Ac,Of (n:=n) fun i hi=>h i (by omega),h1,h2,if_pos (by show c+1>c;omega)]
  congr 1
  show ivl 1 n++[((n+1:Nat):Int)]=ivl 1 (n+1)
  unfold ivl
  rw[List.range_succ,List.map_append]
  congr 1
  simp;omega
theorem Mi{c c':List Int}{t:Int}(ht:t=1∨t = -1)(h:∀x∈c,x∈c'):∀{n:Nat} {r:Int},A6 c t n r*t≤A6 c' t n r*t
 |0,r=>Int.le_refl _
 |n+1,r=>by
  rw[A6]
  split
  ·rename_i z
   rw[A6,if_pos (h _ z)];exact Mi ht h
  ·rcases ht with rfl|rfl
   ·have:=(D2 (c:=c') (n:=n+1) (r:=r)).1;omega
   ·have:=(D2 (c:=c') (n:=n+1) (r:=r)).2;omega
theorem Mh{c c':List Int}{t k:Int}(h:∀x,x∈c'↔k-x∈c):∀{n:Nat} {r:Int},A6 c' (-t) n (k-r)=k-A6 c t n r
 |0,r=>rfl
 |n+1,r=>by
  rw[A6,A6]
  have e1:k-r + -t=k-(r+t):=by omega
  have e2:k-(k-(r+t))=r+t:=by omega
  rw[e1]
  by_cases z:r+t∈c
  ·rw[if_pos z,if_pos ((h _).mpr (by rw[e2];exact z))];exact Mh h
  ·rw[if_neg z,if_neg fun y=>z (by have:=(h _).mp y;rw[e2] at this;exact this)]
def Ev:List D→Bool
 |x::y::r=>Do (.tup [x,y])&&Ev (y::r)
 |_=>true
theorem L1:∀xs:List D,(Bx [xs,xs.drop 1]).all Do=Ev xs
 |[]=>rfl
 |[x]=>by simp[Bx,Di,Ev]
 |x::y::r=>by
  show(Bx [x::y::r,y::r]).all Do=_
  rw[J2,List.all_cons]
  have:=L1 (y::r)
  simp only[List.drop_succ_cons,List.drop_zero] at this
  rw[this];rfl
theorem Pd{m e:Nat→Int}:∀{l:List Int},(∀c∈l,∃a,Bo m e c=some a)→l.Pairwise (fun x c=>∀a,Bo m e c=some a→x<a)→Ev (l.map (Bg m e))=true
 |[],_,_=>rfl
 |[x],_,_=>rfl
 |x::y::r,h,hp=>by
  obtain⟨h1,h2⟩:=List.pairwise_cons.mp hp
  obtain⟨a,ha⟩:=h y (by simp)
  obtain⟨b,hb⟩:=h x (by simp)
  have ih:=Pd (fun c hc=>h c (List.mem_cons_of_mem _ hc)) h2
  show(Do (.tup [Bg m e x,Bg m e y])&&Ev ((y::r).map (Bg m e)))=true
  rw[ih,Bool.and_true]
  unfold Bg
  rw[ha,hb]
  exact decide_eq_true (h1 y (by simp) a ha)
theorem Xz{m e:Nat→Int}{n:Nat}:Wj m e n (.tup ((Ac m e (n-1)).2.map (Bg m e)))=true:=by
 show(((Ac m e (n-1)).2.map (Bg m e)).all (A9 m e n)&&(Bx [(Ac m e (n-1)).2.map (Bg m e),((Ac m e (n-1)).2.map (Bg m e)).drop 1]).all Do)=true
 rw[L1,Pd (fun c hc=>let ⟨a,h,_⟩:=Cs c hc;⟨a,h⟩) (wantN_rise.imp_of_mem fun {x c} hx hc hlt a ha=>by
  obtain⟨a',h1,_,_,h4⟩:=Cs c hc
  rw[h1] at ha
  cases ha
  exact h4 x hx hlt),Bool.and_true,List.all_eq_true]
 intro y hy
 obtain⟨c,hc,rfl⟩:=List.mem_map.mp hy
 obtain⟨a,h1,h2,h3,_⟩:=Cs c hc
 have:=Cj c hc
 unfold Bg
 rw[h1]
 show(decide (1≤c)&&decide (c≤(n:Int)-1)&&decide (1≤a)&&decide (a≤c)&&decide (Bo m e c=some a))=true
 rw[decide_eq_true (show 1≤c by omega),decide_eq_true (show c≤(n:Int)-1 by omega),decide_eq_true h2,decide_eq_true h3,decide_eq_true h1];rfl
def Ds(h:Nat)(r:Int):Int:=(h:Int)-1-r
theorem Mf{c:List Int}{h:Nat}{d:Int}(hl:c.length=h)(x:Int):x∈freeC c.reverse d↔Ds h x∈freeC c d:=by
 rw[mem_freeC,mem_freeC,List.length_reverse,hl]
 unfold Ds
 have e:0≤x→x<h→c.reverse.getD x.toNat 0=c.getD ((h:Int)-1-x).toNat 0:=fun h0 h1=>by
  rw[List.getD_eq_getElem?_getD,List.getD_eq_getElem?_getD,List.getElem?_reverse (by omega),show c.length-1-x.toNat=((h:Int)-1-x).toNat by omega]
 constructor
 ·rintro⟨h0,h1,h2⟩;rw[e h0 h1] at h2;exact⟨by omega,by omega,h2⟩
 ·rintro⟨h0,h1,h2⟩;exact⟨by omega,by omega,by rw[e (by omega) (by omega)];exact h2⟩
theorem E7{s:List (List Int)}{f:List Int→List Int}{i:Nat}(h:i<s.length):(s.map f).getD i []=f (s.getD i []):=by
 rw[List.getD_eq_getElem?_getD,List.getD_eq_getElem?_getD,List.getElem?_map,List.getElem?_eq_getElem h];rfl
theorem D5{s:List Int}{f:Int→Int}{i:Nat}(h:i<s.length):(s.map f).getD i 0=f (s.getD i 0):=by
 rw[List.getD_eq_getElem?_getD,List.getD_eq_getElem?_getD,List.getElem?_map,List.getElem?_eq_getElem h];rfl
theorem FairOk.turn{s:List (List Int)}{h:Nat}{d:Int}{ws:List Int}(ok:FairOk s h d ws):FairOk (s.map List.reverse) h d (ws.map (Ds h)):=by
 have hl:=ok.len
 refine⟨⟨by rw[List.length_map];exact ok.sea.wide,ok.sea.high,fun c hc=>?_⟩,ok.d1,ok.d9,by rw[List.length_map,List.length_map];exact hl,fun i hi=>?_,fun i hi=>?_⟩
 ·obtain⟨c',hc',rfl⟩:=List.mem_map.mp hc
  obtain⟨h1,h2⟩:=ok.sea.col c' hc'
  exact⟨by rw[List.length_reverse];exact h1,fun x hx=>h2 x (List.mem_reverse.mp hx)⟩
 ·rw[List.length_map] at hi
  rw[E7 hi,D5 (by omega)]
  have hr:=ok.row i hi
  have hc:=(ok.sea.at hi).1
  have:=(Mf (d:=d) hc (Ds h (ws.getD i 0))).mpr (mem_freeC.mpr (by unfold Ds;rw[show(h:Int)-1-((h:Int)-1-ws.getD i 0)=ws.getD i 0 by omega,hc];exact hr))
  obtain⟨a,b,g⟩:=mem_freeC.mp this
  rw[List.length_reverse,hc] at b
  exact⟨a,b,g⟩
 ·rw[List.length_map] at hi
  rw[D5 (by omega),D5 (by omega)]
  have:=ok.step i hi
  unfold Ds
  omega
theorem Tt{s:List (List Int)}{h:Nat}{d:Int}{ws:List Int}(ok:FairOk s h d ws)(u:Bool){n:Nat}(hn:n<s.length):(Ac (Ao (ws.map (Ds h)) (Ad (!u)).2) (Ap (s.map List.reverse) d (ws.map (Ds h)) (Ad (!u)).2) n).2=(Ac (Ao ws (Ad u).2) (Ap s d ws (Ad u).2) n).2:=by
 have hl:=ok.len
 refine(Fo (c:=((h:Int)-1)*(Ad (!u)).2) fun i hi=>?_).2
 have ft:=Mf (d:=d) (ok.sea.at (show i<s.length by omega)).1
 have et:=Mh (c:=freeC (s.getD i []) d) (c':=freeC (s.getD i []).reverse d) (t:=(Ad u).2) (k:=(h:Int)-1) ft (n:=10) (r:=ws.getD i 0)
 unfold Ao Ap
 rw[Ch,Ch,E7 (by omega),D5 (by omega)]
 unfold Ds
 cases u with
 |true=>
  have et:A6 (freeC (s.getD i []).reverse d) 1 10 ((h:Int)-1-ws.getD i 0)=(h:Int)-1-A6 (freeC (s.getD i []) d) (-1) 10 (ws.getD i 0):=et
  show((h:Int)-1-ws.getD i 0)*1=ws.getD i 0*(-1)+((h:Int)-1)*1∧A6 _ 1 10 _*1=A6 _ (-1) 10 _*(-1)+((h:Int)-1)*1
  rw[et];omega
 |false=>
  have et:A6 (freeC (s.getD i []).reverse d) (-1) 10 ((h:Int)-1-ws.getD i 0)=(h:Int)-1-A6 (freeC (s.getD i []) d) 1 10 (ws.getD i 0):=et
  show((h:Int)-1-ws.getD i 0)*(-1)=ws.getD i 0*1+((h:Int)-1)*(-1)∧A6 _ (-1) 10 _*(-1)=A6 _ 1 10 _*1+((h:Int)-1)*(-1)
  rw[et];omega
def Dl(x:Int):Int:=if x+1<9 then x+1 else 9
theorem S8{x:Int}(h:0≤x∧x≤9):0≤Dl x∧Dl x≤9∧x≤Dl x:=by unfold Dl;split<;>omega
theorem Rr{c:List Int}{i:Nat}(h:i<c.length):(c.map Dl).getD i 0=Dl (c.getD i 0):=D5 h
theorem Mg{c:List Int}{d:Int}(hc:∀x∈c,0≤x∧x≤9):∀x∈freeC c d,x∈freeC (c.map Dl) d:=fun x hx=>by
 obtain⟨h0,h1,h2⟩:=mem_freeC.mp hx
 refine mem_freeC.mpr ⟨h0,by rw[List.length_map];exact h1,?_⟩
 rw[Rr (by omega)]
 have:c.getD x.toNat 0∈c:=by rw[List.getD_eq_getElem?_getD,List.getElem?_eq_getElem (show x.toNat<c.length by omega)];exact List.getElem_mem _
 have:=S8 (hc _ this)
 omega
theorem FairOk.more{s:List (List Int)}{h:Nat}{d:Int}{ws:List Int}(ok:FairOk s h d ws):FairOk (s.map fun c=>c.map Dl) h d ws:=by
 refine⟨⟨by rw[List.length_map];exact ok.sea.wide,ok.sea.high,fun c hc=>?_⟩,ok.d1,ok.d9,by rw[List.length_map];exact ok.len,fun i hi=>?_,fun i hi=>?_⟩
 ·obtain⟨c',hc',rfl⟩:=List.mem_map.mp hc
  obtain⟨h1,h2⟩:=ok.sea.col c' hc'
  exact⟨by rw[List.length_map];exact h1,fun x hx=>by obtain⟨y,hy,rfl⟩:=List.mem_map.mp hx;have:=S8 (h2 y hy);omega⟩
 ·rw[List.length_map] at hi
  rw[E7 hi]
  obtain⟨a,b,g⟩:=ok.row i hi
  obtain⟨hc,hx⟩:=ok.sea.at hi
  have:=mem_freeC.mp (Mg (d:=d) hx _ (mem_freeC.mpr ⟨a,by rw[hc];exact b,g⟩))
  exact⟨a,b,this.2.2⟩
 ·rw[List.length_map] at hi
  exact ok.step i hi
theorem Tu{s:List (List Int)}{h:Nat}{d:Int}{ws:List Int}(ok:FairOk s h d ws)(u:Bool):(Ac (Ao ws (Ad u).2) (Ap (s.map fun c=>c.map Dl) d ws (Ad u).2) (s.length-1)).2.length≤(Ac (Ao ws (Ad u).2) (Ap s d ws (Ad u).2) (s.length-1)).2.length:=by
 refine Kk (fun i hi=>ok.near u hi) ?_
 have hk:=Kl (n:=s.length-1) fun i _=>FairOk.far (s:=s) (h:=h) (d:=d) (ws:=ws) u (i:=i)
 unfold Bv
 rw[List.all_eq_true]
 intro i hi
 have hi:=List.mem_range.mp hi
 have h1:=E5 hk hi
 have h2:Ap s d ws (Ad u).2 (i+1)≤Ap (s.map fun c=>c.map Dl) d ws (Ad u).2 (i+1):=by
  unfold Ap
  rw[Ch,Ch,E7 (by omega)]
  exact Mi (by cases u<;>simp[Ad]) (Mg (ok.sea.at (by omega)).2)
 exact decide_eq_true (by omega)
def Gx(r k:Nat):List Int:=List.replicate r 0++[5]++List.replicate k 0
theorem S5{r k i:Nat}:(Gx r k).getD i 0=if i=r then 5 else 0:=by
 unfold Gx
 rw[List.getD_eq_getElem?_getD,List.append_assoc]
 by_cases h1:i<r
 ·rw[List.getElem?_append_left (by simpa using h1),List.getElem?_replicate,if_pos h1,if_neg (by omega)];rfl
 ·rw[List.getElem?_append_right (by simp;omega),List.length_replicate]
  by_cases h2:i=r
  ·subst h2;rw[if_pos rfl,Nat.sub_self];rfl
  ·rw[if_neg h2,show i-r=(i-r-1)+1 by omega]
   show((List.replicate k (0:Int))[i-r-1]?).getD 0=0
   rw[List.getElem?_replicate]
   split<;>rfl
theorem S4{r k:Nat}:(Gx r k).length=r+1+k:=by unfold Gx;simp;omega
theorem Yc{r k:Nat}{x:Int}:x∈freeC (Gx r k) 5↔x=r:=by
 rw[mem_freeC,S4,S5]
 constructor
 ·rintro⟨h0,h1,h2⟩
  by_cases z:x.toNat=r
  ·omega
  ·rw[if_neg z] at h2;omega
 ·rintro rfl
  rw[Int.toNat_natCast,if_pos rfl];omega
theorem Yd{r k:Nat}{t:Int}(ht:t=1∨t = -1):A6 (freeC (Gx r k) 5) t 10 r=r:=by
 rw[A6,if_neg]
 rw[Yc]
 rcases ht with rfl|rfl<;>omega
theorem Dx{α:Type}{n i:Nat}{x z:α}(h:i<n):(List.replicate n x).getD i z=x:=by
 rw[List.getD_eq_getElem?_getD,List.getElem?_replicate,if_pos h];rfl
theorem FairOk.narrow{n r k:Nat}(h2:2≤n)(h16:n≤16)(h9:r+1+k≤9):FairOk (List.replicate n (Gx r k)) (r+1+k) 5 (List.replicate n (r:Int)):=by
 refine⟨⟨by simp;omega,by omega,fun c hc=>?_⟩,by decide,by decide,by simp,fun i hi=>?_,fun i hi=>?_⟩
 ·rw[List.eq_of_mem_replicate hc]
  refine⟨S4,fun x hx=>?_⟩
  unfold Gx at hx
  rcases List.mem_append.mp hx with z|z
  ·rcases List.mem_append.mp z with z|z
   ·rw[List.eq_of_mem_replicate z];omega
   ·rw[List.mem_singleton.mp z];omega
  ·rw[List.eq_of_mem_replicate z];omega
 ·rw[List.length_replicate] at hi
  rw[Dx hi,Dx hi,Int.toNat_natCast,S5,if_pos rfl];omega
 ·rw[List.length_replicate] at hi
  rw[Dx hi,Dx (by omega)];omega
theorem Ij{n r k:Nat}(u:Bool)(h2:2≤n):(Ac (Ao (List.replicate n (r:Int)) (Ad u).2) (Ap (List.replicate n (Gx r k)) 5 (List.replicate n (r:Int)) (Ad u).2) (n-1)).2=ivl 1 (n-1):=by
 rw[Of (c:=(r:Int)*(Ad u).2) fun i hi=>?_]
 unfold Ao Ap
 rw[Ch,Dx (by omega),Dx (by omega),Yd (by cases u<;>simp[Ad])]
 exact⟨rfl,rfl⟩
end
end K2
set_option maxRecDepth 100000
set_option maxHeartbeats 4000000
namespace K2
open PySem L2 D3
section
variable{P:Program}{w:World}{K:W.Frag}{mg:Str→Option Value}{base:Heap}{C T0 aS:Addr}
theorem Tg{G:Gp}{p q:Addr}{c:List Int}{Q:DK}(hp:G p=some (.lst (c.map D.int)))(hq:G q=some (.lst []))(h:Q (.bl c.isEmpty) G):dEqD (.ref p) (.ref q) G Q:=
 ⟨_,_,.lst hp Gd,.lst hq .nil,by rw[PyData.canLay0];exact Gg c,rfl,by rw[PyData.depth,PyData.depth,Es];decide,by rw[Ys];exact h⟩
theorem O2:∀a b:List Int,PyData.eqvAll (a.map PyData.int) (b.map PyData.int)=decide (a=b)
 |[],[]=>by simp[PyData.eqvAll]
 |[],y::r=>by simp[PyData.eqvAll]
 |x::r,[]=>by simp[PyData.eqvAll]
 |x::r,y::q=>by
  simp only[List.map_cons,PyData.eqvAll,O2 r q]
  show((x == y)&&decide (r=q))=_
  by_cases h1:x=y
  ·subst h1
   by_cases h2:r=q
   ·subst h2;simp
   ·simp[h2]
  ·simp[h1]
theorem O1(a b:List Int):PyData.eqv (.tuple (a.map PyData.int)) (.tuple (b.map PyData.int))=decide (a=b):=by
 rw[PyData.eqv];exact O2 a b
theorem Tf{G:Gp}{a b:List Int}{Q:DK}(h:Q (.bl (decide (a=b))) G):dEqD (Ai a) (Ai b) G Q:=
 ⟨_,_,Jn,Jn,Js a,Js b,by rw[PyData.depth,PyData.depth,Es];exact Nat.le_trans (Nat.min_le_left _ _) (by decide),by rw[O1];exact h⟩
theorem S3{G:Gp}{a b:List Int}{Q:DK}(h:Q (.bl (!decide (a=b))) G):dNeD (Ai a) (Ai b) G Q:=
 ⟨_,_,Jn,Jn,Js a,Js b,by rw[PyData.depth,PyData.depth,Es];exact Nat.le_trans (Nat.min_le_left _ _) (by decide),by rw[O1];exact h⟩
def Abb:D→D
 |.tup xs=>.tup xs.reverse
 |x=>x
abbrev s_L_turned:Stmt:=top 110
abbrev Sc:List Str:=["_law_fair_here", "_law_sea", "_law_draught", "_law_fairway", "_law_last"]
abbrev p_L_turned:List Str:=["_law_fair_here"]
theorem sc_L_turned:FnScope Sc p_L_turned (defScope s_L_turned):=⟨rfl,rfl,rfl,by decide +kernel,rfl,by decide +kernel,by decide +kernel⟩
theorem Lh:((["_law_row"]:List Str)++(["_law_fair_here", "_law_sea", "_law_draught", "_law_fairway", "_law_last"]:List Str)).Nodup:=by decide +kernel
theorem nd_L_turned_2:((["_law_column"]:List Str)++(["_law_fair_here", "_law_sea", "_law_draught", "_law_fairway", "_law_last"]:List Str)).Nodup:=by decide +kernel
def spTurned:DSp:=fun ds G Q _=>∃s h d ws,ds=[.tup [seaD s,.int d,Ai ws]]∧FairOk s h d ws∧Q (.tup [seaD (s.map List.reverse),.int d,Ai (ws.map (Ds h))]) G
theorem Uh{f:Addr}{fd:FuncData}(F:Fun K "_law_turned" "_law_turned" s_L_turned f fd)(T:Blt mg):FnOk P w K mg base CX0 1 f fd p_L_turned (liftSp K spTurned):=by
 refine okD F sc_L_turned (fun ds G Q E h=>?_) (fun cdv A outer s H XE ds G Q E hr h=>?_)
 ·obtain⟨_,_,_,_,rfl,_⟩:=h;rfl
 ·obtain⟨s,h,d,ws,rfl,ok,k⟩:=h
  have hw:=ok.sea.wide
  have hl:=ok.len
  refine⟨_,(@qss_cons _ _ _ _ _ (@Dn _ _ _ _ _ _ (@q_v1 _ _ 0 _ (by exact⟨rfl,rfl,rfl,rfl⟩)) (@qg_tup _ _ _ _ _ 3 rfl (@qgs_cons _ _ _ _ _ (@qg_name _ _ 1 _ sc_L_turned.nd (by rfl) (by exact .inl rfl) (by exact .inl rfl)) (@qgs_cons _ _ _ _ _ (@qg_name _ _ 2 _ sc_L_turned.nd (by rfl) (by exact .inl rfl) (by exact .inl rfl)) (@qgs_cons _ _ _ _ _ (@qg_name _ _ 3 _ sc_L_turned.nd (by rfl) (by exact .inl rfl) (by exact .inl rfl)) (@qgs_nil _) (by rfl)) (by rfl)) (by rfl)) (by rfl) (by rfl)) (by rfl) (by rfl) (by rfl)) (@qss_cons _ _ _ _ _ (@qs_set _ _ _ _ 4 _ _ sc_L_turned.nd (@q_op _ _ _ _ _ _ _ _ (@C8 _) (@q_callB _ _ _ _ _ _ _ _ _ (@c_len _) (T.blt (by decide)) (by decide +kernel) (@qa_consP _ _ _ _ _ (@C4 _ _ _ _ _ _ (@q_v1 _ _ 1 _ (by exact⟨rfl,rfl,rfl,rfl⟩)) (@q_int _ _ _ _) (by intro _ _ ;rfl)) (@qa_nil _) (by rfl)) (by rfl) (by decide) (by decide) (by rfl) (by rfl)) (@q_int _ _ _ _)) (by rfl) (by exact .inr rfl) (by rfl) (by exact .inl rfl)) (@qss_one _ _ _ (@qs_ret _ _ _ _ (@Ie _ _ _ _ _ (@qa_consP _ _ _ _ _ (@q_callTy _ _ _ _ _ _ _ _ _ (@c_tuple _) (T.blt (by decide)) (by decide +kernel) (@qa_consP _ _ _ _ _ (@q_compz _ _ _ _ _ _ _ _ _ _ _ ["_law_column"] ["_law_fair_here", "_law_sea", "_law_draught", "_law_fairway", "_law_last"] rfl (@compOz _ _ _ _ (by rfl) (by rfl) (by rfl) (by rfl) (by rfl)) (@q_v1 _ _ 1 _ (by exact⟨rfl,rfl,rfl,rfl⟩)) (fun _ _ _=>(@qg_name _ _ 0 _ nd_L_turned_2 (by rfl) (by exact .inl rfl) (by exact .inr rfl))) (fun _ _ _=>(@qf_nil _)) (fun _ _ _=>(@q_rev _ _ _ _ _ _ _ (@q_v1 _ _ 0 _ (by exact⟨rfl,rfl,rfl,rfl⟩)) (@q_neg _ _ _ _ (@q_int _ _ _ _)))) (by intro _ ;rfl)) (@qa_nil _) (by rfl)) (by rfl) (by decide) (by decide) (by rfl) (by rfl)) (@qa_consP _ _ _ _ _ (@q_v1 _ _ 2 _ (by exact⟨rfl,rfl,rfl,rfl⟩)) (@qa_consP _ _ _ _ _ (@q_callTy _ _ _ _ _ _ _ _ _ (@c_tuple _) (T.blt (by decide)) (by decide +kernel) (@qa_consP _ _ _ _ _ (@q_compz _ _ _ _ _ _ _ _ _ _ _ ["_law_row"] ["_law_fair_here", "_law_sea", "_law_draught", "_law_fairway", "_law_last"] rfl (@compOz _ _ _ _ (by rfl) (by rfl) (by rfl) (by rfl) (by rfl)) (@q_v1 _ _ 3 _ (by exact⟨rfl,rfl,rfl,rfl⟩)) (fun _ _ _=>(@qg_name _ _ 0 _ Lh (by rfl) (by exact .inl rfl) (by exact .inr rfl))) (fun _ _ _=>(@qf_nil _)) (fun _ _ _=>(@q_op _ _ _ _ _ _ _ _ (@C8 _) (@q_v2 _ _ 5 _ (by exact⟨rfl,rfl,rfl,rfl⟩)) (@q_v1 _ _ 0 _ (by exact⟨rfl,rfl,rfl,rfl⟩)))) (by intro _ ;rfl)) (@qa_nil _) (by rfl)) (by rfl) (by decide) (by decide) (by rfl) (by rfl)) (@qa_nil _) (by rfl)) (by rfl)) (by rfl))))))),?_⟩
  simp only[Bj,Br,Am,Ah,List.map_cons,List.map_nil,List.length_cons,List.length_nil,Nat.zero_add,Nat.reduceAdd,Nat.reduceSub,List.replicate,List.cons_append,List.nil_append,List.getElem?_cons_zero,Option.some.injEq,Fb,C9,Aw,Fc,nOp,nCB,Aj,List.set_cons_succ,List.set_cons_zero,List.getElem?_cons_succ,nC,dIx,D.int.injEq,Aq,List.cons.injEq,and_true,dI0,Bc,Qe,C5,exists_eq_left',D.tup.injEq,and_assoc,exists_and_left,true_and]
  have i0:El G (seaD s) 0=some (Ai (s.getD 0 [])):=by
   show atI (s.map Ai) ((0:Nat):Int)=_
   exact Dc (by simp[List.getD_eq_getElem?_getD,show 0<s.length by omega])
  refine⟨_,i0,h,by simp only[Ai,Dj,List.length_map,(ok.sea.at (show 0<s.length by omega)).1],s.map Ai,rfl,fun p hp=>?_⟩
  have hz:(s.map Ai).length<sizeLine:=by rw[List.length_map,sizeLine_eq];omega
  refine Ay Abb (fun _=>true) hz (fun _=>rfl) (by decide) (fun x ys hx hl' R1 R2 g1 _=>?_) ?_
  ·obtain⟨c,hc,rfl⟩:=List.mem_map.mp hx
   simp only[Co,nRev,Am,List.replicate,Ai,List.cons_append,List.nil_append,List.set_cons_zero,List.getElem?_cons_zero,Option.some.injEq,nNeg,nC,D.int.injEq,Int.reduceNeg,hl',true_and,exists_eq_left',rev_t,Aa,As,if_true]
   exact Fg.of (g1 rfl)
  ·have e1:((s.map Ai).filter fun _=>true).map Abb=(s.map List.reverse).map Ai:=by
    rw[Bd,List.map_map,List.map_map]
    refine List.map_congr_left fun c _=>?_
    show D.tup (c.map D.int).reverse=.tup (c.reverse.map D.int)
    rw[List.map_reverse]
   rw[e1]
   have sb1:Sub G (Ab G p (.lst ((s.map List.reverse).map Ai))):=Sub.new hp
   refine⟨_,A0 Aa,ws.map D.int,rfl,fun p2 hp2=>?_⟩
   generalize Ab G p (.lst ((s.map List.reverse).map Ai))=G1 at *
   have hz2:(ws.map D.int).length<sizeLine:=by rw[List.length_map,sizeLine_eq];omega
   refine Ay (fun x=>.int (Ds h (A5 x))) (fun _=>true) hz2 (fun _=>rfl) (by decide) (fun x ys hx hl' R1 R2 g1 _=>?_) ?_
   ·obtain⟨r,hr,rfl⟩:=List.mem_map.mp hx
    simp only[Co,nOp,Am,List.replicate,List.cons_append,List.nil_append,List.set_cons_zero,List.getElem?_cons_succ,List.getElem?_cons_zero,Option.some.injEq,dI0,Aa,hl',As,true_and,exists_eq_left',D.int.injEq,if_true]
    exact Fg.of (g1 rfl)
   ·refine⟨_,A0 Aa,szl (by decide),G,sb1.trans (Sub.new hp2),?_⟩
    have e2:(ws.map D.int).map (fun x=>D.int (Ds h (A5 x)))=(ws.map (Ds h)).map D.int:=by rw[List.map_map,List.map_map];rfl
    rw[Bd,e2];exact k
abbrev s_L_other_side:Stmt:=top 111
abbrev K7:List Str:=["_law_side"]
abbrev p_L_other_side:List Str:=["_law_side"]
theorem Iv:FnScope K7 p_L_other_side (defScope s_L_other_side):=⟨rfl,rfl,rfl,by decide +kernel,rfl,by decide +kernel,by decide +kernel⟩
def spOther:DSp:=fun ds G Q _=>∃u,ds=[.str (Ad u).1]∧Q (.str (Ad (!u)).1) G
theorem X7{f:Addr}{fd:FuncData}(F:Fun K "_law_other_side" "_law_other_side" s_L_other_side f fd)(T:Blt mg):FnOk P w K mg base CX0 1 f fd p_L_other_side (liftSp K spOther):=by
 refine okD F Iv (fun ds G Q E h=>?_) (fun cdv A outer s H XE ds G Q E hr h=>?_)
 ·obtain⟨_,rfl,_⟩:=h;rfl
 ·obtain⟨u,rfl,k⟩:=h
  refine⟨_,(@qss_one _ _ _ (@qs_ret _ _ _ _ (@M3 _ _ _ _ _ _ _ _ (@qt_cmp _ _ _ _ _ _ _ _ (@o_eq _) (@q_v1 _ _ 0 _ (by exact⟨rfl,rfl,rfl,rfl⟩)) (@Jw _ _ _ _) (nomark _)) (@Jw _ _ _ _) (@Jw _ _ _ _)))),?_⟩
  simp only[Bc,nIf,Bw,nOp,Am,Ah,List.map_cons,List.map_nil,List.length_cons,List.length_nil,Nat.zero_add,Nat.reduceSub,List.replicate,List.cons_append,List.nil_append,List.getElem?_cons_zero,Option.some.injEq,nC,dEq,eqS,D.bl.injEq,exists_eq_left',decide_eq_true_eq]
  cases u with
  |true=>exact it0 rfl (Fq.of k)
  |false=>exact it1 (by decide) (Fq.of k)
abbrev s_L_narrow_right:Stmt:=top 114
abbrev Id:List Str:=["_law_box_here", "_law_count", "_law_high", "_law_row", "_law_sea", "_law_due", "_law_fairway"]
abbrev Bf:List Str:=["_law_box_here"]
theorem sc_L_narrow_right:FnScope Id Bf (defScope s_L_narrow_right):=⟨rfl,rfl,rfl,by decide +kernel,rfl,by decide +kernel,by decide +kernel⟩
def J7(T0:Addr)(q:Str):DSp:=fun ds G Q _=>∃a,ds=[.ref a]∧(∃b,G a=some (.lst [.int b]))∧G T0=some (.tbl q)∧∀G',Step a G G'→Q (.bl true) G'
theorem Uk{f:Addr}{fd:FuncData}{q:Str}(F:Fun K "_law_narrow_right" "_law_narrow_right" s_L_narrow_right f fd)(T:Sz P w K mg C aS)(Agv:Def P w K mg base CX0 1 "_law_take" p_L_take spTake)(Agy:Def P w K mg base CX0 12 "least_columns" p_least_columns (spLeast T0 q)):FnOk P w K mg base CX0 13 f fd Bf (liftSp K (J7 T0 q)):=by
 refine okD F sc_L_narrow_right (fun ds G Q E h=>?_) (fun cdv A outer s H XE ds G Q E hr h=>?_)
 ·obtain⟨a,rfl,_⟩:=h;rfl
 ·obtain⟨a,rfl,hG,hT,k⟩:=h
  have naT:a≠T0:=fun e=>by obtain⟨b,hb⟩:=hG;rw[e,hT] at hb;cases hb
  refine⟨_,(@qss_cons _ _ _ _ _ (@Ack _ _ _ _ 1 2 _ _ _ _ _ _ _ _ _ rfl sc_L_narrow_right.nd (@qa_consP _ _ _ _ _ (@q_op _ _ _ _ _ _ _ _ (@o_addD _) (@q_int _ _ _ _) (@q_call _ _ _ _ _ _ _ _ noX _ _ _ Agv (hr.mono (by decide)) (@passN _ _) (@qa_consP _ _ _ _ _ (@q_v1 _ _ 0 _ (by exact⟨rfl,rfl,rfl,rfl⟩)) (@qa_consP _ _ _ _ _ (@q_int _ _ _ _) (@qa_nil _) (by rfl)) (by rfl)) (by rfl) (by decide) (by rfl) (by rfl))) (@qa_consP _ _ _ _ _ (@q_op _ _ _ _ _ _ _ _ (@o_addD _) (@q_int _ _ _ _) (@q_call _ _ _ _ _ _ _ _ noX _ _ _ Agv (hr.mono (by decide)) (@passN _ _) (@qa_consP _ _ _ _ _ (@q_v1 _ _ 0 _ (by exact⟨rfl,rfl,rfl,rfl⟩)) (@qa_consP _ _ _ _ _ (@q_int _ _ _ _) (@qa_nil _) (by rfl)) (by rfl)) (by rfl) (by decide) (by rfl) (by rfl))) (@qa_nil _) (by rfl)) (by rfl)) (by rfl) (by rfl) (by decide) (by rfl) (by rfl) (by rfl) (by rfl)) (@qss_cons _ _ _ _ _ (@qs_set _ _ _ _ 3 _ _ sc_L_narrow_right.nd (@q_call _ _ _ _ _ _ _ _ noX _ _ _ Agv (hr.mono (by decide)) (@passN _ _) (@qa_consP _ _ _ _ _ (@q_v1 _ _ 0 _ (by exact⟨rfl,rfl,rfl,rfl⟩)) (@qa_consP _ _ _ _ _ (@q_v1 _ _ 2 _ (by exact⟨rfl,rfl,rfl,rfl⟩)) (@qa_nil _) (by rfl)) (by rfl)) (by rfl) (by decide) (by rfl) (by rfl)) (by rfl) (by exact .inl rfl) (by rfl) (by exact .inl rfl)) (@qss_cons _ _ _ _ _ (@qs_set _ _ _ _ 4 _ _ sc_L_narrow_right.nd (@q_op _ _ _ _ _ _ _ _ (@Wm _) (@Ie _ _ _ _ _ (@qa_consP _ _ _ _ _ (@q_callTy _ _ _ _ _ _ _ _ _ (@c_tuple _) (T.blt (by decide)) (by decide +kernel) (@qa_consP _ _ _ _ _ (@q_op _ _ _ _ _ _ _ _ (@o_addD _) (@q_op _ _ _ _ _ _ _ _ (@o_addD _) (@q_op _ _ _ _ _ _ _ _ (@Wn _) (@q_lst _ _ _ _ (@qa_consP _ _ _ _ _ (@q_int _ _ _ _) (@qa_nil _) (by rfl))) (@q_v1 _ _ 3 _ (by exact⟨rfl,rfl,rfl,rfl⟩))) (@q_lst _ _ _ _ (@qa_consP _ _ _ _ _ (@q_int _ _ _ _) (@qa_nil _) (by rfl)))) (@q_op _ _ _ _ _ _ _ _ (@Wn _) (@q_lst _ _ _ _ (@qa_consP _ _ _ _ _ (@q_int _ _ _ _) (@qa_nil _) (by rfl))) (@q_op _ _ _ _ _ _ _ _ (@C8 _) (@q_op _ _ _ _ _ _ _ _ (@C8 _) (@q_v1 _ _ 2 _ (by exact⟨rfl,rfl,rfl,rfl⟩)) (@q_int _ _ _ _)) (@q_v1 _ _ 3 _ (by exact⟨rfl,rfl,rfl,rfl⟩))))) (@qa_nil _) (by rfl)) (by rfl) (by decide) (by decide) (by rfl) (by rfl)) (@qa_nil _) (by rfl))) (@q_v1 _ _ 1 _ (by exact⟨rfl,rfl,rfl,rfl⟩))) (by rfl) (by exact .inl rfl) (by rfl) (by exact .inl rfl)) (@qss_cons _ _ _ _ _ (@qs_set _ _ _ _ 5 _ _ sc_L_narrow_right.nd (@Acl _ _ _ _ _ _ _ _ rfl (T.blt (by decide)) (T.blt (by decide)) (@qa_consP _ _ _ _ _ (@q_int _ _ _ _) (@qa_consP _ _ _ _ _ (@q_v1 _ _ 1 _ (by exact⟨rfl,rfl,rfl,rfl⟩)) (@qa_nil _) (by rfl)) (by rfl)) (by rfl) (by rfl) (by rfl) (by rfl) (by rfl)) (by rfl) (by exact .inl rfl) (by rfl) (by exact .inl rfl)) (@qss_cons _ _ _ _ _ (@qs_set _ _ _ _ 6 _ _ sc_L_narrow_right.nd (@q_op _ _ _ _ _ _ _ _ (@Wm _) (@Ie _ _ _ _ _ (@qa_consP _ _ _ _ _ (@q_v1 _ _ 3 _ (by exact⟨rfl,rfl,rfl,rfl⟩)) (@qa_nil _) (by rfl))) (@q_v1 _ _ 1 _ (by exact⟨rfl,rfl,rfl,rfl⟩))) (by rfl) (by exact .inl rfl) (by rfl) (by exact .inl rfl)) (@qss_one _ _ _ (@qs_ret _ _ _ _ (@q_and _ _ _ _ _ _ _ (@q_cmp _ _ _ _ _ _ _ _ (@o_eqD _ _ hr) (@q_call _ _ _ _ _ _ _ _ noX _ _ _ Agy (hr.mono (by decide)) (@passN _ _) (@qa_consP _ _ _ _ _ (@q_v1 _ _ 4 _ (by exact⟨rfl,rfl,rfl,rfl⟩)) (@qa_consP _ _ _ _ _ (@q_int _ _ _ _) (@qa_consP _ _ _ _ _ (@q_v1 _ _ 6 _ (by exact⟨rfl,rfl,rfl,rfl⟩)) (@qa_consP _ _ _ _ _ (@Jw _ _ _ _) (@qa_nil _) (by rfl)) (by rfl)) (by rfl)) (by rfl)) (by rfl) (by decide) (by rfl) (by rfl)) (@q_v1 _ _ 5 _ (by exact⟨rfl,rfl,rfl,rfl⟩)) (nomark _)) (@q_one _ _ _ _ _ (@q_cmp _ _ _ _ _ _ _ _ (@o_eqD _ _ hr) (@q_call _ _ _ _ _ _ _ _ noX _ _ _ Agy (hr.mono (by decide)) (@passN _ _) (@qa_consP _ _ _ _ _ (@q_v1 _ _ 4 _ (by exact⟨rfl,rfl,rfl,rfl⟩)) (@qa_consP _ _ _ _ _ (@q_int _ _ _ _) (@qa_consP _ _ _ _ _ (@q_v1 _ _ 6 _ (by exact⟨rfl,rfl,rfl,rfl⟩)) (@qa_consP _ _ _ _ _ (@Jw _ _ _ _) (@qa_nil _) (by rfl)) (by rfl)) (by rfl)) (by rfl)) (by rfl) (by decide) (by rfl) (by rfl)) (@q_v1 _ _ 5 _ (by exact⟨rfl,rfl,rfl,rfl⟩)) (nomark _))))))))))),?_⟩
  simp only[Bj,nPar,Aj,nOp,nC,Ar,Am,Ah,List.map_cons,List.map_nil,List.length_cons,List.length_nil,Nat.zero_add,Nat.reduceAdd,Nat.reduceSub,List.replicate,List.cons_append,List.nil_append,List.getElem?_cons_zero,Option.some.injEq,Aq,List.cons.injEq,and_true,Br,List.set_cons_succ,List.set_cons_zero,List.getElem?_cons_succ,Aw,Qe,nCB,Fn,dI0,D.int.injEq,Abh,Int.reducePow,Int.reduceNeg,Bc,Se,exists_eq_left',and_assoc,exists_and_left,Int.reduceLE,Int.reduceLT,true_and]
  refine Bn hG (by decide) (by decide) fun n0 b1 n00 n01=>?_
  have s1:=(Step.refl hG).take b1
  generalize Ab G a (.lst [.int b1])=G1 at *
  rw[Bl]
  refine Bn s1.box (by decide) (by decide) fun h0 b2 h00 h01=>?_
  have s2:=s1.take b2
  generalize Ab G1 a (.lst [.int b2])=G2 at *
  rw[Bl]
  refine Bn s2.box (by omega) (by omega) fun r0 b3 r00 r01=>?_
  have s3:=s2.take b3
  generalize Ab G2 a (.lst [.int b3])=G3 at *
  obtain⟨n,hn⟩:=Int.eq_ofNat_of_zero_le (show 0≤2+n0 by omega)
  obtain⟨r,rfl⟩:=Int.eq_ofNat_of_zero_le r00
  obtain⟨kk,hk⟩:=Int.eq_ofNat_of_zero_le (show 0≤1+h0-1-r by omega)
  rw[hn]
  have hn2:2≤n∧n≤16:=by omega
  have hr9:r+1+kk≤9:=by omega
  have sb:∀{G':Gp},Step a G G'→∀p,G' p=none→∀o,Step a G (Ab G' p o):=fun s p hp o=>s.lay hp
  have szz:∀{n:Nat},n≤200→n≤sizeLine:=fun h=>szl (by omega)
  have flat0:∀m:Nat,(List.replicate m [D.int 0]).flatten=(List.replicate m (0:Int)).map D.int:=fun m=>by
   induction m with
   |zero=>rfl
   |succ m ih=>rw[List.replicate_succ,List.flatten_cons,ih,List.replicate_succ];rfl
  have flat1:∀(m:Nat) (x:D),(List.replicate m [x]).flatten=List.replicate m x:=fun m x=>by
   induction m with
   |zero=>rfl
   |succ m ih=>rw[List.replicate_succ,List.flatten_cons,ih,List.replicate_succ];rfl
  refine⟨szz (by omega),fun p1 hp1=>⟨p1,r,rfl,rfl,_,Aa,r00,szz (by simp;omega),by omega,fun p2 hp2=>⟨szz (by omega),fun p3 hp3=>?_⟩⟩⟩
  rw[Int.toNat_natCast,flat0] at hp3 ⊢
  have s5:=(s3.lay (o:=.lst [.int 0]) hp1).lay (o:=.lst ((List.replicate r (0:Int)).map D.int)) hp2
  have v5:Ab (Ab G3 p1 (.lst [.int 0])) p2 (.lst ((List.replicate r (0:Int)).map D.int)) p2=some (.lst ((List.replicate r (0:Int)).map D.int)):=Aa
  generalize Ab (Ab G3 p1 (.lst [.int 0])) p2 (.lst ((List.replicate r (0:Int)).map D.int))=G5 at *
  rw[Qz (Bb v5 hp3) Aa]
  refine⟨szz (by simp;omega),fun p4 hp4=>⟨szz (by omega),fun p5 hp5=>⟨_,rfl,_,rfl,?_⟩⟩⟩
  have s7:=(s5.lay (o:=.lst [.int 5]) hp3).lay (o:=.lst ((List.replicate r (0:Int)).map D.int++[.int 5])) hp4
  have v7:Ab (Ab G5 p3 (.lst [.int 5])) p4 (.lst ((List.replicate r (0:Int)).map D.int++[.int 5])) p4=some (.lst ((List.replicate r (0:Int)).map D.int++[.int 5])):=Aa
  generalize Ab (Ab G5 p3 (.lst [.int 5])) p4 (.lst ((List.replicate r (0:Int)).map D.int++[.int 5]))=G7 at *
  rw[hk]
  refine⟨p5,kk,rfl,rfl,_,Aa,by omega,szz (by simp;omega),by omega,fun p6 hp6=>?_⟩
  rw[Int.toNat_natCast,flat0]
  have s9:=(s7.lay (o:=.lst [.int 0]) hp5).lay (o:=.lst ((List.replicate kk (0:Int)).map D.int)) hp6
  have v9:Ab (Ab G7 p5 (.lst [.int 0])) p6 (.lst ((List.replicate kk (0:Int)).map D.int)) p6=some (.lst ((List.replicate kk (0:Int)).map D.int)):=Aa
  have v9':=Bb (u:=.lst ((List.replicate kk (0:Int)).map D.int)) (Bb (u:=.lst [.int 0]) v7 hp5) hp6
  generalize Ab (Ab G7 p5 (.lst [.int 0])) p6 (.lst ((List.replicate kk (0:Int)).map D.int))=G9 at *
  dsimp only
  rw[Qz v9' v9]
  refine⟨szz (by simp;omega),fun p7 hp7=>⟨_,A0 Aa,szz (by omega),?_⟩⟩
  have s10:=s9.lay (o:=.lst ((List.replicate r (0:Int)).map D.int++[.int 5]++(List.replicate kk (0:Int)).map D.int)) hp7
  generalize Ab G9 p7 (.lst ((List.replicate r (0:Int)).map D.int++[.int 5]++(List.replicate kk (0:Int)).map D.int))=G10 at *
  have ec:D.tup ((List.replicate r (0:Int)).map D.int++[.int 5]++(List.replicate kk (0:Int)).map D.int)=Ai (Gx r kk):=by
   unfold Ai Gx;rw[List.map_append,List.map_append];rfl
  rw[ec]
  refine⟨_,n,rfl,rfl,by simp,by omega,by omega,szz (by simp;omega),?_⟩
  rw[Int.toNat_natCast,flat1]
  refine⟨_,rfl,by omega,by omega,by omega,szz (by omega),_,n,rfl,rfl,by simp,by omega,by omega,szz (by simp;omega),?_⟩
  rw[Int.toNat_natCast,flat1]
  have es:D.tup (List.replicate n (Ai (Gx r kk)))=seaD (List.replicate n (Gx r kk)):=by unfold seaD;rw[List.map_replicate]
  have ew:D.tup (List.replicate n (.int (r:Int)))=Ai (List.replicate n (r:Int)):=by unfold Ai;rw[List.map_replicate]
  dsimp only
  rw[es,ew,O0 (n:=n) (by omega)]
  have okN:=FairOk.narrow (n:=n) (r:=r) (k:=kk) hn2.1 hn2.2 hr9
  have hT10:=s10.get naT hT
  refine⟨_,_,_,_,true,rfl,okN,hT10,?_⟩
  dsimp only
  rw[List.length_replicate,Ij true hn2.1]
  refine Tf ⟨_,rfl,it0 (by simp) ⟨_,_,_,_,false,rfl,okN,hT10,?_⟩⟩
  dsimp only
  rw[List.length_replicate,Ij false hn2.1]
  refine Tf (Fq.of ?_)
  rw[decide_eq_true rfl];exact k _ s10
end
end K2
set_option maxRecDepth 100000
set_option maxHeartbeats 4000000
namespace K2
open PySem L2 D3
section
variable{P:Program}{w:World}{K:W.Frag}{mg:Str→Option Value}{base:Heap}{C T0 aS:Addr}
theorem Kg{cs:List Int}{f:Int→Bool}:((cs.map D.int).filter fun x=>f (A5 x)).map id=(cs.filter f).map D.int:=by
 rw[List.map_id,List.filter_map];rfl
theorem Wv{cs:List Int}{b c y:Int}(hy:y∈cs)(h1:b≤y)(h2:y≤c):(cs.filter fun x=>decide (b≤x)&&decide (x≤c)).isEmpty=false:=by
 have z:y∈cs.filter fun x=>decide (b≤x)&&decide (x≤c):=List.mem_filter.mpr ⟨hy,by simp[h1,h2]⟩
 cases h:cs.filter fun x=>decide (b≤x)&&decide (x≤c) with
 |nil=>rw[h] at z;cases z
 |cons _ _=>rfl
def V1:D→D
 |.tup xs=>.tup (xs.map fun y=>.int (Dl (A5 y)))
 |x=>x
abbrev s_L_stretches_right:Stmt:=top 112
abbrev Fi:List Str:=["_law_box_here", "_law_fair_here", "_law_side", "_law_told_ones", "_law_sea", "_law_draught", "_law_fairway", "_law_paper", "_law_turn", "_law_some", "_law_good", "_law_begin", "_law_end", "_law_more"]
abbrev A7:List Str:=["_law_box_here", "_law_fair_here", "_law_side", "_law_told_ones"]
theorem sc_L_stretches_right:FnScope Fi A7 (defScope s_L_stretches_right):=⟨rfl,rfl,rfl,by decide +kernel,rfl,by decide +kernel,by decide +kernel⟩
theorem nd_L_stretches_right_1:((["_law_column"]:List Str)++(["_law_box_here", "_law_fair_here", "_law_side", "_law_told_ones", "_law_sea", "_law_draught", "_law_fairway", "_law_paper", "_law_turn", "_law_some", "_law_good", "_law_begin", "_law_end", "_law_more"]:List Str)).Nodup:=by decide +kernel
theorem nd_L_stretches_right_2:((["_law_column"]:List Str)++(["_law_box_here", "_law_fair_here", "_law_side", "_law_told_ones", "_law_sea", "_law_draught", "_law_fairway", "_law_paper", "_law_turn", "_law_some", "_law_good", "_law_begin", "_law_end", "_law_more"]:List Str)).Nodup:=by decide +kernel
theorem Ed:((["_law_column"]:List Str)++(["_law_box_here", "_law_fair_here", "_law_side", "_law_told_ones", "_law_sea", "_law_draught", "_law_fairway", "_law_paper", "_law_turn", "_law_some", "_law_good", "_law_begin", "_law_end", "_law_more"]:List Str)).Nodup:=by decide +kernel
def Vw(T0:Addr)(q:Str):DSp:=fun ds G Q _=>∃a s h d ws u,ds=[.ref a,.tup [seaD s,.int d,Ai ws],.str (Ad u).1,Ai (Ac (Ao ws (Ad u).2) (Ap s d ws (Ad u).2) (s.length-1)).2]∧FairOk s h d ws∧(∃b,G a=some (.lst [.int b]))∧G T0=some (.tbl q)∧∀G',Step a G G'→Q (.bl true) G'
theorem Adk{f:Addr}{fd:FuncData}{q:Str}(F:Fun K "_law_stretches_right" "_law_stretches_right" s_L_stretches_right f fd)(T:Sz P w K mg C aS)(Agv:Def P w K mg base CX0 1 "_law_take" p_L_take spTake)(Agz:Def P w K mg base CX0 12 "keeps" p_keeps (spKeeps T0 q))(Ahz:Def P w K mg base CX0 12 "is_paper" p_is_paper (spPaper T0 q))(Ah0:Def P w K mg base CX0 12 "paper_of" Ct (Hd T0 q)):FnOk P w K mg base CX0 13 f fd A7 (liftSp K (Vw T0 q)):=by
 refine okD F sc_L_stretches_right (fun ds G Q E h=>?_) (fun cdv A outer s H XE ds G Q E hr h=>?_)
 ·obtain⟨a,s,h,d,ws,u,rfl,_⟩:=h;rfl
 ·obtain⟨a,s,h,d,ws,u,rfl,ok,hG,hT,k⟩:=h
  have naT:a≠T0:=fun e=>by obtain⟨b,hb⟩:=hG;rw[e,hT] at hb;cases hb
  refine⟨_,(@qss_cons _ _ _ _ _ (@Dn _ _ _ _ _ _ (@q_v1 _ _ 1 _ (by exact⟨rfl,rfl,rfl,rfl⟩)) (@qg_tup _ _ _ _ _ 3 rfl (@qgs_cons _ _ _ _ _ (@qg_name _ _ 4 _ sc_L_stretches_right.nd (by rfl) (by exact .inl rfl) (by exact .inl rfl)) (@qgs_cons _ _ _ _ _ (@qg_name _ _ 5 _ sc_L_stretches_right.nd (by rfl) (by exact .inl rfl) (by exact .inl rfl)) (@qgs_cons _ _ _ _ _ (@qg_name _ _ 6 _ sc_L_stretches_right.nd (by rfl) (by exact .inl rfl) (by exact .inl rfl)) (@qgs_nil _) (by rfl)) (by rfl)) (by rfl)) (by rfl) (by rfl)) (by rfl) (by rfl) (by rfl)) (@qss_cons _ _ _ _ _ (@qs_set _ _ _ _ 7 _ _ sc_L_stretches_right.nd (@q_call _ _ _ _ _ _ _ _ noX _ _ _ Ah0 (hr.mono (by decide)) (@passN _ _) (@qa_consP _ _ _ _ _ (@q_v1 _ _ 4 _ (by exact⟨rfl,rfl,rfl,rfl⟩)) (@qa_consP _ _ _ _ _ (@q_v1 _ _ 5 _ (by exact⟨rfl,rfl,rfl,rfl⟩)) (@qa_consP _ _ _ _ _ (@q_v1 _ _ 6 _ (by exact⟨rfl,rfl,rfl,rfl⟩)) (@qa_consP _ _ _ _ _ (@q_v1 _ _ 2 _ (by exact⟨rfl,rfl,rfl,rfl⟩)) (@qa_nil _) (by rfl)) (by rfl)) (by rfl)) (by rfl)) (by rfl) (by decide) (by rfl) (by rfl)) (by rfl) (by exact .inl rfl) (by rfl) (by exact .inl rfl)) (@qss_cons _ _ _ _ _ (@qs_if _ _ _ _ _ _ _ _ (@qt_of _ _ _ (@Dt _ _ _ _ _ _ _ (@qt_cmp _ _ _ _ _ _ _ _ (@o_ne _) (@q_callB _ _ _ _ _ _ _ _ _ (@c_len _) (T.blt (by decide)) (by decide +kernel) (@qa_consP _ _ _ _ _ (@q_v1 _ _ 7 _ (by exact⟨rfl,rfl,rfl,rfl⟩)) (@qa_nil _) (by rfl)) (by rfl) (by decide) (by decide) (by rfl) (by rfl)) (@q_callB _ _ _ _ _ _ _ _ _ (@c_len _) (T.blt (by decide)) (by decide +kernel) (@qa_consP _ _ _ _ _ (@q_v1 _ _ 3 _ (by exact⟨rfl,rfl,rfl,rfl⟩)) (@qa_nil _) (by rfl)) (by rfl) (by decide) (by decide) (by rfl) (by rfl)) (nomark _)) (@qw_or1 _ _ _ _ (@qt_not _ _ _ _ (@qt_tru _ _ _ (@q_call _ _ _ _ _ _ _ _ noX _ _ _ Ahz (hr.mono (by decide)) (@passN _ _) (@qa_consP _ _ _ _ _ (@q_v1 _ _ 4 _ (by exact⟨rfl,rfl,rfl,rfl⟩)) (@qa_consP _ _ _ _ _ (@q_v1 _ _ 5 _ (by exact⟨rfl,rfl,rfl,rfl⟩)) (@qa_consP _ _ _ _ _ (@q_v1 _ _ 6 _ (by exact⟨rfl,rfl,rfl,rfl⟩)) (@qa_consP _ _ _ _ _ (@q_v1 _ _ 2 _ (by exact⟨rfl,rfl,rfl,rfl⟩)) (@qa_consP _ _ _ _ _ (@q_v1 _ _ 7 _ (by exact⟨rfl,rfl,rfl,rfl⟩)) (@qa_nil _) (by rfl)) (by rfl)) (by rfl)) (by rfl)) (by rfl)) (by rfl) (by decide) (by rfl) (by rfl)) (by intro _ ;rfl)))))) (@qss_one _ _ _ (@qs_ret _ _ _ _ (@q_bl _ _ _ _))) (@qss_nil _)) (@qss_cons _ _ _ _ _ (@Ea _ _ _ _ _ _ _ _ _ _ PassesOwn.never rfl (T.blt (by decide)) (@qa_consP _ _ _ _ _ (@q_int _ _ _ _) (@qa_nil _) (by rfl)) (@qg_name _ _ 8 _ sc_L_stretches_right.nd (by rfl) (by exact .inr rfl) (by exact .inl rfl)) (@qss_cons _ _ _ _ _ (@Ra _ _ _ _ _ _ _ _ _ ["_law_column"] ["_law_box_here", "_law_fair_here", "_law_side", "_law_told_ones", "_law_sea", "_law_draught", "_law_fairway", "_law_paper", "_law_turn", "_law_some", "_law_good", "_law_begin", "_law_end", "_law_more"] 9 _ _ _ _ _ _ _ _ rfl (@compOz _ _ _ _ (by rfl) (by rfl) (by rfl) (by rfl) (by rfl)) (T.blt (by decide)) (@qa_consP _ _ _ _ _ (@q_int _ _ _ _) (@qa_consP _ _ _ _ _ (@q_callB _ _ _ _ _ _ _ _ _ (@c_len _) (T.blt (by decide)) (by decide +kernel) (@qa_consP _ _ _ _ _ (@q_v1 _ _ 4 _ (by exact⟨rfl,rfl,rfl,rfl⟩)) (@qa_nil _) (by rfl)) (by rfl) (by decide) (by decide) (by rfl) (by rfl)) (@qa_nil _) (by rfl)) (by rfl)) (fun _ _ _=>(@qg_name _ _ 0 _ nd_L_stretches_right_1 (by rfl) (by exact .inl rfl) (by exact .inr rfl))) (fun _ _ _=>(@qf_one _ _ _ (@qt_cmp _ _ _ _ _ _ _ _ (@o_eq _) (@q_call _ _ _ _ _ _ _ _ noX _ _ _ Agv (hr.mono (by decide)) (@passN _ _) (@qa_consP _ _ _ _ _ (@q_v2 _ _ 1 _ (by exact⟨rfl,rfl,rfl,rfl⟩)) (@qa_consP _ _ _ _ _ (@q_op _ _ _ _ _ _ _ _ (@o_addD _) (@q_int _ _ _ _) (@q_v2 _ _ 9 _ (by exact⟨rfl,rfl,rfl,rfl⟩))) (@qa_nil _) (by rfl)) (by rfl)) (by rfl) (by decide) (by rfl) (by rfl)) (@q_int _ _ _ _) (nomark _)))) (fun _ _ _=>(@q_v1 _ _ 0 _ (by exact⟨rfl,rfl,rfl,rfl⟩))) sc_L_stretches_right.nd rfl (by rfl) (by first|exact .inl rfl|exact .inr rfl) (by first|exact .inl rfl|exact .inr rfl) (by rfl) (by rfl) (by rfl) (by intro _ ;rfl)) (@qss_cons _ _ _ _ _ (@qs_set _ _ _ _ 10 _ _ sc_L_stretches_right.nd (@q_call _ _ _ _ _ _ _ _ noX _ _ _ Agz (hr.mono (by decide)) (@passN _ _) (@qa_consP _ _ _ _ _ (@q_v1 _ _ 4 _ (by exact⟨rfl,rfl,rfl,rfl⟩)) (@qa_consP _ _ _ _ _ (@q_v1 _ _ 5 _ (by exact⟨rfl,rfl,rfl,rfl⟩)) (@qa_consP _ _ _ _ _ (@q_v1 _ _ 6 _ (by exact⟨rfl,rfl,rfl,rfl⟩)) (@qa_consP _ _ _ _ _ (@q_v1 _ _ 2 _ (by exact⟨rfl,rfl,rfl,rfl⟩)) (@qa_consP _ _ _ _ _ (@q_callTy _ _ _ _ _ _ _ _ _ (@c_tuple _) (T.blt (by decide)) (by decide +kernel) (@qa_consP _ _ _ _ _ (@q_v1 _ _ 9 _ (by exact⟨rfl,rfl,rfl,rfl⟩)) (@qa_nil _) (by rfl)) (by rfl) (by decide) (by decide) (by rfl) (by rfl)) (@qa_nil _) (by rfl)) (by rfl)) (by rfl)) (by rfl)) (by rfl)) (by rfl) (by decide) (by rfl) (by rfl)) (by rfl) (by exact .inl rfl) (by rfl) (by exact .inl rfl)) (@qss_cons _ _ _ _ _ (@qs_for _ _ _ _ _ _ _ _ PassesOwn.never rfl (@q_v1 _ _ 7 _ (by exact⟨rfl,rfl,rfl,rfl⟩)) (@qg_tup _ _ _ _ _ 2 rfl (@qgs_cons _ _ _ _ _ (@qg_name _ _ 11 _ sc_L_stretches_right.nd (by rfl) (by exact .inr rfl) (by exact .inl rfl)) (@qgs_cons _ _ _ _ _ (@qg_name _ _ 12 _ sc_L_stretches_right.nd (by rfl) (by exact .inr rfl) (by exact .inl rfl)) (@qgs_nil _) (by rfl)) (by rfl)) (by rfl) (by rfl)) (@qss_cons _ _ _ _ _ (@qs_ifM _ _ _ _ _ _ _ _ (@qt_of _ _ _ (@qw_and _ _ _ _ _ _ _ (@qt_tru _ _ _ (@q_v1 _ _ 10 _ (by exact⟨rfl,rfl,rfl,rfl⟩)) (by intro _ ;rfl)) (@qw_and1 _ _ _ _ (@qt_cmp _ _ _ _ _ _ _ _ (@o_eqD _ _ hr) (@q_compz _ _ _ _ _ _ _ _ _ _ _ ["_law_column"] ["_law_box_here", "_law_fair_here", "_law_side", "_law_told_ones", "_law_sea", "_law_draught", "_law_fairway", "_law_paper", "_law_turn", "_law_some", "_law_good", "_law_begin", "_law_end", "_law_more"] rfl (@compOz _ _ _ _ (by rfl) (by rfl) (by rfl) (by rfl) (by rfl)) (@q_v1 _ _ 9 _ (by exact⟨rfl,rfl,rfl,rfl⟩)) (fun _ _ _=>(@qg_name _ _ 0 _ nd_L_stretches_right_2 (by rfl) (by exact .inl rfl) (by exact .inr rfl))) (fun _ _ _=>(@qf_one _ _ _ (@qt_chain _ _ _ _ _ _ _ _ _ _ _ _ (@o_le _) (@o_le _) (@q_v2 _ _ 12 _ (by exact⟨rfl,rfl,rfl,rfl⟩)) (@q_v1 _ _ 0 _ (by exact⟨rfl,rfl,rfl,rfl⟩)) (@q_v2 _ _ 13 _ (by exact⟨rfl,rfl,rfl,rfl⟩)) (by with_unfolding_all rfl)))) (fun _ _ _=>(@q_v1 _ _ 0 _ (by exact⟨rfl,rfl,rfl,rfl⟩))) (by intro _ ;rfl)) (@q_lst _ _ _ _ (@qa_nil _)) (nomark _))))) (@qss_one _ _ _ (@qs_ret _ _ _ _ (@q_bl _ _ _ _))) (@qss_nil _)) (@qss_one _ _ _ (@qs_if _ _ _ _ _ _ _ _ (@qt_cmp _ _ _ _ _ _ _ _ (@o_eqD _ _ hr) (@q_compz _ _ _ _ _ _ _ _ _ _ _ ["_law_column"] ["_law_box_here", "_law_fair_here", "_law_side", "_law_told_ones", "_law_sea", "_law_draught", "_law_fairway", "_law_paper", "_law_turn", "_law_some", "_law_good", "_law_begin", "_law_end", "_law_more"] rfl (@compOz _ _ _ _ (by rfl) (by rfl) (by rfl) (by rfl) (by rfl)) (@q_v1 _ _ 3 _ (by exact⟨rfl,rfl,rfl,rfl⟩)) (fun _ _ _=>(@qg_name _ _ 0 _ Ed (by rfl) (by exact .inl rfl) (by exact .inr rfl))) (fun _ _ _=>(@qf_one _ _ _ (@qt_chain _ _ _ _ _ _ _ _ _ _ _ _ (@o_le _) (@o_le _) (@q_v2 _ _ 12 _ (by exact⟨rfl,rfl,rfl,rfl⟩)) (@q_v1 _ _ 0 _ (by exact⟨rfl,rfl,rfl,rfl⟩)) (@q_v2 _ _ 13 _ (by exact⟨rfl,rfl,rfl,rfl⟩)) (by with_unfolding_all rfl)))) (fun _ _ _=>(@q_v1 _ _ 0 _ (by exact⟨rfl,rfl,rfl,rfl⟩))) (by intro _ ;rfl)) (@q_lst _ _ _ _ (@qa_nil _)) (nomark _)) (@qss_one _ _ _ (@qs_ret _ _ _ _ (@q_bl _ _ _ _))) (@qss_nil _)))) (by intro _ ;rfl)) (@qss_cons _ _ _ _ _ (@qs_ifM _ _ _ _ _ _ _ _ (@qt_of _ _ _ (@qw_and _ _ _ _ _ _ _ (@qt_tru _ _ _ (@q_v1 _ _ 10 _ (by exact⟨rfl,rfl,rfl,rfl⟩)) (by intro _ ;rfl)) (@qw_and1 _ _ _ _ (@qt_cmp _ _ _ _ _ _ _ _ (@o_lt _) (@q_callB _ _ _ _ _ _ _ _ _ (@c_len _) (T.blt (by decide)) (by decide +kernel) (@qa_consP _ _ _ _ _ (@q_v1 _ _ 9 _ (by exact⟨rfl,rfl,rfl,rfl⟩)) (@qa_nil _) (by rfl)) (by rfl) (by decide) (by decide) (by rfl) (by rfl)) (@q_callB _ _ _ _ _ _ _ _ _ (@c_len _) (T.blt (by decide)) (by decide +kernel) (@qa_consP _ _ _ _ _ (@q_v1 _ _ 7 _ (by exact⟨rfl,rfl,rfl,rfl⟩)) (@qa_nil _) (by rfl)) (by rfl) (by decide) (by decide) (by rfl) (by rfl)) (nomark _))))) (@qss_one _ _ _ (@qs_ret _ _ _ _ (@q_bl _ _ _ _))) (@qss_nil _)) (@qss_cons _ _ _ _ _ (@qs_set _ _ _ _ 13 _ _ sc_L_stretches_right.nd (@q_callTy _ _ _ _ _ _ _ _ _ (@c_tuple _) (T.blt (by decide)) (by decide +kernel) (@qa_consP _ _ _ _ _ (@T8 _ _ _ _ _ _ _ rfl (T.blt (by decide)) (T.blt (by decide)) (@q_op _ _ _ _ _ _ _ _ (@o_addD _) (@q_v1 _ _ 9 _ (by exact⟨rfl,rfl,rfl,rfl⟩)) (@q_lst _ _ _ _ (@qa_consP _ _ _ _ _ (@q_op _ _ _ _ _ _ _ _ (@o_addD _) (@q_int _ _ _ _) (@q_call _ _ _ _ _ _ _ _ noX _ _ _ Agv (hr.mono (by decide)) (@passN _ _) (@qa_consP _ _ _ _ _ (@q_v2 _ _ 0 _ (by exact⟨rfl,rfl,rfl,rfl⟩)) (@qa_consP _ _ _ _ _ (@q_op _ _ _ _ _ _ _ _ (@C8 _) (@q_callB _ _ _ _ _ _ _ _ _ (@c_len _) (T.blt (by decide)) (by decide +kernel) (@qa_consP _ _ _ _ _ (@q_v1 _ _ 4 _ (by exact⟨rfl,rfl,rfl,rfl⟩)) (@qa_nil _) (by rfl)) (by rfl) (by decide) (by decide) (by rfl) (by rfl)) (@q_int _ _ _ _)) (@qa_nil _) (by rfl)) (by rfl)) (by rfl) (by decide) (by rfl) (by rfl))) (@qa_nil _) (by rfl)))) (by rfl) (by rfl) (by rfl) (by rfl)) (@qa_nil _) (by rfl)) (by rfl) (by decide) (by decide) (by rfl) (by rfl)) (by rfl) (by exact .inl rfl) (by rfl) (by exact .inl rfl)) (@qss_one _ _ _ (@qs_if _ _ _ _ _ _ _ _ (@qt_of _ _ _ (@qw_and _ _ _ _ _ _ _ (@qt_tru _ _ _ (@q_v1 _ _ 10 _ (by exact⟨rfl,rfl,rfl,rfl⟩)) (by intro _ ;rfl)) (@qw_and1 _ _ _ _ (@qt_not _ _ _ _ (@qt_tru _ _ _ (@q_call _ _ _ _ _ _ _ _ noX _ _ _ Agz (hr.mono (by decide)) (@passN _ _) (@qa_consP _ _ _ _ _ (@q_v1 _ _ 4 _ (by exact⟨rfl,rfl,rfl,rfl⟩)) (@qa_consP _ _ _ _ _ (@q_v1 _ _ 5 _ (by exact⟨rfl,rfl,rfl,rfl⟩)) (@qa_consP _ _ _ _ _ (@q_v1 _ _ 6 _ (by exact⟨rfl,rfl,rfl,rfl⟩)) (@qa_consP _ _ _ _ _ (@q_v1 _ _ 2 _ (by exact⟨rfl,rfl,rfl,rfl⟩)) (@qa_consP _ _ _ _ _ (@q_v1 _ _ 13 _ (by exact⟨rfl,rfl,rfl,rfl⟩)) (@qa_nil _) (by rfl)) (by rfl)) (by rfl)) (by rfl)) (by rfl)) (by rfl) (by decide) (by rfl) (by rfl)) (by intro _ ;rfl)))))) (@qss_one _ _ _ (@qs_ret _ _ _ _ (@q_bl _ _ _ _))) (@qss_nil _)))))))) (by rfl) (by rfl) (by intro _ ;rfl)) (@qss_one _ _ _ (@qs_ret _ _ _ _ (@q_bl _ _ _ _))))))),?_⟩
  have hw:=ok.sea.wide
  simp only[Bj,Br,Am,Ah,List.map_cons,List.map_nil,List.length_cons,List.length_nil,Nat.zero_add,Nat.reduceAdd,Nat.reduceSub,List.replicate,List.cons_append,List.nil_append,List.getElem?_cons_succ,List.getElem?_cons_zero,Option.some.injEq,Fb,C9,Aw,Fc,Ar,Aj,List.set_cons_succ,List.set_cons_zero,Aq,Cq,nOr,Bw,nOp,nCB,List.cons.injEq,and_true,dNe,eqS,D.bl.injEq,Bc,nC,Bm,Ig,D.int.injEq,Int.reducePow,Int.reduceNeg,and_assoc,exists_eq_left',Int.reduceLE,Int.reduceLT,Int.reduceToNat,true_and,if_true,Dh,C0,D.tup.injEq,exists_and_left]
  refine⟨s,h,d,ws,u,rfl,ok,hT,?_⟩
  have szz:∀{n:Nat},n≤200→n≤sizeLine:=fun h=>szl (by omega)
  have szl1:∀{n:Nat},n≤200→n<sizeLine:=fun h=>by rw[sizeLine_eq];omega
  obtain⟨coL,lL⟩:=Hq (m:=Ao ws (Ad u).2) (e:=Ap s d ws (Ad u).2) hw
  have hpap:=Xz (m:=Ao ws (Ad u).2) (e:=Ap s d ws (Ad u).2) (n:=s.length)
  have hst:=Cs (m:=Ao ws (Ad u).2) (e:=Ap s d ws (Ad u).2) (n:=s.length-1)
  have hleast:=fun cs=>Kk (m:=Ao ws (Ad u).2) (e:=Ap s d ws (Ad u).2) (cs:=cs) (n:=s.length-1) (fun i hi=>ok.near u hi)
  have hmono:=fun cs ds=>Ro (m:=Ao ws (Ad u).2) (e:=Ap s d ws (Ad u).2) (cs:=cs) (ds:=ds) (n:=s.length-1) (fun i hi=>ok.near u hi)
  have hhit:=fun cs a b=>Ph (m:=Ao ws (Ad u).2) (e:=Ap s d ws (Ad u).2) (cs:=cs) (n:=s.length-1) (a:=a) (b:=b) (fun i hi=>ok.near u hi)
  have kn2:KnT G 2 (.tup ((Ac (Ao ws (Ad u).2) (Ap s d ws (Ad u).2) (s.length-1)).2.map (Bg (Ao ws (Ad u).2) (Ap s d ws (Ad u).2)))):=⟨⟨_,rfl⟩,fun ds e x hx=>by
   cases e
   obtain⟨c,hc,rfl⟩:=List.mem_map.mp hx
   refine⟨⟨_,rfl⟩,fun ds e y hy=>?_⟩
   cases e
   simp only[List.mem_cons,List.not_mem_nil,or_false] at hy
   rcases hy with rfl|rfl
   ·cases Bo (Ao ws (Ad u).2) (Ap s d ws (Ad u).2) c<;>exact⟨_,rfl⟩
   ·exact⟨_,rfl⟩⟩
  generalize (Ac (Ao ws (Ad u).2) (Ap s d ws (Ad u).2) (s.length-1)).2=tL at *
  refine⟨tL.length,by simp[Dj],tL.length,by simp[Ai,Dj],it1 (by simp) ?_⟩
  refine⟨s,h,d,ws,u,_,rfl,ok,hT,kn2,fun xs e=>by cases e;rw[List.length_map];exact szl1 (by omega),?_⟩
  rw[hpap]
  refine⟨true,rfl,it1 (by decide) ?_⟩
  obtain⟨pap,hpp⟩:∃l,tL.map (Bg (Ao ws (Ad u).2) (Ap s d ws (Ad u).2))=l:=⟨_,rfl⟩
  have hpi:∀x∈pap,∃b c,x=.tup [.int b,.int c]∧c∈tL∧b≤c∧∀cs,Bv (Ao ws (Ad u).2) (Ap s d ws (Ad u).2) cs (s.length-1)=true→∃y∈cs,b≤y∧y≤c:=fun x hx=>by
   rw[←hpp] at hx
   obtain⟨c,hc,rfl⟩:=List.mem_map.mp hx
   obtain⟨b,hb,b1,b2,_⟩:=hst c hc
   refine⟨b,c,by unfold Bg;rw[hb];rfl,hc,b2,fun cs hk=>hhit cs b c hk (by have:=coL.inn c hc;omega) hb⟩
  have lP:pap.length=tL.length:=by rw[←hpp,List.length_map]
  rw[hpp]
  refine B1 (n:=6) (fun i σ G'=>∃v8 v9 v10 v11 v12 v13,σ=[some (.ref a),some (.tup [seaD s,.int d,Ai ws]),some (.str (Ad u).1),some (Ai tL),some (seaD s),some (.int d),some (Ai ws),some (.tup pap),v8,v9,v10,v11,v12,v13]∧Step a G G') ⟨_,_,_,_,_,_,rfl,Step.refl hG⟩ ?_ ?_
  ·rintro t σ G1 ht ⟨v8,v9,v10,v11,v12,v13,rfl,s1⟩
   simp only[Aw,Bj,Br,Ge,Aj,nC,nCB,Am,List.set_cons_succ,List.set_cons_zero,List.getElem?_cons_succ,List.getElem?_cons_zero,Option.some.injEq,Aq,List.cons.injEq,and_true,D.int.injEq,Int.reducePow,Int.reduceNeg,Ar,Vr,exists_eq_left',Kb,and_assoc,exists_and_left,Int.reduceLE,Int.reduceLT,true_and]
   refine⟨s.length,by simp[seaD,Dj],by omega,by omega,fun p hp=>?_⟩
   rw[O0 (n:=s.length) (by omega)]
   have coE:=Ru hw.2
   have lE:(ivl 1 (s.length-1)).length≤15:=by rw[M8];omega
   generalize ivl 1 (s.length-1)=eV at *
   have nap:=Step.ne s1.box hp
   refine⟨fun i ys G'=>∃cs:List Int,ys=cs.map D.int∧cs.Sublist (eV.take i)∧Step a G1 G'∧G' p=some (.lst ys),⟨[],rfl,List.nil_sublist _,(Step.refl s1.box).lay hp,Aa⟩,fun i ys G' _ ⟨cs,_,_,_,e⟩=>⟨trivial,e⟩,?_,?_⟩
   ·rintro i x ys G9 hx ⟨cs,rfl,sl,s9,vp⟩
    rw[List.getElem?_map] at hx
    obtain⟨e,he,rfl⟩:=Option.map_eq_some_iff.mp hx
    have tk:eV.take (i+1)=eV.take i++[e]:=by rw[List.take_add_one,he];rfl
    have lcs:cs.length≤15:=Nat.le_trans (Nat.le_trans sl.length_le (by simp;omega)) lE
    simp only[Aw,List.replicate,List.cons_append,List.nil_append,List.set_cons_zero,Bw,nOp,Ar,Aj,Am,List.getElem?_cons_succ,List.getElem?_cons_zero,Option.some.injEq,nC,Aq,dEq,eqS,D.bl.injEq,exists_eq_left',Bl]
    refine⟨⟨[some (.int e)],rfl,rfl⟩,Bn s9.box (by omega) (by omega) fun r b r0 r1=>?_⟩
    have s10:=s9.take b
    have vp:Ab G9 a (.lst [.int b]) p=some (.lst (cs.map D.int)):=by rw[Ae nap.symm];exact vp
    generalize Ab G9 a (.lst [.int b])=G10 at *
    refine⟨decide (r=0),rfl,?_⟩
    by_cases z:r=0
    ·exact it0 (by simpa using z) ⟨vp,by rw[List.length_map];exact szl1 (by omega),Fg.of ⟨cs++[e],by rw[List.map_append];rfl,by rw[tk];exact sl.append (List.Sublist.refl _),s10.write hp nap,Aa⟩⟩
    ·exact it1 (by simpa using z) (Fg.of ⟨cs,rfl,by rw[tk];exact sl.trans (List.sublist_append_left _ _),s10,vp⟩)
   ·rintro ys G2 ⟨cs,rfl,sl,s2,vp⟩
    have co:=coE.sub (sl.trans (List.take_sublist _ _))
    have lcs:cs.length≤15:=Nat.le_trans (Nat.le_trans sl.length_le (by simp)) lE
    have s2:=s1.trans s2
    refine⟨_,A0 vp,s,h,d,ws,u,cs,rfl,ok,co,s2.get naT hT,?_⟩
    have hk9:=hleast cs
    have hm9:=fun ds=>hmono cs ds
    have hp9:∀x∈pap,∃b c,x=.tup [.int b,.int c]∧c∈tL∧b≤c∧(Bv (Ao ws (Ad u).2) (Ap s d ws (Ad u).2) cs (s.length-1)=true→∃y∈cs,b≤y∧y≤c):=fun x hx=>by
     obtain⟨b,c,e,hc,bc,z⟩:=hpi x hx;exact⟨b,c,e,hc,bc,z cs⟩
    generalize Bv (Ao ws (Ad u).2) (Ap s d ws (Ad u).2) cs (s.length-1)=gd at *
    refine Uq (fun i σ G'=>∃v11 v12,σ=[some (.ref a),some (.tup [seaD s,.int d,Ai ws]),some (.str (Ad u).1),some (Ai tL),some (seaD s),some (.int d),some (Ai ws),some (.tup pap),some (.int (t:Nat)),some (.ref p),some (.bl gd),v11,v12,v13]∧G'=G2) ⟨_,_,rfl,rfl⟩ (fun _ _ _ _ _=>trivial) ?_ ?_
    ·rintro i x σ G3 hx ⟨v11,v12,rfl,rfl⟩
     obtain⟨b,c,rfl,hc,bc,hh⟩:=hp9 x (List.mem_of_getElem? hx)
     simp only[Fb,D.tup.injEq,C9,Aw,Fc,Bj,Zb,Vs,C0,Am,List.set_cons_succ,List.set_cons_zero,List.getElem?_cons_succ,List.getElem?_cons_zero,Option.some.injEq,Bw,nOp,C5,Fn,Aq,List.length_nil,Bc,nC,Bm,exists_eq_left',reduceCtorEq,if_false,Cq,List.length_cons,Nat.zero_add,Nat.reduceAdd,List.cons.injEq,and_assoc,exists_and_left,true_and]
     refine⟨fun σ' G'=>σ'=[some (.ref a),some (.tup [seaD s,.int d,Ai ws]),some (.str (Ad u).1),some (Ai tL),some (seaD s),some (.int d),some (Ai ws),some (.tup pap),some (.int (t:Nat)),some (.ref p),some (.bl gd),some (.int b),some (.int c),v13]∧G'=G3,⟨gd,rfl,?_⟩,?_⟩
     ·cases gd with
      |false=>exact it1 (by decide) (Fs.of ⟨rfl,rfl⟩)
      |true=>
       refine it0 rfl ⟨_,A0 vp,fun p4 hp4=>?_⟩
       have hz:(cs.map D.int).length<sizeLine:=by rw[List.length_map];exact szl1 (by omega)
       refine Ay id (fun x=>decide (b≤A5 x)&&decide (A5 x≤c)) hz (fun _=>A0 (Bb vp hp4)) (by decide) (fun x ys hx hl' R1 R2 g1 g2=>?_) ?_
       ·obtain⟨y,hy,rfl⟩:=List.mem_map.mp hx
        simp only[Bw,D7,Am,List.replicate,List.cons_append,List.nil_append,List.set_cons_zero,List.getElem?_cons_succ,List.getElem?_cons_zero,Option.some.injEq,dI0,D.bl.injEq,Aa,hl',As,true_and,exists_eq_left',decide_eq_true_eq,D.int.injEq,reduceCtorEq,if_false]
        by_cases z1:b≤y
        ·refine it0 z1 ?_
         by_cases z2:y≤c
         ·exact it0 z2 (Fg.of (g1 (by simp[A5,z1,z2])))
         ·exact it1 z2 (Fg.of (g2 (by simp[A5,z1,z2])))
        ·exact it1 z1 (Fg.of (g2 (by simp[A5,z1])))
       ·rw[Kg (f:=fun x=>decide (b≤x)&&decide (x≤c))]
        refine⟨Nat.zero_le _,fun p5 hp5=>Tg (Bb Aa hp5) Aa ⟨_,rfl,it1 ?_ ⟨G3,(Sub.new hp4).trans (Sub.new hp5),rfl,rfl⟩⟩⟩
        obtain⟨y,hy,y1,y2⟩:=hh rfl
        rw[Wv hy y1 y2];decide
     ·rintro σ' G' ⟨rfl,rfl⟩
      refine⟨_,rfl,_,rfl,fun p4 hp4=>?_⟩
      have hz:(tL.map D.int).length<sizeLine:=by rw[List.length_map];exact szl1 (by omega)
      refine Ay id (fun x=>decide (b≤A5 x)&&decide (A5 x≤c)) hz (fun _=>rfl) (by decide) (fun x ys hx hl' R1 R2 g1 g2=>?_) ?_
      ·obtain⟨y,hy,rfl⟩:=List.mem_map.mp hx
       simp only[Bw,D7,Am,List.replicate,List.cons_append,List.nil_append,List.set_cons_zero,List.getElem?_cons_succ,List.getElem?_cons_zero,Option.some.injEq,dI0,D.bl.injEq,Aa,hl',As,true_and,exists_eq_left',decide_eq_true_eq,D.int.injEq,reduceCtorEq,if_false]
       by_cases z1:b≤y
       ·refine it0 z1 ?_
        by_cases z2:y≤c
        ·exact it0 z2 (Fg.of (g1 (by simp[A5,z1,z2])))
        ·exact it1 z2 (Fg.of (g2 (by simp[A5,z1,z2])))
       ·exact it1 z1 (Fg.of (g2 (by simp[A5,z1])))
      ·rw[Kg (f:=fun x=>decide (b≤x)&&decide (x≤c))]
       refine⟨Nat.zero_le _,fun p5 hp5=>Tg (Bb Aa hp5) Aa ⟨_,rfl,it1 ?_ ⟨G',(Sub.new hp4).trans (Sub.new hp5),_,_,rfl,rfl⟩⟩⟩
       rw[Wv hc bc (Int.le_refl _)];decide
    ·rintro σ G3 ⟨v11,v12,rfl,rfl⟩
     simp only[Bj,Zb,Vs,C0,Am,List.getElem?_cons_succ,List.getElem?_cons_zero,Option.some.injEq,Bw,nOp,nCB,Aj,Aq,List.cons.injEq,and_true,dI0,D.int.injEq,D.bl.injEq,Bc,nC,Bm,exists_eq_left',decide_eq_true_eq,M4,reduceCtorEq,if_false,Br,Ou,Fn,Ar,List.length_cons,List.length_nil,Nat.zero_add,Aw,Cq,Dh]
     refine⟨fun σ' G'=>σ'=[some (.ref a),some (.tup [seaD s,.int d,Ai ws]),some (.str (Ad u).1),some (Ai tL),some (seaD s),some (.int d),some (Ai ws),some (.tup pap),some (.int (t:Nat)),some (.ref p),some (.bl gd),v11,v12,v13]∧G'=G3,⟨gd,rfl,?_⟩,?_⟩
     ·cases gd with
      |false=>exact it1 (by decide) (Fs.of ⟨rfl,rfl⟩)
      |true=>
       have:=hk9 rfl
       exact it0 rfl ⟨cs.length,by simp[Dj,vp],it1 (by omega) (Fs.of ⟨rfl,rfl⟩)⟩
     ·rintro σ' G' ⟨rfl,rfl⟩
      refine⟨_,rfl,_,rfl,_,rfl,s.length,by simp[seaD,Dj],Bn s2.box (by omega) (by omega) fun y b6 y0 y1=>?_⟩
      have s6:=s2.take b6
      have vp6:Ab G' a (.lst [.int b6]) p=some (.lst (cs.map D.int)):=by rw[Ae nap.symm];exact vp
      generalize Ab G' a (.lst [.int b6])=G6 at *
      rw[Bl]
      refine⟨szz (by omega),fun p7 hp7=>?_⟩
      rw[Qz (Bb vp6 hp7) Aa]
      have s7:=s6.lay (o:=.lst [.int (1+y)]) hp7
      generalize Ab G6 p7 (.lst [.int (1+y)])=G7 at *
      refine⟨szz (by simp;omega),fun p8 hp8=>⟨cs++[1+y],by rw[A0 Aa,List.map_append];rfl,by simp;omega,fun p9 hp9=>⟨_,A0 Aa,_,rfl,gd,rfl,?_⟩⟩⟩
      have s9:=(s7.lay hp8).lay hp9 (o:=.lst ((C7 (cs++[1+y])).map D.int))
      generalize Ab (Ab G7 p8 _) p9 _=G9 at *
      cases gd with
      |false=>exact it1 (by decide) (Fs.of ⟨_,_,_,_,_,_,rfl,s9⟩)
      |true=>
       refine it0 rfl ⟨_,rfl,_,rfl,_,rfl,_,rfl,_,rfl,s,h,d,ws,u,C7 (cs++[1+y]),rfl,ok,U8 co (x:=1+y) (by omega) (by omega) lcs,s9.get naT hT,?_⟩
       rw[hm9 _ (fun x hx=>mem_sortU.mpr (List.mem_append_left _ hx)) rfl]
       exact⟨true,rfl,it1 (by decide) (Fs.of ⟨_,_,_,_,_,_,rfl,s9⟩)⟩
  ·rintro σ G1 ⟨v8,v9,v10,v11,v12,v13,rfl,s1⟩
   simp only[Bc,nC]
   exact Fq.of (k _ s1)
abbrev s_L_side_right:Stmt:=top 113
abbrev K6:List Str:=["_law_box_here", "_law_fair_here", "_law_side", "_law_sea", "_law_draught", "_law_fairway", "_law_told_ones", "_law_other", "_law_cut", "_law_outer", "_law_deeper"]
abbrev p_L_side_right:List Str:=["_law_box_here", "_law_fair_here", "_law_side"]
theorem sc_L_side_right:FnScope K6 p_L_side_right (defScope s_L_side_right):=⟨rfl,rfl,rfl,by decide +kernel,rfl,by decide +kernel,by decide +kernel⟩
theorem nd_L_side_right_1:((["_law_column"]:List Str)++(["_law_box_here", "_law_fair_here", "_law_side", "_law_sea", "_law_draught", "_law_fairway", "_law_told_ones", "_law_other", "_law_cut", "_law_outer", "_law_deeper"]:List Str)).Nodup:=by decide +kernel
theorem nd_L_side_right_2:((["_law_column"]:List Str)++(["_law_box_here", "_law_fair_here", "_law_side", "_law_sea", "_law_draught", "_law_fairway", "_law_told_ones", "_law_other", "_law_cut", "_law_outer", "_law_deeper"]:List Str)).Nodup:=by decide +kernel
theorem Go:((["_law_depth"]:List Str)++(["_law_column", "_law_box_here", "_law_fair_here", "_law_side", "_law_sea", "_law_draught", "_law_fairway", "_law_told_ones", "_law_other", "_law_cut", "_law_outer", "_law_deeper"]:List Str)).Nodup:=by decide +kernel
def spSide(T0:Addr)(q:Str):DSp:=fun ds G Q _=>∃a s h d ws u,ds=[.ref a,.tup [seaD s,.int d,Ai ws],.str (Ad u).1]∧FairOk s h d ws∧(∃b,G a=some (.lst [.int b]))∧G T0=some (.tbl q)∧∀G',Step a G G'→Q (.bl true) G'
theorem Z9{f:Addr}{fd:FuncData}{q:Str}(F:Fun K "_law_side_right" "_law_side_right" s_L_side_right f fd)(T:Sz P w K mg C aS)(Agv:Def P w K mg base CX0 1 "_law_take" p_L_take spTake)(Agz:Def P w K mg base CX0 12 "keeps" p_keeps (spKeeps T0 q))(Agy:Def P w K mg base CX0 12 "least_columns" p_least_columns (spLeast T0 q))(Ah1:Def P w K mg base CX0 1 "_law_turned" p_L_turned spTurned)(Ah2:Def P w K mg base CX0 1 "_law_other_side" p_L_other_side spOther)(Ah3:Def P w K mg base CX0 13 "_law_stretches_right" A7 (Vw T0 q)):FnOk P w K mg base CX0 14 f fd p_L_side_right (liftSp K (spSide T0 q)):=by
 refine okD F sc_L_side_right (fun ds G Q E h=>?_) (fun cdv A outer s H XE ds G Q E hr h=>?_)
 ·obtain⟨a,s,h,d,ws,u,rfl,_⟩:=h;rfl
 ·obtain⟨a,s,h,d,ws,u,rfl,ok,hG,hT,k⟩:=h
  have naT:a≠T0:=fun e=>by obtain⟨b,hb⟩:=hG;rw[e,hT] at hb;cases hb
  refine⟨_,(@qss_cons _ _ _ _ _ (@Dn _ _ _ _ _ _ (@q_v1 _ _ 1 _ (by exact⟨rfl,rfl,rfl,rfl⟩)) (@qg_tup _ _ _ _ _ 3 rfl (@qgs_cons _ _ _ _ _ (@qg_name _ _ 3 _ sc_L_side_right.nd (by rfl) (by exact .inl rfl) (by exact .inl rfl)) (@qgs_cons _ _ _ _ _ (@qg_name _ _ 4 _ sc_L_side_right.nd (by rfl) (by exact .inl rfl) (by exact .inl rfl)) (@qgs_cons _ _ _ _ _ (@qg_name _ _ 5 _ sc_L_side_right.nd (by rfl) (by exact .inl rfl) (by exact .inl rfl)) (@qgs_nil _) (by rfl)) (by rfl)) (by rfl)) (by rfl) (by rfl)) (by rfl) (by rfl) (by rfl)) (@qss_cons _ _ _ _ _ (@qs_set _ _ _ _ 6 _ _ sc_L_side_right.nd (@q_call _ _ _ _ _ _ _ _ noX _ _ _ Agy (hr.mono (by decide)) (@passN _ _) (@qa_consP _ _ _ _ _ (@q_v1 _ _ 3 _ (by exact⟨rfl,rfl,rfl,rfl⟩)) (@qa_consP _ _ _ _ _ (@q_v1 _ _ 4 _ (by exact⟨rfl,rfl,rfl,rfl⟩)) (@qa_consP _ _ _ _ _ (@q_v1 _ _ 5 _ (by exact⟨rfl,rfl,rfl,rfl⟩)) (@qa_consP _ _ _ _ _ (@q_v1 _ _ 2 _ (by exact⟨rfl,rfl,rfl,rfl⟩)) (@qa_nil _) (by rfl)) (by rfl)) (by rfl)) (by rfl)) (by rfl) (by decide) (by rfl) (by rfl)) (by rfl) (by exact .inl rfl) (by rfl) (by exact .inl rfl)) (@qss_cons _ _ _ _ _ (@qs_if _ _ _ _ _ _ _ _ (@qt_of _ _ _ (@Dt _ _ _ _ _ _ _ (@qt_not _ _ _ _ (@qt_tru _ _ _ (@q_call _ _ _ _ _ _ _ _ noX _ _ _ Agz (hr.mono (by decide)) (@passN _ _) (@qa_consP _ _ _ _ _ (@q_v1 _ _ 3 _ (by exact⟨rfl,rfl,rfl,rfl⟩)) (@qa_consP _ _ _ _ _ (@q_v1 _ _ 4 _ (by exact⟨rfl,rfl,rfl,rfl⟩)) (@qa_consP _ _ _ _ _ (@q_v1 _ _ 5 _ (by exact⟨rfl,rfl,rfl,rfl⟩)) (@qa_consP _ _ _ _ _ (@q_v1 _ _ 2 _ (by exact⟨rfl,rfl,rfl,rfl⟩)) (@qa_consP _ _ _ _ _ (@q_v1 _ _ 6 _ (by exact⟨rfl,rfl,rfl,rfl⟩)) (@qa_nil _) (by rfl)) (by rfl)) (by rfl)) (by rfl)) (by rfl)) (by rfl) (by decide) (by rfl) (by rfl)) (by intro _ ;rfl))) (@qw_or1 _ _ _ _ (@qt_not _ _ _ _ (@qt_tru _ _ _ (@q_call _ _ _ _ _ _ _ _ noX _ _ _ Ah3 (hr.mono (by decide)) (@passN _ _) (@qa_consP _ _ _ _ _ (@q_v1 _ _ 0 _ (by exact⟨rfl,rfl,rfl,rfl⟩)) (@qa_consP _ _ _ _ _ (@q_v1 _ _ 1 _ (by exact⟨rfl,rfl,rfl,rfl⟩)) (@qa_consP _ _ _ _ _ (@q_v1 _ _ 2 _ (by exact⟨rfl,rfl,rfl,rfl⟩)) (@qa_consP _ _ _ _ _ (@q_v1 _ _ 6 _ (by exact⟨rfl,rfl,rfl,rfl⟩)) (@qa_nil _) (by rfl)) (by rfl)) (by rfl)) (by rfl)) (by rfl) (by decide) (by rfl) (by rfl)) (by intro _ ;rfl)))))) (@qss_one _ _ _ (@qs_ret _ _ _ _ (@q_bl _ _ _ _))) (@qss_nil _)) (@qss_cons _ _ _ _ _ (@qs_set _ _ _ _ 7 _ _ sc_L_side_right.nd (@q_call _ _ _ _ _ _ _ _ noX _ _ _ Ah1 (hr.mono (by decide)) (@passN _ _) (@qa_consP _ _ _ _ _ (@q_v1 _ _ 1 _ (by exact⟨rfl,rfl,rfl,rfl⟩)) (@qa_nil _) (by rfl)) (by rfl) (by decide) (by rfl) (by rfl)) (by rfl) (by exact .inl rfl) (by rfl) (by exact .inl rfl)) (@qss_cons _ _ _ _ _ (@qs_if _ _ _ _ _ _ _ _ (@qt_cmp _ _ _ _ _ _ _ _ (@Abg _ _ hr) (@q_call _ _ _ _ _ _ _ _ noX _ _ _ Agy (hr.mono (by decide)) (@passN _ _) (@qa_consP _ _ _ _ _ (@C4 _ _ _ _ _ _ (@q_v1 _ _ 7 _ (by exact⟨rfl,rfl,rfl,rfl⟩)) (@q_int _ _ _ _) (by intro _ _ ;rfl)) (@qa_consP _ _ _ _ _ (@q_v1 _ _ 4 _ (by exact⟨rfl,rfl,rfl,rfl⟩)) (@qa_consP _ _ _ _ _ (@C4 _ _ _ _ _ _ (@q_v1 _ _ 7 _ (by exact⟨rfl,rfl,rfl,rfl⟩)) (@q_int _ _ _ _) (by intro _ _ ;rfl)) (@qa_consP _ _ _ _ _ (@q_call _ _ _ _ _ _ _ _ noX _ _ _ Ah2 (hr.mono (by decide)) (@passN _ _) (@qa_consP _ _ _ _ _ (@q_v1 _ _ 2 _ (by exact⟨rfl,rfl,rfl,rfl⟩)) (@qa_nil _) (by rfl)) (by rfl) (by decide) (by rfl) (by rfl)) (@qa_nil _) (by rfl)) (by rfl)) (by rfl)) (by rfl)) (by rfl) (by decide) (by rfl) (by rfl)) (@q_v1 _ _ 6 _ (by exact⟨rfl,rfl,rfl,rfl⟩)) (nomark _)) (@qss_one _ _ _ (@qs_ret _ _ _ _ (@q_bl _ _ _ _))) (@qss_nil _)) (@qss_cons _ _ _ _ _ (@qs_set _ _ _ _ 8 _ _ sc_L_side_right.nd (@q_op _ _ _ _ _ _ _ _ (@o_addD _) (@q_int _ _ _ _) (@q_call _ _ _ _ _ _ _ _ noX _ _ _ Agv (hr.mono (by decide)) (@passN _ _) (@qa_consP _ _ _ _ _ (@q_v1 _ _ 0 _ (by exact⟨rfl,rfl,rfl,rfl⟩)) (@qa_consP _ _ _ _ _ (@q_op _ _ _ _ _ _ _ _ (@C8 _) (@q_callB _ _ _ _ _ _ _ _ _ (@c_len _) (T.blt (by decide)) (by decide +kernel) (@qa_consP _ _ _ _ _ (@q_v1 _ _ 3 _ (by exact⟨rfl,rfl,rfl,rfl⟩)) (@qa_nil _) (by rfl)) (by rfl) (by decide) (by decide) (by rfl) (by rfl)) (@q_int _ _ _ _)) (@qa_nil _) (by rfl)) (by rfl)) (by rfl) (by decide) (by rfl) (by rfl))) (by rfl) (by exact .inr rfl) (by rfl) (by exact .inl rfl)) (@qss_cons _ _ _ _ _ (@qs_set _ _ _ _ 9 _ _ sc_L_side_right.nd (@q_call _ _ _ _ _ _ _ _ noX _ _ _ Agy (hr.mono (by decide)) (@passN _ _) (@qa_consP _ _ _ _ _ (@F4 _ _ _ _ _ _ _ _ _ (@q_v1 _ _ 3 _ (by exact⟨rfl,rfl,rfl,rfl⟩)) (@F3 _) (@F2 _ _ _ (@q_v2 _ _ 8 _ (by exact⟨rfl,rfl,rfl,rfl⟩)))) (@qa_consP _ _ _ _ _ (@q_v1 _ _ 4 _ (by exact⟨rfl,rfl,rfl,rfl⟩)) (@qa_consP _ _ _ _ _ (@F4 _ _ _ _ _ _ _ _ _ (@q_v1 _ _ 5 _ (by exact⟨rfl,rfl,rfl,rfl⟩)) (@F3 _) (@F2 _ _ _ (@q_v2 _ _ 8 _ (by exact⟨rfl,rfl,rfl,rfl⟩)))) (@qa_consP _ _ _ _ _ (@q_v1 _ _ 2 _ (by exact⟨rfl,rfl,rfl,rfl⟩)) (@qa_nil _) (by rfl)) (by rfl)) (by rfl)) (by rfl)) (by rfl) (by decide) (by rfl) (by rfl)) (by rfl) (by exact .inl rfl) (by rfl) (by exact .inl rfl)) (@qss_cons _ _ _ _ _ (@qs_if _ _ _ _ _ _ _ _ (@qt_cmp _ _ _ _ _ _ _ _ (@Abg _ _ hr) (@q_v1 _ _ 9 _ (by exact⟨rfl,rfl,rfl,rfl⟩)) (@q_callTy _ _ _ _ _ _ _ _ _ (@c_tuple _) (T.blt (by decide)) (by decide +kernel) (@qa_consP _ _ _ _ _ (@q_compz _ _ _ _ _ _ _ _ _ _ _ ["_law_column"] ["_law_box_here", "_law_fair_here", "_law_side", "_law_sea", "_law_draught", "_law_fairway", "_law_told_ones", "_law_other", "_law_cut", "_law_outer", "_law_deeper"] rfl (@compOz _ _ _ _ (by rfl) (by rfl) (by rfl) (by rfl) (by rfl)) (@q_v1 _ _ 6 _ (by exact⟨rfl,rfl,rfl,rfl⟩)) (fun _ _ _=>(@qg_name _ _ 0 _ nd_L_side_right_1 (by rfl) (by exact .inl rfl) (by exact .inr rfl))) (fun _ _ _=>(@qf_one _ _ _ (@qt_cmp _ _ _ _ _ _ _ _ (@o_lt _) (@q_v1 _ _ 0 _ (by exact⟨rfl,rfl,rfl,rfl⟩)) (@q_v2 _ _ 9 _ (by exact⟨rfl,rfl,rfl,rfl⟩)) (nomark _)))) (fun _ _ _=>(@q_v1 _ _ 0 _ (by exact⟨rfl,rfl,rfl,rfl⟩))) (by intro _ ;rfl)) (@qa_nil _) (by rfl)) (by rfl) (by decide) (by decide) (by rfl) (by rfl)) (nomark _)) (@qss_one _ _ _ (@qs_ret _ _ _ _ (@q_bl _ _ _ _))) (@qss_nil _)) (@qss_cons _ _ _ _ _ (@qs_set _ _ _ _ 10 _ _ sc_L_side_right.nd (@q_callTy _ _ _ _ _ _ _ _ _ (@c_tuple _) (T.blt (by decide)) (by decide +kernel) (@qa_consP _ _ _ _ _ (@q_compz _ _ _ _ _ _ _ _ _ _ _ ["_law_column"] ["_law_box_here", "_law_fair_here", "_law_side", "_law_sea", "_law_draught", "_law_fairway", "_law_told_ones", "_law_other", "_law_cut", "_law_outer", "_law_deeper"] rfl (@compOz _ _ _ _ (by rfl) (by rfl) (by rfl) (by rfl) (by rfl)) (@q_v1 _ _ 3 _ (by exact⟨rfl,rfl,rfl,rfl⟩)) (fun _ _ _=>(@qg_name _ _ 0 _ nd_L_side_right_2 (by rfl) (by exact .inl rfl) (by exact .inr rfl))) (fun _ _ _=>(@qf_nil _)) (fun _ _ _=>(@q_callTy _ _ _ _ _ _ _ _ _ (@c_tuple _) (T.blt (by decide)) (by decide +kernel) (@qa_consP _ _ _ _ _ (@q_compz _ _ _ _ _ _ _ _ _ _ _ ["_law_depth"] ["_law_column", "_law_box_here", "_law_fair_here", "_law_side", "_law_sea", "_law_draught", "_law_fairway", "_law_told_ones", "_law_other", "_law_cut", "_law_outer", "_law_deeper"] rfl (@compOz _ _ _ _ (by rfl) (by rfl) (by rfl) (by rfl) (by rfl)) (@q_v1 _ _ 0 _ (by exact⟨rfl,rfl,rfl,rfl⟩)) (fun _ _ _=>(@qg_name _ _ 0 _ Go (by rfl) (by exact .inl rfl) (by exact .inr rfl))) (fun _ _ _=>(@qf_nil _)) (fun _ _ _=>(@q_callB _ _ _ _ _ _ _ _ _ (@Qy _ rfl) (T.blt (by decide)) (by decide +kernel) (@qa_consP _ _ _ _ _ (@q_int _ _ _ _) (@qa_consP _ _ _ _ _ (@q_op _ _ _ _ _ _ _ _ (@o_addD _) (@q_v1 _ _ 0 _ (by exact⟨rfl,rfl,rfl,rfl⟩)) (@q_int _ _ _ _)) (@qa_nil _) (by rfl)) (by rfl)) (by rfl) (by decide) (by decide) (by rfl) (by rfl))) (by intro _ ;rfl)) (@qa_nil _) (by rfl)) (by rfl) (by decide) (by decide) (by rfl) (by rfl))) (by intro _ ;rfl)) (@qa_nil _) (by rfl)) (by rfl) (by decide) (by decide) (by rfl) (by rfl)) (by rfl) (by exact .inl rfl) (by rfl) (by exact .inl rfl)) (@qss_one _ _ _ (@qs_ret _ _ _ _ (@q_cmp _ _ _ _ _ _ _ _ (@o_le _) (@q_callB _ _ _ _ _ _ _ _ _ (@c_len _) (T.blt (by decide)) (by decide +kernel) (@qa_consP _ _ _ _ _ (@q_call _ _ _ _ _ _ _ _ noX _ _ _ Agy (hr.mono (by decide)) (@passN _ _) (@qa_consP _ _ _ _ _ (@q_v1 _ _ 10 _ (by exact⟨rfl,rfl,rfl,rfl⟩)) (@qa_consP _ _ _ _ _ (@q_v1 _ _ 4 _ (by exact⟨rfl,rfl,rfl,rfl⟩)) (@qa_consP _ _ _ _ _ (@q_v1 _ _ 5 _ (by exact⟨rfl,rfl,rfl,rfl⟩)) (@qa_consP _ _ _ _ _ (@q_v1 _ _ 2 _ (by exact⟨rfl,rfl,rfl,rfl⟩)) (@qa_nil _) (by rfl)) (by rfl)) (by rfl)) (by rfl)) (by rfl) (by decide) (by rfl) (by rfl)) (@qa_nil _) (by rfl)) (by rfl) (by decide) (by decide) (by rfl) (by rfl)) (@q_callB _ _ _ _ _ _ _ _ _ (@c_len _) (T.blt (by decide)) (by decide +kernel) (@qa_consP _ _ _ _ _ (@q_v1 _ _ 6 _ (by exact⟨rfl,rfl,rfl,rfl⟩)) (@qa_nil _) (by rfl)) (by rfl) (by decide) (by decide) (by rfl) (by rfl)) (nomark _))))))))))))),?_⟩
  have hw:=ok.sea.wide
  simp only[Bj,Br,Am,Ah,List.map_cons,List.map_nil,List.length_cons,List.length_nil,Nat.zero_add,Nat.reduceAdd,Nat.reduceSub,List.replicate,List.cons_append,List.nil_append,List.getElem?_cons_succ,List.getElem?_cons_zero,Option.some.injEq,Fb,C9,Aw,Fc,Ar,Aj,List.set_cons_succ,List.set_cons_zero,Aq,Cq,nOr,Dh,C0,Bc,nC,Bm,Bw,nOp,dIx,D.int.injEq,nCB,List.cons.injEq,and_true,dI0,nSl,F5,N9,C5,exists_eq_left',if_true,D.tup.injEq,and_assoc,exists_and_left,true_and]
  refine⟨s,h,d,ws,u,rfl,ok,hT,?_⟩
  have hkeep:=Kl (n:=s.length-1) fun i _=>FairOk.far (s:=s) (h:=h) (d:=d) (ws:=ws) u (i:=i)
  obtain⟨coL,lL⟩:=Hq (m:=Ao ws (Ad u).2) (e:=Ap s d ws (Ad u).2) hw
  refine⟨s,h,d,ws,u,_,rfl,ok,coL,hT,?_⟩
  rw[hkeep]
  refine⟨true,rfl,it1 (by decide) ⟨a,s,h,d,ws,u,rfl,ok,hG,hT,fun G1 s1=>⟨true,rfl,it1 (by decide) ?_⟩⟩⟩
  refine⟨s,h,d,ws,rfl,ok,_,rfl,_,rfl,u,rfl,?_⟩
  refine⟨s.map List.reverse,h,d,ws.map (Ds h),!u,rfl,ok.turn,s1.get naT hT,?_⟩
  rw[List.length_map,Tt ok u (n:=s.length-1) (by omega)]
  refine S3 ⟨_,rfl,it1 (by simp) ⟨s.length,by simp[seaD,Dj],?_⟩⟩
  refine Bn s1.box (by omega) (by omega) fun j b2 j0 j1=>?_
  have s2:=s1.take b2
  generalize Ab G1 a (.lst [.int b2])=G2 at *
  obtain⟨j,rfl⟩:=Int.eq_ofNat_of_zero_le j0
  rw[Bl,show(2:Int)+((j:Nat):Int)=((2+j:Nat):Int) by omega]
  refine⟨_,rfl,?_⟩
  rw[Acf]
  refine⟨_,rfl,?_⟩
  rw[Acg]
  have okT:=ok.take (c:=2+j) (by omega) (by omega)
  refine⟨s.take (2+j),h,d,ws.take (2+j),u,rfl,okT,s2.get naT hT,?_⟩
  have e1:(s.take (2+j)).length-1=1+j:=by rw[List.length_take];omega
  dsimp only
  rw[e1,(Fo (c:=0) (n:=1+j) (m:=Ao ws (Ad u).2) (e:=Ap s d ws (Ad u).2) fun i hi=>by
   obtain⟨x1,x2⟩:=Yj (s:=s) (d:=d) (ws:=ws) (t:=(Ad u).2) (c:=2+j) (i:=i) (by omega)
   rw[x1,x2,Int.add_zero,Int.add_zero];exact⟨rfl,rfl⟩).2]
  have hcut:=W4 (m:=Ao ws (Ad u).2) (e:=Ap s d ws (Ad u).2) (n:=s.length-1) (i:=1+j) (by omega)
  have hmore:=Tu ok u
  rw[←hcut]
  generalize (Ac (Ao ws (Ad u).2) (Ap s d ws (Ad u).2) (s.length-1)).2=tL at *
  refine⟨_,rfl,fun p3 hp3=>?_⟩
  have hz:(tL.map D.int).length<sizeLine:=by rw[List.length_map,sizeLine_eq];omega
  refine Ay id (fun x=>decide (A5 x<((2+j:Nat):Int))) hz (fun _=>rfl) (by decide) (fun x ys hx hl' R1 R2 g1 g2=>?_) ?_
  ·obtain⟨y,hy,rfl⟩:=List.mem_map.mp hx
   simp only[Bw,nOp,Am,List.replicate,List.cons_append,List.nil_append,List.set_cons_zero,List.getElem?_cons_zero,Option.some.injEq,List.getElem?_cons_succ,dI0,D.bl.injEq,Aa,hl',As,true_and,exists_eq_left',decide_eq_true_eq,D.int.injEq]
   by_cases z1:y<((2+j:Nat):Int)
   ·exact it0 z1 (Fg.of (g1 (decide_eq_true z1)))
   ·exact it1 z1 (Fg.of (g2 (decide_eq_false z1)))
  ·rw[Kg (f:=fun x=>decide (x<((2+j:Nat):Int)))]
   refine⟨_,A0 Aa,S3 ⟨_,rfl,it1 (by rw[show 1+j+1=2+j by omega];simp) ⟨_,rfl,fun p4 hp4=>?_⟩⟩⟩
   have s3:=s2.lay (o:=.lst ((tL.filter fun x=>decide (x<((2+j:Nat):Int))).map D.int)) hp3
   generalize Ab G2 p3 (.lst ((tL.filter fun x=>decide (x<((2+j:Nat):Int))).map D.int))=G3 at *
   have hz2:(s.map Ai).length<sizeLine:=by rw[List.length_map,sizeLine_eq];omega
   refine Ay V1 (fun _=>true) hz2 (fun _=>rfl) (by decide) (fun x ys hx hl' R1 R2 g1 _=>?_) ?_
   ·obtain⟨c,hc,rfl⟩:=List.mem_map.mp hx
    simp only[Co,nCB,Aj,C5,Am,List.replicate,List.cons_append,List.nil_append,List.set_cons_zero,List.getElem?_cons_zero,Option.some.injEq,Aq,List.cons.injEq,and_true,hl',true_and,exists_eq_left',if_true]
    refine⟨c.map D.int,rfl,fun p5 hp5=>?_⟩
    have hz3:(c.map D.int).length<sizeLine:=by rw[List.length_map,sizeLine_eq];have:=(ok.sea.col c hc).1;have:=ok.sea.high;omega
    refine Ay (fun x=>.int (Dl (A5 x))) (fun _=>true) hz3 (fun _=>rfl) (by decide) (fun x ys' hx hl2 R3 R4 g3 _=>?_) ?_
    ·obtain⟨y,hy,rfl⟩:=List.mem_map.mp hx
     simp only[Co,nCB,Aj,nC,nOp,Am,List.replicate,List.cons_append,List.nil_append,List.set_cons_zero,List.getElem?_cons_zero,Option.some.injEq,Aq,List.cons.injEq,D.int.injEq,and_true,hl2,true_and,and_assoc,exists_and_left,exists_eq_left',Bl,Aa,As,if_true]
     exact Fg.of (g3 rfl)
    ·rw[Bd]
     refine⟨_,A0 Aa,Bb Aa hp5,⟨_,(Sub.new hp5).upd p4 _,?_⟩⟩
     rw[As]
     exact g1 rfl
   ·rw[Bd]
    have e4:(s.map Ai).map V1=(s.map fun c=>c.map Dl).map Ai:=by
     rw[List.map_map,List.map_map]
     refine List.map_congr_left fun c _=>?_
     simp[V1,Ai,A5]
    rw[e4]
    have s4:=s3.lay (o:=.lst ((s.map fun c=>c.map Dl).map Ai)) hp4
    refine⟨_,A0 Aa,s.map (fun c=>c.map Dl),h,d,ws,u,rfl,ok.more,s4.get naT hT,_,by simp only[Ai,Dj,List.length_map];rfl,tL.length,by simp[Ai,Dj],Fq.of ?_⟩
    rw[decide_eq_true (by have:=hmore;omega)]
    exact k _ s4
abbrev s_L_right:Stmt:=top 115
abbrev Vo:List Str:=["_law_box_here", "_law_fair_here"]
abbrev Df:List Str:=["_law_box_here"]
theorem sc_L_right:FnScope Vo Df (defScope s_L_right):=⟨rfl,rfl,rfl,by decide +kernel,rfl,by decide +kernel,by decide +kernel⟩
def M2(T0:Addr)(q:Str):DSp:=fun ds G Q _=>∃a,ds=[.ref a]∧(∃b,G a=some (.lst [.int b]))∧G T0=some (.tbl q)∧∀G',Step a G G'→Q (.bl true) G'
theorem X5{f:Addr}{fd:FuncData}{q:Str}(F:Fun K "_law_right" "_law_right" s_L_right f fd)(T:Sz P w K mg C aS)(Ah4:Def P w K mg base CX0 2 "_law_fair" p_L_fair spFair)(Ag3:Def P w K mg base CX0 14 "_law_side_right" p_L_side_right (spSide T0 q))(Ah5:Def P w K mg base CX0 13 "_law_narrow_right" Bf (J7 T0 q)):FnOk P w K mg base CX0 15 f fd Df (liftSp K (M2 T0 q)):=by
 refine okD F sc_L_right (fun ds G Q E h=>?_) (fun cdv A outer s H XE ds G Q E hr h=>?_)
 ·obtain⟨a,rfl,_⟩:=h;rfl
 ·obtain⟨a,rfl,hG,hT,k⟩:=h
  have naT:a≠T0:=fun e=>by obtain⟨b,hb⟩:=hG;rw[e,hT] at hb;cases hb
  refine⟨_,(@qss_cons _ _ _ _ _ (@qs_set _ _ _ _ 1 _ _ sc_L_right.nd (@q_call _ _ _ _ _ _ _ _ noX _ _ _ Ah4 (hr.mono (by decide)) (@passN _ _) (@qa_consP _ _ _ _ _ (@q_v1 _ _ 0 _ (by exact⟨rfl,rfl,rfl,rfl⟩)) (@qa_consP _ _ _ _ _ (@q_int _ _ _ _) (@qa_nil _) (by rfl)) (by rfl)) (by rfl) (by decide) (by rfl) (by rfl)) (by rfl) (by exact .inl rfl) (by rfl) (by exact .inl rfl)) (@qss_cons _ _ _ _ _ (@qs_if _ _ _ _ _ _ _ _ (@qt_of _ _ _ (@Dt _ _ _ _ _ _ _ (@qt_not _ _ _ _ (@qt_tru _ _ _ (@q_call _ _ _ _ _ _ _ _ noX _ _ _ Ag3 (hr.mono (by decide)) (@passN _ _) (@qa_consP _ _ _ _ _ (@q_v1 _ _ 0 _ (by exact⟨rfl,rfl,rfl,rfl⟩)) (@qa_consP _ _ _ _ _ (@q_v1 _ _ 1 _ (by exact⟨rfl,rfl,rfl,rfl⟩)) (@qa_consP _ _ _ _ _ (@Jw _ _ _ _) (@qa_nil _) (by rfl)) (by rfl)) (by rfl)) (by rfl) (by decide) (by rfl) (by rfl)) (by intro _ ;rfl))) (@qw_or1 _ _ _ _ (@qt_not _ _ _ _ (@qt_tru _ _ _ (@q_call _ _ _ _ _ _ _ _ noX _ _ _ Ag3 (hr.mono (by decide)) (@passN _ _) (@qa_consP _ _ _ _ _ (@q_v1 _ _ 0 _ (by exact⟨rfl,rfl,rfl,rfl⟩)) (@qa_consP _ _ _ _ _ (@q_v1 _ _ 1 _ (by exact⟨rfl,rfl,rfl,rfl⟩)) (@qa_consP _ _ _ _ _ (@Jw _ _ _ _) (@qa_nil _) (by rfl)) (by rfl)) (by rfl)) (by rfl) (by decide) (by rfl) (by rfl)) (by intro _ ;rfl)))))) (@qss_one _ _ _ (@qs_ret _ _ _ _ (@q_bl _ _ _ _))) (@qss_nil _)) (@qss_one _ _ _ (@qs_ret _ _ _ _ (@q_call _ _ _ _ _ _ _ _ noX _ _ _ Ah5 (hr.mono (by decide)) (@passN _ _) (@qa_consP _ _ _ _ _ (@q_v1 _ _ 0 _ (by exact⟨rfl,rfl,rfl,rfl⟩)) (@qa_nil _) (by rfl)) (by rfl) (by decide) (by rfl) (by rfl)))))),?_⟩
  simp only[Bj,Br,Ar,Aj,Am,Ah,List.map_cons,List.map_nil,List.length_cons,List.length_nil,Nat.zero_add,Nat.reduceAdd,Nat.reduceSub,List.replicate,List.cons_append,List.nil_append,List.getElem?_cons_zero,Option.some.injEq,nC,Aq,Aw,Cq,nOr,Dh,C0,List.set_cons_succ,List.set_cons_zero,List.getElem?_cons_succ,Bc,Bm,exists_eq_left',if_true]
  refine⟨a,16,rfl,by decide,by decide,hG,fun s h d ws G1 ok s1=>?_⟩
  refine⟨a,s,h,d,ws,true,rfl,ok,s1.box,s1.get naT hT,fun G2 s2=>⟨true,rfl,it1 (by decide) ?_⟩⟩
  have s2:=s1.trans s2
  refine⟨a,s,h,d,ws,false,rfl,ok,s2.box,s2.get naT hT,fun G3 s3=>⟨true,rfl,it1 (by decide) ?_⟩⟩
  have s3:=s2.trans s3
  exact⟨a,rfl,s3.box,s3.get naT hT,fun G4 s4=>Fq.of (k _ (s3.trans s4))⟩
end
end K2
set_option maxRecDepth 100000
set_option maxHeartbeats 4000000
namespace K2
open PySem L2 D3
section
variable{P:Program}{w:World}{K:W.Frag}{mg:Str→Option Value}{base:Heap}{C T0 aS:Addr}
abbrev s_law:Stmt:=top 116
abbrev N_law:List Str:=["_law_script", "_law_k", "_law_lap"]
abbrev Vz:List Str:=["_law_script"]
theorem sc_law:FnScope N_law Vz (defScope s_law):=⟨rfl,rfl,rfl,by decide +kernel,rfl,by decide +kernel,by decide +kernel⟩
theorem Ado{f:Addr}{fd:FuncData}{q:Str}(F:Fun K "law" "law" s_law f fd)(T:Nums mg)(Ah6:Def P w K mg base CX0 2 "_law_box" p_L_box spBox)(Ah7:Def P w K mg base CX0 15 "_law_right" Df (M2 T0 q)):FnOk P w K mg base CX0 16 f fd Vz (liftSp K (Mu [(T0,q)])):=by
 refine okD F sc_law (fun ds G Q E h=>?_) (fun cdv A outer s H XE ds G Q E hr h=>?_)
 ·obtain⟨ns,rfl,_⟩:=h;rfl
 ·obtain⟨ns,rfl,hl,hT,q⟩:=h
  have hT:=hT _ (List.mem_singleton.mpr rfl)
  dsimp only at hT
  refine⟨_,(@qss_cons _ _ _ _ _ (@Ea _ _ _ _ _ _ _ _ _ _ PassesOwn.never rfl (T.blt (by decide)) (@qa_consP _ _ _ _ _ (@q_callB _ _ _ _ _ _ _ _ _ (@Wy _ rfl) (T.blt (by decide)) (by decide +kernel) (@qa_consP _ _ _ _ _ (@q_int _ _ _ _) (@qa_consP _ _ _ _ _ (@q_callB _ _ _ _ _ _ _ _ _ (@Qy _ rfl) (T.blt (by decide)) (by decide +kernel) (@qa_consP _ _ _ _ _ (@q_callB _ _ _ _ _ _ _ _ _ (@c_len _) (T.blt (by decide)) (by decide +kernel) (@qa_consP _ _ _ _ _ (@q_v1 _ _ 0 _ (by exact⟨rfl,rfl,rfl,rfl⟩)) (@qa_nil _) (by rfl)) (by rfl) (by decide) (by decide) (by rfl) (by rfl)) (@qa_consP _ _ _ _ _ (@q_int _ _ _ _) (@qa_nil _) (by rfl)) (by rfl)) (by rfl) (by decide) (by decide) (by rfl) (by rfl)) (@qa_nil _) (by rfl)) (by rfl)) (by rfl) (by decide) (by decide) (by rfl) (by rfl)) (@qa_nil _) (by rfl)) (@qg_name _ _ 1 _ sc_law.nd (by rfl) (by exact .inl rfl) (by exact .inl rfl)) (@qss_one _ _ _ (@Ea _ _ _ _ _ _ _ _ _ _ PassesOwn.never rfl (T.blt (by decide)) (@qa_consP _ _ _ _ _ (@q_int _ _ _ _) (@qa_nil _) (by rfl)) (@qg_name _ _ 2 _ sc_law.nd (by rfl) (by exact .inl rfl) (by exact .inl rfl)) (@qss_one _ _ _ (@qs_if _ _ _ _ _ _ _ _ (@qt_not _ _ _ _ (@qt_tru _ _ _ (@q_call _ _ _ _ _ _ _ _ noX _ _ _ Ah7 (hr.mono (by decide)) (@passN _ _) (@qa_consP _ _ _ _ _ (@q_call _ _ _ _ _ _ _ _ noX _ _ _ Ah6 (hr.mono (by decide)) (@passN _ _) (@qa_consP _ _ _ _ _ (@q_v1 _ _ 0 _ (by exact⟨rfl,rfl,rfl,rfl⟩)) (@qa_consP _ _ _ _ _ (@q_v1 _ _ 1 _ (by exact⟨rfl,rfl,rfl,rfl⟩)) (@qa_consP _ _ _ _ _ (@q_v1 _ _ 2 _ (by exact⟨rfl,rfl,rfl,rfl⟩)) (@qa_nil _) (by rfl)) (by rfl)) (by rfl)) (by rfl) (by decide) (by rfl) (by rfl)) (@qa_nil _) (by rfl)) (by rfl) (by decide) (by rfl) (by rfl)) (by intro _ ;rfl))) (@qss_one _ _ _ (@qs_ret _ _ _ _ (@q_bl _ _ _ _))) (@qss_nil _))) (by rfl) (by rfl) (by intro _ ;rfl))) (by rfl) (by rfl) (by intro _ ;rfl)) (@qss_one _ _ _ (@qs_ret _ _ _ _ (@q_bl _ _ _ _)))),?_⟩
  simp only[Bj,Ig,Aj,nCB,nC,Am,Ah,List.map_cons,List.map_nil,List.length_cons,List.length_nil,Nat.zero_add,Nat.reduceAdd,Nat.reduceSub,List.replicate,List.cons_append,List.nil_append,List.getElem?_cons_zero,Option.some.injEq,Aq,List.cons.injEq,and_true,D.int.injEq,Int.reducePow,Int.reduceNeg,and_assoc,exists_eq_left',exists_and_left,Ov]
  have hb:∀n:Int,0≤n→1≤(if (if 3<n then 3 else n)>1 then (if 3<n then 3 else n) else 1)∧(if (if 3<n then 3 else n)>1 then (if 3<n then 3 else n) else 1)≤3:=fun n hn=>by
   by_cases h:3<n
   ·rw[if_pos h];decide
   ·rw[if_neg h]
    by_cases h2:n>1
    ·rw[if_pos h2];omega
    ·rw[if_neg h2];decide
  obtain⟨b1,b2⟩:=hb (ns.length:Nat) (by omega)
  generalize (if (if (3:Int)<(ns.length:Nat) then (3:Int) else (ns.length:Nat))>1 then (if (3:Int)<(ns.length:Nat) then (3:Int) else (ns.length:Nat)) else 1)=m at *
  refine⟨by omega,by omega,?_⟩
  refine B1 (fun i σ G'=>∃v1 v2,σ=[some (.lint ns),v1,v2]∧G' T0=some (.tbl _)) ⟨none,none,rfl,hT⟩ ?_ ?_
  ·rintro i σ G1 hi ⟨v1,v2,rfl,hT1⟩
   simp only[Aw,Ig,Aj,nC,Aq,List.cons.injEq,D.int.injEq,and_true,Int.reducePow,Int.reduceNeg,List.set_cons_succ,List.set_cons_zero,and_assoc,exists_eq_left',Int.reduceLE,Int.reduceLT,Int.reduceToNat,true_and]
   refine B1 (n:=2) (fun j σ G'=>∃v2,σ=[some (.lint ns),some (.int (i:Nat)),v2]∧G' T0=some (.tbl _)) ⟨v2,rfl,hT1⟩ ?_ ?_
   ·rintro j σ G2 hj ⟨v2,rfl,hT2⟩
    simp only[Aw,Cq,Dh,C0,Ar,Aj,Am,List.set_cons_succ,List.set_cons_zero,List.getElem?_cons_zero,Option.some.injEq,List.getElem?_cons_succ,Aq,Bc,nC,Bm,exists_eq_left']
    refine⟨ns,(i:Nat),(j:Nat),rfl,⟨by omega,by omega,by omega,by omega⟩,fun p hp n=>?_⟩
    have hT3:=Bb (u:=.lst [.int n]) hT2 hp
    refine⟨p,rfl,⟨n,Aa⟩,hT3,fun G3 st=>⟨true,rfl,it1 (by decide) (Fs.of ⟨_,rfl,?_⟩)⟩⟩
    exact st.get (gne hT2 hp).symm hT3
   ·rintro σ G2 ⟨v2,rfl,hT2⟩
    exact⟨G2,Sub.refl _,_,_,rfl,hT2⟩
  ·rintro σ G1 ⟨v1,v2,rfl,_⟩
   simp only[Bc,nC]
   exact Fq.of (q _)
theorem Vk{K:W.Frag}:∀f fd,Fun K "_law_cell" "_law_cell" s_L_cell f fd→Binds K fd p_L_cell []:=fun f fd F=>F.binds (ps:=p_L_cell) fun _ _ _ _ _ _ us hl=>match us,hl with | [_,_],_=>rfl
theorem Yy{K:W.Frag}:∀f fd,Fun K "_law_mix" "_law_mix" s_L_mix f fd→Binds K fd E3 []:=fun f fd F=>F.binds (ps:=E3) fun _ _ _ _ _ _ us hl=>match us,hl with | [_,_],_=>rfl
theorem Yz{K:W.Frag}:∀f fd,Fun K "_law_box" "_law_box" s_L_box f fd→Binds K fd p_L_box []:=fun f fd F=>F.binds (ps:=p_L_box) fun _ _ _ _ _ _ us hl=>match us,hl with | [_,_,_],_=>rfl
theorem Vi{K:W.Frag}:∀f fd,Fun K "_law_take" "_law_take" s_L_take f fd→Binds K fd p_L_take []:=fun f fd F=>F.binds (ps:=p_L_take) fun _ _ _ _ _ _ us hl=>match us,hl with | [_,_],_=>rfl
theorem Fv{K:W.Frag}:∀f fd,Fun K "is_whole_within" "is_whole_within" s_is_whole_within f fd→Binds K fd p_is_whole_within []:=fun f fd F=>F.binds (ps:=p_is_whole_within) fun _ _ _ _ _ _ us hl=>match us,hl with | [_,_,_],_=>rfl
theorem Ey{K:W.Frag}:∀f fd,Fun K "are_rising_within" "are_rising_within" s_are_rising_within f fd→Binds K fd Az []:=fun f fd F=>F.binds (ps:=Az) fun _ _ _ _ _ _ us hl=>match us,hl with | [_,_,_],_=>rfl
theorem P5{K:W.Frag}:∀f fd,Fun K "are_rows" "are_rows" s_are_rows f fd→Binds K fd Cw []:=fun f fd F=>F.binds (ps:=Cw) fun _ _ _ _ _ _ us hl=>match us,hl with | [_],_=>rfl
theorem Ln{K:W.Frag}:∀f fd,Fun K "is_channel" "is_channel" s_is_channel f fd→Binds K fd B4 []:=fun f fd F=>F.binds (ps:=B4) fun _ _ _ _ _ _ us hl=>match us,hl with | [_],_=>rfl
theorem Ib{K:W.Frag}:∀f fd,Fun K "check_channel" "check_channel" s_check_channel f fd→Binds K fd p_check_channel []:=fun f fd F=>F.binds (ps:=p_check_channel) fun _ _ _ _ _ _ us hl=>match us,hl with | [_],_=>rfl
theorem P1{K:W.Frag}:∀f fd,Fun K "is_depth" "is_depth" s_is_depth f fd→Binds K fd Cu []:=fun f fd F=>F.binds (ps:=Cu) fun _ _ _ _ _ _ us hl=>match us,hl with | [_],_=>rfl
theorem Lm{K:W.Frag}:∀f fd,Fun K "is_draught" "is_draught" s_is_draught f fd→Binds K fd B3 []:=fun f fd F=>F.binds (ps:=B3) fun _ _ _ _ _ _ us hl=>match us,hl with | [_],_=>rfl
theorem Vh{K:W.Frag}:∀f fd,Fun K "is_day" "is_day" s_is_day f fd→Binds K fd D0 []:=fun f fd F=>F.binds (ps:=D0) fun _ _ _ _ _ _ us hl=>match us,hl with | [_],_=>rfl
theorem Np{K:W.Frag}:∀f fd,Fun K "is_column" "is_column" s_is_column f fd→Binds K fd Cb []:=fun f fd F=>F.binds (ps:=Cb) fun _ _ _ _ _ _ us hl=>match us,hl with | [_],_=>rfl
theorem Vf{K:W.Frag}:∀f fd,Fun K "is_sea" "is_sea" s_is_sea f fd→Binds K fd Dy []:=fun f fd F=>F.binds (ps:=Dy) fun _ _ _ _ _ _ us hl=>match us,hl with | [_],_=>rfl
theorem Nr{K:W.Frag}:∀f fd,Fun K "check_sea" "check_sea" s_check_sea f fd→Binds K fd Cd []:=fun f fd F=>F.binds (ps:=Cd) fun _ _ _ _ _ _ us hl=>match us,hl with | [_],_=>rfl
theorem Ia{K:W.Frag}:∀f fd,Fun K "check_draught" "check_draught" s_check_draught f fd→Binds K fd p_check_draught []:=fun f fd F=>F.binds (ps:=p_check_draught) fun _ _ _ _ _ _ us hl=>match us,hl with | [_],_=>rfl
theorem Nt{K:W.Frag}:∀f fd,Fun K "check_day" "check_day" s_check_day f fd→Binds K fd p_check_day []:=fun f fd F=>F.binds (ps:=p_check_day) fun _ _ _ _ _ _ us hl=>match us,hl with | [_],_=>rfl
theorem P3{K:W.Frag}:∀f fd,Fun K "depth_at" "depth_at" s_depth_at f fd→Binds K fd Cv []:=fun f fd F=>F.binds (ps:=Cv) fun _ _ _ _ _ _ us hl=>match us,hl with | [_,_],_=>rfl
theorem Pz{K:W.Frag}:∀f fd,Fun K "is_shoal" "is_shoal" s_is_shoal f fd→Binds K fd p_is_shoal []:=fun f fd F=>F.binds (ps:=p_is_shoal) fun _ _ _ _ _ _ us hl=>match us,hl with | [_,_,_],_=>rfl
theorem Vg{K:W.Frag}:∀f fd,Fun K "is_row" "is_row" s_is_row f fd→Binds K fd Dz []:=fun f fd F=>F.binds (ps:=Dz) fun _ _ _ _ _ _ us hl=>match us,hl with | [_],_=>rfl
theorem Lo{K:W.Frag}:∀f fd,Fun K "check_held" "check_held" s_check_held f fd→Binds K fd p_check_held []:=fun f fd F=>F.binds (ps:=p_check_held) fun _ _ _ _ _ _ us hl=>match us,hl with | [_],_=>rfl
theorem K1{K:W.Frag}:∀f fd,Fun K "are_notices" "are_notices" s_are_notices f fd→Binds K fd Bu []:=fun f fd F=>F.binds (ps:=Bu) fun _ _ _ _ _ _ us hl=>match us,hl with | [_,_],_=>rfl
theorem Hz{K:W.Frag}:∀f fd,Fun K "check_notices" "check_notices" s_check_notices f fd→Binds K fd p_check_notices []:=fun f fd F=>F.binds (ps:=p_check_notices) fun _ _ _ _ _ _ us hl=>match us,hl with | [_,_],_=>rfl
theorem Jc{K:W.Frag}:∀f fd,Fun K "chart_behind" "chart_behind" s_chart_behind f fd→Binds K fd Bp []:=fun f fd F=>F.binds (ps:=Bp) fun _ _ _ _ _ _ us hl=>match us,hl with | [_,_,_,_],_=>rfl
theorem P4{K:W.Frag}:∀f fd,Fun K "chart_of" "chart_of" s_chart_of f fd→Binds K fd p_chart_of []:=fun f fd F=>F.binds (ps:=p_chart_of) fun _ _ _ _ _ _ us hl=>match us,hl with | [_,_,_,_],_=>rfl
theorem No{K:W.Frag}:∀f fd,Fun K "places_of" "places_of" s_places_of f fd→Binds K fd Ca []:=fun f fd F=>F.binds (ps:=Ca) fun _ _ _ _ _ _ us hl=>match us,hl with | [_],_=>rfl
theorem Hx{K:W.Frag}:∀f fd,Fun K "marks_against" "marks_against" s_marks_against f fd→Binds K fd Bi []:=fun f fd F=>F.binds (ps:=Bi) fun _ _ _ _ _ _ us hl=>match us,hl with | [_,_],_=>rfl
theorem Jb{K:W.Frag}:∀f fd,Fun K "places_shown" "places_shown" s_places_shown f fd→Binds K fd p_places_shown []:=fun f fd F=>F.binds (ps:=p_places_shown) fun _ _ _ _ _ _ us hl=>match us,hl with | [_,_],_=>rfl
theorem Nq{K:W.Frag}:∀f fd,Fun K "free_rows" "free_rows" s_free_rows f fd→Binds K fd Cc []:=fun f fd F=>F.binds (ps:=Cc) fun _ _ _ _ _ _ us hl=>match us,hl with | [_,_,_,_],_=>rfl
theorem Lp{K:W.Frag}:∀f fd,Fun K "channel_of" "channel_of" s_channel_of f fd→Binds K fd p_channel_of []:=fun f fd F=>F.binds (ps:=p_channel_of) fun _ _ _ _ _ _ us hl=>match us,hl with | [_,_,_,_,_,_],_=>rfl
theorem Ve{K:W.Frag}:∀f fd,Fun K "is_way" "is_way" s_is_way f fd→Binds K fd p_is_way []:=fun f fd F=>F.binds (ps:=p_is_way) fun _ _ _ _ _ _ us hl=>match us,hl with | [_,_],_=>rfl
theorem Rw{K:W.Frag}:∀f fd,Fun K "edge_of" "edge_of" s_edge_of f fd→Binds K fd De []:=fun f fd F=>F.binds (ps:=De) fun _ _ _ _ _ _ us hl=>match us,hl with | [_,_,_],_=>rfl
theorem Rv{K:W.Frag}:∀f fd,Fun K "lane_of" "lane_of" s_lane_of f fd→Binds K fd p_lane_of []:=fun f fd F=>F.binds (ps:=p_lane_of) fun _ _ _ _ _ _ us hl=>match us,hl with | [_,_,_,_],_=>rfl
theorem Yx{K:W.Frag}:∀f fd,Fun K "keeps" "keeps" s_keeps f fd→Binds K fd p_keeps []:=fun f fd F=>F.binds (ps:=p_keeps) fun _ _ _ _ _ _ us hl=>match us,hl with | [_,_,_,_,_],_=>rfl
theorem Gu{K:W.Frag}:∀f fd,Fun K "columns_wanted" "columns_wanted" s_columns_wanted f fd→Binds K fd Ba []:=fun f fd F=>F.binds (ps:=Ba) fun _ _ _ _ _ _ us hl=>match us,hl with | [_],_=>rfl
theorem Hy{K:W.Frag}:∀f fd,Fun K "least_columns" "least_columns" s_least_columns f fd→Binds K fd p_least_columns []:=fun f fd F=>F.binds (ps:=p_least_columns) fun _ _ _ _ _ _ us hl=>match us,hl with | [_,_,_,_],_=>rfl
theorem Vj{K:W.Frag}:∀f fd,Fun K "_law_fair" "_law_fair" s_L_fair f fd→Binds K fd p_L_fair []:=fun f fd F=>F.binds (ps:=p_L_fair) fun _ _ _ _ _ _ us hl=>match us,hl with | [_,_],_=>rfl
theorem Jd{K:W.Frag}:∀f fd,Fun K "can_be_wrong" "can_be_wrong" s_can_be_wrong f fd→Binds K fd Bq []:=fun f fd F=>F.binds (ps:=Bq) fun _ _ _ _ _ _ us hl=>match us,hl with | [_,_,_],_=>rfl
theorem Ff{K:W.Frag}:∀f fd,Fun K "start_of_stretch" "start_of_stretch" s_start_of_stretch f fd→Binds K fd p_start_of_stretch []:=fun f fd F=>F.binds (ps:=p_start_of_stretch) fun _ _ _ _ _ _ us hl=>match us,hl with | [_,_],_=>rfl
theorem Ll{K:W.Frag}:∀f fd,Fun K "is_stretch" "is_stretch" s_is_stretch f fd→Binds K fd B2 []:=fun f fd F=>F.binds (ps:=B2) fun _ _ _ _ _ _ us hl=>match us,hl with | [_,_],_=>rfl
theorem P0{K:W.Frag}:∀f fd,Fun K "is_paper" "is_paper" s_is_paper f fd→Binds K fd p_is_paper []:=fun f fd F=>F.binds (ps:=p_is_paper) fun _ _ _ _ _ _ us hl=>match us,hl with | [_,_,_,_,_],_=>rfl
theorem Py{K:W.Frag}:∀f fd,Fun K "paper_of" "paper_of" s_paper_of f fd→Binds K fd Ct []:=fun f fd F=>F.binds (ps:=Ct) fun _ _ _ _ _ _ us hl=>match us,hl with | [_,_,_,_],_=>rfl
theorem P6{K:W.Frag}:∀f fd,Fun K "_law_turned" "_law_turned" s_L_turned f fd→Binds K fd p_L_turned []:=fun f fd F=>F.binds (ps:=p_L_turned) fun _ _ _ _ _ _ us hl=>match us,hl with | [_],_=>rfl
theorem Jf{K:W.Frag}:∀f fd,Fun K "_law_other_side" "_law_other_side" s_L_other_side f fd→Binds K fd p_L_other_side []:=fun f fd F=>F.binds (ps:=p_L_other_side) fun _ _ _ _ _ _ us hl=>match us,hl with | [_],_=>rfl
theorem Ez{K:W.Frag}:∀f fd,Fun K "_law_stretches_right" "_law_stretches_right" s_L_stretches_right f fd→Binds K fd A7 []:=fun f fd F=>F.binds (ps:=A7) fun _ _ _ _ _ _ us hl=>match us,hl with | [_,_,_,_],_=>rfl
theorem Je{K:W.Frag}:∀f fd,Fun K "_law_side_right" "_law_side_right" s_L_side_right f fd→Binds K fd p_L_side_right []:=fun f fd F=>F.binds (ps:=p_L_side_right) fun _ _ _ _ _ _ us hl=>match us,hl with | [_,_,_],_=>rfl
theorem Gv{K:W.Frag}:∀f fd,Fun K "_law_narrow_right" "_law_narrow_right" s_L_narrow_right f fd→Binds K fd Bf []:=fun f fd F=>F.binds (ps:=Bf) fun _ _ _ _ _ _ us hl=>match us,hl with | [_],_=>rfl
theorem Rx{K:W.Frag}:∀f fd,Fun K "_law_right" "_law_right" s_L_right f fd→Binds K fd Df []:=fun f fd F=>F.binds (ps:=Df) fun _ _ _ _ _ _ us hl=>match us,hl with | [_],_=>rfl
theorem P2{K:W.Frag}:∀f fd,Fun K "in_order" "in_order" s_in_order f fd→Binds K fd p_in_order []:=fun f fd F=>F.binds (ps:=p_in_order) fun _ _ _ _ _ _ us hl=>match us,hl with | [_,_],_=>rfl
theorem Aa3{K:W.Frag}:∀f fd,Fun K "__init__" "Chart.__init__" s_Chart_init f fd→Binds K fd Bs []:=fun f fd F=>F.binds (ps:=Bs) fun _ _ _ _ _ _ us hl=>match us,hl with | [_,_],_=>rfl
theorem Ad7{h:Heap}(X:K.In h)(G:h.Ns mainGlobals mg)(z0:PySem.W.nsIn K mainGlobals "len" = some none)(z1:PySem.W.nsIn K mainGlobals "range" = some none)(z2:PySem.W.nsIn K mainGlobals "abs" = some none)(z3:PySem.W.nsIn K mainGlobals "divmod" = some none)(z4:PySem.W.nsIn K mainGlobals "max" = some none)(z5:PySem.W.nsIn K mainGlobals "min" = some none)(z6:PySem.W.nsIn K mainGlobals "tuple" = some none)(z7:PySem.W.nsIn K mainGlobals "int" = some none)(z8:PySem.W.nsIn K mainGlobals "bool" = some none)(z9:PySem.W.nsIn K mainGlobals "list" = some none)(z10:PySem.W.nsIn K mainGlobals "str" = some none)(z11:PySem.W.nsIn K mainGlobals "isinstance" = some none)(z12:PySem.W.nsIn K mainGlobals "all" = some none)(z13:PySem.W.nsIn K mainGlobals "sorted" = some none)(z14:PySem.W.nsIn K mainGlobals "repr" = some none)(z15:PySem.W.nsIn K mainGlobals "dict" = some none)(z16:PySem.W.nsIn K mainGlobals "zip" = some none)(z17:PySem.W.nsIn K mainGlobals "set" = some none):Blt mg:=⟨fun {x} hx=>by
 simp only[Pa,List.mem_cons,List.not_mem_nil,or_false] at hx
 rcases hx with rfl|rfl|rfl|rfl|rfl|rfl|rfl|rfl|rfl|rfl|rfl|rfl|rfl|rfl|rfl|rfl|rfl|rfl
 ·exact PySem.W.mg_none_of X G z0
 ·exact PySem.W.mg_none_of X G z1
 ·exact PySem.W.mg_none_of X G z2
 ·exact PySem.W.mg_none_of X G z3
 ·exact PySem.W.mg_none_of X G z4
 ·exact PySem.W.mg_none_of X G z5
 ·exact PySem.W.mg_none_of X G z6
 ·exact PySem.W.mg_none_of X G z7
 ·exact PySem.W.mg_none_of X G z8
 ·exact PySem.W.mg_none_of X G z9
 ·exact PySem.W.mg_none_of X G z10
 ·exact PySem.W.mg_none_of X G z11
 ·exact PySem.W.mg_none_of X G z12
 ·exact PySem.W.mg_none_of X G z13
 ·exact PySem.W.mg_none_of X G z14
 ·exact PySem.W.mg_none_of X G z15
 ·exact PySem.W.mg_none_of X G z16
 ·exact PySem.W.mg_none_of X G z17⟩
theorem Aak{h:Heap}(X:K.In h)(G:h.Ns mainGlobals mg)(B:Blt mg){t0 t1 t2 t3 t4 t5 t6 t7 t8 t9 t10 t11:Tok}(a0:PySem.W.nsIn K mainGlobals "LEAST_COLUMNS" = some (some (.int 2 t0)))(a1:PySem.W.nsIn K mainGlobals "MOST_COLUMNS" = some (some (.int 16 t1)))(a2:PySem.W.nsIn K mainGlobals "LEAST_ROWS" = some (some (.int 1 t2)))(a3:PySem.W.nsIn K mainGlobals "MOST_ROWS" = some (some (.int 9 t3)))(a4:PySem.W.nsIn K mainGlobals "LAND" = some (some (.int 0 t4)))(a5:PySem.W.nsIn K mainGlobals "MOST_DEPTH" = some (some (.int 9 t5)))(a6:PySem.W.nsIn K mainGlobals "LEAST_DRAUGHT" = some (some (.int 1 t6)))(a7:PySem.W.nsIn K mainGlobals "MOST_DRAUGHT" = some (some (.int 9 t7)))(a8:PySem.W.nsIn K mainGlobals "LAST_DAY" = some (some (.int 400 t8)))(a9:PySem.W.nsIn K mainGlobals "LAST_NUMBER" = some (some (.int 99 t9)))(a10:PySem.W.nsIn K mainGlobals "MOST_NOTICES" = some (some (.int 30 t10)))(a11:PySem.W.nsIn K mainGlobals "LAST_ROW" = some (some (.int 8 t11))):Nums mg:=⟨B,⟨t0,PySem.W.mg_of X G a0⟩,⟨t1,PySem.W.mg_of X G a1⟩,⟨t2,PySem.W.mg_of X G a2⟩,⟨t3,PySem.W.mg_of X G a3⟩,⟨t4,PySem.W.mg_of X G a4⟩,⟨t5,PySem.W.mg_of X G a5⟩,⟨t6,PySem.W.mg_of X G a6⟩,⟨t7,PySem.W.mg_of X G a7⟩,⟨t8,PySem.W.mg_of X G a8⟩,⟨t9,PySem.W.mg_of X G a9⟩,⟨t10,PySem.W.mg_of X G a10⟩,⟨t11,PySem.W.mg_of X G a11⟩⟩
structure TopIs(P:Program)(w:World)(K:PySem.W.Frag)(mg:Str→Option Value):Prop where
 ex:∃C aS fi fdi,Sz P w K mg C aS∧Mk K C fi∧Fun K "__init__" "Chart.__init__" s_Chart_init fi fdi
theorem Ab9{h:Heap}(X:K.In h)(G:h.Ns mainGlobals mg)(N:Nums mg){C aS f:Addr}{od an:Option Addr}{sl:Array (Option Value)}{oc kV dc pm cd ct:Value}{es:Array DictEntry}{ep:Nat}(aC:PySem.W.nsIn K mainGlobals "Chart" = some (some (.ref C)))(c1:PySem.W.plainGet K C Str.empty=true)(c2:PySem.W.hasDictIn K C=true)(c3:PySem.W.plainOver K C=true)(c4:PySem.W.findIn K (.ref C) "__setattr__" = some (some (.builtin "object.__setattr__")))(n1:PySem.W.findIn K (.ref C) "sea" = some none)(n2:PySem.W.findIn K (.ref C) "placed" = some none)(n3:PySem.W.findIn K (.ref C) "adrift" = some none)(n4:PySem.W.findIn K (.ref C) "undone" = some none)(m1:PySem.W.makesIn K C=true)(m2:PySem.W.findIn K (.ref C) "__init__" = some (some (.ref f)))(m3:PySem.W.isFn K (.ref f)=true)(m4:PySem.W.keepIn K (.ref C)=true)(l:K.lookup f=some ⟨oc,od,.func (PySem.W.fnOf "__init__" "Chart.__init__" (defArgs s_Chart_init) (defBody s_Chart_init) (defScope s_Chart_init) .none kV dc pm an cd ct),sl⟩)(c:PySem.W.codeIn K cd "Chart.__init__" = true)(k:PySem.W.keepIn K (.ref f)=true)(aD:PySem.W.nsIn K mainGlobals "STEPS_OUT" = some (some (.ref aS)))(ld:K.lookup aS=some { cls:=.type "dict",data:=.dict es ep })(hne:(aS == sysModules)=false)(hk:EntsAre w es.toList Qi):TopIs P w K mg:=
 ⟨C,aS,f,_,⟨⟨N,⟨c1,c2,c3,c4⟩,n1,n2,n3,n4,PySem.W.mg_of X G aC⟩,PySem.W.mg_of X G aD,kd_mk ld hne hk (by decide)⟩,⟨m1,m2,m3,m4⟩,Qw l c k⟩
structure OrdIs(K:PySem.W.Frag)(T0:Addr):Prop where
 ex:∃f fd c0,Fun K "in_order" "in_order" s_in_order f fd∧PySem.W.nsIn K mainGlobals "in_order" = some (some (.ref f))∧PySem.W.keepIn K (.ref f)=true∧fd.code=.ref c0∧PySem.W.codeHdIn K c0 T0=true
theorem Wl{T0 f c0:Addr}{od an:Option Addr}{sl:Array (Option Value)}{oc kV dc pm ct:Value}(a:PySem.W.nsIn K mainGlobals "in_order" = some (some (.ref f)))(l:K.lookup f=some ⟨oc,od,.func (PySem.W.fnOf "in_order" "in_order" (defArgs s_in_order) (defBody s_in_order) (defScope s_in_order) .none kV dc pm an (.ref c0) ct),sl⟩)(c:PySem.W.codeIn K (.ref c0) "in_order" = true)(k:PySem.W.keepIn K (.ref f)=true)(t:PySem.W.codeHdIn K c0 T0=true):OrdIs K T0:=
 ⟨f,_,c0,Qw l c k,a,k,rfl,t⟩
abbrev qL:Str:="in_order" ++ ".<locals>." ++ "<lambda>"
theorem Ad9{h:Heap}(X:K.In h)(G:h.Ns mainGlobals mg)(T:TopIs P w K mg)(O:OrdIs K T0)(Ah8:FnIs K "_law_cell" s_L_cell)(Ah9:FnIs K "_law_mix" s_L_mix)(Aia:FnIs K "_law_box" s_L_box)(Aib:FnIs K "_law_take" s_L_take)(Aic:FnIs K "is_whole_within" s_is_whole_within)(Aid:FnIs K "are_rising_within" s_are_rising_within)(Aie:FnIs K "are_rows" s_are_rows)(Aif:FnIs K "is_channel" s_is_channel)(Aig:FnIs K "check_channel" s_check_channel)(Aih:FnIs K "is_depth" s_is_depth)(Aii:FnIs K "is_draught" s_is_draught)(Aij:FnIs K "is_day" s_is_day)(Aik:FnIs K "is_column" s_is_column)(Ail:FnIs K "is_sea" s_is_sea)(Aim:FnIs K "check_sea" s_check_sea)(Ain:FnIs K "check_draught" s_check_draught)(Aio:FnIs K "check_day" s_check_day)(Aip:FnIs K "depth_at" s_depth_at)(Aiq:FnIs K "is_shoal" s_is_shoal)(Air:FnIs K "is_row" s_is_row)(Ais:FnIs K "check_held" s_check_held)(Ait:FnIs K "are_notices" s_are_notices)(Aiu:FnIs K "check_notices" s_check_notices)(Aiv:FnIs K "chart_behind" s_chart_behind)(Aiw:FnIs K "chart_of" s_chart_of)(Aix:FnIs K "places_of" s_places_of)(Aiy:FnIs K "marks_against" s_marks_against)(Aiz:FnIs K "places_shown" s_places_shown)(Ai0:FnIs K "free_rows" s_free_rows)(Ai1:FnIs K "channel_of" s_channel_of)(Ai2:FnIs K "is_way" s_is_way)(Ai3:FnIs K "edge_of" s_edge_of)(Ai4:FnIs K "lane_of" s_lane_of)(Ai5:FnIs K "keeps" s_keeps)(Ai6:FnIs K "columns_wanted" s_columns_wanted)(Ai7:FnIs K "least_columns" s_least_columns)(Ai8:FnIs K "_law_fair" s_L_fair)(Ai9:FnIs K "can_be_wrong" s_can_be_wrong)(Aja:FnIs K "start_of_stretch" s_start_of_stretch)(Ajb:FnIs K "is_stretch" s_is_stretch)(Ajc:FnIs K "is_paper" s_is_paper)(Ajd:FnIs K "paper_of" s_paper_of)(Aje:FnIs K "_law_turned" s_L_turned)(Ajf:FnIs K "_law_other_side" s_L_other_side)(Ajg:FnIs K "_law_stretches_right" s_L_stretches_right)(Ajh:FnIs K "_law_side_right" s_L_side_right)(Aji:FnIs K "_law_narrow_right" s_L_narrow_right)(Ajj:FnIs K "_law_right" s_L_right){f:Addr}{fd:FuncData}(F:Fun K "law" "law" s_law f fd):FnOk P w K mg base CX0 16 f fd Vz (liftSp K (Mu [(T0,qL)])):=by
 obtain⟨C,aS,fi,fdi,T,M,FI⟩:=T.ex
 have F_Chart:FnOk P w K mg base CX0 1 fi fdi Bs (liftSp K (Mv C)):=Aac FI T.toSy
 have Ag4:Def P w K mg base CX0 1 "_law_cell" p_L_cell spCell:=Al Ah8 X G Vk fun f fd F=>Aai F T.toBlt
 have Ag5:Def P w K mg base CX0 1 "_law_mix" E3 N6:=Al Ah9 X G Yy fun f fd F=>Adn F T.toBlt
 have Ah6:Def P w K mg base CX0 2 "_law_box" p_L_box spBox:=Al Aia X G Yz fun f fd F=>Adq F T.toBlt Ag4 Ag5
 have Agv:Def P w K mg base CX0 1 "_law_take" p_L_take spTake:=Al Aib X G Vi fun f fd F=>Z8 F T.toBlt
 have Agw:Def P w K mg base CX0 1 "is_whole_within" p_is_whole_within spWhole:=Al Aic X G Fv fun f fd F=>X1 F T.toNums
 have Ag0:Def P w K mg base CX0 2 "are_rising_within" Az Eo:=Al Aid X G Ey fun f fd F=>Ui F T.toNums Agw
 have Ag6:Def P w K mg base CX0 3 "are_rows" Cw Mt:=Al Aie X G P5 fun f fd F=>Aaa F T.toNums Ag0
 have Ag7:Def P w K mg base CX0 4 "is_channel" B4 Mw:=Al Aif X G Ln fun f fd F=>Aah F T.toNums Ag6
 have Ahs:Def P w K mg base CX0 5 "check_channel" p_check_channel spCheckC:=Al Aig X G Ib fun f fd F=>Um F T.toNums Ag7
 have Ag8:Def P w K mg base CX0 2 "is_depth" Cu (Fa 0 9):=Al Aih X G P1 fun f fd F=>Yb F T.toNums Agw
 have Ahb:Def P w K mg base CX0 2 "is_draught" B3 (Fa 1 9):=Al Aii X G Lm fun f fd F=>Rg F T.toNums Agw
 have Ahc:Def P w K mg base CX0 2 "is_day" D0 (Fa 0 400):=Al Aij X G Vh fun f fd F=>Adp F T.toNums Agw
 have Ag9:Def P w K mg base CX0 3 "is_column" Cb Gc:=Al Aik X G Np fun f fd F=>Ul F T.toNums Ag8
 have Aha:Def P w K mg base CX0 4 "is_sea" Dy Sd:=Al Ail X G Vf fun f fd F=>Adl F T.toNums Ag9
 have Ahe:Def P w K mg base CX0 5 "check_sea" Cd Eb:=Al Aim X G Nr fun f fd F=>Pn F T.toNums Aha
 have Ahp:Def P w K mg base CX0 3 "check_draught" p_check_draught (spChk 1 9):=Al Ain X G Ia fun f fd F=>Ix F T.toNums Ahb
 have Ahj:Def P w K mg base CX0 3 "check_day" p_check_day (spChk 0 400):=Al Aio X G Nt fun f fd F=>Po F T.toNums Ahc
 have Ahd:Def P w K mg base CX0 1 "depth_at" Cv He:=Al Aip X G P3 fun f fd F=>Rh F T.toNums
 have Ahm:Def P w K mg base CX0 2 "is_shoal" p_is_shoal spShoal:=Al Aiq X G Pz fun f fd F=>X4 F T.toNums Ahd
 have Aht:Def P w K mg base CX0 2 "is_row" Dz (Fa 0 8):=Al Air X G Vg fun f fd F=>Adm F T.toNums Agw
 have Ahi:Def P w K mg base CX0 2 "check_held" p_check_held (spChk 0 99):=Al Ais X G Lo fun f fd F=>Aad F T.toNums Agw
 have Ahf:Def P w K mg base CX0 6 "are_notices" Bu Qk:=Al Ait X G K1 fun f fd F=>Rf F T.toNums Ahe
 have Ahh:Def P w K mg base CX0 7 "check_notices" p_check_notices spNoneC:=Al Aiu X G Hz fun f fd F=>Iw F T.toNums Ahf
 obtain⟨fo,fdo,c0,FO,ao,kpo,hfc,hC⟩:=O.ex
 have Ahg:Def P w K mg base CX0 1 "in_order" p_in_order (spOrder T0 qL):=⟨fo,fdo,X8 FO T.toNums hfc hC,PySem.W.mg_of X G ao,kpo,P2 fo fdo FO⟩
 have Ahk:Def P w K mg base CX0 4 "chart_behind" Bp (J8 C T0 qL):=Al Aiv X G Jc fun f fd F=>Uo F T.toSy Ahg M F_Chart (Aa3 _ _ FI)
 have Aho:Def P w K mg base CX0 9 "chart_of" p_chart_of (spChartOf C T0 qL):=Al Aiw X G P4 fun f fd F=>Ri F T.toSy Ahh Ahi Ahj Ahk
 have Ahl:Def P w K mg base CX0 1 "places_of" Ca (J6 C):=Al Aix X G No fun f fd F=>Uj F T.toSy
 have Ahn:Def P w K mg base CX0 2 "marks_against" Bi Hf:=Al Aiy X G Hx fun f fd F=>Rj F T.toSy
 have Ahq:Def P w K mg base CX0 2 "places_shown" p_places_shown (spShown C):=Al Aiz X G Jb fun f fd F=>X3 F T.toSy Ahl
 have Ahr:Def P w K mg base CX0 3 "free_rows" Cc Ql:=Al Ai0 X G Nq fun f fd F=>Aae F T.toSy Ahm Ahn
 have Ahu:Def P w K mg base CX0 10 "channel_of" p_channel_of (spChannel T0 qL):=Al Ai1 X G Lp fun f fd F=>Nl F T.toSy Aho Ahp Ahq Ahr
 have Ahv:Def P w K mg base CX0 6 "is_way" p_is_way spWay:=Al Ai2 X G Ve fun f fd F=>Adj F T.toNums Ahs Aht
 have Ahw:Def P w K mg base CX0 1 "edge_of" De Qm:=Al Ai3 X G Rw fun f fd F=>Aag F T.toNums
 have Agx:Def P w K mg base CX0 11 "lane_of" p_lane_of (spLane T0 qL):=Al Ai4 X G Rv fun f fd F=>Aab F T Ahu Ahv Ahw
 have Agz:Def P w K mg base CX0 12 "keeps" p_keeps (spKeeps T0 qL):=Al Ai5 X G Yx fun f fd F=>Ya F T Agx Ag0
 have Ag1:Def P w K mg base CX0 1 "columns_wanted" Ba Gb:=Al Ai6 X G Gu fun f fd F=>Ug F T
 have Agy:Def P w K mg base CX0 12 "least_columns" p_least_columns (spLeast T0 qL):=Al Ai7 X G Hy fun f fd F=>X9 F T Agx Ag1
 have Ah4:Def P w K mg base CX0 2 "_law_fair" p_L_fair spFair:=Al Ai8 X G Vj fun f fd F=>Aaf F T.toBlt Agv
 have Ahx:Def P w K mg base CX0 1 "can_be_wrong" Bq M1:=Al Ai9 X G Jd fun f fd F=>X0 F T
 have Ag2:Def P w K mg base CX0 2 "start_of_stretch" p_start_of_stretch spStart:=Al Aja X G Ff fun f fd F=>X2 F T Ahx
 have Ahy:Def P w K mg base CX0 3 "is_stretch" B2 Hc:=Al Ajb X G Ll fun f fd F=>Rc F T Agw Ag2
 have Ahz:Def P w K mg base CX0 12 "is_paper" p_is_paper (spPaper T0 qL):=Al Ajc X G P0 fun f fd F=>X6 F T Agx Ahy
 have Ah0:Def P w K mg base CX0 12 "paper_of" Ct (Hd T0 qL):=Al Ajd X G Py fun f fd F=>Re F T Agx Ag2 Ag1
 have Ah1:Def P w K mg base CX0 1 "_law_turned" p_L_turned spTurned:=Al Aje X G P6 fun f fd F=>Uh F T.toBlt
 have Ah2:Def P w K mg base CX0 1 "_law_other_side" p_L_other_side spOther:=Al Ajf X G Jf fun f fd F=>X7 F T.toBlt
 have Ah3:Def P w K mg base CX0 13 "_law_stretches_right" A7 (Vw T0 qL):=Al Ajg X G Ez fun f fd F=>Adk F T Agv Agz Ahz Ah0
 have Ag3:Def P w K mg base CX0 14 "_law_side_right" p_L_side_right (spSide T0 qL):=Al Ajh X G Je fun f fd F=>Z9 F T Agv Agz Agy Ah1 Ah2 Ah3
 have Ah5:Def P w K mg base CX0 13 "_law_narrow_right" Bf (J7 T0 qL):=Al Aji X G Gv fun f fd F=>Uk F T Agv Agy
 have Ah7:Def P w K mg base CX0 15 "_law_right" Df (M2 T0 qL):=Al Ajj X G Rx fun f fd F=>X5 F T Ah4 Ag3 Ah5
 exact Ado F T.toNums Ah6 Ah7
end
end K2
open PySem PySem.W PyProof.Rows L2 D3
set_option maxRecDepth 100000 in
set_option maxHeartbeats 0 in
theorem PySem.Challenge.cw_laidmarks_k44_whole_fairways_holds : PySem.Challenge.rw_laidmarks_k44_whole_fairways.Holds := by
  w_on;o_law;k_head;(case hw=>w_witness2)
  k_fill
  refine D3.W6 (l:=PySem.Challenge.rw_laidmarks_k44_whole_fairways) (n:=63) (k:=16) (x:="_law_script") (ts:=[458]) (CX:=CX0) (sp:=fun K=>liftSp K (Mu [(458,K2.qL)])) ?I rfl (by decide) rfl ⟨rfl,by decide,by decide,rfl⟩ (fun w h Y=>⟨PySem.W.km_in_of Y,PySem.W.km_tabs_of Y⟩) ?C ?F (Aaq [(458,K2.qL)] (by decide)) (fun _ _ _ _ z=>z)
  case I=>first | rfl | decide
  case C=>
    intro w h KX T hT
    obtain rfl:=List.mem_singleton.mp hT
    have O:K2.OrdIs (KOf KX) 458:=by (dsimp only [KOf];refine' K2.Wl ?a ?l ?c ?k ?t;(case a=>k_is);(case l=>k_is);(case c=>k_is);(case k=>k_is);(case t=>kernel_rfl))
    obtain ⟨_,_,c0,_,_,_,_,hc⟩:=O.ex
    exact ⟨⟨c0,hc⟩,by kernel_rfl⟩
  case F=>
    intro w mg fa h KX G hmg
    have Ah8:FnIs (KOf KX) "_law_cell" K2.s_L_cell:=by (dsimp only [KOf];refine' Ag ?a ?l ?c ?k;(case a=>k_is);(case l=>k_is);(case c=>k_is);(case k=>k_is))
    have Ah9:FnIs (KOf KX) "_law_mix" K2.s_L_mix:=by (dsimp only [KOf];refine' Ag ?a ?l ?c ?k;(case a=>k_is);(case l=>k_is);(case c=>k_is);(case k=>k_is))
    have Aia:FnIs (KOf KX) "_law_box" K2.s_L_box:=by (dsimp only [KOf];refine' Ag ?a ?l ?c ?k;(case a=>k_is);(case l=>k_is);(case c=>k_is);(case k=>k_is))
    have Aib:FnIs (KOf KX) "_law_take" K2.s_L_take:=by (dsimp only [KOf];refine' Ag ?a ?l ?c ?k;(case a=>k_is);(case l=>k_is);(case c=>k_is);(case k=>k_is))
    have Aic:FnIs (KOf KX) "is_whole_within" K2.s_is_whole_within:=by (dsimp only [KOf];refine' Ag ?a ?l ?c ?k;(case a=>k_is);(case l=>k_is);(case c=>k_is);(case k=>k_is))
    have Aid:FnIs (KOf KX) "are_rising_within" K2.s_are_rising_within:=by (dsimp only [KOf];refine' Ag ?a ?l ?c ?k;(case a=>k_is);(case l=>k_is);(case c=>k_is);(case k=>k_is))
    have Aie:FnIs (KOf KX) "are_rows" K2.s_are_rows:=by (dsimp only [KOf];refine' Ag ?a ?l ?c ?k;(case a=>k_is);(case l=>k_is);(case c=>k_is);(case k=>k_is))
    have Aif:FnIs (KOf KX) "is_channel" K2.s_is_channel:=by (dsimp only [KOf];refine' Ag ?a ?l ?c ?k;(case a=>k_is);(case l=>k_is);(case c=>k_is);(case k=>k_is))
    have Aig:FnIs (KOf KX) "check_channel" K2.s_check_channel:=by (dsimp only [KOf];refine' Ag ?a ?l ?c ?k;(case a=>k_is);(case l=>k_is);(case c=>k_is);(case k=>k_is))
    have Aih:FnIs (KOf KX) "is_depth" K2.s_is_depth:=by (dsimp only [KOf];refine' Ag ?a ?l ?c ?k;(case a=>k_is);(case l=>k_is);(case c=>k_is);(case k=>k_is))
    have Aii:FnIs (KOf KX) "is_draught" K2.s_is_draught:=by (dsimp only [KOf];refine' Ag ?a ?l ?c ?k;(case a=>k_is);(case l=>k_is);(case c=>k_is);(case k=>k_is))
    have Aij:FnIs (KOf KX) "is_day" K2.s_is_day:=by (dsimp only [KOf];refine' Ag ?a ?l ?c ?k;(case a=>k_is);(case l=>k_is);(case c=>k_is);(case k=>k_is))
    have Aik:FnIs (KOf KX) "is_column" K2.s_is_column:=by (dsimp only [KOf];refine' Ag ?a ?l ?c ?k;(case a=>k_is);(case l=>k_is);(case c=>k_is);(case k=>k_is))
    have Ail:FnIs (KOf KX) "is_sea" K2.s_is_sea:=by (dsimp only [KOf];refine' Ag ?a ?l ?c ?k;(case a=>k_is);(case l=>k_is);(case c=>k_is);(case k=>k_is))
    have Aim:FnIs (KOf KX) "check_sea" K2.s_check_sea:=by (dsimp only [KOf];refine' Ag ?a ?l ?c ?k;(case a=>k_is);(case l=>k_is);(case c=>k_is);(case k=>k_is))
    have Ain:FnIs (KOf KX) "check_draught" K2.s_check_draught:=by (dsimp only [KOf];refine' Ag ?a ?l ?c ?k;(case a=>k_is);(case l=>k_is);(case c=>k_is);(case k=>k_is))
    have Aio:FnIs (KOf KX) "check_day" K2.s_check_day:=by (dsimp only [KOf];refine' Ag ?a ?l ?c ?k;(case a=>k_is);(case l=>k_is);(case c=>k_is);(case k=>k_is))
    have Aip:FnIs (KOf KX) "depth_at" K2.s_depth_at:=by (dsimp only [KOf];refine' Ag ?a ?l ?c ?k;(case a=>k_is);(case l=>k_is);(case c=>k_is);(case k=>k_is))
    have Aiq:FnIs (KOf KX) "is_shoal" K2.s_is_shoal:=by (dsimp only [KOf];refine' Ag ?a ?l ?c ?k;(case a=>k_is);(case l=>k_is);(case c=>k_is);(case k=>k_is))
    have Air:FnIs (KOf KX) "is_row" K2.s_is_row:=by (dsimp only [KOf];refine' Ag ?a ?l ?c ?k;(case a=>k_is);(case l=>k_is);(case c=>k_is);(case k=>k_is))
    have Ais:FnIs (KOf KX) "check_held" K2.s_check_held:=by (dsimp only [KOf];refine' Ag ?a ?l ?c ?k;(case a=>k_is);(case l=>k_is);(case c=>k_is);(case k=>k_is))
    have Ait:FnIs (KOf KX) "are_notices" K2.s_are_notices:=by (dsimp only [KOf];refine' Ag ?a ?l ?c ?k;(case a=>k_is);(case l=>k_is);(case c=>k_is);(case k=>k_is))
    have Aiu:FnIs (KOf KX) "check_notices" K2.s_check_notices:=by (dsimp only [KOf];refine' Ag ?a ?l ?c ?k;(case a=>k_is);(case l=>k_is);(case c=>k_is);(case k=>k_is))
    have Aiv:FnIs (KOf KX) "chart_behind" K2.s_chart_behind:=by (dsimp only [KOf];refine' Ag ?a ?l ?c ?k;(case a=>k_is);(case l=>k_is);(case c=>k_is);(case k=>k_is))
    have Aiw:FnIs (KOf KX) "chart_of" K2.s_chart_of:=by (dsimp only [KOf];refine' Ag ?a ?l ?c ?k;(case a=>k_is);(case l=>k_is);(case c=>k_is);(case k=>k_is))
    have Aix:FnIs (KOf KX) "places_of" K2.s_places_of:=by (dsimp only [KOf];refine' Ag ?a ?l ?c ?k;(case a=>k_is);(case l=>k_is);(case c=>k_is);(case k=>k_is))
    have Aiy:FnIs (KOf KX) "marks_against" K2.s_marks_against:=by (dsimp only [KOf];refine' Ag ?a ?l ?c ?k;(case a=>k_is);(case l=>k_is);(case c=>k_is);(case k=>k_is))
    have Aiz:FnIs (KOf KX) "places_shown" K2.s_places_shown:=by (dsimp only [KOf];refine' Ag ?a ?l ?c ?k;(case a=>k_is);(case l=>k_is);(case c=>k_is);(case k=>k_is))
    have Ai0:FnIs (KOf KX) "free_rows" K2.s_free_rows:=by (dsimp only [KOf];refine' Ag ?a ?l ?c ?k;(case a=>k_is);(case l=>k_is);(case c=>k_is);(case k=>k_is))
    have Ai1:FnIs (KOf KX) "channel_of" K2.s_channel_of:=by (dsimp only [KOf];refine' Ag ?a ?l ?c ?k;(case a=>k_is);(case l=>k_is);(case c=>k_is);(case k=>k_is))
    have Ai2:FnIs (KOf KX) "is_way" K2.s_is_way:=by (dsimp only [KOf];refine' Ag ?a ?l ?c ?k;(case a=>k_is);(case l=>k_is);(case c=>k_is);(case k=>k_is))
    have Ai3:FnIs (KOf KX) "edge_of" K2.s_edge_of:=by (dsimp only [KOf];refine' Ag ?a ?l ?c ?k;(case a=>k_is);(case l=>k_is);(case c=>k_is);(case k=>k_is))
    have Ai4:FnIs (KOf KX) "lane_of" K2.s_lane_of:=by (dsimp only [KOf];refine' Ag ?a ?l ?c ?k;(case a=>k_is);(case l=>k_is);(case c=>k_is);(case k=>k_is))
    have Ai5:FnIs (KOf KX) "keeps" K2.s_keeps:=by (dsimp only [KOf];refine' Ag ?a ?l ?c ?k;(case a=>k_is);(case l=>k_is);(case c=>k_is);(case k=>k_is))
    have Ai6:FnIs (KOf KX) "columns_wanted" K2.s_columns_wanted:=by (dsimp only [KOf];refine' Ag ?a ?l ?c ?k;(case a=>k_is);(case l=>k_is);(case c=>k_is);(case k=>k_is))
    have Ai7:FnIs (KOf KX) "least_columns" K2.s_least_columns:=by (dsimp only [KOf];refine' Ag ?a ?l ?c ?k;(case a=>k_is);(case l=>k_is);(case c=>k_is);(case k=>k_is))
    have Ai8:FnIs (KOf KX) "_law_fair" K2.s_L_fair:=by (dsimp only [KOf];refine' Ag ?a ?l ?c ?k;(case a=>k_is);(case l=>k_is);(case c=>k_is);(case k=>k_is))
    have Ai9:FnIs (KOf KX) "can_be_wrong" K2.s_can_be_wrong:=by (dsimp only [KOf];refine' Ag ?a ?l ?c ?k;(case a=>k_is);(case l=>k_is);(case c=>k_is);(case k=>k_is))
    have Aja:FnIs (KOf KX) "start_of_stretch" K2.s_start_of_stretch:=by (dsimp only [KOf];refine' Ag ?a ?l ?c ?k;(case a=>k_is);(case l=>k_is);(case c=>k_is);(case k=>k_is))
    have Ajb:FnIs (KOf KX) "is_stretch" K2.s_is_stretch:=by (dsimp only [KOf];refine' Ag ?a ?l ?c ?k;(case a=>k_is);(case l=>k_is);(case c=>k_is);(case k=>k_is))
    have Ajc:FnIs (KOf KX) "is_paper" K2.s_is_paper:=by (dsimp only [KOf];refine' Ag ?a ?l ?c ?k;(case a=>k_is);(case l=>k_is);(case c=>k_is);(case k=>k_is))
    have Ajd:FnIs (KOf KX) "paper_of" K2.s_paper_of:=by (dsimp only [KOf];refine' Ag ?a ?l ?c ?k;(case a=>k_is);(case l=>k_is);(case c=>k_is);(case k=>k_is))
    have Aje:FnIs (KOf KX) "_law_turned" K2.s_L_turned:=by (dsimp only [KOf];refine' Ag ?a ?l ?c ?k;(case a=>k_is);(case l=>k_is);(case c=>k_is);(case k=>k_is))
    have Ajf:FnIs (KOf KX) "_law_other_side" K2.s_L_other_side:=by (dsimp only [KOf];refine' Ag ?a ?l ?c ?k;(case a=>k_is);(case l=>k_is);(case c=>k_is);(case k=>k_is))
    have Ajg:FnIs (KOf KX) "_law_stretches_right" K2.s_L_stretches_right:=by (dsimp only [KOf];refine' Ag ?a ?l ?c ?k;(case a=>k_is);(case l=>k_is);(case c=>k_is);(case k=>k_is))
    have Ajh:FnIs (KOf KX) "_law_side_right" K2.s_L_side_right:=by (dsimp only [KOf];refine' Ag ?a ?l ?c ?k;(case a=>k_is);(case l=>k_is);(case c=>k_is);(case k=>k_is))
    have Aji:FnIs (KOf KX) "_law_narrow_right" K2.s_L_narrow_right:=by (dsimp only [KOf];refine' Ag ?a ?l ?c ?k;(case a=>k_is);(case l=>k_is);(case c=>k_is);(case k=>k_is))
    have Ajj:FnIs (KOf KX) "_law_right" K2.s_L_right:=by (dsimp only [KOf];refine' Ag ?a ?l ?c ?k;(case a=>k_is);(case l=>k_is);(case c=>k_is);(case k=>k_is))
    have I_law:FnIs (KOf KX) "law" K2.s_law:=by (dsimp only [KOf];refine' Ag ?a ?l ?c ?k;(case a=>k_is);(case l=>k_is);(case c=>k_is);(case k=>k_is))
    have O:K2.OrdIs (KOf KX) 458:=by (dsimp only [KOf];refine' K2.Wl ?a ?l ?c ?k ?t;(case a=>k_is);(case l=>k_is);(case c=>k_is);(case k=>k_is);(case t=>kernel_rfl))
    have B:K2.Blt mg:=by (refine' K2.Ad7 KX G ?z0 ?z1 ?z2 ?z3 ?z4 ?z5 ?z6 ?z7 ?z8 ?z9 ?z10 ?z11 ?z12 ?z13 ?z14 ?z15 ?z16 ?z17;(case z0=>k_is);(case z1=>k_is);(case z2=>k_is);(case z3=>k_is);(case z4=>k_is);(case z5=>k_is);(case z6=>k_is);(case z7=>k_is);(case z8=>k_is);(case z9=>k_is);(case z10=>k_is);(case z11=>k_is);(case z12=>k_is);(case z13=>k_is);(case z14=>k_is);(case z15=>k_is);(case z16=>k_is);(case z17=>k_is))
    have N:K2.Nums mg:=by (refine' K2.Aak KX G B ?a0 ?a1 ?a2 ?a3 ?a4 ?a5 ?a6 ?a7 ?a8 ?a9 ?a10 ?a11;(case a0=>k_is);(case a1=>k_is);(case a2=>k_is);(case a3=>k_is);(case a4=>k_is);(case a5=>k_is);(case a6=>k_is);(case a7=>k_is);(case a8=>k_is);(case a9=>k_is);(case a10=>k_is);(case a11=>k_is))
    have T:K2.TopIs PySem.Challenge.rw_laidmarks_k44_whole_fairways.prog w (KOf KX) mg:=by (dsimp only [KOf];refine' K2.Ab9 KX G N ?aC ?c1 ?c2 ?c3 ?c4 ?n1 ?n2 ?n3 ?n4 ?m1 ?m2 ?m3 ?m4 ?l ?c ?k ?aD ?ld ?hne ?hk;(case aC=>k_is);(case c1=>k_is);(case c2=>k_is);(case c3=>k_is);(case c4=>k_is);(case n1=>k_is);(case n2=>k_is);(case n3=>k_is);(case n4=>k_is);(case m1=>k_is);(case m2=>k_is);(case m3=>k_is);(case m4=>k_is);(case l=>k_is);(case c=>k_is);(case k=>k_is);(case aD=>k_is);(case ld=>k_is);(case hne=>first | decide | kernel_rfl);(case hk=>exact .cons (.int _ _) (.cons (.int _ _) .nil)))
    obtain ⟨f,fd,F,a,kp⟩:=I_law.ex
    have e0:=hmg.symm.trans (PySem.W.mg_of KX G a)
    cases e0
    obtain ⟨oc,od,kV,doc,pm,an,cdv,ct,osl,efd,lk,hcd⟩:=id F.ex
    refine ⟨fd,fun s u=>by (subst efd;exact .of_eq rfl),fun base kb nb=>K2.Ad9 KX G T O Ah8 Ah9 Aia Aib Aic Aid Aie Aif Aig Aih Aii Aij Aik Ail Aim Ain Aio Aip Aiq Air Ais Ait Aiu Aiv Aiw Aix Aiy Aiz Ai0 Ai1 Ai2 Ai3 Ai4 Ai5 Ai6 Ai7 Ai8 Ai9 Aja Ajb Ajc Ajd Aje Ajf Ajg Ajh Aji Ajj F⟩

