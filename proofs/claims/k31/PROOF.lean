import PyProof.Rows.All
import Wide.All
import OpenK.AllK
import Wide.FinOn
import Lean
import PyProof.EqAt
import PyProof.EqKinds
import PyProof.TupleCall
import OpenK.KOwn
import KE.KIsAll
import KE.KRevIter
import KE.KDictList
import PyProof.RulesAs
import PyProof.Rows.SumAny
import PySem.Challenge.RW_laidmarks_k31_channels_and_ways_known
set_option linter.all false
set_option Elab.async false
set_option maxRecDepth 100000
namespace PySem.W.Fast
def tw7103148100941150198:=0
def tw6893135319055341328:=0
def tw13086577972820168459:=0
def tw14612727324759621473:=0
def tw11393941687431482702:=0
def tw6068673073509355765:=0
def tw10047886396133242548:=0
def tw13659343414339262986:=0
def tw13818361426012250688:=0
def tw1088352940311979548:=0
def tw14205002591812809164:=0
def tw1486879768473196380:=0
def tw10606585904961756941:=0
def tw13692020718335129208:=0
def tw232449170365661101:=0
def tw7753476169358401199:=0
def tw1393422082342535202:=0
def tw15590967240765449846:=0
def tw15196174754859034880:=0
def tw5365404619046856682:=0
def tw57034556257817030:=0
def tw9444253558082893815:=0
def tw5532969451461146120:=0
def tw4126134500811740139:=0
def tw7432529512234263226:=0
def tw8039677972393630914:=0
def tw14819542658284340510:=0
def tw8344291462285909845:=0
def tw4912386656763324856:=0
def tw11848506906283354094:=0
def tw14798435645206419794:=0
def tw8064091002418646317:=0
def tw1735641149098897124:=0
def tw9404844121732242334:=0
def tw9064360944756338088:=0
def tw6121011779792809634:=0
def tw4836199620698995676:=0
def tw14727250223621003076:=0
def tw16863074616994472829:=0
def tw11193461717002995176:=0
def tw8601839928912445867:=0
def tw10234180678856513218:=0
def tw4271270151769113663:=0
def tw5098952925262625826:=0
def tw14108353740819686437:=0
def tw1366461350804948803:=0
def tw12262592580675309768:=0
def tw8786455014140976624:=0
def tw9224661473527116766:=0
def tw15431847062146233644:=0
def tw7066558966859540071:=0
def tw11966546540774605536:=0
def tw13914036664990002186:=0
def tw17677227835930351077:=0
def tw4302684376255838189:=0
def tw11400293116040432322:=0
def tw18233851928870381819:=0
def tw9091936868322439276:=0
def tw14316304205801495293:=0
def tw15850363382609872887:=0
def tw5708630472632135044:=0
def tw9423259578189943024:=0
def tw13026491405552899619:=0
def tw13965886589230825179:=0
def tw10287545389633413760:=0
def tw13078294494422129709:=0
def tw3008687357082582259:=0
def tw14352841921736094223:=0
def tw6609640156488595843:=0
def tw1006695408538248088:=0
def tw10960807833238382593:=0
def tw2786351111348047896:=0
def tw14722864555316821718:=0
def tw4725616431744901615:=0
def tw14148675593285287415:=0
def tw4328475028086835833:=0
def tw5880762260254600301:=0
def tw4176459854236917415:=0
def tw3955076299941069564:=0
def tw1825108548854458059:=0
def tw4550837681248289922:=0
def tw12607733754353024369:=0
def tw4946601196525731023:=0
def tw5155484276643414433:=0
def tw12856184243883014306:=0
def tw13289904379820319637:=0
def tw11547207215856354370:=0
def tw5746745463341421557:=0
def tw6627626375454886762:=0
def tw10538734137732120763:=0
def tw10402019892323295997:=0
def tw4502073106164606408:=0
def tw8074828947367362477:=0
def tw10348786216239496743:=0
def tw16826243299192036281:=0
def tw17756319770075884493:=0
def tw7166933575289504867:=0
def tw17123297474299096148:=0
def tw2877569378236348819:=0
def tw1652892827243526525:=0
def tw11456634023896298074:=0
def tw6912870520042400979:=0
def tw8668990359548819837:=0
def tw17950084941787244329:=0
def tw1581083795314090516:=0
def tw1258300526693810593:=0
def tw13028949328370195987:=0
def tw18296868017224759822:=0
def tw7135484414537462329:=0
def tw9240502833345537268:=0
def tw56022732365295213:=0
def tw15557349169616417026:=0
def tw9494555204962091985:=0
def tw1250864901464445746:=0
def tw15986582959643287136:=0
def tw10093302716065273077:=0
def tw4240105848469785236:=0
def tw9328356443462091902:=0
def tw11382586572081988258:=0
def tw10592351720841819920:=0
def tw1637834077096360358:=0
def tw4172014048109944012:=0
def tw16839734417660832211:=0
def tw12162932816645854271:=0
def tw10322747493274919397:=0
def tw16394011612620556198:=0
def tw15749285175277775576:=0
def tw6736043196031638255:=0
def tw17442824570691228651:=0
def tw16474731809020912395:=0
def tw14701749750374364795:=0
def tw7466965097059148201:=0
def tw8179412551290839481:=0
def tw16270895361051593130:=0
def tw6448602336689784242:=0
def tw16144603302224790726:=0
def tw12234633296972021828:=0
def tw18168648626379768946:=0
def tw16725221361133840304:=0
def tw12598934424093357115:=0
def tw17697547614150412002:=0
def tw17701016837821096975:=0
def tw14079349259296703405:=0
def tw15229494503028568664:=0
def tw17096762858275775937:=0
def tw9555593892839021147:=0
def tw15291513127305610448:=0
def tw6605889853873528107:=0
def tw4655202446355070830:=0
def tw1810325786056341509:=0
def tw5791726758692188259:=0
def tw5094623668571227715:=0
def tw3382603385599187063:=0
def tw13712914806113691680:=0
def tw524205422152154253:=0
def tw6261405240780026815:=0
def tw1663523295613785969:=0
def tw17112863971483086131:=0
def tw4242289272848302564:=0
def tw2105740145702887830:=0
def tw11456720522637179233:=0
def tw18321533031378429660:=0
def tw7053108835737047827:=0
def tw2696171276563280052:=0
def tw4089169965327406694:=0
def tw8906900800208828622:=0
def tw3054090904375567011:=0
def tw1233517001927377866:=0
def tw3134461455068418296:=0
def tw8749670787560669831:=0
def tw15133778378530926557:=0
def tw9813188446243753386:=0
def tw14603541282468294566:=0
def tw18389363705716414108:=0
def tw13862401350149117529:=0
def tw14532576058039133881:=0
def tw2767817278352212219:=0
def tw12786234072822744721:=0
def tw12106600218778693335:=0
def tw18111928754004193477:=0
def tw13596368372292855276:=0
def tw11014296771086553838:=0
def tw5964751309725049978:=0
def tw2425343635554646013:=0
def tw4176220467938895450:=0
def tw4168939123805406547:=0
def tw8002347570998197554:=0
def tw12968031191327337619:=0
def tw1841189840667715148:=0
def tw129003713678434700:=0
def tw1287883161378206771:=0
def tw14471174133807486304:=0
def tw9535821470765302660:=0
def tw2085814215137679263:=0
def tw13367433987271604850:=0
def tw854521966337435973:=0
def tw17695485078735900333:=0
def tw14919459755668185093:=0
def tw770925461681773962:=0
def tw340636476351508346:=0
def tw18397638997447676353:=0
def tw9061086239835141092:=0
def tw13606178610258002851:=0
def tw12624496727936036509:=0
def tw1580765280650379647:=0
def tw6160981534727094163:=0
def tw3005453581022709422:=0
def tw4178377918900037315:=0
def tw11128426691932394560:=0
def tw8960219774172552481:=0
def tw16144110870086411510:=0
def tw6521153278209811888:=0
def tw8494033508384022748:=0
def tw10908624512828936453:=0
def tw7923246573107879953:=0
def tw15313916002364151029:=0
def tw10894144017458813303:=0
def tw14399301408137713493:=0
def tw14536307550757254486:=0
def tw5806843514627296691:=0
def tw754592671469494837:=0
def tw4463317480688225037:=0
def tw17904073188819275136:=0
def tw11286627967821258937:=0
def tw1371865496475392076:=0
def tw11742662654595017699:=0
def tw14054480644542756009:=0
def tw15905255980759697733:=0
def tw17686626884439230256:=0
def tw3671748013869726635:=0
def tw14755469986184220665:=0
def tw1288120230003220596:=0
def tw4169275795774994774:=0
def tw8050862315104339624:=0
def tw5630809536942211047:=0
def tw5130948000363990698:=0
def tw5148792967899425074:=0
def tw7232717947470610282:=0
def tw3508602464441150228:=0
def tw11080787992301604075:=0
def tw78921092876524998:=0
def tw896011315840212423:=0
def tw5645691396070631717:=0
def tw7857320174493625290:=0
def tw10582229064796805053:=0
def tw15221946091182387557:=0
def tw14350460309883912847:=0
def tw183161256474399963:=0
def tw12911697864050134782:=0
def tw11670322368753588506:=0
def tw7655033577054189029:=0
def tw5293130098241919263:=0
def tw9474353721563705773:=0
def tw10503404671518561953:=0
def tw4464065216187765046:=0
def tw11042038735029025287:=0
def tw474876697659684647:=0
def tw6466099536241855622:=0
def tw777870473023502457:=0
def tw11308945371036141241:=0
def tw16630676891148788718:=0
def tw9486612737254295516:=0
def tw5957764075974455057:=0
def tw4365178544542816424:=0
def tw4172519966542353492:=0
def tw17236275812560520099:=0
def tw12215661099099158963:=0
def tw605587321137639623:=0
def tw1612498318244952781:=0
def tw959089850667336905:=0
def tw59105093114145929:=0
def tw2275646534562018576:=0
def tw9468023757689803240:=0
def tw108032912736667554:=0
def tw7512796510322469186:=0
def tw5659600306402811326:=0
def tw3177671438366576742:=0
def tw3491763736847645390:=0
def tw10154776502474921706:=0
def tw17194005929281499200:=0
def tw8226803636988785196:=0
def tw3590542906211625464:=0
def tw15896388964363015792:=0
def tw12147800389324039136:=0
def tw13863393134969905065:=0
def tw18093708219489529671:=0
def tw749975776310788935:=0
def tw304097018985008558:=0
def tw15113562881574541448:=0
def tw11686659400883585216:=0
def tw4802731415326160441:=0
def tw2549325910584261724:=0
def tw6617187550859815875:=0
def tw16994964942062435117:=0
def tw9427631808267598822:=0
def tw14113527130247264860:=0
def tw9906012087486680861:=0
def tw11313770560245988978:=0
def tw13322506987030262919:=0
def tw744138942636651863:=0
def tw14937219623478910230:=0
def tw7330424925583185640:=0
def tw14627274652688167448:=0
def tw3509772396908623937:=0
def tw14984302032887709808:=0
def tw8607716252780844300:=0
def tw6254749579928027508:=0
def tw5743039670565101004:=0
def tw9736732373974397181:=0
def tw12101244772214740435:=0
def tw7676754583197614906:=0
def tw9527478287971257285:=0
def tw6450383836845097361:=0
def tw3875396783459722708:=0
def tw16788036681844762647:=0
def tw5647745498965987112:=0
def tw11167100576713808783:=0
def tw4548245421033816250:=0
def tw5834249134348334387:=0
def tw15863369456412411659:=0
def tw16948420424648246761:=0
def tw9479452450559021764:=0
def tw1450923728543479485:=0
def tw13146063902604069280:=0
def tw12852005243904098131:=0
def tw10189489243494606938:=0
def tw10626159120594898592:=0
def tw11545090967365838448:=0
def tw1544853212761486949:=0
def tw13440999070993668645:=0
def tw475813824393010308:=0
def tw5579252036748080299:=0
def tw12390687476679574411:=0
def tw2886895296774704182:=0
def tw15519743503632514015:=0
def tw2477741536463267516:=0
def tw1401486471364919034:=0
def tw55074286305762259:=0
def tw15278488238451715746:=0
def tw16602443562345821051:=0
def tw13247337761434475581:=0
def tw4125453464590476010:=0
def tw18204795461814410346:=0
def tw4393356402164134606:=0
def tw6485159328899578232:=0
def tw4464481531629505287:=0
def tw5340863149934598782:=0
def tw2400111502157946779:=0
def tw11471985301800153892:=0
def tw2861913721286339922:=0
def tw7177477932648470608:=0
def tw12900348837179042708:=0
def tw13874461785623043124:=0
def tw15223455054973919504:=0
def tw14361319971865635098:=0
def tw13043550892201650287:=0
def tw2033089422678833438:=0
def tw16778854365442512779:=0
def tw5139779874506224533:=0
def tw7099243066479349736:=0
def tw11002718845515933149:=0
def tw16015251843037454346:=0
def tw3347543985635638547:=0
def tw11876782354857187485:=0
def tw2075351764921318613:=0
def tw8977166327633738287:=0
def tw4492148252438030180:=0
def tw6330346053272687628:=0
def tw1746416210977722202:=0
def tw11816191056000012785:=0
def tw7241647213156026028:=0
def tw12579880460083320367:=0
def tw14878383656887453023:=0
def tw936410511180118437:=0
def tw10289849237360023222:=0
def tw3189352081261028287:=0
def tw10852823847561167227:=0
def tw11510517805074995134:=0
def tw16412268487482594590:=0
def tw7032323497178015042:=0
def tw16283572793217688373:=0
def tw16009025662483304017:=0
def tw13612964869836313028:=0
def tw491108777851640534:=0
def tw3430618389363380603:=0
def tw10863158293143849719:=0
def tw8409168260091201732:=0
def tw556132528808244867:=0
def tw5713104848511901047:=0
def tw8495646227310038157:=0
def tw10961489356382165348:=0
def tw4072188380265638066:=0
def tw5861477691013182183:=0
def tw1433321976122512170:=0
def tw14595474625953425783:=0
def tw17247002744770961093:=0
def tw6954836990913858213:=0
def tw16638389648503336172:=0
def tw8728352270916730533:=0
def tw8812312721312300625:=0
def tw18105714086930334231:=0
def tw13583963611700611657:=0
def tw6784352636826866320:=0
def tw14697473051387763800:=0
def tw16053676176851514557:=0
def tw3812743618441355533:=0
def tw14476629429395098772:=0
def tw14668638456375636311:=0
def tw15932462876976752182:=0
def tw9993703663984317625:=0
def tw3153943457056356466:=0
def tw15652754561321264452:=0
def tw16052800032227696801:=0
def tw14582520178342612664:=0
def tw440758181888903691:=0
def tw315609007483079685:=0
def tw7783448897804702923:=0
def tw5714805311846003451:=0
def tw1053616619036921795:=0
def tw12451626319676294725:=0
def tw9165876271298345945:=0
def tw6933394922934943814:=0
def tw17804059627647872447:=0
def tw15588961362328267423:=0
def tw1334978248827924904:=0
def tw11168677039600009246:=0
def tw10270135485211838649:=0
def tw10286438698478277785:=0
def tw1545000993872055435:=0
def tw1748327434783849042:=0
def tw13565936251710086876:=0
def tw9657712480191431746:=0
def tw10484712996316275665:=0
def tw8817125264037131111:=0
def tw7812321283684425326:=0
def tw9051814629024974841:=0
def tw17865386252668596189:=0
def tw15840545549168054094:=0
def tw2439200144685458664:=0
def tw12823861806548587002:=0
def tw6240013412576319397:=0
def tw15106221330424184213:=0
def tw5044247473601611871:=0
def tw14680340332194911480:=0
def tw8389881127793387892:=0
def tw6800967333849870002:=0
def tw1990832892122081982:=0
def tw1501717958525350173:=0
def tw14553702077903687026:=0
def tw7454932153604114669:=0
def tw17735198767459620207:=0
def tw8213381665151067390:=0
def tw17770663005331239006:=0
def tw6928378205295133236:=0
def tw16464548322788749529:=0
def tw9843733874567569738:=0
def tw11193894362240925830:=0
def tw8402788067368845641:=0
def tw6376750285032851310:=0
def tw1349799654180102624:=0
def tw7500679345188177413:=0
def tw16279669230425431594:=0
def tw13211147495792261919:=0
def tw6753989968659451784:=0
def tw12503333892864234137:=0
def tw15499987086120252699:=0
def tw12633342538601183184:=0
def tw15812526403893406228:=0
def tw16069965652937061226:=0
def tw18104530759122768774:=0
def tw7369064136721311538:=0
def tw12942205999408388052:=0
def tw8055416987847236412:=0
def tw8988997924687944478:=0
def tw4729435276978312845:=0
def tw16489494605708613116:=0
def tw6741102891814611506:=0
def tw12308890456136215645:=0
def tw3679751460811328463:=0
def tw8286752099946782612:=0
def tw540502920955043236:=0
def tw14528324166691245139:=0
def tw193488145523718021:=0
def tw2534756149370775612:=0
def tw10890525086244001318:=0
def tw17614691859353776377:=0
def tw10516280472316176973:=0
def tw10324113314722751632:=0
def tw12424261236593476261:=0
def tw7781361457202397144:=0
def tw5739101844369906932:=0
def tw12684781414109871779:=0
def tw3284180711505496013:=0
def tw3594609021205573157:=0
def tw7722906523978423901:=0
def tw11877052815055504279:=0
def tw9201781123327207178:=0
def tw4577599257530391728:=0
def tw12444701666454488053:=0
def tw7022602065937057945:=0
def tw11998664867421392353:=0
def tw5885322830208824020:=0
def tw8688031339616065164:=0
def tw18393196699709593267:=0
def tw13751444585089216068:=0
def tw14585848271680682736:=0
def tw14836190332288911379:=0
def tw14167316396029527278:=0
def tw17239935676566941575:=0
def tw7193815858023524176:=0
def tw13696786685222201927:=0
def tw4881932854686035069:=0
def tw1364629086553406551:=0
def tw8201437229060086071:=0
def tw16821512337284136024:=0
def tw2431068560188804579:=0
def tw16490067229652165177:=0
def tw8381771438820604048:=0
def tw10586037891727946323:=0
def tw11784072016663474150:=0
def tw13490335114661416026:=0
def tw2261019423181542147:=0
def tw10049331177774769955:=0
def tw15493719041952120891:=0
def tw8555001269053768389:=0
def tw15141849130137840638:=0
def tw12433627695002152485:=0
def tw16532741121796903421:=0
def tw14622880582588512169:=0
def tw13455496422148601920:=0
def tw15180908719801425085:=0
def tw3053097252278550939:=0
def tw2897285314825629999:=0
def tw7313763342858732181:=0
def tw16026915095311742168:=0
def tw12294584721696013784:=0
def tw5126515086135964064:=0
def tw7800053257713338333:=0
def tw3452104497776378944:=0
def tw12043449599282571025:=0
def tw10473631952987939559:=0
def tw7615133603804809956:=0
def tw12840712455982751855:=0
def tw5658774163475001824:=0
def tw14059994885558933425:=0
def tw6446158042954841794:=0
def tw3431440208024346536:=0
def tw8257338955085011884:=0
def tw8866387009237878947:=0
def tw17272415774327461455:=0
def tw15793166561029365136:=0
end PySem.W.Fast
namespace L2
open PySem PySem.Spec PyProof.Rows
abbrev Key:=Sum Int Str
def Jf:Key→Value→Bool
 |.inl k,v=>Value.isInt k v
 |.inr x,v=>Value.isStrOf x v
def keyH(w:World):Key→Int
 |.inl k=>hashInt k
 |.inr x=>hashStr w x
theorem A4:∀{k:Key} {v:Value},Jf k v=true→(∃i t,k=Sum.inl i∧v=Value.int i t)∨(∃x t,k=Sum.inr x∧v=Value.str x t)
 |.inl i,v,h=>by
  obtain⟨t,e⟩:=Value.isInt_shape (k:=i) (v:=v) h
  exact .inl ⟨i,t,rfl,e⟩
 |.inr x,v,h=>by
  obtain⟨t,e⟩:=Value.isStrOf_shape (x:=x) (v:=v) h
  exact .inr ⟨x,t,rfl,e⟩
theorem Q0(i:Int)(t:Tok):Jf (.inl i) (.int i t)=true:=by simp[Jf,Value.isInt]
theorem Qz(x:Str)(t:Tok):Jf (.inr x) (.str x t)=true:=by simp[Jf,Value.isStrOf]
theorem Z2(a b:Int):decide ((Sum.inl a:Key)=Sum.inl b)=(a == b):=by
 by_cases e:a=b
 ·subst e;simp
 ·have h:¬(Sum.inl a:Key)=Sum.inl b:=fun q=>e (Sum.inl.inj q)
  rw[decide_eq_false h]
  exact(beq_eq_false_iff_ne.mpr e).symm
theorem Zy(a b:Str):decide ((Sum.inr a:Key)=Sum.inr b)=decide (a=b):=by
 by_cases e:a=b
 ·subst e;simp
 ·have h:¬(Sum.inr a:Key)=Sum.inr b:=fun q=>e (Sum.inr.inj q)
  rw[decide_eq_false h,decide_eq_false e]
theorem Z1(a:Int)(b:Str):decide ((Sum.inl a:Key)=Sum.inr b)=false:=decide_eq_false (fun q=>nomatch q)
theorem Zz(a:Str)(b:Int):decide ((Sum.inr a:Key)=Sum.inl b)=false:=decide_eq_false (fun q=>nomatch q)

def A5(prog:Program)(w:World):PySem.KeyKind prog w Key where
 is:=Jf
 hash:=keyH w
 inj:=fun v a b ha hb=>by
  rcases A4 ha with ⟨i,t,rfl,rfl⟩|⟨x,t,rfl,rfl⟩
  ·rcases A4 hb with ⟨j,u,rfl,e⟩|⟨y,u,rfl,e⟩
   ·injection e with e1 _;rw[e1]
   ·exact nomatch e
  ·rcases A4 hb with ⟨j,u,rfl,e⟩|⟨y,u,rfl,e⟩
   ·exact nomatch e
   ·injection e with e1 _;rw[e1]
 byValue:=fun k v h=>by
  rcases A4 h with ⟨i,t,rfl,rfl⟩|⟨x,t,rfl,rfl⟩<;>rfl
 pyHash:=fun hv h=>by
  rcases A4 hv with ⟨i,t,rfl,rfl⟩|⟨x,t,rfl,rfl⟩
  ·exact wpAny_pyHash_int h
  ·exact wpAny_pyHash_str h
 eqBool:=fun hu hv h=>by
  rcases A4 hu with ⟨i,t,rfl,rfl⟩|⟨x,t,rfl,rfl⟩
  ·rcases A4 hv with ⟨j,u,rfl,rfl⟩|⟨y,u,rfl,rfl⟩
   ·rw[Z2] at h;exact wpAny_eqBool_int h
   ·rw[Z1] at h;exact SeqAt.EqAt.int_str i t y u _ _ _ _ h
  ·rcases A4 hv with ⟨j,u,rfl,rfl⟩|⟨y,u,rfl,rfl⟩
   ·rw[Zz] at h;exact SeqAt.EqAt.str_int x t j u _ _ _ _ h
   ·rw[Zy] at h;exact wpAny_eqBool_str h
 «strs»:=fun k x t v h=>by
  rcases A4 h with ⟨i,u,rfl,e⟩|⟨y,u,rfl,e⟩
  ·exact nomatch e
  ·injection e with e1 _
   subst e1
   cases v<;>rfl

theorem M1(prog:Program)(w:World)(i:Int)(t:Tok):(A5 prog w).is (.inl i) (.int i t)=true:=Q0 i t
theorem M0(prog:Program)(w:World)(x:Str)(t:Tok):(A5 prog w).is (.inr x) (.str x t)=true:=Qz x t
end L2
namespace L2
open PySem PySem.Spec PyProof.Rows
inductive V where
 |non|bl (b:Bool)|int (i:Int)|str (x:Str)|byt (b:Array UInt8)|flt (b:UInt64)|ref (a:Addr)|ty (n:String)
 deriving DecidableEq

def RelV:V→Value→Prop
 |.non,u=>u=Value.none
 |.bl b,u=>u=Value.bool b
 |.int i,u=>∃t,u=Value.int i t
 |.str x,u=>∃t,u=Value.str x t
 |.byt b,u=>∃t,u=Value.bytes b t
 |.flt b,u=>∃t,u=Value.float b t
 |.ref a,u=>u=Value.ref a
 |.ty n,u=>u=Value.type n

abbrev Vals:List V→List Value→Prop:=Paired RelV
theorem Vals.length{xs:List V}{us:List Value}(r:Vals xs us):xs.length=us.length:=Paired.length r
theorem Vals.get:∀{xs:List V} {us:List Value} {i:Nat} {x:V},Vals xs us→xs[i]? = some x→∃u,us[i]? = some u∧RelV x u
 |_,_,_,_,.nil,e=>by simp at e
 |_,_,0,_,.cons r _,e=>by simp at e;subst e;exact⟨_,rfl,r⟩
 |_,_,i+1,x,.cons _ t,e=>by
  obtain⟨u,h1,h2⟩:=Vals.get (i:=i) (x:=x) t (by simpa using e)
  exact⟨u,by simpa using h1,h2⟩
theorem Vals.set{x:V}{u:Value}(r:RelV x u):∀{xs:List V} {us:List Value} (i:Nat),Vals xs us→Vals (xs.set i x) (us.set i u)
 |_,_,_,.nil=>.nil
 |_,_,0,.cons _ t=>.cons r t
 |_,_,i+1,.cons q t=>.cons q (Vals.set r i t)
theorem Vals.append:∀{xs ys:List V} {us ws:List Value},Vals xs us→Vals ys ws→Vals (xs++ys) (us++ws)
 |_,_,_,_,.nil,s=>s
 |_,_,_,_,.cons r t,s=>.cons r (Vals.append t s)
theorem Vals.take:∀{xs:List V} {us:List Value} (n:Nat),Vals xs us→Vals (xs.take n) (us.take n)
 |_,_,0,_=>.nil
 |_,_,_+1,.nil=>.nil
 |_,_,n+1,.cons r t=>.cons r (Vals.take n t)
theorem Vals.drop:∀{xs:List V} {us:List Value} (n:Nat),Vals xs us→Vals (xs.drop n) (us.drop n)
 |_,_,0,r=>r
 |_,_,_+1,.nil=>.nil
 |_,_,n+1,.cons _ t=>Vals.drop n t
def RelO:Option V→Option Value→Prop
 |some v,some u=>RelV v u
 |none,none=>True
 |_,_=>False
def KV{κ:Type}:List (κ×V)→List (κ×Value)→Prop:=Paired fun(p:κ×V) (q:κ×Value)=>p.1=q.1∧RelV p.2 q.2

def kV:Key→V
 |.inl i=>.int i
 |.inr x=>.str x

inductive HO where
 /-- a list -/
 |lst (xs:List V)
 /-- a tuple (never changes) -/
 |tup (xs:List V)
 /-- a dict whose keys are ints and texts;one whose keys are tuples of ints and texts (the empty one is both) -/
 |dK (kvs:List (Key×V))|dT (kvs:List (List Key×V))
 /-- a set of ints: its members,its size -/
 |set (S:Int→Bool) (n:Nat)
 /-- an instance of the class at C,its dict at dx,its attributes -/
 |ins (C dx:Addr) (fs:List (Str×V))
 /-- the dict of the instance at x -/
 |own (x:Addr)
 /-- the dict of an exception -/
 |xd (fs:List (Str×V))
 /-- a bound method,f of x -/
 |met (f x:Addr)
 /-- a range object lo,lo+1,.. below hi -/
 |rng (lo hi:Int)
 /-- a thing that is known to the object (the script;a dict while a loop walks it): read,never written while it is so -/
 |frz (o:Obj) (u:HO)
 /-- a code object's table -/
 |tbl (ps:Array Value)
 /-- any other thing,by what is true of its one object (a def of one's own: SetO a S n:=HO.ext fun h=>..) -/
 |ext (φ:Heap→Prop)

abbrev Hp:=Addr→Option HO
def upd(H:Hp)(a:Addr)(o:HO):Hp:=fun b=>if b=a then some o else H b
theorem Ah{H:Hp}{a:Addr}{o:HO}:upd H a o a=some o:=by unfold upd;rw[if_pos rfl]
theorem Af{H:Hp}{a b:Addr}{o:HO}(h:b≠a):upd H a o b=H b:=by unfold upd;rw[if_neg h]
theorem Je{H:Hp}{a b:Addr}{o u:HO}(h:H a=some o)(h':H b=some u)(d:o≠u):a≠b:=by
 intro e;subst e;rw[h] at h';exact d (Option.some.inj h')
theorem Ap{H:Hp}{a b:Addr}{o:HO}(h:H a=some o)(h':H b=none):a≠b:=by
 intro e;subst e;rw[h] at h';cases h'

section
variable(P:Program)(w:World)
def ObjOk(H:Hp)(h:Heap)(a:Addr):HO→Prop
 |.lst xs=>xs.length≤sizeLine∧∃(its:List Value) (n:Nat),Vals xs its∧h.get? a=some { cls:=.type "list",data:=.seq its.toArray n }
 |.tup xs=>xs.length≤sizeLine∧∃its:List Value,Vals xs its∧IsTup h a its.toArray
 |.dK kvs=>kvs.length≤sizeLine∧(a == sysModules)=false∧∃vs,KV kvs vs∧h.DictOf (A5 P w) a vs
 |.dT kvs=>kvs.length≤sizeLine∧(a == sysModules)=false∧∃xs:List (List Key×Addr×Value),
   Paired (fun(p:List Key×V) (q:List Key×Addr×Value)=>p.1=q.1∧H q.2.1=some (.tup (p.1.map kV))∧RelV p.2 q.2.2) kvs xs∧
   ∃o es ep,h.get? a=some o∧o.ExactDict∧o.data=.dict es ep∧es.toList=xs.map (entryOfKey (tupleKind (A5 P w)))∧(xs.map (·.1)).Nodup
 |.set S n=>h.SetOf (intKind P w) a S n
 |.ins C dx fs=>H dx=some (.own a)∧fs.length≤1000∧dx≠a∧h.get? a=some (PySem.W.instObj C dx)∧
   ∃mA,h.Ns1 dx mA∧(∀f,RelO (fs.lookup f) (mA f))∧PySem.Within mA (fs.map (·.1))
 |.own _=>∃o,h.get? a=some o
 |.xd fs=>∃mA,h.Ns1 a mA∧∀f,RelO (fs.lookup f) (mA f)
 |.rng lo hi=>∃t u v,h.get? a=some { cls:=.type "range",data:=.fields #[.int lo t,.int hi u,.int 1 v] }
 |.frz o u=>h.get? a=some o∧ObjOk H h a u
 |.tbl ps=>h.get? a=some { cls:=.none,data:=.fields ps }
 |.met f x=>h.get? a=some (PySem.W.methodObj (.ref f) (.ref x))
 |.ext φ=>φ h∧(∃o,h.get? a=some o)∧∀h1 h2:Heap,φ h1→(∀o,h1.get? a=some o→h2.get? a=some o)→φ h2
def HOk(H:Hp)(h:Heap):Prop:=∀a o,H a=some o→ObjOk P w H h a o
end
section
variable{P:Program}{w:World}{H H':Hp}{h h':Heap}{a:Addr}{o:HO}
theorem ObjOk.lt(x:ObjOk P w H h a o):a<h.objs.size:=by
 cases o with
 |lst xs=>obtain⟨_,_,_,_,e⟩:=x;exact Heap.lt_size e
 |tup xs=>obtain⟨_,_,_,p⟩:=x;exact p.lt
 |dK kvs=>obtain⟨_,_,_,_,o,_,_,e,_⟩:=x;exact Heap.lt_size e
 |dT kvs=>obtain⟨_,_,_,_,o,_,_,e,_⟩:=x;exact Heap.lt_size e
 |set S n=>obtain⟨o,_,_,_,e,_⟩:=x;exact Heap.lt_size e
 |ins C dx fs=>obtain⟨_,_,_,e,_⟩:=x;exact Heap.lt_size e
 |own y=>obtain⟨_,e⟩:=x;exact Heap.lt_size e
 |xd fs=>obtain⟨_,⟨_,_,_,e,_⟩,_⟩:=x;exact Heap.lt_size e
 |rng lo hi=>obtain⟨_,_,_,e⟩:=x;exact Heap.lt_size e
 |frz ob u=>obtain⟨e,_⟩:=x;exact Heap.lt_size e
 |tbl ps=>exact Heap.lt_size (show h.get? a=some _ from x)
 |met f y=>exact Heap.lt_size (show h.get? a=some _ from x)
 |ext φ=>obtain⟨_,⟨_,e⟩,_⟩:=x;exact Heap.lt_size e
theorem Paired.mapP{α β:Type}{F G:α→β→Prop}:∀{l₁:List α} {l₂:List β},Paired F l₁ l₂→(∀a b,F a b→G a b)→Paired G l₁ l₂
 |_,_,.nil,_=>.nil
 |_,_,.cons r t,f=>.cons (f _ _ r) (Paired.mapP t f)
theorem ObjOk.stay(x:ObjOk P w H h a o)(k:∀b u,(b=a∨H b=some (.own a))→h.get? b=some u→h'.get? b=some u)(ho:∀b,H b=some (.own a)→H' b=some (.own a))(ht:∀b xs,H b=some (.tup xs)→H' b=some (.tup xs)):ObjOk P w H' h' a o:=by
 induction o with
 |lst xs=>obtain⟨z,its,n,r,e⟩:=x;exact⟨z,its,n,r,k _ _ (.inl rfl) e⟩
 |tup xs=>obtain⟨z,its,r,ob,e,c⟩:=x;exact⟨z,its,r,ob,k _ _ (.inl rfl) e,c⟩
 |dK kvs=>obtain⟨z,y,vs,r,ob,es,ep,e,c⟩:=x;exact⟨z,y,vs,r,ob,es,ep,k _ _ (.inl rfl) e,c⟩
 |dT kvs=>
  obtain⟨z,y,xs,r,ob,es,ep,e,c⟩:=x
  exact⟨z,y,xs,Paired.mapP r fun p q z=>⟨z.1,ht _ _ z.2.1,z.2.2⟩,ob,es,ep,k _ _ (.inl rfl) e,c⟩
 |set S n=>obtain⟨ob,es,ep,t,e,c⟩:=x;exact⟨ob,es,ep,t,k _ _ (.inl rfl) e,c⟩
 |ins C dx fs=>
  obtain⟨d,z,ne,e,mA,⟨od,es,ep,e2,c⟩,r⟩:=x
  exact⟨ho _ d,z,ne,k _ _ (.inl rfl) e,mA,⟨od,es,ep,k _ _ (.inr d) e2,c⟩,r⟩
 |own y=>obtain⟨ob,e⟩:=x;exact⟨ob,k _ _ (.inl rfl) e⟩
 |xd fs=>obtain⟨mA,⟨od,es,ep,e,c⟩,r⟩:=x;exact⟨mA,⟨od,es,ep,k _ _ (.inl rfl) e,c⟩,r⟩
 |rng lo hi=>obtain⟨t,u,v,e⟩:=x;exact⟨t,u,v,k _ _ (.inl rfl) e⟩
 |frz ob u ih=>obtain⟨e,q⟩:=x;exact⟨k _ _ (.inl rfl) e,ih q⟩
 |tbl ps=>
  have e:h.get? a=some { cls:=.none,data:=.fields ps }:=x
  show h'.get? a=some { cls:=.none,data:=.fields ps }
  exact k a _ (.inl rfl) e
 |met f y=>
  have e:h.get? a=some (PySem.W.methodObj (.ref f) (.ref y)):=x
  show h'.get? a=some (PySem.W.methodObj (.ref f) (.ref y))
  exact k a _ (.inl rfl) e
 |ext φ=>obtain⟨p,⟨o,e⟩,st⟩:=x;exact⟨st _ _ p fun o q=>k _ _ (.inl rfl) q,⟨o,k _ _ (.inl rfl) e⟩,st⟩
theorem HOk.lt(x:HOk P w H h)(e:H a=some o):a<h.objs.size:=(x a o e).lt
theorem HOk.fresh(x:HOk P w H h)(e:h.objs.size≤a):H a=none:=by
 cases q:H a with
 |none=>rfl
 |some u=>exact absurd (Nat.lt_of_lt_of_le (x.lt q) e) (Nat.lt_irrefl _)
theorem HOk.kept(x:HOk P w H h)(k:∀b u,h.get? b=some u→h'.get? b=some u):HOk P w H h':=fun a o e=>
 (x a o e).stay (fun b u _ q=>k b u q) (fun _ q=>q) fun _ _ q=>q
theorem HOk.laid(x:HOk P w H h)(k:∀b u,h.get? b=some u→h'.get? b=some u)(hp:h.objs.size≤a)(new:ObjOk P w (upd H a o) h' a o):HOk P w (upd H a o) h':=fun b u e=>by
 have hn:=x.fresh hp
 by_cases hb:b=a
 ·subst hb;rw[Ah] at e;cases e;exact new
 ·rw[Af hb] at e
  exact(x b u e).stay (fun c v _ q=>k c v q) (fun c q=>by rw[Af (Ap q hn)];exact q) fun c xs q=>by rw[Af (Ap q hn)];exact q
end
def Rd(H:Hp)(a:Addr)(u:HO):Prop:=H a=some u∨∃o,H a=some (.frz o u)
theorem Rd.ok{P:Program}{w:World}{H:Hp}{h:Heap}{a:Addr}{u:HO}(r:Rd H a u)(x:HOk P w H h):ObjOk P w H h a u:=by
 rcases r with r|⟨o,r⟩
 ·exact x a u r
 ·obtain⟨_,q⟩:=x a _ r
  exact q
def Mut:Option HO→Prop
 |some (.lst _)=>True
 |some (.dK _)=>True
 |some (.dT _)=>True
 |some (.set _ _)=>True
 |some (.ins _ _ _)=>True
 |some (.ext _)=>True
 |_=>False
section
variable{P:Program}{w:World}{H:Hp}{h h':Heap}{x e:Addr}{o':HO}
theorem HOk.write(ok:HOk P w H h)(mu:Mut (H x))(he:e=x∨H e=some (.own x))(k:∀b u,b≠e→h.get? b=some u→h'.get? b=some u)(heo:∃u,h'.get? e=some u)(new:ObjOk P w (upd H x o') h' x o'):HOk P w (upd H x o') h':=fun b u q=>by
 have nown:∀c y,H c=some (.own y)→c≠x:=fun c y r z=>by subst z;rw[r] at mu;exact mu
 have ntup:∀c xs,H c=some (.tup xs)→c≠x:=fun c xs r z=>by subst z;rw[r] at mu;exact mu
 by_cases hb:b=x
 ·subst hb;rw[Ah] at q;cases q;exact new
 ·rw[Af hb] at q
  by_cases hbe:b=e
  ·have q':H b=some (.own x):=by
    rcases he with z|z
    ·exact absurd (hbe.trans z) hb
    ·rw[hbe];exact z
   rw[q] at q';cases q'
   obtain⟨v,hv⟩:=heo
   exact⟨v,by rw[hbe];exact hv⟩
  ·refine(ok b u q).stay (fun c v hc r=>k c v ?_ r) (fun c r=>by rw[Af (nown c b r)];exact r) fun c xs r=>by rw[Af (ntup c xs r)];exact r
   rcases hc with rfl|hc
   ·exact hbe
   ·rintro rfl
    rcases he with z|z
    ·exact nown c b hc z
    ·rw[hc] at z;cases z;exact hb rfl
end
structure Un(fs ex:List Addr)(H H':Hp)(h h':Heap):Prop where
 keep:∀b o,h.get? b=some o→H b=none→b ∉ fs→b ∉ ex→h'.get? b=some o
 slot:∀b o,h.get? b=some o→H b=none→b∈fs→b ∉ ex→∃sl,h'.get? b=some { o with slots:=sl }
 free:∀b o,h.get? b=some o→H b=none→b ∉ ex→H' b=none
 there:∀b o,h.get? b=some o→b ∉ ex→∃o',h'.get? b=some o'
 tups:∀b xs,H b=some (.tup xs)→H' b=some (.tup xs)
 frzs:∀b o u,H b=some (.frz o u)→H' b=some (.frz o u)
 tbls:∀b ps,H b=some (.tbl ps)→∃more,H' b=some (.tbl (ps++more))
section
variable{fs fs' ex ex':List Addr}{H H1 H2:Hp}{h h1 h2 h':Heap}{a x e:Addr}{o:HO}
theorem Un.any(u:Un fs ex H H1 h h1){b:Addr}{ob:Obj}(q:h.get? b=some ob)(n:H b=none)(hx:b ∉ ex):∃sl,h1.get? b=some { ob with slots:=sl }:=by
 by_cases hb:b∈fs
 ·exact u.slot b ob q n hb hx
 ·exact⟨ob.slots,u.keep b ob q n hb hx⟩
theorem Un.trans(a:Un fs ex H H1 h h1)(b:Un fs ex H1 H2 h1 h2):Un fs ex H H2 h h2 where
 keep:=fun c ob q n hc hx=>b.keep c ob (a.keep c ob q n hc hx) (a.free c ob q n hx) hc hx
 slot:=fun c ob q n hc hx=>by
  obtain⟨sl,e1⟩:=a.slot c ob q n hc hx
  obtain⟨sl',e2⟩:=b.slot c _ e1 (a.free c ob q n hx) hc hx
  exact⟨sl',e2⟩
 free:=fun c ob q n hx=>by
  obtain⟨o',e1⟩:=a.there c ob q hx
  exact b.free c o' e1 (a.free c ob q n hx) hx
 there:=fun c ob q hx=>by
  obtain⟨o',e1⟩:=a.there c ob q hx
  exact b.there c o' e1 hx
 tups:=fun c xs q=>b.tups c xs (a.tups c xs q)
 frzs:=fun c ob xs q=>b.frzs c ob xs (a.frzs c ob xs q)
 tbls:=fun c ps q=>by
  obtain⟨m1,e1⟩:=a.tbls c ps q
  obtain⟨m2,e2⟩:=b.tbls c _ e1
  exact⟨m1++m2,by rw[e2,Array.append_assoc]⟩
theorem Un.kept(k:∀b u,h.get? b=some u→h'.get? b=some u):Un fs ex H H h h':=
 ⟨fun b ob q _ _ _=>k b ob q,fun b ob q _ _ _=>⟨ob.slots,k b ob q⟩,fun _ _ _ n _=>n,fun b ob q _=>⟨ob,k b ob q⟩,fun _ _ q=>q,fun _ _ _ q=>q,fun _ ps q=>⟨#[],by rw[q];simp⟩⟩
theorem Un.refl:Un fs ex H H h h:=Un.kept fun _ _ q=>q
theorem Un.laid(k:∀b u,h.get? b=some u→h'.get? b=some u)(hp:h.objs.size≤a)(hn:H a=none):Un fs ex H (upd H a o) h h' where
 keep:=fun b u q _ _ _=>k b u q
 slot:=fun b u q _ _ _=>⟨u.slots,k b u q⟩
 free:=fun b u q n _=>by rw[Af (Nat.ne_of_lt (Nat.lt_of_lt_of_le (Heap.lt_size q) hp))];exact n
 there:=fun b u q _=>⟨u,k b u q⟩
 tups:=fun b xs q=>by rw[Af (Ap q hn)];exact q
 frzs:=fun b u xs q=>by rw[Af (Ap q hn)];exact q
 tbls:=fun b ps q=>⟨#[],by rw[Af (Ap q hn),q];simp⟩
theorem Un.write(mu:Mut (H x))(he:e=x∨H e=some (.own x))(k:∀b u,b≠e→h.get? b=some u→h'.get? b=some u)(heo:∃u,h'.get? e=some u):Un fs ex H (upd H x o) h h':=by
 have hx:∀b,H b=none→b≠x:=fun b n z=>by subst z;rw[n] at mu;exact mu
 have hb:∀b,H b=none→b≠e:=fun b n z=>by
  subst z
  rcases he with r|r
  ·exact hx b n r
  ·rw[n] at r;cases r
 have hm:∀b u,H b=some u→¬Mut (some u)→b≠x:=fun b u q nm z=>by subst z;rw[q] at mu;exact nm mu
 refine⟨fun b u q n _ _=>k b u (hb b n) q,fun b u q n _ _=>⟨u.slots,k b u (hb b n) q⟩,fun b u q n _=>by rw[Af (hx b n)];exact n,fun b u q _=>?_,
  fun b xs q=>by rw[Af (hm b _ q fun z=>z)];exact q,fun b u xs q=>by rw[Af (hm b _ q fun z=>z)];exact q,fun b ps q=>⟨#[],by rw[Af (hm b _ q fun z=>z),q];simp⟩⟩
 by_cases hbe:b=e
 ·subst hbe;exact heo
 ·exact⟨u,k b u hbe q⟩
end
def trk(h:Heap)(H:Hp):List Addr:=(List.range h.objs.size).filter fun a=>(H a).isSome
def J5(h:Heap)(H:Hp):Heap:=PySem.W.hideAll h (trk h H)
theorem Q6(h:Heap)(H:Hp):(J5 h H).objs.size=h.objs.size:=PySem.W.hideAll_size _ _
theorem U6{h:Heap}{H:Hp}{b:Addr}{o:Obj}(e:h.get? b=some o)(n:H b=none):(J5 h H).get? b=some o:=
 PySem.W.hideAll_get _ e fun hm=>by
  have q:(H b).isSome=true:=(List.mem_filter.mp hm).2
  rw[n] at q;simp at q
theorem W0{h:Heap}{H:Hp}{b:Addr}{o:Obj}(e:(J5 h H).get? b=some o):h.get? b=some o∧H b=none:=by
 have e':h.get? b=some o:=PySem.W.of_hideAll (trk h H) e
 refine⟨e',?_⟩
 cases q:H b with
 |none=>rfl
 |some x=>
  have hm:b∈trk h H:=List.mem_filter.mpr ⟨List.mem_range.mpr (Heap.lt_size e'),by simp[q]⟩
  have z:(J5 h H).get? b=none:=PySem.W.hideAll_none (trk h H) hm
  rw[z] at e;cases e

def Xk(g h:Heap)(L:Addr):List (Addr×Obj):=(List.range h.objs.size).filterMap fun a=>if a=L∨(g.get? a).isSome=true then none else (h.get? a).map fun o=>(a,o)
def rest(g h:Heap)(L d:Addr):List (Addr×Obj):=(Xk g h L).filter fun p=>decide (p.1≠d)
end L2
namespace L2
open PySem PySem.Spec PyProof.Rows
structure Mod(K:PySem.W.Frag)(mg:Str→Option Value)(base:Heap):Prop where
 kin:K.In base
 glob:base.Ns mainGlobals mg
 sm:∃mm,base.Ns sysModules mm
 bm:∃bm ob,mg "__builtins__" = some (.ref bm)∧bm≠builtinsNs∧base.get? bm=some ob∧ob.cls=.type "module"∧ob.dict=some builtinsNs∧ob.data=.plain
 blt:∃mb,base.Ns builtinsNs mb∧∀x:Str,x≠"__name__"→mb x=bootBuiltins x
 nolimit:base.NoLimit

structure Cx where
 prog:Program
 w:World
 K:PySem.W.Frag
 mg:Str→Option Value
 base:Heap
 A:Around
 N:List Str
 s₀:Shared
 H₀:Hp
 env:Env
 outer:List Env
 stack:List Env
 ex:List Addr
 fn:Str→Bool
 calm:Bool
 pn:List (Addr×Obj)
 xe:Value→Shared→Prop
def frs(l:List Env):List Addr:=l.filterMap (·.frame)
abbrev Cx.fs(X:Cx):List Addr:=frs X.outer

def Vis(sc:Scope)(x:Str):Prop:=sc.names.lookup x=some .local∨sc.names.lookup x=some .cell∨sc.names.lookup x=some .free
def Loc(sc:Scope)(x:Str):Prop:=sc.names.lookup x=some .local∨sc.names.lookup x=some .cell
def Look(env:Env)(h:Heap)(m:Str→Option Value)(x:Str)(u:Value):Prop:=
 (env.kindOf x=some .local∧m x=some u)∨((env.kindOf x=some .cell∨env.kindOf x=some .free)∧∃c,env.cells.lookup x=some c∧h.IsCell c (some u))

structure Cx.Ok(X:Cx):Prop where
 mod:Mod X.K X.mg X.base
 kind:X.env.scope.kind=.function
 glob:X.env.globals=mainGlobals
 blt:X.env.builtins=builtinsNs
 above:X.s₀.heap.objs.size≤X.env.locals
 inj:∀x y c,X.env.cells.lookup x=some c→X.env.cells.lookup y=some c→x=y
 has:∀x,(X.env.kindOf x=some .cell∨X.env.kindOf x=some .free)→∃c,X.env.cells.lookup x=some c
 cab:∀x c,X.fn x=true→X.env.cells.lookup x=some c→X.s₀.heap.objs.size≤c
 hd:X.calm=true→X.A.handled=none
 frames:X.A.frames=some X.stack
 stk:X.stack=X.outer∨(X.stack=X.env::X.outer∧X.env.frame=some X.env.locals)
 exf:∀b∈X.ex,b≠X.env.locals∧∀x c,X.env.cells.lookup x=some c→c≠b
 bs:∀b o,X.base.get? b=some o→X.s₀.heap.get? b=some o∧X.H₀ b=none
 bsz:X.base.objs.size≤X.s₀.heap.objs.size
 noex:∀b o,X.base.get? b=some o→b ∉ X.ex
 exfs:∀b∈X.ex,b ∉ X.fs
 funs:X.s₀.heap.FunFrames X.base X.outer
 frf:∀b∈X.fs,X.H₀ b=none

structure Inv(X:Cx)(pins:List (Addr×Obj))(σ:List (Option V))(H:Hp)(s:Shared):Prop where
 ok:X.Ok
 os:s.os=X.s₀.os
 bare:AllBare s.gens
 base:Un X.fs X.ex X.H₀ H X.s₀.heap s.heap
 loc:∃m,s.heap.Ns X.env.locals m∧∀(i:Nat) (x:Str) (v:V),X.N[i]? = some x→σ[i]? = some (some v)→Vis X.env.scope x→∃u,RelV v u∧Look X.env s.heap m x u
 cell:∀x c,X.env.cells.lookup x=some c→∃v,s.heap.IsCell c v
 free:H X.env.locals=none
 freeC:∀x c,X.env.cells.lookup x=some c→H c=none
 pin:∀p∈X.pn++pins,s.heap.get? p.1=some p.2∧H p.1=none∧p.1≠X.env.locals∧p.1 ∉ X.fs∧∀v,p.2.data≠.cell v
 hok:HOk X.prog X.w H s.heap
 len:σ.length=X.N.length

section
variable{X:Cx}{pins:List (Addr×Obj)}{σ:List (Option V)}{H H':Hp}{s:Shared}{h':Heap}
theorem Cx.Ok.nofr(ok:X.Ok){b:Addr}{o:Obj}(e:X.base.get? b=some o):b ∉ X.fs:=fun hb=>by
 have:=(ok.funs.mem hb).1
 rw[e] at this;cases this
theorem Inv.bs(I:Inv X pins σ H s):∀b o,X.base.get? b=some o→s.heap.get? b=some o∧H b=none:=fun b o e=>
 ⟨I.base.keep b o (I.ok.bs b o e).1 (I.ok.bs b o e).2 (I.ok.nofr e) (I.ok.noex b o e),I.base.free b o (I.ok.bs b o e).1 (I.ok.bs b o e).2 (I.ok.noex b o e)⟩
theorem Inv.bk(I:Inv X pins σ H s):∀b o,X.base.get? b=some o→s.heap.get? b=some o:=fun b o e=>(I.bs b o e).1
theorem Inv.mod(I:Inv X pins σ H s):Mod X.K X.mg X.base:=I.ok.mod
theorem Inv.kIn(I:Inv X pins σ H s):X.K.In s.heap:=I.ok.mod.kin.keeps I.bk
theorem Inv.fr(I:Inv X pins σ H s):∃m,Fr X.base X.env.locals s.heap m:=
 let ⟨m,hn,_⟩:=I.loc
 ⟨m,hn,I.bk,Nat.le_trans I.ok.bsz I.ok.above⟩
theorem Inv.lt(I:Inv X pins σ H s):X.env.locals<s.heap.objs.size:=let ⟨_,hn,_⟩:=I.loc;hn.lt
theorem Inv.sz(I:Inv X pins σ H s):X.s₀.heap.objs.size≤s.heap.objs.size:=Nat.le_trans I.ok.above (Nat.le_of_lt I.lt)
theorem Inv.nofs(I:Inv X pins σ H s){a:Addr}(h:s.heap.objs.size≤a):a ∉ X.fs:=fun hb=>by
 obtain⟨_,o,ho,_⟩:=I.ok.funs.mem hb
 exact absurd (Nat.lt_of_lt_of_le (Heap.lt_size ho) (Nat.le_trans I.sz h)) (Nat.lt_irrefl _)
theorem Inv.cne(I:Inv X pins σ H s):∀x c,X.env.cells.lookup x=some c→c≠X.env.locals:=fun x c e z=>by
 obtain⟨v,o,ho,hd⟩:=I.cell x c e
 obtain⟨m,⟨o',es,ep,ho',hd',_⟩,_⟩:=I.loc
 rw[z,ho'] at ho;cases ho;rw[hd'] at hd;cases hd
theorem Inv.funs(I:Inv X pins σ H s):s.heap.FunFrames X.base X.outer:=by
 have all:∀(l:List Env),(∀b∈frs l,b∈X.fs)→X.s₀.heap.FunFrames X.base l→s.heap.FunFrames X.base l:=by
  intro l
  induction l with
  |nil=>intro _ _;trivial
  |cons env r ih=>
   intro hs hl
   obtain⟨hk,⟨L,o,hf,hn,ho,hd⟩,hr⟩:=hl
   have hL:L∈X.fs:=hs L (by unfold frs;rw[List.filterMap_cons,hf];exact List.mem_cons_self)
   obtain⟨sl,e⟩:=I.base.slot L o ho (I.ok.frf L hL) hL fun z=>I.ok.exfs L z hL
   exact⟨hk,⟨L,_,hf,hn,e,hd⟩,ih (fun b hb=>hs b (by unfold frs;rw[List.filterMap_cons,hf];exact List.mem_cons_of_mem _ hb)) hr⟩
 exact all X.outer (fun _ hb=>hb) I.ok.funs

theorem Inv.stack(I:Inv X pins σ H s):s.heap.FunFrames X.base X.stack:=by
 rcases I.ok.stk with e|⟨e,hf⟩
 ·rw[e];exact I.funs
 ·rw[e]
  obtain⟨m,hn,_⟩:=I.loc
  refine .cons (by rw[I.ok.kind];decide) hf hn ?_ I.funs
  exact Heap.get?_none_of_le (Nat.le_trans I.ok.bsz I.ok.above)
theorem Inv.stkSub(I:Inv X pins σ H s):∀b∈frs X.stack,b∈X.env.locals::X.fs:=fun b hb=>by
 rcases I.ok.stk with e|⟨e,hf⟩
 ·rw[e] at hb;exact List.mem_cons_of_mem _ hb
 ·rw[e] at hb
  unfold frs at hb
  rw[List.filterMap_cons,hf] at hb
  exact hb
theorem Inv.stkFree(I:Inv X pins σ H s):∀b∈frs X.stack,H b=none:=fun b hb=>by
 rcases List.mem_cons.mp (I.stkSub b hb) with e|hb
 ·rw[e];exact I.free
 ·obtain⟨_,o,ho,_⟩:=I.ok.funs.mem hb
  exact I.base.free b o ho (I.ok.frf b hb) fun z=>I.ok.exfs b z hb

theorem Inv.step{g':Array GenState}{t':Nat}{d':Drawn}{ch:List Addr}(I:Inv X pins σ H s)(hch:∀b∈ch,(b∈X.ex∨X.s₀.heap.objs.size≤b)∧b≠X.env.locals∧(∀x c,X.env.cells.lookup x=some c→c≠b)∧∀p∈X.pn++pins,p.1≠b)(keep:∀b o,b≠X.env.locals→b ∉ X.fs→b ∉ ch→s.heap.get? b=some o→H b=none→h'.get? b=some o)(slot:∀b o,b≠X.env.locals→b∈X.fs→b ∉ ch→s.heap.get? b=some o→H b=none→∃sl,h'.get? b=some { o with slots:=sl })(free:∀b o,b ∉ ch→s.heap.get? b=some o→H b=none→H' b=none)(there:∀b o,b ∉ ch→s.heap.get? b=some o→∃o',h'.get? b=some o')(tups:∀b xs,H b=some (.tup xs)→H' b=some (.tup xs))(frzs:∀b o u,H b=some (.frz o u)→H' b=some (.frz o u))(tbls:∀b ps,H b=some (.tbl ps)→∃more,H' b=some (.tbl (ps++more)))(ns:∀m,s.heap.Ns X.env.locals m→h'.Ns X.env.locals m)(hok:HOk X.prog X.w H' h')(hg:AllBare g') :
  Inv X pins σ H' { s with heap:=h',gens:=g',drawn:=d',toks:=t' }:=by
 have neL:∀b o,X.s₀.heap.get? b=some o→b≠X.env.locals:=fun b o e=>Nat.ne_of_lt (Nat.lt_of_lt_of_le (Heap.lt_size e) I.ok.above)
 have neC:∀b o,X.s₀.heap.get? b=some o→b ∉ X.ex→b ∉ ch:=fun b o e hx hb=>by
  rcases(hch b hb).1 with z|z
  ·exact hx z
  ·exact absurd (Nat.lt_of_lt_of_le (Heap.lt_size e) z) (Nat.lt_irrefl _)
 have cellK:∀x c,X.env.cells.lookup x=some c→∀v,s.heap.IsCell c v→h'.IsCell c v:=fun x c e v ⟨o,ho,hd⟩=>by
  have nch:c ∉ ch:=fun z=>(hch c z).2.2.1 x c e rfl
  by_cases hc:c∈X.fs
  ·obtain⟨sl,q⟩:=slot c o (I.cne x c e) hc nch ho (I.freeC x c e)
   exact⟨_,q,hd⟩
  ·exact⟨o,keep c o (I.cne x c e) hc nch ho (I.freeC x c e),hd⟩
 refine⟨I.ok,I.os,hg,⟨fun b o e n hb hx=>?_,fun b o e n hb hx=>?_,fun b o e n hx=>?_,fun b o e hx=>?_,fun b xs e=>tups b xs (I.base.tups b xs e),fun b o xs e=>frzs b o xs (I.base.frzs b o xs e),fun b ps e=>?_⟩,?_,fun x c e=>?_,?_,fun x c e=>?_,fun p hp=>?_,hok,I.len⟩
 ·exact keep b o (neL b o e) hb (neC b o e hx) (I.base.keep b o e n hb hx) (I.base.free b o e n hx)
 ·obtain⟨sl,e1⟩:=I.base.slot b o e n hb hx
  obtain⟨sl',e2⟩:=slot b _ (neL b o e) hb (neC b o e hx) e1 (I.base.free b o e n hx)
  exact⟨sl',e2⟩
 ·obtain⟨o',e1⟩:=I.base.there b o e hx
  exact free b o' (neC b o e hx) e1 (I.base.free b o e n hx)
 ·obtain⟨o',e1⟩:=I.base.there b o e hx
  exact there b o' (neC b o e hx) e1
 ·obtain⟨m1,e1⟩:=I.base.tbls b ps e
  obtain⟨m2,e2⟩:=tbls b _ e1
  exact⟨m1++m2,by rw[e2,Array.append_assoc]⟩
 ·obtain⟨m,hn,hl⟩:=I.loc
  refine⟨m,ns m hn,fun i x v e1 e2 e3=>?_⟩
  obtain⟨u,r,l⟩:=hl i x v e1 e2 e3
  refine⟨u,r,?_⟩
  rcases l with l|⟨k,c,e,z⟩
  ·exact .inl l
  ·exact .inr ⟨k,c,e,cellK x c e _ z⟩
 ·obtain⟨v,z⟩:=I.cell x c e
  exact⟨v,cellK x c e v z⟩
 ·obtain⟨m,⟨o,_,_,ho,_⟩,_⟩:=I.loc
  exact free _ o (fun z=>(hch _ z).2.1 rfl) ho I.free
 ·obtain⟨v,o,ho,hd⟩:=I.cell x c e
  exact free c o (fun z=>(hch c z).2.2.1 x c e rfl) ho (I.freeC x c e)
 ·obtain⟨e,n,ne,nf,d⟩:=I.pin p hp
  have nch:p.1 ∉ ch:=fun z=>(hch p.1 z).2.2.2 p hp rfl
  exact⟨keep p.1 p.2 ne nf nch e n,free p.1 p.2 nch e n,ne,nf,d⟩
theorem Inv.un{t':Nat}(I:Inv X pins σ H s)(u:Un X.fs [] H H' s.heap h')(hok:HOk X.prog X.w H' h'):Inv X pins σ H' { s with heap:=h',toks:=t' }:=by
 obtain⟨m,⟨o,es,ep,ho,r⟩,_⟩:=id I.loc
 obtain⟨sl,hL⟩:=u.any ho I.free (by simp)
 exact I.step (g':=s.gens) (d':=s.drawn) (ch:=[]) (fun _ z=>nomatch z) (fun b o _ hb _ e n=>u.keep b o e n hb (by simp)) (fun b o _ hb _ e n=>u.slot b o e n hb (by simp)) (fun b o _ e n=>u.free b o e n (by simp)) (fun b o _ e=>u.there b o e (by simp)) u.tups u.frzs u.tbls (fun m' hm=>by
  obtain⟨o',es',ep',ho',r'⟩:=hm
  rw[ho] at ho';cases ho'
  exact⟨_,es',ep',hL,r'⟩) hok I.bare
theorem Inv.call{g':Array GenState}{t':Nat}{d':Drawn}{ch:List Addr}(I:Inv X pins σ H s)(u:Un (frs X.stack) ch H H' s.heap h')(hok:HOk X.prog X.w H' h')(hg:AllBare g')(hch:∀b∈ch,(b∈X.ex∨X.s₀.heap.objs.size≤b)∧b≠X.env.locals∧(∀x c,X.env.cells.lookup x=some c→c≠b)∧∀p∈X.pn++pins,p.1≠b) :
  Inv X pins σ H' { s with heap:=h',gens:=g',drawn:=d',toks:=t' }:=by
 obtain⟨m,⟨o,es,ep,ho,r⟩,_⟩:=id I.loc
 obtain⟨sl,hL⟩:=u.any ho I.free fun z=>(hch _ z).2.1 rfl
 exact I.step (ch:=ch) hch (fun b o hL hb hc e n=>u.keep b o e n (fun z=>(List.mem_cons.mp (I.stkSub b z)).elim hL hb) hc) (fun b o _ _ hc e n=>u.any e n hc) (fun b o hc e n=>u.free b o e n hc) (fun b o hc e=>u.there b o e hc) u.tups u.frzs u.tbls (fun m' hm=>by
  obtain⟨o',es',ep',ho',r'⟩:=hm
  rw[ho] at ho';cases ho'
  exact⟨_,es',ep',hL,r'⟩) hok hg
theorem Inv.turned{t':Nat}{it:Addr}(I:Inv X pins σ H s)(k:∀b o,b≠it→s.heap.get? b=some o→h'.get? b=some o)(hn:H it=none)(hL:it≠X.env.locals)(h1:it∈X.ex∨X.s₀.heap.objs.size≤it)(h2:∀x c,X.env.cells.lookup x=some c→c≠it)(h3:∀p∈X.pn++pins,p.1≠it):Inv X pins σ H { s with heap:=h',toks:=t' }:=by
 have nit:∀b u,H b=some u→b≠it:=fun b u e z=>by rw[z,hn] at e;cases e
 refine I.step (g':=s.gens) (d':=s.drawn) (ch:=[it]) (fun b hb=>?_) (fun b o _ _ hc e _=>k b o (fun z=>hc (by simp[z])) e) (fun b o _ _ hc e _=>⟨o.slots,k b o (fun z=>hc (by simp[z])) e⟩) (fun _ _ _ _ n=>n)
  (fun b o hc e=>⟨o,k b o (fun z=>hc (by simp[z])) e⟩) (fun _ _ e=>e) (fun _ _ _ e=>e) (fun b ps e=>⟨#[],by rw[e];simp⟩) (fun m hm=>?_) (fun b u e=>?_) I.bare
 ·have e:b=it:=by simpa using hb
  subst e
  exact⟨h1,hL,h2,h3⟩
 ·obtain⟨o,es,ep,ho,r⟩:=hm
  exact⟨o,es,ep,k _ o (Ne.symm hL) ho,r⟩
 ·refine(I.hok b u e).stay (fun c v hc q=>k c v ?_ q) (fun _ q=>q) fun _ _ q=>q
  rcases hc with z|z
  ·rw[z];exact nit b u e
  ·exact nit c _ z
theorem Inv.tok(I:Inv X pins σ H s)(t:Nat):Inv X pins σ H { s with toks:=t }:=I.un (h':=s.heap) (t':=t) Un.refl I.hok
theorem Inv.kept{t':Nat}(I:Inv X pins σ H s)(k:∀b u,s.heap.get? b=some u→h'.get? b=some u):Inv X pins σ H { s with heap:=h',toks:=t' }:=I.un (Un.kept k) (I.hok.kept k)
theorem Inv.laid{a:Addr}{o:HO}{t':Nat}(I:Inv X pins σ H s)(k:∀b u,s.heap.get? b=some u→h'.get? b=some u)(hp:s.heap.objs.size≤a)(new:ObjOk X.prog X.w (upd H a o) h' a o) :
  Inv X pins σ (upd H a o) { s with heap:=h',toks:=t' }:=I.un (Un.laid k hp (I.hok.fresh hp)) (I.hok.laid k hp new)
theorem Inv.write{x e:Addr}{o:HO}{t':Nat}(I:Inv X pins σ H s)(mu:Mut (H x))(he:e=x∨H e=some (.own x))(k:∀b u,b≠e→s.heap.get? b=some u→h'.get? b=some u)(heo:∃u,h'.get? e=some u)(new:ObjOk X.prog X.w (upd H x o) h' x o):Inv X pins σ (upd H x o) { s with heap:=h',toks:=t' }:=I.un (Un.write mu he k heo) (I.hok.write mu he k heo new)
theorem Inv.weak{σ':List (Option V)}(I:Inv X pins σ H s)(hl:σ'.length=σ.length)(w:∀(i:Nat) v,σ'[i]? = some (some v)→σ[i]? = some (some v)):Inv X pins σ' H s:=
 ⟨I.ok,I.os,I.bare,I.base,let ⟨m,hn,hl'⟩:=I.loc;⟨m,hn,fun i x v e1 e2 e3=>hl' i x v e1 (w i v e2) e3⟩,I.cell,I.free,I.freeC,I.pin,I.hok,hl.trans I.len⟩
theorem Inv.pins_of{pins':List (Addr×Obj)}(I:Inv X pins σ H s)(h:∀p∈pins',s.heap.get? p.1=some p.2∧H p.1=none∧p.1≠X.env.locals∧p.1 ∉ X.fs∧∀v,p.2.data≠.cell v):Inv X pins' σ H s:=
 ⟨I.ok,I.os,I.bare,I.base,I.loc,I.cell,I.free,I.freeC,fun p hp=>(List.mem_append.mp hp).elim (fun z=>I.pin p (List.mem_append_left _ z)) (h p),I.hok,I.len⟩

theorem Ma{N:List Str}(hN:N.Nodup){i j:Nat}{x:Str}(a:N[i]? = some x)(b:N[j]? = some x):i=j:=by
 obtain⟨h1,e1⟩:=List.getElem?_eq_some_iff.mp a
 obtain⟨h2,e2⟩:=List.getElem?_eq_some_iff.mp b
 exact(List.getElem_inj hN).mp (e1.trans e2.symm)

theorem Ji{M:Model}{A:Around}{E:Value→Shared→Prop}{i:Nat}{x:Str}{v:V}{u:Value}{Q:Unit→Shared→Prop}(I:Inv X pins σ H s)(hN:X.N.Nodup)(hi:X.N[i]? = some x)(hx:Loc X.env.scope x)(r:RelV v u)(h:∀s',Inv X pins (σ.set i (some v)) H s'→(∃a,Heap.SameBut a s.heap s'.heap∧(a=X.env.locals∨X.env.cells.lookup x=some a))→Q () s')(hf:X.fn x=true∨X.env.scope.names.lookup x=some .local:=by first|exact .inl rfl|exact .inr rfl|assumption):wpAny M A (storeName X.env x u) Q E s:=by
 obtain⟨m,hn,hl⟩:=id I.loc
 have hcls:(X.env.scope.kind == .class||(X.env.scope.kind == .module&&X.env.locals != X.env.globals))=false:=by rw[I.ok.kind];rfl
 have hiσ:i<σ.length:=by rw[I.len];exact(List.getElem?_eq_some_iff.mp hi).1
 have cne:=I.cne
 have tracked:∀{a:Addr} {h':Heap},(∃o,s.heap.get? a=some o∧H a=none)→Heap.SameBut a s.heap h'→HOk X.prog X.w H h':=fun {a h'} ha hs b ob e=>by
  obtain⟨_,_,hfree⟩:=ha
  refine(I.hok b ob e).stay (fun c w' hc q=>(hs.2 c ?_).trans q) (fun _ q=>q) fun _ _ q=>q
  rintro rfl
  rcases hc with rfl|hc
  ·rw[hfree] at e;cases e
  ·rw[hfree] at hc;cases hc
 rcases hx with hk|hk
 ·refine wpAny_storeName_local hk hn (fun h' hn' hs=>?_) hcls
  obtain⟨oL,_,_,hoL,_⟩:=id hn
  refine h _ ⟨I.ok,I.os,I.bare,⟨fun b o e n hb hx=>?_,fun b o e n hb hx=>?_,I.base.free,fun b o e hx=>?_,I.base.tups,I.base.frzs,I.base.tbls⟩,⟨_,hn',fun j y v' e1 e2 e3=>?_⟩,fun y c e=>?_,I.free,I.freeC,fun p hp=>?_,tracked ⟨oL,hoL,I.free⟩ hs,by simpa using I.len⟩ ⟨_,hs,.inl rfl⟩
  ·exact(hs.2 b (Nat.ne_of_lt (Nat.lt_of_lt_of_le (Heap.lt_size e) I.ok.above))).trans (I.base.keep b o e n hb hx)
  ·obtain⟨sl,e1⟩:=I.base.slot b o e n hb hx
   exact⟨sl,(hs.2 b (Nat.ne_of_lt (Nat.lt_of_lt_of_le (Heap.lt_size e) I.ok.above))).trans e1⟩
  ·obtain⟨o',e1⟩:=I.base.there b o e hx
   exact⟨o',(hs.2 b (Nat.ne_of_lt (Nat.lt_of_lt_of_le (Heap.lt_size e) I.ok.above))).trans e1⟩
  ·by_cases hj:j=i
   ·subst hj
    rw[hi] at e1;cases e1
    rw[List.getElem?_set_self hiσ] at e2
    cases e2
    exact⟨u,r,.inl ⟨hk,by simp⟩⟩
   ·rw[List.getElem?_set_ne (Ne.symm hj)] at e2
    obtain⟨u',r',q⟩:=hl j y v' e1 e2 e3
    refine⟨u',r',?_⟩
    rcases q with ⟨k,e⟩|⟨k,c,e,z⟩
    ·refine .inl ⟨k,?_⟩
     have:y≠x:=fun e=>hj (Ma hN e1 (e ▸ hi))
     simp[this,e]
    ·exact .inr ⟨k,c,e,z.sameBut hs (cne y c e)⟩
  ·obtain⟨w',z⟩:=I.cell y c e
   exact⟨w',z.sameBut hs (cne y c e)⟩
  ·obtain⟨e,n,ne,nf,d⟩:=I.pin p hp
   exact⟨(hs.2 p.1 ne).trans e,n,ne,nf,d⟩
 ·have hfn:X.fn x=true:=by
   rcases hf with z|z
   ·exact z
   ·rw[z] at hk;cases hk
  obtain⟨c,hc⟩:=I.ok.has x (.inl hk)
  obtain⟨w',z⟩:=I.cell x c hc
  refine wpAny_storeName_cell I.ok.kind hk hc z (fun h' hc' hs=>?_)
  obtain⟨oc,hoc,hocd⟩:=id z
  refine h { s with heap:=h' } ⟨I.ok,I.os,I.bare,⟨fun b o e n hb hx=>?_,fun b o e n hb hx=>?_,I.base.free,fun b o e hx=>?_,I.base.tups,I.base.frzs,I.base.tbls⟩,⟨m,hn.sameBut hs (Ne.symm (cne x c hc)),fun j y v' e1 e2 e3=>?_⟩,fun y c' e=>?_,I.free,I.freeC,fun p hp=>?_,tracked ⟨oc,hoc,I.freeC x c hc⟩ hs,by simpa using I.len⟩ ⟨c,hs,.inr hc⟩
  ·exact(hs.2 b (Nat.ne_of_lt (Nat.lt_of_lt_of_le (Heap.lt_size e) (I.ok.cab x c hfn hc)))).trans (I.base.keep b o e n hb hx)
  ·obtain⟨sl,e1⟩:=I.base.slot b o e n hb hx
   exact⟨sl,(hs.2 b (Nat.ne_of_lt (Nat.lt_of_lt_of_le (Heap.lt_size e) (I.ok.cab x c hfn hc)))).trans e1⟩
  ·obtain⟨o',e1⟩:=I.base.there b o e hx
   exact⟨o',(hs.2 b (Nat.ne_of_lt (Nat.lt_of_lt_of_le (Heap.lt_size e) (I.ok.cab x c hfn hc)))).trans e1⟩
  ·by_cases hj:j=i
   ·subst hj
    rw[hi] at e1;cases e1
    rw[List.getElem?_set_self hiσ] at e2
    cases e2
    exact⟨u,r,.inr ⟨.inl hk,c,hc,hc'⟩⟩
   ·rw[List.getElem?_set_ne (Ne.symm hj)] at e2
    obtain⟨u',r',q⟩:=hl j y v' e1 e2 e3
    refine⟨u',r',?_⟩
    rcases q with q|⟨k,c',e,z'⟩
    ·exact .inl q
    ·refine .inr ⟨k,c',e,z'.sameBut hs ?_⟩
     rintro rfl
     exact hj (Ma hN e1 (I.ok.inj _ _ _ e hc ▸ hi))
  ·by_cases hcc:c'=c
   ·subst hcc;exact⟨_,hc'⟩
   ·obtain⟨w2,z2⟩:=I.cell y c' e
    exact⟨w2,z2.sameBut hs hcc⟩
  ·obtain⟨e,n,ne,nf,d⟩:=I.pin p hp
   refine⟨(hs.2 p.1 ?_).trans e,n,ne,nf,d⟩
   intro q
   rw[q,hoc] at e
   have q':oc=p.2:=Option.some.inj e
   exact d w' (by rw[←q'];exact hocd)
theorem Cv{M:Model}{A:Around}{E:Value→Shared→Prop}{i:Nat}{x:Str}{v:V}{u:Value}{Q:Unit→Shared→Prop}(I:Inv X pins σ H s)(hN:X.N.Nodup)(hi:X.N[i]? = some x)(hx:Loc X.env.scope x)(r:RelV v u)(h:∀s',Inv X pins (σ.set i (some v)) H s'→Q () s')(hf:X.fn x=true∨X.env.scope.names.lookup x=some .local:=by first|exact .inl rfl|exact .inr rfl|assumption):wpAny M A (storeName X.env x u) Q E s:=
 Ji I hN hi hx r (fun s' I' _=>h s' I') hf
theorem Inv.call'{s':Shared}{ch:List Addr}(I:Inv X pins σ H s)(ho:s'.os=s.os)(u:Un (frs X.stack) ch H H' s.heap s'.heap)(hok:HOk X.prog X.w H' s'.heap)(hg:AllBare s'.gens)(hch:∀b∈ch,(b∈X.ex∨X.s₀.heap.objs.size≤b)∧b≠X.env.locals∧(∀x c,X.env.cells.lookup x=some c→c≠b)∧∀p∈X.pn++pins,p.1≠b):Inv X pins σ H' s':=by
 obtain⟨h',g',d',t',o'⟩:=s'
 have e:o'=s.os:=ho
 subst e
 exact I.call (g':=g') (t':=t') (d':=d') u hok hg hch
end
abbrev XK:=Value→Option Addr→Hp→Prop
abbrev St:=List (Option V)
abbrev VK:=V→Hp→Prop
abbrev TE:=St→Hp→VK→Prop
abbrev TT:=St→Hp→(Bool→Hp→Prop)→Prop
abbrev TA:=St→Hp→(List V→Hp→Prop)→Prop
structure Ends where
 nx:St→Hp→Prop
 rt:VK
 bk:St→Hp→Prop:=fun _ _=>False
 ct:St→Hp→Prop:=fun _ _=>False
abbrev TS:=Ends→St→Hp→Prop

def EP(X:Cx)(pins:List (Addr×Obj))(σ:St)(Q:VK)(u:Value)(s':Shared):Prop:=∃v H',Inv X pins σ H' s'∧RelV v u∧Q v H'
def TP(X:Cx)(pins:List (Addr×Obj))(σ:St)(Q:Bool→Hp→Prop)(b:Bool)(s':Shared):Prop:=∃H',Inv X pins σ H' s'∧Q b H'
def AP(X:Cx)(pins:List (Addr×Obj))(σ:St)(Q:List V→Hp→Prop)(us:List Value)(s':Shared):Prop:=∃vs H',Inv X pins σ H' s'∧Vals vs us∧Q vs H'
def SP(X:Cx)(pins:List (Addr×Obj))(D:Ends)(f:Flow)(s':Shared):Prop:=
 match f with
 |.next=>∃σ' H',Inv X pins σ' H' s'∧D.nx σ' H'
 |.brk=>∃σ' H',Inv X pins σ' H' s'∧D.bk σ' H'
 |.cont=>∃σ' H',Inv X pins σ' H' s'∧D.ct σ' H'
 |.ret u=>∃v σ' H',Inv X pins σ' H' s'∧RelV v u∧D.rt v H'

def PE(X:Cx)(e:Expr)(t:TE):Prop:=
 ∀(pins:List (Addr×Obj)) (s:Shared) (σ:St) (H:Hp) (Q:VK),Inv X pins σ H s→t σ H Q→wpAny (model X.prog X.w) X.A (eval e X.env) (EP X pins σ Q) X.xe s
def PT(X:Cx)(e:Expr)(t:TT):Prop:=
 ∀(pins:List (Addr×Obj)) (s:Shared) (σ:St) (H:Hp) (Q:Bool→Hp→Prop),Inv X pins σ H s→t σ H Q→wpAny (model X.prog X.w) X.A (isTrue e X.env (eval e X.env)) (TP X pins σ Q) X.xe s
def PW(X:Cx)(e:Expr)(t:TT):Prop:=
 ∀(whole:Sem Value) (pins:List (Addr×Obj)) (s:Shared) (σ:St) (H:Hp) (Q:Bool→Hp→Prop),Inv X pins σ H s→t σ H Q→wpAny (model X.prog X.w) X.A (isTrue e X.env whole) (TP X pins σ Q) X.xe s
theorem PW.pt{X:Cx}{e:Expr}{t:TT}(h:PW X e t):PT X e t:=h _
def PA(X:Cx)(es:List Expr)(t:TA):Prop:=
 ∀(pos:Pos) (pins:List (Addr×Obj)) (s:Shared) (σ:St) (H:Hp) (Q:List V→Hp→Prop),Inv X pins σ H s→t σ H Q→wpAny (model X.prog X.w) X.A (spliced (backTo pos (starEach es X.env))) (AP X pins σ Q) X.xe s
def PS(X:Cx)(st:Stmt)(t:TS):Prop:=
 ∀(pins:List (Addr×Obj)) (s:Shared) (σ:St) (H:Hp) (D:Ends),Inv X pins σ H s→t D σ H→wpAny (model X.prog X.w) X.A (exec st X.env) (SP X pins D) X.xe s
def PSs(X:Cx)(st:List Stmt)(t:TS):Prop:=
 ∀(pins:List (Addr×Obj)) (s:Shared) (σ:St) (H:Hp) (D:Ends),Inv X pins σ H s→t D σ H→wpAny (model X.prog X.w) X.A (execs st X.env) (SP X pins D) X.xe s
theorem thn{α:Type}{t:Sem α}{Q Q':α→Shared→Prop}{M:Model}{A:Around}{E:Value→Shared→Prop}{s:Shared}(h:wpAny M A t Q E s)(hQ:∀a s,Q a s→Q' a s):wpAny M A t Q' E s:=wpAny_mono h hQ fun _ _ x=>x
end L2
namespace L2
open PySem PySem.Spec PyProof.Rows
section
variable{X:Cx}
theorem bin{a b:Expr}{ta tb:TE}(ha:PE X a ta)(hb:PE X b tb){pins:List (Addr×Obj)}{s:Shared}{σ:St}{H:Hp}{R:V→V→Hp→Prop}(I:Inv X pins σ H s)(h:ta σ H fun x H1=>tb σ H1 fun y H2=>R x y H2){α:Type}{Q:α→Shared→Prop}{f:Value→Value→Sem α}(hf:∀v u s2 x y H2,Inv X pins σ H2 s2→RelV x v→RelV y u→R x y H2→wpAny (model X.prog X.w) X.A (f v u) Q X.xe s2) :
  wpAny (model X.prog X.w) X.A (eval a X.env) (fun v s₁=>wpAny (model X.prog X.w) X.A (eval b X.env) (fun u s₂=>wpAny (model X.prog X.w) X.A (f v u) Q X.xe s₂) X.xe s₁) X.xe s:=by
 refine thn (ha pins s σ H _ I h) fun v s1 ⟨x,H1,I1,r1,q1⟩=>?_
 refine thn (hb pins s1 σ H1 _ I1 q1) fun u s2 ⟨y,H2,I2,r2,q2⟩=>?_
 exact hf v u s2 x y H2 I2 r1 r2 q2

def tVar(i:Nat):TE:=fun σ H Q=>∃v,σ[i]? = some (some v)∧Q v H
def tC(v:V):TE:=fun _ H Q=>Q v H
theorem Kd{i:Nat}{x:Str}{pos:Pos}(hN:X.N[i]? = some x)(hv:Vis X.env.scope x)(hd:(x == ("__debug__" : Str))=false:=by decide)(hcd:(x == ("__classdict__" : Str))=false:=by decide):PE X (.Name x pos) (tVar i):=by
 intro pins s σ H Q I h
 obtain⟨v,e,h⟩:=h
 obtain⟨m,hn,hl⟩:=I.loc
 obtain⟨u,r,l⟩:=hl i x v hN e hv
 have fin:EP X pins σ Q u s:=⟨v,H,I,r,h⟩
 rcases l with ⟨hk,hm⟩|⟨hk,c,hc,hcell⟩
 ·exact wpAny_Name (wpAny_loadName_local I.ok.kind hk hn hm fin) hd
 ·rcases hk with hk|hk
  ·exact wpAny_Name (wpAny_loadName_cell I.ok.kind hk hc hcell fin) hd
  ·exact wpAny_Name (wpAny_loadName_free I.ok.kind hk hc hcell fin hcd) hd
theorem Zf{i j pos}:PE X (.Constant (.int i) j pos) (tC (.int i)):=fun _ _ _ H _ I h=>wpAny_Constant_int ⟨.int i,H,I.tok _,⟨_,rfl⟩,h⟩
theorem pe_bl{b j pos}:PE X (.Constant (.bool b) j pos) (tC (.bl b)):=fun _ _ _ H _ I h=>Constant_bool ⟨.bl b,H,I,rfl,h⟩
theorem Zd{j pos}:PE X (.Constant .none j pos) (tC .non):=fun _ _ _ H _ I h=>Constant_none ⟨.non,H,I,rfl,h⟩
theorem Za{x j pos}:PE X (.Constant (.str x) j pos) (tC (.str x)):=fun _ _ _ H _ I h=>Calls.Constant_str ⟨.str x,H,I.tok _,⟨_,rfl⟩,h⟩

def Gl(X:Cx)(x:Str):Prop:=X.env.kindOf x=some .globalImplicit
theorem D4{E:Value→Shared→Prop}{pins:List (Addr×Obj)}{s:Shared}{σ:St}{H:Hp}{x:Str}{u:Value}{pos:Pos}{Q:Value→Shared→Prop}(I:Inv X pins σ H s)(hg:Gl X x)(hm:X.mg x=some u)(h:Q u s)(hd:(x == ("__debug__" : Str))=false:=by decide):wpAny (model X.prog X.w) X.A (eval (.Name x pos) X.env) Q E s:=
 Calls.Name_function_global I.ok.kind hg (Calls.loadGlobal_global (by rw[I.ok.glob];exact I.mod.glob.keeps I.bk) hm h) hd
theorem Ek{E:Value→Shared→Prop}{pins:List (Addr×Obj)}{s:Shared}{σ:St}{H:Hp}{x:Str}{u:Value}{pos:Pos}{Q:Value→Shared→Prop}(I:Inv X pins σ H s)(hg:Gl X x)(hm:X.mg x=none)(hv:bootBuiltins x=some u)(h:Q u s)(hn:x≠"__name__":=by decide)(hd:(x == ("__debug__" : Str))=false:=by decide):wpAny (model X.prog X.w) X.A (eval (.Name x pos) X.env) Q E s:=by
 obtain⟨mb,h1,h2⟩:=I.mod.blt
 exact Calls.Name_function_global I.ok.kind hg (Calls.loadGlobal_builtin (by rw[I.ok.glob];exact I.mod.glob.keeps I.bk) hm (by rw[I.ok.blt];exact h1.keeps I.bk) ((h2 x hn).trans hv) h) hd
theorem O8{x:Str}{v:V}{u:Value}{pos:Pos}(hg:Gl X x)(hm:X.mg x=some u)(r:RelV v u)(hd:(x == ("__debug__" : Str))=false:=by decide):PE X (.Name x pos) (tC v):=
 fun _ _ _ H _ I h=>D4 I hg hm ⟨v,H,I,r,h⟩ hd
theorem Wm{x:Str}{v:V}{u:Value}{pos:Pos}(hg:Gl X x)(hm:X.mg x=none)(hv:bootBuiltins x=some u)(r:RelV v u)(hn:x≠"__name__":=by decide)(hd:(x == ("__debug__" : Str))=false:=by decide):PE X (.Name x pos) (tC v):=
 fun _ _ _ H _ I h=>Ek I hg hm hv ⟨v,H,I,r,h⟩ hn hd

variable{a b:Expr}{ta tb:TE}{pos:Pos}
variable{tA tB':TT}{rest:List Expr}
def tAnd(t u:TT):TT:=fun σ H Q=>t σ H fun c H1=>if c=true then u σ H1 Q else Q false H1
def tOr(t u:TT):TT:=fun σ H Q=>t σ H fun c H1=>if c=true then Q true H1 else u σ H1 Q
def tNot(t:TT):TT:=fun σ H Q=>t σ H fun c H1=>Q (!c) H1
theorem Wc(ha:PT X a tA):PW X (.BoolOp .And [a] pos) tA:=by
 intro wh pins s σ H Q I h
 refine isTrue_and (thn (ha pins s σ H Q I h) fun c s1 e=>?_)
 cases c with
 |true=>exact isTrue_and_nil e
 |false=>exact e
theorem Yx(ha:PT X a tA):PW X (.BoolOp .Or [a] pos) tA:=by
 intro wh pins s σ H Q I h
 refine isTrue_or (thn (ha pins s σ H Q I h) fun c s1 e=>?_)
 cases c with
 |false=>exact isTrue_or_nil e
 |true=>exact e
theorem Yy(ha:PT X a tA)(hb:PW X (.BoolOp .And (b::rest) pos) tB'):PW X (.BoolOp .And (a::b::rest) pos) (tAnd tA tB'):=by
 intro wh pins s σ H Q I h
 refine isTrue_and (thn (ha pins s σ H _ I h) fun c s1 ⟨H1,I1,q1⟩=>?_)
 cases c with
 |true=>exact hb wh pins s1 σ H1 Q I1 q1
 |false=>exact⟨H1,I1,q1⟩
theorem pw_or(ha:PT X a tA)(hb:PW X (.BoolOp .Or (b::rest) pos) tB'):PW X (.BoolOp .Or (a::b::rest) pos) (tOr tA tB'):=by
 intro wh pins s σ H Q I h
 refine isTrue_or (thn (ha pins s σ H _ I h) fun c s1 ⟨H1,I1,q1⟩=>?_)
 cases c with
 |true=>exact⟨H1,I1,q1⟩
 |false=>exact hb wh pins s1 σ H1 Q I1 q1
theorem Y0(ha:PT X a tA):PT X (.UnaryOp .Not a pos) (tNot tA):=by
 intro pins s σ H Q I h
 exact isTrue_not (ha pins s σ H (fun c H1=>Q (!c) H1) I h)
def tAndV(ta tb:TE):TE:=fun σ H Q=>ta σ H fun x H1=>∃c,x=.bl c∧if c=true then tb σ H1 Q else Q (.bl false) H1
def tNotV(ta:TE):TE:=fun σ H Q=>ta σ H fun x H1=>∃c,x=.bl c∧Q (.bl (!c)) H1
theorem Zb{op}{t:TE}(h:PE X a t):PE X (.BoolOp op [a] pos) t:=fun pins s σ H Q I hw=>BoolOp_one (h pins s σ H Q I hw)
theorem Zh(ha:PE X a ta)(hb:PE X (.BoolOp .And (b::rest) pos) tb):PE X (.BoolOp .And (a::b::rest) pos) (tAndV ta tb):=by
 intro pins s σ H Q I h
 refine BoolOp_and (thn (ha pins s σ H _ I h) fun v s1 ⟨x,H1,I1,r1,q1⟩=>?_)
 obtain⟨c,rfl,q1⟩:=q1
 cases r1
 refine wpAny_truthy_bool ?_
 cases c with
 |true=>exact hb pins s1 σ H1 Q I1 q1
 |false=>exact⟨.bl false,H1,I1,rfl,q1⟩
theorem Zc(ha:PE X a ta):PE X (.UnaryOp .Not a pos) (tNotV ta):=by
 intro pins s σ H Q I h
 refine UnaryOp_ (thn (ha pins s σ H _ I h) fun v s1 ⟨x,H1,I1,r1,q1⟩=>?_)
 obtain⟨c,rfl,q1⟩:=q1
 cases r1
 exact not_of (wpAny_truthy_bool ⟨.bl (!c),H1,I1,rfl,q1⟩)
end
end L2
namespace L2
open PySem PySem.Spec PyProof.Rows
def SqL(K:PySem.W.Frag)(H:Hp)(a:Addr)(xs:List V):Prop:=
 Rd H a (.lst xs)∨
  ∃(o:Obj) (its:Array Value) (n:Nat),K.lookup a=some o∧o.cls=.type "list"∧o.dict=none∧o.data=.seq its n∧its.size≤sizeLine∧Vals xs its.toList
def SqT(K:PySem.W.Frag)(H:Hp)(a:Addr)(xs:List V):Prop:=
 Rd H a (.tup xs)∨
  ∃(o:Obj) (its:Array Value) (n:Nat),K.lookup a=some o∧o.cls=.type "tuple"∧o.data=.seq its n∧its.size≤sizeLine∧Vals xs its.toList
def absV:Value→Option V
 |.none=>some .non
 |.bool b=>some (.bl b)
 |.int i _=>some (.int i)
 |.str x _=>some (.str x)
 |.bytes b _=>some (.byt b)
 |.float b _=>some (.flt b)
 |.ref a=>some (.ref a)
 |.type n=>some (.ty n)
 |_=>none
theorem RelV.abs{x:V}{u:Value}(r:RelV x u):absV u=some x:=by
 cases x with
 |non=>cases r;rfl
 |bl _=>cases r;rfl
 |int _=>obtain⟨t,rfl⟩:=r;rfl
 |str _=>obtain⟨t,rfl⟩:=r;rfl
 |byt _=>obtain⟨t,rfl⟩:=r;rfl
 |flt _=>obtain⟨t,rfl⟩:=r;rfl
 |ref _=>cases r;rfl
 |ty _=>cases r;rfl
theorem RelV.inj{x y:V}{u:Value}(r:RelV x u)(q:RelV y u):x=y:=Option.some.inj (r.abs.symm.trans q.abs)
theorem Vals.inj:∀{xs ys:List V} {us:List Value},Vals xs us→Vals ys us→xs=ys
 |_,_,_,.nil,.nil=>rfl
 |_,_,_,.cons r t,.cons r' t'=>by rw[r.inj r',Vals.inj t t']
section
variable{X:Cx}{pins:List (Addr×Obj)}{σ:St}{H:Hp}{s:Shared}{a:Addr}{xs ys:List V}
theorem Inv.list(I:Inv X pins σ H s)(h:SqL X.K H a xs):∃its:List Value,Vals xs its∧PlainL s.heap a its.toArray∧xs.length≤sizeLine:=by
 rcases h with h|⟨o,its,n,hk,hc,hd,hs,hz,r⟩
 ·obtain⟨z,its,n,r,e⟩:=h.ok I.hok
  exact⟨its,r,⟨_,n,e,rfl,rfl,rfl⟩,z⟩
 ·refine⟨its.toList,r,⟨o,n,I.kIn a o hk,hc,hd,by simpa using hs⟩,?_⟩
  have e:=r.length
  simp only[Array.length_toList] at e
  omega
theorem Inv.tuple(I:Inv X pins σ H s)(h:SqT X.K H a xs):∃its:List Value,Vals xs its∧IsTup s.heap a its.toArray∧xs.length≤sizeLine:=by
 rcases h with h|⟨o,its,n,hk,hc,hs,hz,r⟩
 ·obtain⟨z,its,r,p⟩:=h.ok I.hok
  exact⟨its,r,p,z⟩
 ·refine⟨its.toList,r,⟨o,I.kIn a o hk,hc,n,by simpa using hs⟩,?_⟩
  have e:=r.length
  simp only[Array.length_toList] at e
  omega
theorem Inv.list_inj(I:Inv X pins σ H s)(h:SqL X.K H a xs)(h':SqL X.K H a ys):xs=ys:=by
 obtain⟨its,r,⟨o,n,e,_,_,d⟩,_⟩:=I.list h
 obtain⟨its',r',⟨o',n',e',_,_,d'⟩,_⟩:=I.list h'
 rw[e] at e';cases e'
 rw[d] at d'
 injection d' with d1 _
 have:its=its':=by simpa using congrArg Array.toList d1
 subst this
 exact r.inj r'
theorem Inv.tuple_inj(I:Inv X pins σ H s)(h:SqT X.K H a xs)(h':SqT X.K H a ys):xs=ys:=by
 obtain⟨its,r,⟨o,e,_,n,d⟩,_⟩:=I.tuple h
 obtain⟨its',r',⟨o',e',_,n',d'⟩,_⟩:=I.tuple h'
 rw[e] at e';cases e'
 rw[d] at d'
 injection d' with d1 _
 have:its=its':=by simpa using congrArg Array.toList d1
 subst this
 exact r.inj r'
end
abbrev Cx.wish(X:Cx)(E:Value→Shared→Prop):Cx:={ X with xe:=E }
abbrev Cx.nox(X:Cx):Cx:=X.wish fun _ _=>False
theorem Cx.Ok.wish{X:Cx}(ok:X.Ok)(E:Value→Shared→Prop):(X.wish E).Ok:=
 ⟨ok.mod,ok.kind,ok.glob,ok.blt,ok.above,ok.inj,ok.has,ok.cab,ok.hd,ok.frames,ok.stk,ok.exf,ok.bs,ok.bsz,ok.noex,ok.exfs,ok.funs,ok.frf⟩
theorem Cx.Ok.unwish{X:Cx}{E:Value→Shared→Prop}(ok:(X.wish E).Ok):X.Ok:=
 ⟨ok.mod,ok.kind,ok.glob,ok.blt,ok.above,ok.inj,ok.has,ok.cab,ok.hd,ok.frames,ok.stk,ok.exf,ok.bs,ok.bsz,ok.noex,ok.exfs,ok.funs,ok.frf⟩
section
variable{X:Cx}{pins:List (Addr×Obj)}{σ:St}{H:Hp}{s:Shared}{E:Value→Shared→Prop}
theorem Inv.wish(I:Inv X pins σ H s)(E:Value→Shared→Prop):Inv (X.wish E) pins σ H s:=⟨I.ok.wish E,I.os,I.bare,I.base,I.loc,I.cell,I.free,I.freeC,I.pin,I.hok,I.len⟩
theorem Inv.unwish(I:Inv (X.wish E) pins σ H s):Inv X pins σ H s:=⟨I.ok.unwish,I.os,I.bare,I.base,I.loc,I.cell,I.free,I.freeC,I.pin,I.hok,I.len⟩
theorem SP.unwish{D:Ends}{f:Flow}{s':Shared}(h:SP (X.wish E) pins D f s'):SP X pins D f s':=by
 cases f with
 |next=>obtain⟨σ',H',I,q⟩:=h;exact⟨σ',H',I.unwish,q⟩
 |brk=>obtain⟨σ',H',I,q⟩:=h;exact⟨σ',H',I.unwish,q⟩
 |cont=>obtain⟨σ',H',I,q⟩:=h;exact⟨σ',H',I.unwish,q⟩
 |ret u=>obtain⟨v,σ',H',I,r,q⟩:=h;exact⟨v,σ',H',I.unwish,r,q⟩
theorem PSs.nox{st:List Stmt}{t:TS}(h:PSs X.nox st t):PSs X st t:=fun pins s σ H D I hw=>
 wpAny_mono (h pins s σ H D (I.wish _) hw) (fun _ _ q=>q.unwish) fun _ _ z=>False.elim z
end
section
variable{X:Cx}{st:Stmt}{rest:List Stmt}{t u:TS}{e:Expr}{te:TE}{pos:Pos}
def tNext:TS:=fun D σ H=>D.nx σ H
def tSeq(t u:TS):TS:=fun D σ H=>t { D with nx:=u D } σ H
theorem pss_nil:PSs X [] tNext:=fun _ _ σ H _ I h=>wpAny_execs_nil ⟨σ,H,I,h⟩
theorem T7(h1:PS X st t)(h2:PSs X rest u):PSs X (st::rest) (tSeq t u):=by
 intro pins s σ H D I h
 refine wpAny_execs_cons (thn (h1 pins s σ H { D with nx:=u D } I h) fun f s1 q=>?_)
 cases f with
 |next=>
  obtain⟨σ',H',I',q⟩:=q
  exact h2 pins s1 σ' H' D I' q
 |ret v=>exact q
 |brk=>exact q
 |cont=>exact q
theorem Gr(h1:PS X st t):PSs X [st] t:=by
 intro pins s σ H D I h
 refine wpAny_execs_cons (thn (h1 pins s σ H D I h) fun f s1 q=>?_)
 cases f with
 |next=>exact wpAny_execs_nil q
 |ret v=>exact q
 |brk=>exact q
 |cont=>exact q
theorem Inv.quiet{pins:List (Addr×Obj)}{σ:St}{H:Hp}{s:Shared}(I:Inv X pins σ H s):interactive X.env=false:=by simp[interactive,I.ok.kind]
def tDrop(te:TE):TS:=fun D σ H=>te σ H fun _ H1=>D.nx σ H1
theorem Wg(he:PE X e te)(hs:swapsWith e none pos.line X.env=pure false:=by rfl):PS X (.Expr e pos) (tDrop te):=by
 intro pins s σ H D I h
 exact wpAny_Expr_any (thn (he pins s σ H _ I h) fun v s1 ⟨x,H1,I1,r1,q1⟩=>⟨σ,H1,I1,q1⟩) I.quiet hs
def tRet(te:TE):TS:=fun D σ H=>te σ H D.rt
theorem Nn(he:PE X e te):PS X (.Return (some e) pos) (tRet te):=by
 intro pins s σ H D I h
 exact wpAny_Return_some (thn (he pins s σ H _ I h) fun v s1 ⟨x,H1,I1,r1,q1⟩=>⟨x,σ,H1,I1,r1,q1⟩)
def tIfS(c:TT)(t u:TS):TS:=fun D σ H=>c σ H fun b H1=>if b=true then t D σ H1 else u D σ H1
theorem Xs{c:Expr}{a b:List Stmt}{tc:TT}(hc:PT X c tc)(ha:PSs X a t)(hb:PSs X b u):PS X (.If c a b pos) (tIfS tc t u):=by
 intro pins s σ H D I h
 refine wpAny_If (thn (hc pins s σ H _ I h) fun d s1 ⟨H1,I1,q1⟩=>?_)
 cases d with
 |true=>exact ha pins s1 σ H1 D I1 q1
 |false=>exact hb pins s1 σ H1 D I1 q1
end
abbrev TG:=V→St→Hp→(St→Hp→Prop)→Prop
abbrev TGs:=List V→St→Hp→(St→Hp→Prop)→Prop
def PG(X:Cx)(target:Expr)(t:TG):Prop:=
 ∀(pins:List (Addr×Obj)) (s:Shared) (σ:St) (H:Hp) (v:V) (u:Value) (Q:St→Hp→Prop),Inv X pins σ H s→RelV v u→t v σ H Q→
  wpAny (model X.prog X.w) X.A (assign target X.env u) (fun _ s'=>∃σ' H',Inv X pins σ' H' s'∧Q σ' H') X.xe s
def PGs(X:Cx)(ts:List Expr)(t:TGs):Prop:=
 ∀(pins:List (Addr×Obj)) (s:Shared) (σ:St) (H:Hp) (vs:List V) (us:List Value) (Q:St→Hp→Prop),Inv X pins σ H s→Vals vs us→t vs σ H Q→
  wpAny (model X.prog X.w) X.A (assignInOrder ((assignEach ts X.env).map (·.2)) us) (fun _ s'=>∃σ' H',Inv X pins σ' H' s'∧Q σ' H') X.xe s
abbrev R3:=V→V→V→Hp→(Hp→Prop)→Prop
def PSet(X:Cx)(t:R3):Prop:=
 ∀(pins:List (Addr×Obj)) (s:Shared) (σ:St) (H:Hp) (o i v:V) (ov iv u:Value) (Q:Hp→Prop),Inv X pins σ H s→RelV o ov→RelV i iv→RelV v u→t o i v H Q→
  wpAny (model X.prog X.w) X.A (setItem ov iv u) (fun _ s'=>∃H',Inv X pins σ H' s'∧Q H') X.xe s
section
variable{X:Cx}{pos:Pos}
def Sf(i:Nat):TG:=fun v σ H Q=>Q (σ.set i (some v)) H
theorem Wi{i:Nat}{x:Str}(hN:X.N.Nodup)(hi:X.N[i]? = some x)(hx:Loc X.env.scope x)(hf:X.fn x=true∨X.env.scope.names.lookup x=some .local:=by first|exact .inl rfl|exact .inr rfl|assumption):PG X (.Name x pos) (Sf i):=by
 intro pins s σ H v u Q I r h
 exact wpAny_assign_Name (Cv I hN hi hx r (fun s' I'=>⟨_,H,I',h⟩) hf)
def gNil:TGs:=fun vs σ H Q=>vs=[]∧Q σ H
def gCons(t:TG)(u:TGs):TGs:=fun vs σ H Q=>∃v r,vs=v::r∧t v σ H fun σ' H'=>u r σ' H' Q
theorem pgs_nil:PGs X [] gNil:=by
 intro pins s σ H vs us Q I r h
 obtain⟨e,h⟩:=h
 subst e
 cases r
 exact assignInOrder_nil ⟨σ,H,I,h⟩
theorem Ub{e:Expr}{es:List Expr}{t:TG}{u:TGs}(h1:PG X e t)(h2:PGs X es u)(hs:(assignEach (e::es) X.env).map (·.2)=assign e X.env::(assignEach es X.env).map (·.2):=by rfl):PGs X (e::es) (gCons t u):=by
 intro pins s σ H vs us Q I r h
 obtain⟨v,vr,e1,h⟩:=h
 subst e1
 cases r with
 |cons r rr=>
  rw[hs]
  refine assignInOrder_cons (thn (h1 pins s σ H _ _ _ I r h) fun _ s1 ⟨σ1,H1,I1,q1⟩=>?_)
  exact h2 pins s1 σ1 H1 _ _ Q I1 rr q1
def gTup(K:PySem.W.Frag)(n:Nat)(t:TGs):TG:=fun v σ H Q=>∃a xs,v=.ref a∧SqT K H a xs∧xs.length=n∧t xs σ H Q
theorem Y5{es:List Expr}{k:Nat}{t:TGs}{n:Nat}(hc:X.calm=true)(h:PGs X es t)(hn:(assignEach es X.env).length=n:=by rfl)(hst:(assignEach es X.env).findIdx? (·.1)=none:=by rfl):PG X (.Tuple es k pos) (gTup X.K n t):=by
 intro pins s σ H v u Q I r hw
 obtain⟨a,xs,e1,hq,hl,hw⟩:=hw
 subst e1
 cases r
 obtain⟨its,rv,ht,hz⟩:=I.tuple hq
 refine assign_Tuple_tuple (I.ok.hd hc) ht (by simp[hn,←hl,rv.length]) hst fun h' hx=>?_
 have I1:Inv X pins σ H { s with heap:=h' }:=I.kept (t':=s.toks) fun b o e=>hx b o (Nat.ne_of_lt (Heap.lt_size e)) e
 exact h pins _ σ H xs _ Q I1 (by simpa using rv) hw
def gSub(to ti:TE)(t:R3):TG:=fun v σ H Q=>to σ H fun o H1=>ti σ H1 fun i H2=>t o i v H2 fun H3=>Q σ H3
theorem Y6{o i:Expr}{to ti:TE}{t:R3}(ho:PE X o to)(hi:PE X i ti)(hs:PSet X t)(ha:∀v,assign (.Subscript o i pos) X.env v=(do
   let ov ←holding [v] (eval o X.env)
   let iv ←holding [v,ov] (eval i X.env)
   standAt pos
   holding [v,ov,iv] (setItem ov iv v)
   release [v,ov,iv] []):=by intro _;rfl):PG X (.Subscript o i pos) (gSub to ti t):=by
 intro pins s σ H v u Q I r h
 rw[ha]
 refine wpAny_bind (wpAny_holding (thn (ho pins s σ H _ I h) fun ov s1 ⟨x,H1,I1,r1,q1⟩=>?_))
 refine wpAny_bind (wpAny_holding (thn (hi pins s1 σ H1 _ I1 q1) fun iv s2 ⟨y,H2,I2,r2,q2⟩=>?_))
 refine wpAny_bind (wpAny_standAt (wpAny_bind (wpAny_holding (thn (hs pins s2 σ H2 x y v ov iv u _ I2 r1 r2 r q2) fun _ s3 ⟨H3,I3,q3⟩=>?_))))
 exact wpAny_release ⟨σ,H3,I3,q3⟩
def Vr(te:TE)(g:TG):TS:=fun D σ H=>te σ H fun x H1=>g x σ H1 D.nx
theorem Y3{tg e:Expr}{te:TE}{g:TG}(he:PE X e te)(hg:PG X tg g)(hs:swapsWithSole [tg] e pos.line X.env=pure false:=by rfl)(hw:swappedStores [tg] e X.env=pure none:=by rfl)(h1:(assignEach [tg] X.env).map (·.2)=[assign tg X.env]:=by rfl):PS X (.Assign [tg] e pos) (Vr te g):=by
 intro pins s σ H D I h
 refine wpAny_Assign_stores (thn (he pins s σ H _ I h) fun v s1 ⟨x,H1,I1,r1,q1⟩=>?_) hs hw
 rw[h1]
 exact thn (hg pins s1 σ H1 x v _ I1 r1 q1) fun _ s2 q=>q
theorem Y2{i:Nat}{x:Str}{e:Expr}{te:TE}{pos':Pos}(hN:X.N.Nodup)(hi:X.N[i]? = some x)(hx:Loc X.env.scope x)(he:PE X e te)(hs:swapsWith e (some (.Name x pos')) pos.line X.env=pure false:=by rfl)(hf:X.fn x=true∨X.env.scope.names.lookup x=some .local:=by first|exact .inl rfl|exact .inr rfl|assumption) :
  PS X (.Assign [.Name x pos'] e pos) (Vr te (Sf i)):=by
 intro pins s σ H D I h
 refine wpAny_Assign_Name (thn (he pins s σ H _ I h) fun v s1 ⟨y,H1,I1,r1,q1⟩=>?_) hs
 exact Cv I1 hN hi hx r1 (fun s2 I2=>⟨_,H1,I2,q1⟩) hf
end
section
variable{X:Cx}{pos:Pos}
end
structure It where
 go:Nat→Hp→Prop
 yld:Nat→Hp→V→Hp→Prop
 stop:Nat→Hp→Prop
def Ed(X:Cx)(pins:List (Addr×Obj))(H:Hp)(b:Addr):Prop:=
 H b=none∧b≠X.env.locals∧b ∉ X.fs∧(b∈X.ex∨X.s₀.heap.objs.size≤b)∧(∀x c,X.env.cells.lookup x=some c→c≠b)∧∀p∈X.pn++pins,p.1≠b
theorem Inv.fpOk{X:Cx}{pins:List (Addr×Obj)}{σ:St}{H H':Hp}{s:Shared}{b:Addr}(I:Inv X pins σ H s)(hb:s.heap.objs.size≤b)(hn:H' b=none):Ed X pins H' b:=by
 refine⟨hn,Nat.ne_of_gt (Nat.lt_of_lt_of_le I.lt hb),I.nofs hb,.inr (Nat.le_trans I.sz hb),fun x c e z=>?_,fun p hp z=>?_⟩
 ·obtain⟨v,q⟩:=I.cell x c e
  exact absurd (Nat.lt_of_lt_of_le q.lt (by rw[z];exact hb)) (Nat.lt_irrefl _)
 ·exact absurd (Nat.lt_of_lt_of_le (Heap.lt_size (I.pin p hp).1) (by rw[z];exact hb)) (Nat.lt_irrefl _)
structure Turn(P:Program)(w:World)(K:PySem.W.Frag)(tg:Expr)(J:It)(fp:List Addr)(it:Addr)(tn:Nat→Heap→Prop):Prop where
 mem:it∈fp
 obj:∀i h,tn i h→∀b∈fp,∃o,h.get? b=some o∧∀v,o.data≠.cell v
 keep:∀i h h',tn i h→(∀b∈fp,∀o,h.get? b=some o→h'.get? b=some o)→tn i h'
 item:∀(X:Cx),X.prog=P→X.w=w→X.K=K→X.calm=true→∀(i:Nat) (pins:List (Addr×Obj)) (s:Shared) (σ:St) (H:Hp) (E:Value→Shared→Prop),Inv X pins σ H s→(∀b∈fp,Ed X pins H b)→tn i s.heap→J.go i H→
  wpAny (model P w) X.A (pyNext (.ref it)) (fun r s1=>∃u,r=some u∧
   wpAny (model P w) X.A (letOwnedTupleGo tg (.ref it) u) (fun _ s2=>∃x H',Inv X pins σ H' s2∧RelV x u∧J.yld i H x H'∧tn (i+1) s2.heap∧∀b∈fp,H' b=none) E s1) E s
 done:∀(X:Cx),X.prog=P→X.w=w→X.K=K→X.calm=true→∀(i:Nat) (pins:List (Addr×Obj)) (s:Shared) (σ:St) (H:Hp) (E:Value→Shared→Prop),Inv X pins σ H s→(∀b∈fp,Ed X pins H b)→tn i s.heap→J.stop i H→
  wpAny (model P w) X.A (pyNext (.ref it)) (fun r s1=>r=none∧Inv X pins σ H s1) E s
 self:∀(A:Around) (i:Nat) (s:Shared) (Q:Value→Shared→Prop) (E:Value→Shared→Prop),tn i s.heap→Q (.ref it) s→wpAny (model P w) A (pyIter (.ref it)) Q E s
abbrev TI:=St→Hp→(It→Hp→Prop)→Prop
def PIE(X:Cx)(pins:List (Addr×Obj))(σ:St)(tg:Expr)(R:It→Hp→Prop)(itv:Value)(s2:Shared):Prop:=
 ∃(it:Addr) (fp:List Addr) (tn:Nat→Heap→Prop) (J:It) (H':Hp),itv=.ref it∧Inv X pins σ H' s2∧Turn X.prog X.w X.K tg J fp it tn∧tn 0 s2.heap∧(∀b∈fp,Ed X pins H' b)∧R J H'
def PI(X:Cx)(tg iter:Expr)(wi:TI):Prop:=
 ∀(pins:List (Addr×Obj)) (s:Shared) (σ:St) (H:Hp) (R:It→Hp→Prop),Inv X pins σ H s→wi σ H R→
  wpAny (model X.prog X.w) X.A (eval iter X.env) (fun v s1=>wpAny (model X.prog X.w) X.A (pyIter v) (PIE X pins σ tg R) X.xe s1) X.xe s

theorem Ov {M:Model} {A:Around} {E:Value→Shared→Prop} {s:Shared} {tg:Expr} {it:Addr} {u:Value} {o:Obj} {n:String} {vs:Array Value} {Q:Unit→Shared→Prop} (ho:s.heap.get? it=some o) (hc:o.cls=.type n) (hd:o.data=.fields vs)
    (hn:["enumerate", "zip", "dict_itemiterator", "dict_reverseitemiterator", "odict_iterator", "itertools.zip_longest", "itertools.pairwise"].contains n=false) (hQ:Q () s):wpAny M A (letOwnedTupleGo tg (.ref it) u) Q E s:=by
  unfold letOwnedTupleGo
  cases tg<;>first
    | exact wpAny_pure hQ
    | (cases u<;>first
        | exact wpAny_pure hQ
        | (refine wpAny_bind (wpAny_load ho ?_)
           rw [hc,hd]
           show wpAny M A (if (["enumerate", "zip", "dict_itemiterator", "dict_reverseitemiterator", "odict_iterator", "itertools.zip_longest", "itertools.pairwise"].contains n&&vs[0]? == some (rawInt _))=true then _ else _) Q E s
           rw [if_neg (by intro h;rw [hn,Bool.false_and] at h;cases h)]
           exact wpAny_pure hQ))

def Itl(K:PySem.W.Frag)(a:Addr):It:=
 ⟨fun i H=>∃xs x,SqL K H a xs∧xs[i]? = some x,fun i H x H'=>H'=H∧∀xs,SqL K H a xs→xs[i]? = some x,fun i H=>∃xs,SqL K H a xs∧xs.length≤i⟩
def Itt(K:PySem.W.Frag)(a:Addr):It:=
 ⟨fun i H=>∃xs x,SqT K H a xs∧xs[i]? = some x,fun i H x H'=>H'=H∧∀xs,SqT K H a xs→xs[i]? = some x,fun i H=>∃xs,SqT K H a xs∧xs.length≤i⟩
def Itr(lo:Int)(n:Nat):It:=⟨fun i _=>i<n,fun i H x H'=>H'=H∧x=.int (lo+i),fun i _=>n≤i⟩
theorem P1{P:Program}{w:World}{K:W.Frag}{tg:Expr}(a it:Addr):Turn P w K tg (Itl K a) [it] it (fun i h=>h.IsListIter it a i) where
 mem:=by simp
 obj:=fun i h st b hb=>by
  have e:b=it:=by simpa using hb
  subst e
  obtain⟨o,e,c,d⟩:=st
  exact⟨o,e,fun v z=>by rw[d] at z;cases z⟩
 keep:=fun i h h' st k=>st.at fun o e=>k it (by simp) o e
 item:=by
  intro X hP hw hK hc i pins s σ H E I hf st hg
  subst hP hw hK
  obtain⟨xs,x,hq,hx⟩:=hg
  obtain⟨its,rv,p,hz⟩:=I.list hq
  obtain⟨u,hu,ru⟩:=rv.get hx
  obtain⟨f0,f1,f2,f3,f4,f5⟩:=hf it (by simp)
  refine wpAny_pyNext_list_item st p.isList (x:=u) (by simpa using hu) fun h' st' sb=>?_
  have I1:Inv X pins σ H { s with heap:=h' }:=I.turned (t':=s.toks) (fun b o hb e=>(sb.2 b hb).trans e) f0 f1 f3 f4 f5
  obtain⟨o,e,c,d⟩:=id st'
  exact⟨u,rfl,Ov (s:={ s with heap:=h' }) e c d (by decide) ⟨x,H,I1,ru,⟨rfl,fun ys hy=>by rw[I.list_inj hy hq];exact hx⟩,st',fun b hb=>(hf b hb).1⟩⟩
 done:=by
  intro X hP hw hK hc i pins s σ H E I hf st hg
  subst hP hw hK
  obtain⟨xs,hq,hx⟩:=hg
  obtain⟨its,rv,p,hz⟩:=I.list hq
  obtain⟨f0,f1,f2,f3,f4,f5⟩:=hf it (by simp)
  have hl:=rv.length
  exact wpAny_pyNext_list_end (I.ok.hd hc) st p.isList (by simp;omega) fun h' eb=>⟨rfl,I.turned (t':=s.toks) (fun b o hb e=>eb b o hb e) f0 f1 f3 f4 f5⟩
 self:=fun _ _ _ _ _ st h=>wpAny_pyIter_listiter st h
theorem Nw{P:Program}{w:World}{K:W.Frag}{tg:Expr}(a it:Addr):Turn P w K tg (Itt K a) [it] it (fun i h=>h.IsTupleIter it a i) where
 mem:=by simp
 obj:=fun i h st b hb=>by
  have e:b=it:=by simpa using hb
  subst e
  obtain⟨o,e,c,d⟩:=st
  exact⟨o,e,fun v z=>by rw[d] at z;cases z⟩
 keep:=fun i h h' st k=>st.at fun o e=>k it (by simp) o e
 item:=by
  intro X hP hw hK hc i pins s σ H E I hf st hg
  subst hP hw hK
  obtain⟨xs,x,hq,hx⟩:=hg
  obtain⟨its,rv,p,hz⟩:=I.tuple hq
  obtain⟨u,hu,ru⟩:=rv.get hx
  obtain⟨f0,f1,f2,f3,f4,f5⟩:=hf it (by simp)
  refine wpAny_pyNext_tuple_item st (show s.heap.IsTuple a its.toArray from p) (x:=u) (by simpa using hu) fun h' st' sb=>?_
  have I1:Inv X pins σ H { s with heap:=h' }:=I.turned (t':=s.toks) (fun b o hb e=>(sb.2 b hb).trans e) f0 f1 f3 f4 f5
  obtain⟨o,e,c,d⟩:=id st'
  exact⟨u,rfl,Ov (s:={ s with heap:=h' }) e c d (by decide) ⟨x,H,I1,ru,⟨rfl,fun ys hy=>by rw[I.tuple_inj hy hq];exact hx⟩,st',fun b hb=>(hf b hb).1⟩⟩
 done:=by
  intro X hP hw hK hc i pins s σ H E I hf st hg
  subst hP hw hK
  obtain⟨xs,hq,hx⟩:=hg
  obtain⟨its,rv,p,hz⟩:=I.tuple hq
  obtain⟨f0,f1,f2,f3,f4,f5⟩:=hf it (by simp)
  have hl:=rv.length
  exact wpAny_pyNext_tuple_end (I.ok.hd hc) st (show s.heap.IsTuple a its.toArray from p) (by simp;omega) fun h' eb=>⟨rfl,I.turned (t':=s.toks) (fun b o hb e=>eb b o hb e) f0 f1 f3 f4 f5⟩
 self:=fun _ _ _ _ _ st h=>wpAny_pyIter_tupleiter st h
theorem Nx{P:Program}{w:World}{K:W.Frag}{tg:Expr}(it:Addr)(lo:Int)(n:Nat):Turn P w K tg (Itr lo n) [it] it (fun i h=>IsRangeIter h it (lo+(i:Nat)*1) ((n:Int)-(i:Nat)) 1) where
 mem:=by simp
 obj:=fun i h st b hb=>by
  have e:b=it:=by simpa using hb
  subst e
  exact⟨_,st,fun v z=>by
   have z':Data.fields _=Data.cell v:=z
   cases z'⟩
 keep:=fun i h h' st k=>k it (by simp) _ st
 item:=by
  intro X hP hw hK hc i pins s σ H E I hf st hg
  subst hP hw hK
  obtain⟨f0,f1,f2,f3,f4,f5⟩:=hf it (by simp)
  have W:=Walks.range (prog:=X.prog) (w:=X.w) (I.ok.hd hc) it lo 1 n
  refine W.item i s _ _ hg st fun v h' tk hv st' kk=>?_
  obtain⟨t,rfl⟩:=hv
  have I1:Inv X pins σ H { s with heap:=h',toks:=tk }:=I.turned (fun b o hb e=>kk b o (by simpa using hb) e) f0 f1 f3 f4 f5
  refine⟨_,rfl,Ov (s:={ s with heap:=h',toks:=tk }) (n:="range_iterator") st' rfl rfl (by decide) ⟨.int (lo+i),H,I1,⟨t,?_⟩,⟨rfl,rfl⟩,st',fun b hb=>(hf b hb).1⟩⟩
  rw[Int.mul_one]
 done:=by
  intro X hP hw hK hc i pins s σ H E I hf st hg
  subst hP hw hK
  obtain⟨f0,f1,f2,f3,f4,f5⟩:=hf it (by simp)
  exact wpAny_pyNext_range_end (I.ok.hd hc) st (by have:n≤i:=hg;omega) fun h' eb=>⟨rfl,I.turned (t':=s.toks) (fun b o hb e=>eb b o hb e) f0 f1 f3 f4 f5⟩
 self:=fun _ _ _ _ _ st h=>wpAny_pyIter_rangeiter st h
end L2
namespace L2
open PySem PySem.Spec PyProof.Rows
section
variable{X:Cx}{tg:Expr}
theorem L8{pins:List (Addr×Obj)}{σ:St}{H:Hp}{s:Shared}{R:It→Hp→Prop}{E:Value→Shared→Prop}{lo hi:Int}{t u v:Tok}{tk:Nat}(I:Inv X pins σ H s)(h1 : -(2 ^ 62)≤lo)(h2:lo<2 ^ 62)(h3 : -(2 ^ 62)≤hi)(h4:hi<2 ^ 62)(q:R (Itr lo (hi-lo).toNat) H):wpAny (model X.prog X.w) X.A (pyIter (.ref s.heap.objs.size)) (PIE X pins σ tg R) E { s with heap:=s.heap.push { cls:=.type "range",data:=.fields #[.int lo t,.int hi u,.int 1 v] },toks:=tk }:=by
 refine wpAny_pyIter_range (IsRange.new ..) (small_one h1 h2 h3 h4) ?_
 have I1:Inv X pins σ H { s with heap:=s.heap.push { cls:=.type "range",data:=.fields #[.int lo t,.int hi u,.int 1 v] },toks:=tk }:=I.kept fun b o e=>Heap.get?_push_of_some _ e
 refine⟨(s.heap.push { cls:=.type "range",data:=.fields #[.int lo t,.int hi u,.int 1 v] }).objs.size,[(s.heap.push { cls:=.type "range",data:=.fields #[.int lo t,.int hi u,.int 1 v] }).objs.size],_,_,H,rfl,
  I1.kept (t':=tk) fun b o e=>Heap.get?_push_of_some _ e,Nx _ lo (hi-lo).toNat,?_,fun b hb=>?_,q⟩
 ·have e1:lo+((0:Nat):Int)*1=lo:=by simp
  have e2:(((hi-lo).toNat:Nat):Int)-((0:Nat):Int)=Builtin.Range.rangeSize lo hi 1:=by rw[rangeSize_one];split<;>omega
  show IsRangeIter _ _ (lo+((0:Nat):Int)*1) ((((hi-lo).toNat:Nat):Int)-((0:Nat):Int)) 1
  rw[e1,e2]
  exact Heap.get?_push_size _ rfl
 ·have e:b=(s.heap.push { cls:=.type "range",data:=.fields #[.int lo t,.int hi u,.int 1 v] }).objs.size:=by simpa using hb
  subst e
  exact I1.fpOk (Nat.le_refl _) (I1.hok.fresh (Nat.le_refl _))
def iRng1(ta:TA):TI:=fun σ H R=>ta σ H fun vs H1=>∃j:Int,vs=[.int j]∧-(2 ^ 62)≤j∧j<2 ^ 62∧R (Itr 0 j.toNat) H1
def iRng2(ta:TA):TI:=fun σ H R=>ta σ H fun vs H1=>∃i j:Int,vs=[.int i,.int j]∧(-(2 ^ 62)≤i∧i<2 ^ 62∧-(2 ^ 62)≤j∧j<2 ^ 62)∧R (Itr i (j-i).toNat) H1
theorem Jk{a:Expr}{ta:TA}{p pos:Pos}(hg:Gl X "range")(hm:X.mg "range" = none)(ha:PA X [a] ta)(hs:starEach [a] X.env=[(false,eval a X.env)]:=by rfl):PI X tg (.Call (.Name "range" p) [a] [] pos) (iRng1 ta):=by
 intro pins s σ H R I h
 refine Call_ (Ek I hg hm boot_range (PyProof.Rows.callWith_type1 (thn (ha pos pins s σ H _ I h) fun us s1 ⟨vs,H1,I1,r1,q1⟩=>?_) hs rfl))
 obtain⟨j,e,q1,q2,q⟩:=q1
 subst e
 cases r1 with
 |cons r rr=>
  cases rr
  obtain⟨t,rfl⟩:=r
  exact call_range_1 (L8 I1 (by omega) (by omega) q1 q2 (by simpa using q))
theorem Qm{a b:Expr}{ta:TA}{p pos:Pos}(hg:Gl X "range")(hm:X.mg "range" = none)(ha:PA X [a,b] ta)(hs:starEach [a,b] X.env=[(false,eval a X.env),(false,eval b X.env)]:=by rfl)(hs2:starEach [b] X.env=[(false,eval b X.env)]:=by rfl) :
  PI X tg (.Call (.Name "range" p) [a,b] [] pos) (iRng2 ta):=by
 intro pins s σ H R I h
 refine Call_ (Ek I hg hm boot_range (PyProof.Rows.callWith_type1 (thn (ha pos pins s σ H _ I h) fun us s1 ⟨vs,H1,I1,r1,q1⟩=>?_) (by rw[hs,hs2]) (by rw[hs2];rfl)))
 obtain⟨i,j,e,⟨q1,q2,q3,q4⟩,q⟩:=q1
 subst e
 cases r1 with
 |cons r rr=>
  cases rr with
  |cons r' rr=>
   cases rr
   obtain⟨t,rfl⟩:=r
   obtain⟨t',rfl⟩:=r'
   exact call_range_2 (L8 I1 q1 q2 q3 q4 q)

def tFor(wi:TI)(g:TG)(tb:TS):TS:=fun D σ H=>wi σ H fun J H1=>∃W:Nat→Nat→St→Hp→Prop,(∃m,W 0 m σ H1)∧∀i m σ H,W i m σ H→
 (J.stop i H∧D.nx σ H)∨(J.go i H∧∃N:St→Hp→Prop,(∀σ' H',N σ' H'→∃m',m'<m∧W (i+1) m' σ' H')∧∀x H',J.yld i H x H'→g x σ H' fun σ2 H2=>tb { D with nx:=N,ct:=N,bk:=D.nx } σ2 H2)
def Cq(fp:List Addr)(h:Heap):List (Addr×Obj):=fp.filterMap fun b=>(h.get? b).map fun o=>(b,o)
theorem Bm{fp:List Addr}{h:Heap}{b:Addr}{o:Obj}(hb:b∈fp)(e:h.get? b=some o):(b,o)∈Cq fp h:=List.mem_filterMap.mpr ⟨b,hb,by rw[e];rfl⟩
theorem Qs{fp:List Addr}{h:Heap}{p:Addr×Obj}(hp:p∈Cq fp h):p.1∈fp∧h.get? p.1=some p.2:=by
 obtain⟨b,hb,e⟩:=List.mem_filterMap.mp hp
 cases q:h.get? b with
 |none=>rw[q] at e;cases e
 |some o=>
  rw[q] at e
  have e':(b,o)=p:=Option.some.inj e
  subst e'
  exact⟨hb,q⟩
theorem Inv.pinned{pins:List (Addr×Obj)}{σ:St}{H:Hp}{s:Shared}{fp:List Addr}(I:Inv X pins σ H s)(hf:∀b∈fp,Ed X pins H b)(ho:∀b∈fp,∃o,s.heap.get? b=some o∧∀v,o.data≠.cell v):Inv X (pins++Cq fp s.heap) σ H s:=
 I.pins_of fun p hp=>(List.mem_append.mp hp).elim (fun z=>I.pin p (List.mem_append_right _ z)) fun z=>by
  obtain⟨hb,e⟩:=Qs z
  obtain⟨f0,f1,f2,_⟩:=hf p.1 hb
  obtain⟨o,e',d⟩:=ho p.1 hb
  rw[e] at e';cases e'
  exact⟨e,f0,f1,f2,d⟩
theorem Inv.unpinned{pins pl:List (Addr×Obj)}{σ:St}{H:Hp}{s:Shared}(I:Inv X (pins++pl) σ H s):Inv X pins σ H s:=I.pins_of fun p hp=>I.pin p (List.mem_append_right _ (List.mem_append_left _ hp))
theorem Kb{iter:Expr}{body:List Stmt}{wi:TI}{g:TG}{tb:TS}{pos:Pos}(hp:PassesOwn (model X.prog X.w) X.A X.env X.xe)(hc:X.calm=true)(hi:PI X tg iter wi)(hg:PG X tg g)(hb:PSs X body tb)(hs:∀x,foldedSetIterable iter X.env x=pure x:=by intro _;rfl):PS X (.For tg iter body [] pos) (tFor wi g tb):=by
 intro pins s σ H D I h
 refine wpAny_For (thn (hi pins s σ H _ I h) fun v s1 h1=>thn h1 fun itv s2 h2=>?_) hs
 obtain⟨it,fp,tn,J,H2,e,I2,T,st2,f2,W,⟨m0,w0⟩,turn⟩:=h2
 subst e
 -- what stays true of the iterator's objects through the loop
 have stat:∀{H':Hp},(∀b∈fp,H' b=none)→∀b∈fp,Ed X pins H' b:=fun hn b hb=>⟨hn b hb,(f2 b hb).2⟩
 refine codeAny_forLoop_any (fun n s'=>∃i σ' H',Inv X pins σ' H' s'∧tn i s'.heap∧(∀b∈fp,H' b=none)∧W i n σ' H') ?_ m0 ⟨0,σ,H2,I2,st2,fun b hb=>(f2 b hb).1,w0⟩
 rintro n s3 ⟨i,σ3,H3,I3,st3,fr3,w3⟩
 rcases turn i n σ3 H3 w3 with ⟨stop,qn⟩|⟨go,N,hN,step⟩
 ·refine wpAny_passesOwn hp (thn (T.done X rfl rfl rfl hc i pins s3 σ3 H3 X.xe I3 (stat fr3) st3 stop) fun r s4 ⟨hr,I4⟩=>?_)
  subst hr
  exact wpAny_execs_nil ⟨σ3,H3,I4,qn⟩
 ·refine wpAny_passesOwn hp (thn (T.item X rfl rfl rfl hc i pins s3 σ3 H3 X.xe I3 (stat fr3) st3 go) fun r s4 ⟨u,hr,h4⟩=>?_)
  subst hr
  refine wpAny_passesOwn hp (thn h4 fun _ s5 ⟨x,H5,I5,r5,y5,st5,fr5⟩=>?_)
  have I5':=I5.pinned (stat fr5) (T.obj _ _ st5)
  refine wpAny_passesOwn hp (thn (hg _ s5 σ3 H5 x u _ I5' r5 (step x H5 y5)) fun _ s6 ⟨σ6,H6,I6,q6⟩=>?_)
  refine wpAny_passesOwn hp (thn (hb _ s6 σ6 H6 _ I6 q6) fun f s7 q7=>?_)
  have again:∀{σ7:St} {H7:Hp},Inv X (pins++Cq fp s5.heap) σ7 H7 s7→N σ7 H7→∃m,m<n∧∃i σ' H',Inv X pins σ' H' s7∧tn i s7.heap∧(∀b∈fp,H' b=none)∧W i m σ' H':=fun {σ7 H7} I7 n7=>by
   obtain⟨m',hm,w7⟩:=hN σ7 H7 n7
   refine⟨m',hm,i+1,σ7,H7,I7.unpinned,T.keep _ _ _ st5 fun b hb o e=>(I7.pin (b,o) (List.mem_append_right _ (List.mem_append_right _ (Bm hb e)))).1,fun b hb=>?_,w7⟩
   obtain⟨o,e,d⟩:=T.obj _ _ st5 b hb
   exact(I7.pin (b,o) (List.mem_append_right _ (List.mem_append_right _ (Bm hb e)))).2.1
  cases f with
  |next=>obtain⟨σ7,H7,I7,n7⟩:=q7;exact again I7 n7
  |cont=>obtain⟨σ7,H7,I7,n7⟩:=q7;exact again I7 n7
  |brk=>obtain⟨σ7,H7,I7,q7⟩:=q7;exact⟨σ7,H7,I7.unpinned,q7⟩
  |ret v=>obtain⟨x7,σ7,H7,I7,r7,q7⟩:=q7;exact⟨x7,σ7,H7,I7.unpinned,r7,q7⟩
end
end L2
namespace L2
open PySem PySem.Spec PyProof.Rows
abbrev R2:=V→V→Hp→VK→Prop
def OpR(X:Cx)(f:Value→Value→Sem Value)(r:R2):Prop:=
 ∀(pins:List (Addr×Obj)) (s:Shared) (σ:St) (H:Hp) (x y:V) (v u:Value) (Q:VK),Inv X pins σ H s→RelV x v→RelV y u→r x y H Q→
  wpAny (model X.prog X.w) X.A (f v u) (EP X pins σ Q) X.xe s
def UnR(X:Cx)(f:Value→Sem Value)(r:V→Hp→VK→Prop):Prop:=
 ∀(pins:List (Addr×Obj)) (s:Shared) (σ:St) (H:Hp) (x:V) (v:Value) (Q:VK),Inv X pins σ H s→RelV x v→r x H Q→
  wpAny (model X.prog X.w) X.A (f v) (EP X pins σ Q) X.xe s
def CallR(X:Cx)(f:Value)(r:List V→Hp→VK→Prop):Prop:=
 ∀(pins:List (Addr×Obj)) (s:Shared) (σ:St) (H:Hp) (xs:List V) (us:List Value) (Q:VK),Inv X pins σ H s→Vals xs us→r xs H Q→
  wpAny (model X.prog X.w) X.A (call f us) (EP X pins σ Q) X.xe s
def TruR(X:Cx)(r:V→Hp→(Bool→Hp→Prop)→Prop):Prop:=
 ∀(pins:List (Addr×Obj)) (s:Shared) (σ:St) (H:Hp) (x:V) (v:Value) (Q:Bool→Hp→Prop),Inv X pins σ H s→RelV x v→r x H Q→
  wpAny (model X.prog X.w) X.A (truthy v) (TP X pins σ Q) X.xe s

def tOp(r:R2)(ta tb:TE):TE:=fun σ H Q=>ta σ H fun x H1=>tb σ H1 fun y H2=>r x y H2 Q
def tUn(r:V→Hp→VK→Prop)(ta:TE):TE:=fun σ H Q=>ta σ H fun x H1=>r x H1 Q
def rI(C:Int→Int→Prop)(g:Int→Int→V):R2:=fun x y H Q=>∃i j,x=.int i∧y=.int j∧C i j∧Q (g i j) H
def rI0(g:Int→Int→V):R2:=fun x y H Q=>∃i j,x=.int i∧y=.int j∧Q (g i j) H
def rU(g:Int→V):V→Hp→VK→Prop:=fun x H Q=>∃i,x=.int i∧Q (g i) H

section
variable{X:Cx}{a b c:Expr}{ta tb tc:TE}{pos:Pos}
theorem X8(ha:PE X a ta)(hb:PE X b tb){pins:List (Addr×Obj)}{s:Shared}{σ:St}{H:Hp}{R:V→V→Hp→Prop}(I:Inv X pins σ H s)(h:ta σ H fun x H1=>tb σ H1 fun y H2=>R x y H2){Q:Value→Shared→Prop}{f:Value→Value→Sem Value}(hf:∀v u s2 x y H2,Inv X pins σ H2 s2→RelV x v→RelV y u→R x y H2→wpAny (model X.prog X.w) X.A (f v u) Q X.xe s2) :
  wpAny (model X.prog X.w) X.A (eval a X.env) (fun v s₁=>wpAny (model X.prog X.w) X.A (eval b X.env) (fun u s₂=>wpAny (model X.prog X.w) X.A (f v u) Q X.xe s₂) X.xe s₁) X.xe s:=by
 refine thn (ha pins s σ H _ I h) fun v s1 ⟨x,H1,I1,r1,q1⟩=>?_
 refine thn (hb pins s1 σ H1 _ I1 q1) fun u s2 ⟨y,H2,I2,r2,q2⟩=>?_
 exact hf v u s2 x y H2 I2 r1 r2 q2

theorem pe_op{op:Operator}{r:R2}(ho:OpR X (binaryOp op) r)(ha:PE X a ta)(hb:PE X b tb):PE X (.BinOp a op b pos) (tOp r ta tb):=by
 intro pins s σ H Q I h
 exact wpAny_BinOp (X8 ha hb I h fun v u s2 x y H2 I2 rx ry q=>ho pins s2 σ H2 x y v u Q I2 rx ry q)
theorem pe_un{op:UnaryOp}{r:V→Hp→VK→Prop}(ho:UnR X (unaryOp op) r)(ha:PE X a ta):PE X (.UnaryOp op a pos) (tUn r ta):=by
 intro pins s σ H Q I h
 exact UnaryOp_ (thn (ha pins s σ H _ I h) fun v s1 ⟨x,H1,I1,r1,q1⟩=>ho pins s1 σ H1 x v Q I1 r1 q1)
theorem opI{f:Value→Value→Sem Value}{C:Int→Int→Prop}{g:Int→Int→Int}(rule:∀(i j:Int) (t u:Tok) (s:Shared) (Q:Value→Shared→Prop) (E:Value→Shared→Prop),C i j→Q (.int (g i j) s.toks) { s with toks:=s.toks+1 }→wpAny (model X.prog X.w) X.A (f (.int i t) (.int j u)) Q E s) :
  OpR X f (rI C fun i j=>.int (g i j)):=by
 intro pins s σ H x y v u Q I rx ry h
 obtain⟨i,j,rfl,rfl,hc,q⟩:=h
 obtain⟨t,rfl⟩:=rx
 obtain⟨t',rfl⟩:=ry
 exact rule i j t t' s _ _ hc ⟨.int (g i j),H,I.tok _,⟨_,rfl⟩,q⟩
theorem opI0{f:Value→Value→Sem Value}{g:Int→Int→Int}(rule:∀(i j:Int) (t u:Tok) (s:Shared) (Q:Value→Shared→Prop) (E:Value→Shared→Prop),Q (.int (g i j) s.toks) { s with toks:=s.toks+1 }→wpAny (model X.prog X.w) X.A (f (.int i t) (.int j u)) Q E s) :
  OpR X f (rI0 fun i j=>.int (g i j)):=by
 intro pins s σ H x y v u Q I rx ry h
 obtain⟨i,j,rfl,rfl,q⟩:=h
 obtain⟨t,rfl⟩:=rx
 obtain⟨t',rfl⟩:=ry
 exact rule i j t t' s _ _ ⟨.int (g i j),H,I.tok _,⟨_,rfl⟩,q⟩
theorem X5{f:Value→Value→Sem Value}{g:Int→Int→Bool}(rule:∀(i j:Int) (t u:Tok) (s:Shared) (Q:Value→Shared→Prop) (E:Value→Shared→Prop),Q (.bool (g i j)) s→wpAny (model X.prog X.w) X.A (f (.int i t) (.int j u)) Q E s) :
  OpR X f (rI0 fun i j=>.bl (g i j)):=by
 intro pins s σ H x y v u Q I rx ry h
 obtain⟨i,j,rfl,rfl,q⟩:=h
 obtain⟨t,rfl⟩:=rx
 obtain⟨t',rfl⟩:=ry
 exact rule i j t t' s _ _ ⟨.bl (g i j),H,I,rfl,q⟩

def Nf(i j:Int):Prop:=0<j∧j<1073741824
def R4(i j:Int):Prop:=0≤j∧j≤1000000∧i.natAbs<2 ^ 64
def CMul(i j:Int):Prop:=(-(2 ^ 64)<i∧i<2 ^ 64)∨(-(2 ^ 64)<j∧j<2 ^ 64)
theorem CMul.ok{i j:Int}(h:CMul i j):IntMulOk i j:=by
 rcases h with ⟨h1,h2⟩|⟨h1,h2⟩
 ·exact .of_left (intBits_le_64 h1 h2)
 ·exact .of_right (intBits_le_64 h1 h2)
theorem Zo:OpR X (binaryOp .Add) (rI0 fun i j=>.int (i+j)):=opI0 fun _ _ _ _ _ _ _ q=>add_int q
theorem Zi:OpR X (binaryOp .Sub) (rI0 fun i j=>.int (i-j)):=opI0 fun _ _ _ _ _ _ _ q=>sub_int q
theorem Zl:OpR X (binaryOp .Mult) (rI CMul fun i j=>.int (i*j)):=opI fun _ _ _ _ _ _ _ hc q=>mul_int q hc.ok
theorem Wn:OpR X (binaryOp .FloorDiv) (rI Nf fun i j=>.int (i / j)):=opI fun i j _ _ _ _ _ hc q=>by
 have h1:(0:Int)<j:=hc.1
 have h2:j<1073741824:=hc.2
 exact floordiv_int (by omega) (by rw[Int.fdiv_eq_ediv_of_nonneg i (by omega)];exact q) (.inl (PyProof.noPylong_small (by omega)))
theorem Zm:OpR X (binaryOp .Mod) (rI (fun _ j=>0<j) fun i j=>.int (i % j)):=opI fun i j _ _ _ _ _ hc q=>by
 have h1:(0:Int)<j:=hc
 exact mod_int' (by omega) (by rw[Int.fmod_eq_emod_of_nonneg i (by omega)];exact q)
theorem Zk:OpR X (binaryOp .Pow) (rI R4 fun i j=>.int (i ^ j.toNat)):=opI fun _ _ _ _ _ _ _ hc q=>pow_int_small hc.1 hc.2.1 hc.2.2 q
theorem unI{f:Value→Sem Value}{g:Int→Int}(rule:∀(i:Int) (t:Tok) (s:Shared) (Q:Value→Shared→Prop) (E:Value→Shared→Prop),Q (.int (g i) s.toks) { s with toks:=s.toks+1 }→wpAny (model X.prog X.w) X.A (f (.int i t)) Q E s) :
  UnR X f (rU fun i=>.int (g i)):=by
 intro pins s σ H x v Q I rx h
 obtain⟨i,rfl,q⟩:=h
 obtain⟨t,rfl⟩:=rx
 exact rule i t s _ _ ⟨.int (g i),H,I.tok _,⟨_,rfl⟩,q⟩
theorem Yc:UnR X (unaryOp .USub) (rU fun i=>.int (-i)):=unI fun _ _ _ _ _ q=>neg_int q
end
def X4:V→V→Bool
 |.non,.non=>true|.non,.int _=>true|.int _,.non=>true|.non,.bl _=>true|.bl _,.non=>true|.non,.str _=>true|.str _,.non=>true
 |.int _,.int _=>true|.bl _,.bl _=>true|.str _,.str _=>true|.byt _,.byt _=>true
 |.int _,.str _=>true|.str _,.int _=>true|.bl _,.str _=>true|.str _,.bl _=>true
 |_,_=>false
def rEq:R2:=fun x y H Q=>X4 x y=true∧Q (.bl (decide (x=y))) H
def rNe:R2:=fun x y H Q=>X4 x y=true∧Q (.bl (!decide (x=y))) H

theorem Pl{i j:Int}:decide (V.int i=V.int j)=(i == j):=by
 rw[Bool.eq_iff_iff]
 simp
theorem S8{i j:Bool}:decide (V.bl i=V.bl j)=(i == j):=by
 rw[Bool.eq_iff_iff]
 simp
theorem Pk{i j:Str}:decide (V.str i=V.str j)=(i == j):=by
 rw[Bool.eq_iff_iff]
 simp
theorem Pm{i j:Array UInt8}:decide (V.byt i=V.byt j)=(i.toList == j.toList):=by
 rw[Bool.eq_iff_iff]
 cases i
 cases j
 simp

section
variable{X:Cx}{a b c:Expr}{ta tb tc:TE}{pos:Pos}
theorem Ay{pins:List (Addr×Obj)}{σ:St}{H:Hp}{s:Shared}{Q:VK}{k k':Bool}(I:Inv X pins σ H s)(q:Q (.bl k) H)(e:k=k'):EP X pins σ Q (.bool k') s:=by
 subst e
 exact⟨.bl k,H,I,rfl,q⟩
theorem op_eq:OpR X (compareOp .Eq) rEq:=by
 intro pins s σ H x y v u Q I rx ry h
 obtain⟨hs,q⟩:=h
 cases x with
 |non=>
  cases rx
  cases y with
  |non=>cases ry;exact PySem.EqNone.eq_none_none (Ay I q (by simp))
  |bl j=>cases ry;exact PySem.EqNone.eq_none_bool (Ay I q (by simp))
  |int j=>obtain⟨t',rfl⟩:=ry;exact PySem.EqNone.eq_none_int (Ay I q (by simp))
  |str j=>obtain⟨t',rfl⟩:=ry;exact PySem.EqNone.eq_none_str (Ay I q (by simp))
  |_=>exact absurd (show false=true from hs) Bool.false_ne_true
 |bl i=>
  cases rx
  cases y with
  |non=>cases ry;exact PySem.EqNone.eq_bool_none (Ay I q (by simp))
  |bl j=>cases ry;exact eq_bool (Ay I q S8)
  |str j=>obtain⟨t',rfl⟩:=ry;exact PySem.EqMixed.eq_bool_str (Ay I q (by simp))
  |_=>exact absurd (show false=true from hs) Bool.false_ne_true
 |int i=>
  obtain⟨t,rfl⟩:=rx
  cases y with
  |non=>cases ry;exact PySem.EqNone.eq_int_none (Ay I q (by simp))
  |int j=>obtain⟨t',rfl⟩:=ry;exact eq_int (Ay I q Pl)
  |str j=>obtain⟨t',rfl⟩:=ry;exact PySem.EqMixed.eq_int_str (Ay I q (by simp))
  |_=>exact absurd (show false=true from hs) Bool.false_ne_true
 |str i=>
  obtain⟨t,rfl⟩:=rx
  cases y with
  |non=>cases ry;exact PySem.EqNone.eq_str_none (Ay I q (by simp))
  |bl j=>cases ry;exact PySem.EqMixed.eq_str_bool (Ay I q (by simp))
  |int j=>obtain⟨t',rfl⟩:=ry;exact PySem.EqMixed.eq_str_int (Ay I q (by simp))
  |str j=>obtain⟨t',rfl⟩:=ry;exact eq_str (Ay I q Pk)
  |_=>exact absurd (show false=true from hs) Bool.false_ne_true
 |byt i=>
  obtain⟨t,rfl⟩:=rx
  cases y with
  |byt j=>obtain⟨t',rfl⟩:=ry;exact PySem.W.eq_bytes (Ay I q Pm)
  |_=>exact absurd (show false=true from hs) Bool.false_ne_true
 |_=>cases y<;>exact absurd (show false=true from hs) Bool.false_ne_true
theorem op_ne:OpR X (compareOp .NotEq) rNe:=by
 intro pins s σ H x y v u Q I rx ry h
 obtain⟨hs,q⟩:=h
 cases x with
 |non=>
  cases rx
  cases y with
  |non=>cases ry;exact PySem.EqNone.ne_none_none (Ay I q (by simp))
  |bl j=>cases ry;exact PySem.EqNone.ne_none_bool (Ay I q (by simp))
  |int j=>obtain⟨t',rfl⟩:=ry;exact PySem.EqNone.ne_none_int (Ay I q (by simp))
  |str j=>obtain⟨t',rfl⟩:=ry;exact PySem.EqNone.ne_none_str (Ay I q (by simp))
  |_=>exact absurd (show false=true from hs) Bool.false_ne_true
 |bl i=>
  cases rx
  cases y with
  |non=>cases ry;exact PySem.EqNone.ne_bool_none (Ay I q (by simp))
  |bl j=>cases ry;exact ne_bool (Ay I q (congrArg not S8))
  |str j=>obtain⟨t',rfl⟩:=ry;exact PySem.EqMixed.ne_bool_str (Ay I q (by simp))
  |_=>exact absurd (show false=true from hs) Bool.false_ne_true
 |int i=>
  obtain⟨t,rfl⟩:=rx
  cases y with
  |non=>cases ry;exact PySem.EqNone.ne_int_none (Ay I q (by simp))
  |int j=>obtain⟨t',rfl⟩:=ry;exact ne_int (Ay I q (congrArg not Pl))
  |str j=>obtain⟨t',rfl⟩:=ry;exact PySem.EqMixed.ne_int_str (Ay I q (by simp))
  |_=>exact absurd (show false=true from hs) Bool.false_ne_true
 |str i=>
  obtain⟨t,rfl⟩:=rx
  cases y with
  |non=>cases ry;exact PySem.EqNone.ne_str_none (Ay I q (by simp))
  |bl j=>cases ry;exact PySem.EqMixed.ne_str_bool (Ay I q (by simp))
  |int j=>obtain⟨t',rfl⟩:=ry;exact PySem.EqMixed.ne_str_int (Ay I q (by simp))
  |str j=>obtain⟨t',rfl⟩:=ry;exact ne_str (Ay I q (congrArg not Pk))
  |_=>exact absurd (show false=true from hs) Bool.false_ne_true
 |byt i=>
  obtain⟨t,rfl⟩:=rx
  cases y with
  |byt j=>obtain⟨t',rfl⟩:=ry;exact PySem.W.ne_bytes (Ay I q (congrArg not Pm))
  |_=>exact absurd (show false=true from hs) Bool.false_ne_true
 |_=>cases y<;>exact absurd (show false=true from hs) Bool.false_ne_true

theorem op_lt:OpR X (compareOp .Lt) (rI0 fun i j=>.bl (decide (i<j))):=X5 fun _ _ _ _ _ _ _ q=>lt_int q
theorem op_le:OpR X (compareOp .LtE) (rI0 fun i j=>.bl (decide (i≤j))):=X5 fun _ _ _ _ _ _ _ q=>le_int q
theorem op_gt:OpR X (compareOp .Gt) (rI0 fun i j=>.bl (decide (j<i))):=X5 fun _ _ _ _ _ _ _ q=>gt_int q
theorem nomark(b:Expr){op:CmpOp}(h:op≠.In:=by decide)(h2:op≠.NotIn:=by decide):behindInMarks op b=false:=by
 have e1:(op == CmpOp.In)=false:=by cases op<;>first|rfl|exact absurd rfl h
 have e2:(op == CmpOp.NotIn)=false:=by cases op<;>first|rfl|exact absurd rfl h2
 cases b<;>simp[behindInMarks,e1,e2]
theorem Wk{op:CmpOp}{r:R2}(ho:OpR X (compareOp op) r)(ha:PE X a ta)(hb:PE X b tb)(hm:behindInMarks op b=false):PE X (.Compare a [op] [b] pos) (tOp r ta tb):=by
 intro pins s σ H Q I h
 exact wpAny_Compare1 (X8 ha hb I h fun v u s2 x y H2 I2 rx ry q=>ho pins s2 σ H2 x y v u Q I2 rx ry q) hm
def Xp(t:TE):TT:=fun σ H Q=>t σ H fun x H'=>∃k,x=.bl k∧Q k H'
theorem Wd{op:CmpOp}{r:R2}(ho:OpR X (compareOp op) r)(ha:PE X a ta)(hb:PE X b tb)(hm:behindInMarks op b=false):PT X (.Compare a [op] [b] pos) (Xp (tOp r ta tb)):=by
 intro pins s σ H Q I h
 refine wpAny_isTrue_Compare1 (thn (ha pins s σ H _ I h) fun v s1 ⟨x,H1,I1,r1,q1⟩=>thn (hb pins s1 σ H1 _ I1 q1) fun u s2 ⟨y,H2,I2,r2,q2⟩=>
  thn (ho pins s2 σ H2 x y v u _ I2 r1 r2 q2) fun c s3 ⟨z,H3,I3,r3,k,e,q3⟩=>?_) hm
 subst e
 cases r3
 exact wpAny_truthy_bool ⟨H3,I3,q3⟩
def Nh(r r':R2)(ta tb tc:TE):TE:=fun σ H Q=>ta σ H fun x H1=>tb σ H1 fun y H2=>r x y H2 fun z H3=>∃k,z=.bl k∧
 (if k=true then tc σ H3 fun w' H4=>r' y w' H4 Q else Q (.bl false) H3)
theorem Ud{op op':CmpOp}{r r':R2}(ho:OpR X (compareOp op) r)(ho':OpR X (compareOp op') r')(ha:PE X a ta)(hb:PE X b tb)(hc:PE X c tc)(hm:lastMarks [op,op'] [b,c]=false:=by with_unfolding_all rfl):PE X (.Compare a [op,op'] [b,c] pos) (Nh r r' ta tb tc):=by
 intro pins s σ H Q I h
 refine Compare_chain (thn (ha pins s σ H _ I h) fun v s1 ⟨x,H1,I1,r1,q1⟩=>chain_link (thn (hb pins s1 σ H1 _ I1 q1) fun u s2 ⟨y,H2,I2,r2,q2⟩=>
  thn (ho pins s2 σ H2 x y v u _ I2 r1 r2 q2) fun d s3 ⟨z,H3,I3,r3,k,e,q3⟩=>?_)) hm
 subst e
 cases r3
 refine wpAny_truthy_bool ?_
 cases k with
 |false=>exact ite_ff ⟨.bl false,H3,I3,rfl,q3⟩
 |true=>exact ite_tt (chain_last (thn (hc pins s3 σ H3 _ I3 q3) fun w' s4 ⟨z',H4,I4,r4,q4⟩=>ho' pins s4 σ H4 y z' u w' Q I4 r2 r4 q4))
theorem T6{op op':CmpOp}{r r':R2}(ho:OpR X (compareOp op) r)(ho':OpR X (compareOp op') r')(ha:PE X a ta)(hb:PE X b tb)(hc:PE X c tc)(hm:lastMarks [op,op'] [b,c]=false:=by with_unfolding_all rfl):PT X (.Compare a [op,op'] [b,c] pos) (Xp (Nh r r' ta tb tc)):=by
 intro pins s σ H Q I h
 refine isTrue_chain (thn (ha pins s σ H _ I h) fun v s1 ⟨x,H1,I1,r1,q1⟩=>test_link (thn (hb pins s1 σ H1 _ I1 q1) fun u s2 ⟨y,H2,I2,r2,q2⟩=>
  thn (ho pins s2 σ H2 x y v u _ I2 r1 r2 q2) fun d s3 ⟨z,H3,I3,r3,k,e,q3⟩=>?_)) hm
 subst e
 cases r3
 refine wpAny_truthy_bool ?_
 cases k with
 |false=>
  obtain⟨k',e',q'⟩:=q3
  cases e'
  exact ite_ff ⟨H3,I3,q'⟩
 |true=>
  refine ite_tt (test_last (thn (hc pins s3 σ H3 _ I3 q3) fun w' s4 ⟨z',H4,I4,r4,q4⟩=>thn (ho' pins s4 σ H4 y z' u w' _ I4 r2 r4 q4) fun d' s5 ⟨z2,H5,I5,r5,k2,e2,q5⟩=>?_))
  subst e2
  cases r5
  exact wpAny_truthy_bool ⟨H5,I5,q5⟩

def Ya(K:PySem.W.Frag)(x:V)(H:Hp)(k:Bool):Prop:=
 match x with
 |.non=>k=false
 |.bl b=>k=b
 |.int i=>k=(i != 0)
 |.str y=>y.length≤sizeLine∧k=((y.length:Int) != 0)
 |.byt y=>y.size≤sizeLine∧k=((y.size:Int) != 0)
 |.ref p=>(∃xs,SqL K H p xs∧k = !xs.isEmpty)∨(∃xs,SqT K H p xs∧k = !xs.isEmpty)∨∃kvs,H p=some (.dK kvs)∧k = !kvs.isEmpty
 |_=>False
theorem N9{κ:Type}{kvs:List (κ×V)}{vs:List (κ×Value)}(r:KV kvs vs):(!vs.isEmpty) = !kvs.isEmpty:=by
 cases r<;>rfl
theorem Ib{xs:List V}{its:List Value}(r:Vals xs its):(!its.toArray.isEmpty) = !xs.isEmpty:=by
 cases r<;>simp
theorem Ft:(sizeLine:Nat)<2 ^ 63:=by rw[sizeLine_eq];decide
theorem Ye:TruR X (fun x H Q=>∃k,Ya X.K x H k∧Q k H):=by
 intro pins s σ H x v Q I rx h
 obtain⟨k,e,q⟩:=h
 have hl:=Ft
 have hs:sizeLine=16777216:=sizeLine_eq
 cases x with
 |non=>
  cases rx
  have e':k=false:=e
  subst e'
  exact truthy_none ⟨H,I,q⟩
 |bl b=>
  cases rx
  have e':k=b:=e
  subst e'
  exact wpAny_truthy_bool ⟨H,I,q⟩
 |int i=>
  obtain⟨t,rfl⟩:=rx
  have e':k=(i != 0):=e
  subst e'
  exact PySem.P.truthy_int ⟨H,I,q⟩
 |str y=>
  obtain⟨t,rfl⟩:=rx
  obtain⟨hy,e'⟩:y.length≤sizeLine∧k=((y.length:Int) != 0):=e
  subst e'
  exact PySem.P.truthy_str (by omega) ⟨H,I.tok _,q⟩
 |byt y=>
  obtain⟨t,rfl⟩:=rx
  obtain⟨hy,e'⟩:y.size≤sizeLine∧k=((y.size:Int) != 0):=e
  subst e'
  exact PySem.W.truthy_bytes (by omega) ⟨H,I.tok _,q⟩
 |ref p=>
  cases rx
  have e':(∃xs,SqL X.K H p xs∧k = !xs.isEmpty)∨(∃xs,SqT X.K H p xs∧k = !xs.isEmpty)∨∃kvs,H p=some (.dK kvs)∧k = !kvs.isEmpty:=e
  rcases e' with ⟨xs,hx,e'⟩|⟨xs,hx,e'⟩|⟨kvs,hx,e'⟩
  ·subst e'
   obtain⟨its,r,pl,hz⟩:=I.list hx
   have hlen:=r.length
   exact wpAny_truthy_list pl.isList (by simp only[List.size_toArray];omega) ⟨H,I.tok _,by rw[Ib r];exact q⟩
  ·subst e'
   obtain⟨its,r,pl,hz⟩:=I.tuple hx
   have hlen:=r.length
   exact truthy_tuple pl (by simp only[List.size_toArray];omega) ⟨H,I.tok _,by rw[Ib r];exact q⟩
  ·subst e'
   obtain⟨hz,hS,vs,r,m⟩:kvs.length≤sizeLine∧(p == sysModules)=false∧∃vs,KV kvs vs∧s.heap.DictOf (A5 X.prog X.w) p vs:=I.hok p _ hx
   have hlen:kvs.length=vs.length:=Paired.length r
   exact wpAny_truthy_dict hS m (by omega) ⟨H,I.tok _,by rw[N9 r];exact q⟩
 |_=>exact(show False from e).elim
theorem T5(ha:PE X a ta)(he:∀whole,isTrue a X.env whole=(do let v ←whole;standAt a.pos;holding [v] (truthy v))) :
  PT X a (fun σ H Q=>ta σ H fun x H'=>∃k,Ya X.K x H' k∧Q k H'):=by
 intro pins s σ H Q I h
 exact isTrue_plain (thn (ha pins s σ H _ I h) fun v s1 ⟨x,H1,I1,r1,q1⟩=>Ye pins s1 σ H1 x v Q I1 r1 q1) (he _)

theorem Cs{x:V}{us:List Value}(r:Vals [x] us):∃u,us=[u]∧RelV x u:=by
 cases r with
 |cons r1 r2=>cases r2;exact⟨_,rfl,r1⟩
theorem F9{x y:V}{us:List Value}(r:Vals [x,y] us):∃u w',us=[u,w']∧RelV x u∧RelV y w':=by
 cases r with
 |cons r1 r2=>
  cases r2 with
  |cons r3 r4=>cases r4;exact⟨_,_,rfl,r1,r3⟩
theorem call_abs:CallR X (.builtin "abs") (fun xs H Q=>∃i,xs=[.int i]∧Q (.int (if i<0 then -i else i)) H):=by
 intro pins s σ H xs us Q I r h
 obtain⟨i,rfl,q⟩:=h
 obtain⟨u,rfl,t,rfl⟩:=Cs r
 exact call_abs_int fun u tk=>⟨.int (if i<0 then -i else i),H,I.tok _,⟨_,rfl⟩,q⟩
theorem Rh(hc:X.calm=true):CallR X (.builtin "max") (fun xs H Q=>∃i j,xs=[.int i,.int j]∧Q (.int (if j>i then j else i)) H):=by
 intro pins s σ H xs us Q I r h
 obtain⟨i,j,rfl,q⟩:=h
 obtain⟨u,w',rfl,⟨t,rfl⟩,⟨t',rfl⟩⟩:=F9 r
 refine max_two_ints (I.ok.hd hc) fun h' tk k=>⟨_,H,I.kept k,?_,q⟩
 by_cases hj:j>i
 ·rw[if_pos hj,if_pos hj];exact⟨_,rfl⟩
 ·rw[if_neg hj,if_neg hj];exact⟨_,rfl⟩
theorem Rg(hc:X.calm=true):CallR X (.builtin "min") (fun xs H Q=>∃i j,xs=[.int i,.int j]∧Q (.int (if j<i then j else i)) H):=by
 intro pins s σ H xs us Q I r h
 obtain⟨i,j,rfl,q⟩:=h
 obtain⟨u,w',rfl,⟨t,rfl⟩,⟨t',rfl⟩⟩:=F9 r
 refine min_two_ints (I.ok.hd hc) fun h' tk k=>⟨_,H,I.kept k,?_,q⟩
 by_cases hj:j<i
 ·rw[if_pos hj,if_pos hj];exact⟨_,rfl⟩
 ·rw[if_neg hj,if_neg hj];exact⟨_,rfl⟩
theorem call_int1:CallR X (.type "int") (fun xs H Q=>(∃i,xs=[.int i]∧Q (.int i) H)∨∃k,xs=[.bl k]∧Q (.int (if k then 1 else 0)) H):=by
 intro pins s σ H xs us Q I r h
 rcases h with ⟨i,rfl,q⟩|⟨k,rfl,q⟩
 ·obtain⟨u,rfl,t,rfl⟩:=Cs r
  exact call_int_int ⟨.int i,H,I,⟨_,rfl⟩,q⟩
 ·obtain⟨u,rfl,r1⟩:=Cs r
  cases r1
  exact call_int_bool ⟨.int (if k then 1 else 0),H,I.tok _,⟨_,rfl⟩,q⟩
def LenV(K:PySem.W.Frag)(x:V)(H:Hp)(n:Nat):Prop:=
 match x with
 |.str y=>y.length≤sizeLine∧n=y.length
 |.byt y=>y.size≤sizeLine∧n=y.size
 |.ref p=>(∃xs,SqL K H p xs∧n=xs.length)∨∃xs,SqT K H p xs∧n=xs.length
 |_=>False
theorem call_len:CallR X (.builtin "len") (fun xs H Q=>∃x n,xs=[x]∧LenV X.K x H n∧Q (.int n) H):=by
 intro pins s σ H xs us Q I r h
 obtain⟨x,n,rfl,e,q⟩:=h
 obtain⟨u,rfl,rx⟩:=Cs r
 have hl:=Ft
 have hs:sizeLine=16777216:=sizeLine_eq
 cases x with
 |str y=>
  obtain⟨t,rfl⟩:=rx
  obtain⟨hy,e'⟩:y.length≤sizeLine∧n=y.length:=e
  subst e'
  exact len_str (by omega) ⟨.int _,H,I.tok _,⟨_,rfl⟩,q⟩
 |byt y=>
  obtain⟨t,rfl⟩:=rx
  obtain⟨hy,e'⟩:y.size≤sizeLine∧n=y.size:=e
  subst e'
  exact PySem.W.len_bytes (by omega) ⟨.int _,H,I.tok _,⟨_,rfl⟩,q⟩
 |ref p=>
  cases rx
  have e':(∃xs,SqL X.K H p xs∧n=xs.length)∨∃xs,SqT X.K H p xs∧n=xs.length:=e
  rcases e' with ⟨xs,hx,e'⟩|⟨xs,hx,e'⟩
  ·subst e'
   obtain⟨its,r',pl,hz⟩:=I.list hx
   have hlen:=r'.length
   exact Calls.call_len_list pl.isList (by simp only[List.size_toArray];omega) ⟨.int xs.length,H,I.tok _,⟨_,by simp only[List.size_toArray];rw[hlen]⟩,q⟩
  ·subst e'
   obtain⟨its,r',pl,hz⟩:=I.tuple hx
   have hlen:=r'.length
   exact len_tuple pl (by simp only[List.size_toArray];omega) ⟨.int xs.length,H,I.tok _,⟨_,by simp only[List.size_toArray];rw[hlen]⟩,q⟩
 |_=>exact(show False from e).elim
theorem call_divmod:CallR X (.builtin "divmod") (fun xs H Q=>∃i j,xs=[.int i,.int j]∧Nf i j∧∀p,H p=none→Q (.ref p) (upd H p (.tup [.int (i / j),.int (i % j)]))):=by
 intro pins s σ H xs us Q I r h
 obtain⟨i,j,rfl,⟨h1,h2⟩,q⟩:=h
 obtain⟨u,w',rfl,⟨t,rfl⟩,⟨t',rfl⟩⟩:=F9 r
 refine divmod_int (by omega) ?_ (.inl (PyProof.noPylong_small (by omega)))
 rw[Int.fdiv_eq_ediv_of_nonneg i (by omega),Int.fmod_eq_emod_of_nonneg i (by omega)]
 have hn:H s.heap.objs.size=none:=I.hok.fresh (Nat.le_refl _)
 refine⟨.ref s.heap.objs.size,_,?_,rfl,q _ hn⟩
 refine I.laid (fun b o e=>Heap.get?_push_of_some _ e) (Nat.le_refl _) ⟨by simp only[List.length_cons,List.length_nil];rw[sizeLine_eq];decide,[.int (i / j) s.toks,.int (i % j) (s.toks+1)],.cons ⟨_,rfl⟩ (.cons ⟨_,rfl⟩ .nil),?_⟩
 exact⟨_,Heap.get?_push_size s.heap rfl,rfl,0,rfl⟩
end
end L2
namespace L2
open PySem PySem.Spec PyProof.Rows
structure ObjM(h:Heap)(x dx C:Addr)(mA:Str→Option Value):Prop where
 obj:h.get? x=some (PySem.W.instObj C dx)
 ns:h.Ns1 dx mA
 ne:dx≠x

theorem Qw{h:Heap}{dx:Addr}{mA:Str→Option Value}(n:h.Ns1 dx mA):∃od,h.get? dx=some od∧∀name,PySem.W.lookIn name od=some (mA name):=by
 obtain⟨o,es,ep,ho,hd,hk,_,hm⟩:=n
 refine⟨o,ho,fun name=>?_⟩
 have e:=hm name
 unfold nsFind findBy at e
 rw[←Array.find?_toList] at e
 unfold PySem.W.lookIn
 rw[hd]
 dsimp only
 split
 ·rename_i y q
  rw[q] at e
  exact congrArg some e
 ·rename_i q
  rw[q] at e
  have a:es.toList.any (·.refKey)=false:=by
   rw[List.any_eq_false]
   intro y hy
   obtain⟨z,t,hkey⟩:=hk y (Array.mem_toList_iff.mp hy)
   simp[DictEntry.refKey,hkey]
  have a':¬es.toList.any (·.refKey)=true:=by rw[a];exact Bool.false_ne_true
  rw[if_neg a']
  exact congrArg some e

theorem ObjM.look{h:Heap}{x dx C:Addr}{mA:Str→Option Value}(I:ObjM h x dx C mA):∃od,PySem.W.InstAt h x (PySem.W.instObj C dx) C (some od)∧∀name,PySem.W.lookIn name od=some (mA name):=
 let ⟨od,ho,hl⟩:=Qw I.ns
 ⟨od,⟨I.obj,rfl,rfl,ho⟩,hl⟩

section
variable{prog:Program}{w:World}{A:Around}{E:Value→Shared→Prop}{s:Shared}{K:W.Frag}{x dx C f:Addr}{mA:Str→Option Value}{name:Str}{v:Value}
end
theorem RelO.some_of{v:V}{o:Option Value}(r:RelO (some v) o):∃u,o=some u∧RelV v u:=by
 cases o with
 |none=>exact(show False from r).elim
 |some u=>exact⟨u,rfl,r⟩
section
variable{P:Program}{w:World}{H H':Hp}{h h':Heap}{a C dx:Addr}{fs fs':List (Str×V)}
theorem ins_get(hok:HOk P w H h)(e:H a=some (.ins C dx fs)):∃mA,ObjM h a dx C mA∧(∀f,RelO (fs.lookup f) (mA f))∧PySem.Within mA (fs.map (·.1))∧fs.length≤1000∧H dx=some (.own a):=by
 obtain⟨d,z,ne,ob,mA,n,r,q⟩:=(show ObjOk P w H h a (.ins C dx fs) from hok a _ e)
 exact⟨mA,⟨ob,n,ne⟩,r,q,z,d⟩
end
structure Cls(K:PySem.W.Frag)(C:Addr):Prop where
 pg:PySem.W.plainGet K C Str.empty=true
 hd:PySem.W.hasDictIn K C=true
 po:PySem.W.plainOver K C=true
 sa:PySem.W.findIn K (.ref C) "__setattr__" = some (some (.builtin "object.__setattr__"))
theorem Cls.get{K:W.Frag}{C:Addr}(c:Cls K C)(f:Str):PySem.W.plainGet K C f=true:=c.pg
section
variable{X:Cx}{pins:List (Addr×Obj)}{σ:St}{H:Hp}{s:Shared}{a C dx:Addr}{fs:List (Str×V)}{f:Str}{v:V}{A:Around}{E:Value→Shared→Prop}
end
section
variable{X:Cx}{o e value:Expr}{f:Str}{pos pos' tpos:Pos}{ta tv:TE}
end
section
variable{X:Cx}{pins:List (Addr×Obj)}{σ:St}{H:Hp}{s:Shared}{A:Around}{E:Value→Shared→Prop}{Q:Value→Shared→Prop}{c:Value}{b:Bool}
inductive TyOf (K:PySem.W.Frag) (H:Hp):V→Value→Prop where
 |non:TyOf K H .non (.type "NoneType")
 |bl (x:Bool):TyOf K H (.bl x) (.type "bool")
 |int (i:Int):TyOf K H (.int i) (.type "int")
 |str (x:Str):TyOf K H (.str x) (.type "str")
 |flt (x:UInt64):TyOf K H (.flt x) (.type "float")
 |lst {a:Addr} {xs:List V} (e:H a=some (.lst xs)):TyOf K H (.ref a) (.type "list")
 |frz {a:Addr} {o:Obj} {xs:List V} (e:H a=some (.frz o (.lst xs))):TyOf K H (.ref a) (.type "list")
 |tup {a:Addr} {xs:List V} (e:H a=some (.tup xs)):TyOf K H (.ref a) (.type "tuple")
 |dK {a:Addr} {kvs:List (Key×V)} (e:H a=some (.dK kvs)):TyOf K H (.ref a) (.type "dict")
 |dT {a:Addr} {kvs:List (List Key×V)} (e:H a=some (.dT kvs)):TyOf K H (.ref a) (.type "dict")
 |ins {a C dx:Addr} {fs:List (Str×V)} (e:H a=some (.ins C dx fs)) (cl:Cls K C) (ha:PySem.W.findIn K (.ref C) "__class__" = some (some (.builtin "object.__class__")))
   (hn:PySem.W.specialIn K (.builtin "object.__class__") "__get__" = some (some (.builtin "getset_descriptor.__get__"))) (htk:PySem.W.takesIn K (.builtin "object.__class__")=some true)
   (hm:PySem.W.mroIn K C (.type "object")=some true):TyOf K H (.ref a) (.ref C)
theorem Q4{x:V}{u t:Value}(I:Inv X pins σ H s)(rx:RelV x u)(ty:TyOf X.K H x t)(e:PySem.W.kitOne X.K t c=some b)(h:∀tk,Q (.bool b) { s with toks:=tk }) :
  wpAny (model X.prog X.w) A (call (.builtin "isinstance") [u,c]) Q E s:=by
 cases ty with
 |non=>cases(show u=Value.none from rx);exact PySem.W.kia_one PySem.W.kitx_none I.kIn True.intro e (fun z=>nomatch z) h
 |bl y=>cases(show u=Value.bool y from rx);exact PySem.W.kia_one PySem.W.kitx_bool I.kIn True.intro e (fun z=>nomatch z) h
 |int i=>obtain⟨t,q⟩:=(show ∃t,u=Value.int i t from rx);cases q;exact PySem.W.kia_one PySem.W.kitx_int I.kIn True.intro e (fun z=>nomatch z) h
 |str y=>obtain⟨t,q⟩:=(show ∃t,u=Value.str y t from rx);cases q;exact PySem.W.kia_one PySem.W.kitx_str I.kIn True.intro e (fun z=>nomatch z) h
 |flt y=>obtain⟨t,q⟩:=(show ∃t,u=Value.float y t from rx);cases q;exact PySem.W.kia_one PySem.W.kitx_float I.kIn True.intro e (fun z=>nomatch z) h
 |@lst a xs ea=>
  cases(show u=Value.ref a from rx)
  obtain⟨_,_,n,_,h1⟩:=(show ObjOk X.prog X.w H s.heap a (.lst xs) from I.hok a _ ea)
  exact PySem.W.kia_one PySem.W.kitx_list I.kIn ⟨_,h1,rfl⟩ e (fun z=>nomatch z) h
 |@frz a ob xs ea=>
  cases(show u=Value.ref a from rx)
  obtain⟨_,_,_,n,_,h1⟩:=(show ObjOk X.prog X.w H s.heap a (.frz ob (.lst xs)) from I.hok a _ ea)
  exact PySem.W.kia_one PySem.W.kitx_list I.kIn ⟨_,h1,rfl⟩ e (fun z=>nomatch z) h
 |@tup a xs ea=>
  cases(show u=Value.ref a from rx)
  obtain⟨_,_,_,p⟩:=(show ObjOk X.prog X.w H s.heap a (.tup xs) from I.hok a _ ea)
  obtain⟨o,h1,h2,_⟩:=p
  exact PySem.W.kia_one PySem.W.kitx_tuple I.kIn ⟨o,h1,h2⟩ e (fun z=>nomatch z) h
 |@dK a kvs ea=>
  cases(show u=Value.ref a from rx)
  obtain⟨_,_,vs,_,p⟩:=(show ObjOk X.prog X.w H s.heap a (.dK kvs) from I.hok a _ ea)
  obtain⟨o,es,ep,h1,h2,_⟩:=p
  exact PySem.W.kia_one PySem.W.kitx_dict I.kIn ⟨o,h1,h2.1⟩ e (fun z=>nomatch z) h
 |@dT a kvs ea=>
  cases(show u=Value.ref a from rx)
  obtain⟨_,_,xs,_,o,es,ep,h1,h2,_⟩:=(show ObjOk X.prog X.w H s.heap a (.dT kvs) from I.hok a _ ea)
  exact PySem.W.kia_one PySem.W.kitx_dict I.kIn ⟨o,h1,h2.1⟩ e (fun z=>nomatch z) h
 |@ins a C dx fs ea cl ha hn htk hm=>
  cases(show u=Value.ref a from rx)
  obtain⟨mA,O,_⟩:=ins_get I.hok ea
  obtain⟨od,J,_⟩:=O.look
  exact PySem.W.kia_one (PySem.W.kitx_own (cl.get _) cl.hd ha hn htk hm) I.kIn J e (fun z=>nomatch z) h
end
end L2
namespace L2
open PySem PySem.Spec PyProof.Rows
structure Room(k:Nat)(A:Around):Prop where
 hd:A.handled=none
 dp:A.depth+3*k+5<recursionLimit
 un:A.units+16*k+200<cLine
 gd:A.guards=some []
theorem Room.mono{j k:Nat}{A:Around}(r:Room k A)(h:j≤k):Room j A:=⟨r.hd,by have:=r.dp;omega,by have:=r.un;omega,r.gd⟩
theorem Room.deeper{k:Nat}{A:Around}(r:Room (k+1) A)(env:Env):Room k (A.deeper env):=
 ⟨r.hd,by have:=r.dp;show A.depth+1+3*k+5<_;omega,by have:=r.un;show A.units+3+16*k+200<_;omega,r.gd⟩
theorem Room.depth{k:Nat}{A:Around}(r:Room k A):A.depth<recursionLimit:=by have:=r.dp;omega
def tNil:TA:=fun _ H Q=>Q [] H
def tCons(ta:TE)(tr:TA):TA:=fun σ H Q=>ta σ H fun x H1=>tr σ H1 fun xs H2=>Q (x::xs) H2
section
variable{X:Cx}{e:Expr}{es:List Expr}{te:TE}{t:TA}{pos:Pos}
theorem pa_nil:PA X [] tNil:=fun _ _ _ _ H Q I h=>Calls.spliced_nil ⟨[],H,I,.nil,h⟩
theorem Da(ha:PE X e te)(hr:PA X es t)(hs:starEach (e::es) X.env=(false,eval e X.env)::starEach es X.env:=by rfl):PA X (e::es) (tCons te t):=by
 intro pos pins s σ H Q I h
 rw[hs]
 show wpAny _ _ (spliced ((false,eval e X.env)::backTo pos (starEach es X.env))) _ _ s
 refine Calls.spliced_cons (thn (ha pins s σ H _ I h) fun u s1 ⟨x,H1,I1,r1,q1⟩=>?_)
 exact thn (hr pos pins s1 σ H1 _ I1 q1) fun us s2 ⟨xs,H2,I2,r2,q2⟩=>⟨x::xs,H2,I2,.cons r1 r2,q2⟩

def tTup(t:TA):TE:=fun σ H Q=>t σ H fun xs H1=>xs.length≤sizeLine∧∀p,H1 p=none→Q (.ref p) (upd H1 p (.tup xs))
def tLst(t:TA):TE:=fun σ H Q=>t σ H fun xs H1=>xs.length≤sizeLine∧∀p,H1 p=none→Q (.ref p) (upd H1 p (.lst xs))
theorem Y9{x1}(h:PA X es t):PE X (.Tuple es x1 pos) (tTup t):=by
 intro pins s σ H Q I hq
 refine wpAny_Tuple_spliced (thn (h pos pins s σ H _ I hq) fun us s1 ⟨xs,H1,I1,r,z,q⟩=>⟨by rw[←r.length];exact z,?_⟩)
 have hf:H1 s1.heap.objs.size=none:=I1.hok.fresh (Nat.le_refl _)
 refine⟨.ref s1.heap.objs.size,upd H1 s1.heap.objs.size (.tup xs),I1.laid (t':=s1.toks) (fun b u e=>Heap.get?_push_of_some _ e) (Nat.le_refl _) ?_,rfl,q _ hf⟩
 exact⟨z,us,r,⟨_,Heap.get?_push_size _ rfl,rfl,_,rfl⟩⟩
theorem Sx(h:PA X es t):PE X (.List es pos) (tLst t):=by
 intro pins s σ H Q I hq
 refine wpAny_List_spliced (thn (h pos pins s σ H _ I hq) fun us s1 ⟨xs,H1,I1,r,z,q⟩=>⟨by rw[←r.length];exact z,?_⟩)
 have hf:H1 s1.heap.objs.size=none:=I1.hok.fresh (Nat.le_refl _)
 refine⟨.ref s1.heap.objs.size,upd H1 s1.heap.objs.size (.lst xs),I1.laid (t':=s1.toks) (fun b u e=>Heap.get?_push_of_some _ e) (Nat.le_refl _) ?_,rfl,q _ hf⟩
 exact⟨z,us,0,r,Heap.get?_push_size _ rfl⟩
end
abbrev Sp:=List V→Hp→VK→XK→Prop
abbrev CXT:=List Env→Hp→Shared→XK→Value→Shared→Prop

structure Env0(P:Program)(w:World)(K:PySem.W.Frag)(mg:Str→Option Value)(base:Heap)(A:Around)(outer:List Env)(s:Shared)(H:Hp):Prop where
 frames:A.frames=some outer
 mod:Mod K mg base
 bs:∀b o,base.get? b=some o→s.heap.get? b=some o∧H b=none
 bsz:base.objs.size≤s.heap.objs.size
 funs:s.heap.FunFrames base outer
 frf:∀b∈frs outer,H b=none
 hok:HOk P w H s.heap
 bare:AllBare s.gens
def CE(outer:List Env)(P:Program)(w:World)(H:Hp)(s:Shared)(Q:VK)(u:Value)(s':Shared):Prop:=
 ∃v H',s'.os=s.os∧AllBare s'.gens∧Un (frs outer) [] H H' s.heap s'.heap∧HOk P w H' s'.heap∧RelV v u∧Q v H'
def CR(CX:CXT)(outer:List Env)(P:Program)(w:World)(H:Hp)(s:Shared)(Q:VK)(E:XK)(r:Result)(s':Shared):Prop:=
 match r with
 |.ok (.ret u)=>CE outer P w H s Q u s'
 |.ok _=>False
 |.error e=>CX outer H s E e s'
structure FnOk(P:Program)(w:World)(K:PySem.W.Frag)(mg:Str→Option Value)(base:Heap)(CX:CXT)(k:Nat)(f:Addr)(fd:FuncData)(ps:List Str)(sp:Sp):Prop where
 len:∀vs H Q E,sp vs H Q E→vs.length=ps.length
 run:∀(A:Around) (outer:List Env) (s:Shared) (H:Hp) (args:Args) (us:List Value) (vs:List V) (Q:VK) (E:XK),Room k A→Env0 P w K mg base A outer s H→BindsTo s fd args (ps.zip us)→Vals vs us→sp vs H Q E→
  codeAny (model P w) A (.call (.ref f) args) (CR CX outer P w H s Q E) s
section
variable{X:Cx}{pins:List (Addr×Obj)}{σ:St}{H:Hp}{s s':Shared}
theorem Inv.env0(I:Inv X pins σ H s):Env0 X.prog X.w X.K X.mg X.base X.A X.stack s H:=
 ⟨I.ok.frames,I.ok.mod,I.bs,Nat.le_trans I.ok.bsz I.sz,I.stack,I.stkFree,I.hok,I.bare⟩
theorem Inv.after{Q:VK}{u:Value}(I:Inv X pins σ H s)(h:CE X.stack X.prog X.w H s Q u s'):EP X pins σ Q u s':=by
 obtain⟨v,H',os,bare,un,hok,r,q⟩:=h
 obtain⟨hh,g,d,t,os'⟩:=s'
 obtain rfl:os'=s.os:=os
 exact⟨v,H',I.call (h':=hh) (g':=g) (d':=d) (t':=t) (ch:=[]) un hok bare (fun b z=>absurd z (by simp)),r,q⟩
end
def Xq(sp:Sp)(dvs:List V)(E:XK)(t:TA):TE:=fun σ H Q=>t σ H fun vs H1=>sp (vs++dvs) H1 Q E
def Binds(K:PySem.W.Frag)(fd:FuncData)(ps:List Str)(ds:List Value):Prop:=
 ∀(s:Shared) (us:List Value),K.In s.heap→(us++ds).length=ps.length→BindsTo s fd ⟨us,[]⟩ (ps.zip (us++ds))
theorem Binds.all{K:W.Frag}{fd:FuncData}{ps:List Str}(h:∀us:List Value,us.length=ps.length→bindArgs fd ⟨us,[]⟩=pure (ps.zip us)):Binds K fd ps []:=fun s us _ hl=>by
 rw[List.append_nil] at hl ⊢
 exact .of_eq (h us hl)

def Cb(CX:CXT)(X:Cx)(E:XK):Prop:=∀(pins:List (Addr×Obj)) (σ:St) (H:Hp) (s:Shared) (e:Value) (s':Shared),Inv X pins σ H s→CX X.stack H s E e s'→X.xe e s'

section
variable{X:Cx}{CX:CXT}{k:Nat}{f C:Addr}{fd:FuncData}{ps:List Str}{sp:Sp}{dvs:List V}{ds:List Value}{E:XK}{x m:Str}{p pos apos:Pos}{e o:Expr}{es:List Expr}{ta:TE}{t:TA}
theorem Yo{pins:List (Addr×Obj)}{σ:St}{H:Hp}{s:Shared}{Q:VK}{us:List Value}{vs:List V}(F:FnOk X.prog X.w X.K X.mg X.base CX k f fd ps sp)(hr:Room k X.A)(hb:Binds X.K fd ps ds)(hd:Vals dvs ds)(hx:Cb CX X E)(I:Inv X pins σ H s)(r:Vals vs us)(h:sp (vs++dvs) H Q E):wpAny (model X.prog X.w) X.A (call (.ref f) us) (EP X pins σ Q) X.xe s:=by
 have r2:Vals (vs++dvs) (us++ds):=r.append hd
 have hl:(us++ds).length=ps.length:=by rw[←r2.length];exact F.len _ _ _ _ h
 refine wpAny_call (codeAny_mono (F.run X.A X.stack s H ⟨us,[]⟩ (us++ds) (vs++dvs) Q E hr I.env0 (hb s us I.kIn hl) r2 h) fun r s' hq=>?_)
 cases r with
 |error e=>exact hx pins σ H s e s' I hq
 |ok fl=>
  cases fl with
  |ret u=>exact I.after hq
  |next=>exact False.elim hq
  |brk=>exact False.elim hq
  |cont=>exact False.elim hq

theorem Wl(F:FnOk X.prog X.w X.K X.mg X.base CX k f fd ps sp)(hr:Room k X.A)(hg:Gl X x)(hm:X.mg x=some (.ref f))(hk:PySem.W.keepIn X.K (.ref f)=true)(hb:Binds X.K fd ps ds)(hd:Vals dvs ds)(hx:Cb CX X E)(ha:PA X (e::es) t)(hdb:(x == ("__debug__" : Str))=false:=by decide)(he:starEach (e::es) X.env=(false,eval e X.env)::starEach es X.env:=by rfl)(hpl:(backTo pos (starEach es X.env)).any (·.1)=false:=by rfl) :
  PE X (.Call (.Name x p) (e::es) [] pos) (Xq sp dvs E t):=by
 intro pins s σ H Q I h
 refine wpAny_Call_Name_kw (D4 I hg hm ?_ hdb)
 refine PySem.W.callWith_K (h₀:=X.base) I.ok.mod.kin hk (thn (ha pos pins s σ H _ I h) fun us s1 ⟨vs,H1,I1,r,q⟩=>⟨I1.kIn,?_⟩) he hpl
 exact Yo F hr hb hd hx I1 r q
structure Mk(K:PySem.W.Frag)(C f:Addr):Prop where
 makes:PySem.W.makesIn K C=true
 init:PySem.W.findIn K (.ref C) "__init__" = some (some (.ref f))
 fn:PySem.W.isFn K (.ref f)=true
 kp:PySem.W.keepIn K (.ref C)=true

end
section
variable{X:Cx}{CX:CXT}{k:Nat}{f C:Addr}{fd:FuncData}{ps ks:List Str}{sp:Sp}{E:XK}{x m:Str}{p pos apos kpos:Pos}{e o:Expr}{es:List Expr}{kws:List Keyword}{te ta:TE}{t tk:TA}{nm:Option Str}
variable{g:List Value→List Value→List Value}{gV:List V→List V→List V}
end
structure FnScope(N P:List Str)(sc:Scope):Prop where
 kind:sc.kind=.function
 co:sc.isCoroutine=false
 gen:sc.isGenerator=false
 nd:N.Nodup
 pre:N.take P.length=P
 par:∀x∈P,sc.names.lookup x=some .local∨sc.names.lookup x=some .cell
 nofree:∀y∈sc.names,y.2≠.free

theorem Jx{kindOf:Str→Option NameKind}{x:Str}:∀{binds:List (Str×Value)} {m:Str→Option Value},(∀v,(x,v) ∉ binds)→bindL kindOf binds m x=m x
 |[],_,_=>rfl
 |(n,v)::r,m,h=>by
  unfold bindL
  rw[Jx fun w hw=>h w (List.mem_cons_of_mem _ hw)]
  split
  ·have:x≠n:=by rintro rfl;exact h v List.mem_cons_self
   simp[this]
  ·rfl
theorem Jy{kindOf:Str→Option NameKind}{x:Str}:∀{binds:List (Str×Value)} {m:Str→Option Value},(∀v,(x,v) ∉ binds)→bindC kindOf binds m x=m x
 |[],_,_=>rfl
 |(n,v)::r,m,h=>by
  unfold bindC
  rw[Jy fun w hw=>h w (List.mem_cons_of_mem _ hw)]
  split
  ·rfl
  ·have:x≠n:=by rintro rfl;exact h v List.mem_cons_self
   simp[this]
theorem F2{kindOf:Str→Option NameKind}{x:Str}{v:Value}:∀{P:List Str} {vs:List Value} {i:Nat} {m:Str→Option Value},P.Nodup→P[i]? = some x→vs[i]? = some v→kindOf x=some .local→
  bindL kindOf (P.zip vs) m x=some v
 |[],_,_,_,_,h,_,_=>by simp at h
 |_::_,[],_,_,_,_,h,_=>by simp at h
 |p::P,w::vs,0,m,nd,h1,h2,hk=>by
  simp at h1 h2;subst h1;subst h2
  show bindL kindOf ((p,w)::P.zip vs) m p=_
  unfold bindL
  rw[Jx fun v hv=>(List.nodup_cons.mp nd).1 (List.of_mem_zip hv).1,if_pos hk]
  simp
 |p::P,w::vs,i+1,m,nd,h1,h2,hk=>by
  show bindL kindOf ((p,w)::P.zip vs) m x=_
  unfold bindL
  exact F2 (i:=i) (List.nodup_cons.mp nd).2 (by simpa using h1) (by simpa using h2) hk
theorem F3{kindOf:Str→Option NameKind}{x:Str}{v:Value}:∀{P:List Str} {vs:List Value} {i:Nat} {m:Str→Option Value},P.Nodup→P[i]? = some x→vs[i]? = some v→kindOf x≠some .local→
  bindC kindOf (P.zip vs) m x=some v
 |[],_,_,_,_,h,_,_=>by simp at h
 |_::_,[],_,_,_,_,h,_=>by simp at h
 |p::P,w::vs,0,m,nd,h1,h2,hk=>by
  simp at h1 h2;subst h1;subst h2
  show bindC kindOf ((p,w)::P.zip vs) m p=_
  unfold bindC
  rw[Jy fun v hv=>(List.nodup_cons.mp nd).1 (List.of_mem_zip hv).1,if_neg hk]
  simp
 |p::P,w::vs,i+1,m,nd,h1,h2,hk=>by
  show bindC kindOf ((p,w)::P.zip vs) m x=_
  unfold bindC
  exact F3 (i:=i) (List.nodup_cons.mp nd).2 (by simpa using h1) (by simpa using h2) hk

def start(N:List Str)(vs:List V):St:=vs.map some++List.replicate (N.length-vs.length) none

def Cl(CX:CXT)(P:Program)(w:World)(K:PySem.W.Frag)(mg:Str→Option Value)(base:Heap)(N:List Str)(qual:Str)(scope:Scope)(f:Addr)(cd:Value)(A:Around)(outer:List Env)(s:Shared)(H:Hp)(E:XK):Cx where
 prog:=P
 w:=w
 K:=K
 mg:=mg
 base:=base
 A:=A.deeper (envOfC qual scope s.heap.objs.size f cd)
 N:=N
 s₀:=s
 H₀:=H
 env:=envOfC qual scope s.heap.objs.size f cd
 outer:=outer
 stack:=envOfC qual scope s.heap.objs.size f cd::outer
 ex:=[]
 calm:=true
 fn:=fun _=>true
 pn:=[]
 xe:=fun e s'=>wpAny (model P w) (A.deeper (envOfC qual scope s.heap.objs.size f cd)) (leaving (envOfC qual scope s.heap.objs.size f cd) e) (fun _ s''=>CX outer H s E e s'') (fun e' s''=>CX outer H s E e' s'') s'

theorem Ff{sc:Scope}{n:Nat}{x:Str}(h:sc.names.lookup x=some .cell):∃c,(cellsFrom n sc.names []).lookup x=some c:=by
 have q:=PySem.W.cellsFrom_some sc.names n [] (.inl h)
 exact Option.isSome_iff_exists.mp q

theorem Js{CX:CXT}{P:Program}{w:World}{K:W.Frag}{mg:Str→Option Value}{base:Heap}{N ps:List Str}{qual:Str}{scope:Scope}{f:Addr}{cd:Value}{A:Around}{outer:List Env}{s s1:Shared}{H:Hp}{E:XK}{us:List Value}{vs:List V}(S:FnScope N ps scope)(hd:A.handled=none)(e0:Env0 P w K mg base A outer s H)(hl:vs.length=ps.length)(r:Vals vs us)(x:InCallC s s.heap.objs.size (bindL (envOfC qual scope s.heap.objs.size f cd).kindOf (ps.zip us) fun _=>none) (cellsFrom (s.heap.objs.size+1) scope.names []) (bindC (envOfC qual scope s.heap.objs.size f cd).kindOf (ps.zip us) fun _=>none) s1) :
  Inv (Cl CX P w K mg base N qual scope f cd A outer s H E) [] (start N vs) H s1:=by
 have hpl:ps.length≤N.length:=by have:=congrArg List.length S.pre;rw[List.length_take] at this;omega
 obtain⟨h1,tk,rfl,hk⟩:=x.done
 have noA:∀b:Addr,b ∉ (Cl CX P w K mg base N qual scope f cd A outer s H E).ex:=fun b z=>absurd (show b∈([]:List Addr) from z) (by simp)
 refine⟨⟨e0.mod,S.kind,rfl,rfl,Nat.le_refl _,fun y z c h1 h2=>?_,fun y hy=>?_,fun y c _ h=>?_,fun _=>hd,Around.frames_deeper e0.frames,.inr ⟨rfl,rfl⟩,fun b z=>absurd z (noA b),e0.bs,e0.bsz,fun b _ _=>noA b,fun b z=>absurd z (noA b),e0.funs,e0.frf⟩,
  rfl,e0.bare,Un.kept hk,⟨_,x.toInCall.ns,fun i y v h1 h2 h3=>?_⟩,fun y c h=>⟨_,x.cell y c h⟩,e0.hok.fresh (Nat.le_refl _),fun y c h=>?_,fun p hp=>absurd (show p∈([]:List (Addr×Obj)) from hp) (by simp),e0.hok.kept hk,?_⟩
 ·exact name_of_addr x.apart (PySem.mem_of_lookup h1) (PySem.mem_of_lookup h2)
 ·have hy:scope.names.lookup y=some .cell∨scope.names.lookup y=some .free:=hy
  rcases hy with hy|hy
  ·exact Ff hy
  ·exact absurd rfl (S.nofree _ (PySem.mem_of_lookup hy))
 ·exact Nat.le_of_lt (x.above y c (PySem.mem_of_lookup h))
 ·have hi:i<vs.length:=by
   unfold start at h2
   by_cases hi:i<vs.length
   ·exact hi
   ·rw[List.getElem?_append_right (by simpa using hi)] at h2
    rw[List.getElem?_replicate] at h2
    split at h2<;>cases h2
  have ha:vs[i]? = some v:=by
   unfold start at h2
   rw[List.getElem?_append_left (by simpa using hi),List.getElem?_map] at h2
   cases e:vs[i]? with
   |none=>rw[e] at h2;cases h2
   |some a=>rw[e] at h2;cases h2;rfl
  obtain⟨u,hu,rv⟩:=r.get ha
  have hp:ps[i]? = some y:=by
   rw[←S.pre,List.getElem?_take_of_lt (by omega)];exact h1
  have ndP:ps.Nodup:=by rw[←S.pre];exact S.nd.sublist (List.take_sublist _ _)
  refine⟨u,rv,?_⟩
  rcases S.par y (List.mem_of_getElem? hp) with k|k
  ·exact .inl ⟨k,F2 ndP hp hu k⟩
  ·obtain⟨c,e⟩:=Ff (n:=s.heap.objs.size+1) k
   refine .inr ⟨.inl k,c,e,?_⟩
   have q:=x.cell y c e
   rw[F3 ndP hp hu (by show scope.names.lookup y≠_;rw[k];decide)] at q
   exact q
 ·exact e0.hok.fresh (Nat.le_of_lt (x.above y c (PySem.mem_of_lookup h)))
 ·unfold start
  show _=N.length
  rw[List.length_append,List.length_map,List.length_replicate]
  omega

theorem Sg{CX:CXT}{P:Program}{w:World}{K:W.Frag}{mg:Str→Option Value}{base:Heap}{k:Nat}{f:Addr}{name qual:Str}{params:Arguments}{body:List Stmt}{scope:Scope}{dV kV doc pm cdv ct oc:Value}{an od:Option Addr}{osl:Array (Option Value)}{N ps:List Str}{sp:Sp}(lk:K.lookup f=some ⟨oc,od,.func (PySem.W.fnOf name qual params body scope dV kV doc pm an cdv ct),osl⟩)(hcd:PySem.W.codeIn K cdv qual=true)(S:FnScope N ps scope)(len:∀vs H Q E,sp vs H Q E→vs.length=ps.length)(hbody:∀(A:Around) (outer:List Env) (s:Shared) (H:Hp) (vs:List V) (Q:VK) (E:XK),Room k (A.deeper (envOfC qual scope s.heap.objs.size f cdv))→sp vs H Q E→
   ∃t,PSs (Cl CX P w K mg base N qual scope f cdv A outer s H E) body t∧t { nx:=fun _ H'=>Q .non H',rt:=Q } (start N vs) H) :
  FnOk P w K mg base CX (k+1) f (PySem.W.fnOf name qual params body scope dV kV doc pm an cdv ct) ps sp:=by
 refine⟨len,fun A outer s H args us vs Q E hr e0 hb r hsp=>?_⟩
 have hl:=len _ _ _ _ hsp
 have KX:K.In s.heap:=e0.mod.kin.keeps fun b o e=>(e0.bs b o e).1
 have lim:s.heap.NoLimit:=e0.mod.nolimit.keeps fun b o e=>(e0.bs b o e).1
 have hkind:∀y∈ps.zip us,scope.names.lookup y.1=some .local∨(scope.names.lookup y.1=some .cell∧((cellsFrom (s.heap.objs.size+1) scope.names []).lookup y.1).isSome=true):=fun⟨n,v⟩ hy=>by
  rcases S.par n (List.of_mem_zip hy).1 with q|q
  ·exact .inl q
  ·exact .inr ⟨q,PySem.W.cellsFrom_some _ _ _ (.inl q)⟩
 refine codeAny_call_function hr.depth (KX _ _ lk) rfl S.co S.gen rfl (PySem.W.codeRec_of KX hcd) (hb _ _ _ _ ?_)
 refine wpAny_newFunctionEnv_cells S.kind hkind fun env he s1 x=>?_
 subst he
 refine⟨lim.keeps x.toInCall.keep,codeAny_func ?_⟩
 obtain⟨t,ht,hq⟩:=hbody A outer s H vs Q E (hr.deeper _) hsp
 have I:Inv (Cl CX P w K mg base N qual scope f cdv A outer s H E) [] (start N vs) H s1:=Js S hr.hd e0 hl r x
 refine wpAny_mono (ht [] s1 (start N vs) H _ I hq) (fun fl s' hs=>?_) fun e s' hs=>hs
 have fin:∀{σ':St} {H':Hp} {v:V} {u:Value},Inv (Cl CX P w K mg base N qual scope f cdv A outer s H E) [] σ' H' s'→RelV v u→Q v H'→CE outer P w H s Q u s':=
  fun {σ' H' v u} J rv q=>⟨v,H',J.os,J.bare,J.base,J.hok,rv,q⟩
 cases fl with
 |ret u=>
  obtain⟨v,σ',H',J,rv,q⟩:=hs
  exact fin J rv q
 |next=>
  obtain⟨σ',H',J,q⟩:=hs
  exact fin (v:=V.non) (u:=Value.none) J rfl q
 |brk=>
  obtain⟨_,_,_,q⟩:=hs
  exact False.elim q
 |cont=>
  obtain⟨_,_,_,q⟩:=hs
  exact False.elim q
end L2
namespace L2
open PySem PySem.Spec PyProof.Rows
section
variable{X:Cx}{x:Str}{p pos:Pos}{e:Expr}{es:List Expr}{t:TA}{id T:String}{r:List V→Hp→VK→Prop}
def tCB(r:List V→Hp→VK→Prop)(t:TA):TE:=fun σ H Q=>t σ H fun vs H1=>r vs H1 Q
theorem Hm(hc:CallR X (.builtin id) r)(hg:Gl X x)(hm:X.mg x=none)(hv:bootBuiltins x=some (.builtin id))(ha:PA X (e::es) t)(hn:x≠"__name__":=by decide)(hdb:(x == ("__debug__" : Str))=false:=by decide)(he:starEach (e::es) X.env=(false,eval e X.env)::starEach es X.env:=by rfl)(hpl:(backTo pos (starEach es X.env)).any (·.1)=false:=by rfl):PE X (.Call (.Name x p) (e::es) [] pos) (tCB r t):=by
 intro pins s σ H Q I h
 refine wpAny_Call_Name_kw (Ek I hg hm hv ?_ hn hdb)
 exact PyProof.Rows.callWith_builtin1 (thn (ha pos pins s σ H _ I h) fun us s1 ⟨vs,H1,I1,r1,q1⟩=>hc pins s1 σ H1 vs us Q I1 r1 q1) he hpl
theorem Jl(hc:CallR X (.type T) r)(hg:Gl X x)(hm:X.mg x=none)(hv:bootBuiltins x=some (.type T))(ha:PA X (e::es) t)(hn:x≠"__name__":=by decide)(hdb:(x == ("__debug__" : Str))=false:=by decide)(he:starEach (e::es) X.env=(false,eval e X.env)::starEach es X.env:=by rfl)(hpl:(backTo pos (starEach es X.env)).any (·.1)=false:=by rfl):PE X (.Call (.Name x p) (e::es) [] pos) (tCB r t):=by
 intro pins s σ H Q I h
 refine wpAny_Call_Name_kw (Ek I hg hm hv ?_ hn hdb)
 exact PyProof.Rows.callWith_type1 (thn (ha pos pins s σ H _ I h) fun us s1 ⟨vs,H1,I1,r1,q1⟩=>hc pins s1 σ H1 vs us Q I1 r1 q1) he hpl
end
end L2
namespace HT
open PySem PyProof.Rows
section
open PySem.SeqAt
open PySem.AutoSeq1 (wpAny_loadPart')
open PySem.MeetsSeq PySem.MeetsSeq2 PySem.MeetsSeq3
end
section
variable{prog:Program}{w:World}{A:Around}{E:Value→Shared→Prop}{s:Shared}
theorem cat_tup{t b:Addr}{vs ws:List Value}{Q:Value→Shared→Prop}(ht:IsTup s.heap t vs.toArray)(hb:IsTup s.heap b ws.toArray)(hv:vs≠[])(h1:ws=[]→Q (.ref t) s)(h2:ws≠[]→Q (.ref s.heap.objs.size) { s with heap:=s.heap.push { cls:=.type "tuple",data:=.seq (vs++ws).toArray } })(hsz:vs.length+ws.length≤sizeLine):wpAny (model prog w) A (binaryOp .Add (.ref t) (.ref b)) Q E s:=by
 obtain⟨⟨cls,dd,data,sl⟩,ho,hc,n,hd⟩:=id ht
 obtain⟨⟨cls2,dd2,data2,sl2⟩,ho2,hc2,n2,hd2⟩:=id hb
 simp only at hc hd hc2 hd2
 subst hc hd hc2 hd2
 have e:vs.toArray++ws.toArray=(vs++ws).toArray:=by simp
 by_cases hw:ws=[]
 ·exact concat_meets ⟨_,ho,rfl⟩ ⟨_,ho2,rfl⟩ noFill_tuple_add seq_tuple_add PySem.F.slot_tuple_add PySem.F.entry_tuple_add (PySem.F.args_tuple_add_2 _ _)
   (tuple_addW1 t b vs.toArray ws.toArray n n2 dd dd2 sl sl2 (by simpa using hv) (by simp[hw])) ⟨ho,ho2,h1 hw⟩
 ·refine concat_meets ⟨_,ho,rfl⟩ ⟨_,ho2,rfl⟩ noFill_tuple_add seq_tuple_add PySem.F.slot_tuple_add PySem.F.entry_tuple_add (PySem.F.args_tuple_add_2 _ _)
   (tuple_addW2 t b vs.toArray ws.toArray n n2 dd dd2 sl sl2 (by simpa using hv) (by simpa using hw) (by rw[List.size_toArray,List.size_toArray];exact hsz)) ⟨ho,ho2,?_⟩
  rw[e]
  exact h2 hw

def sIx(n d:Nat):Option Int→Nat
 |none=>d
 |some v=>if v<0 then (v+(n:Int)).toNat else min v.toNat n
theorem Yl(n d:Nat)(hd:d≤n)(o:Option Int):sIx n d o≤n:=by
 cases o with
 |none=>exact hd
 |some v=>
  show(if v<0 then (v+(n:Int)).toNat else min v.toNat n)≤n
  by_cases hv:v<0
  ·rw[if_pos hv];omega
  ·rw[if_neg hv];exact Nat.min_le_right _ _
theorem Po(v:Int)(n d:Nat):(if v<0 then max (v+(n:Int)) 0 else min v (n:Int))=((sIx n d (some v):Nat):Int):=by
 show(if v<0 then max (v+(n:Int)) 0 else min v (n:Int))=(((if v<0 then (v+(n:Int)).toNat else min v.toNat n):Nat):Int)
 by_cases hv:v<0
 ·simp only[if_pos hv];omega
 ·simp only[if_neg hv];omega
theorem Ol(lo hi:Option Int)(n:Nat):Builtin.Slice.sliceAdjust lo hi 1 (n:Int)=(((sIx n 0 lo:Nat):Int),((sIx n n hi:Nat):Int)):=by
 have h1:¬((1:Int)<0):=by omega
 unfold Builtin.Slice.sliceAdjust
 simp only[h1,if_false]
 refine Prod.ext ?_ ?_
 ·cases lo with
  |none=>rfl
  |some v=>exact Po v n 0
 ·cases hi with
  |none=>rfl
  |some v=>exact Po v n n
theorem N2(i j:Nat):Builtin.Slice.slicePlaces (i:Int) (j:Int) 1=j-i:=by
 unfold Builtin.Slice.slicePlaces
 have h1:(1:Int)>0:=by omega
 simp only[h1,if_true,Int.ediv_one]
 split<;>omega
theorem slicePart_{v:Value}{o:Option Int}{Q:Option Int→Shared→Prop}(p:IsPart v o)(h:Q o s):wpAny (model prog w) A (Builtin.Slice.slicePartIndex v) Q E s:=by
 cases p with
 |none=>exact slicePart_none h
 |int i t=>exact slicePart_int h
theorem sliceApplied_gen{sl:Addr}{vl vu:Value}{lo hi:Option Int}{n:Nat}{Q:Int×Int×Nat→Shared→Prop}(hs:s.heap.IsSliceOf sl vl vu .none)(pl:IsPart vl lo)(pu:IsPart vu hi)(h:Q (((sIx n 0 lo:Nat):Int),1,sIx n n hi-sIx n 0 lo) s):wpAny (model prog w) A (Builtin.Slice.sliceApplied (.ref sl) (pure (n:Int))) Q E s:=by
 obtain⟨os,hos,hcs,hds⟩:=id hs
 unfold Builtin.Slice.sliceApplied Builtin.Slice.sliceFields
 refine wpAny_bind (wpAny_bind (wpAny_field hos hds (x:=vl) rfl (wpAny_bind (wpAny_field hos hds (x:=vu) rfl (wpAny_bind (wpAny_field hos hds (x:=.none) rfl (wpAny_pure ?_)))))))
 refine wpAny_bind (slicePart_none ?_)
 show wpAny _ _ (if ((1:Int) == 0)=true then _ else _) _ _ s
 rw[if_neg (by decide)]
 refine wpAny_bind (slicePart_ pl (wpAny_bind (slicePart_ pu (wpAny_bind (wpAny_pure ?_)))))
 show wpAny _ _ (match Builtin.Slice.sliceAdjust lo hi 1 (n:Int) with|(lo,hi)=>pure (lo,(1:Int),Builtin.Slice.slicePlaces lo hi 1)) _ _ s
 rw[Ol lo hi n]
 show wpAny _ _ (pure (((sIx n 0 lo:Nat):Int),(1:Int),Builtin.Slice.slicePlaces ((sIx n 0 lo:Nat):Int) ((sIx n n hi:Nat):Int) 1)) _ _ s
 rw[N2]
 exact wpAny_pure h
theorem Ua(xs:Array Value)(i k:Nat):((List.range k).filterMap fun(m:Nat)=>xs[((i:Int)+(m:Int)*1).toNat]?).toArray=((xs.toList.drop i).take k).toArray:=by
 have e:(fun(m:Nat)=>xs[((i:Int)+(m:Int)*1).toNat]?)=fun m=>xs[i+m]?:=by
  funext m
  have:((i:Int)+(m:Int)*1).toNat=i+m:=by omega
  rw[this]
 rw[e]
 have:=pick_run xs i k
 rw[List.filterMap_map] at this
 have e2:((fun x=>xs[x]?) ∘ fun x=>i+x)=fun m=>xs[i+m]?:=rfl
 rw[e2] at this
 rw[this]

theorem getItem_tuple_cut{t sl:Addr}{items:Array Value}{vl vu:Value}{lo hi:Option Int}{Q:Value→Shared→Prop}(ht:IsTup s.heap t items)(hs:s.heap.IsSliceOf sl vl vu .none)(pl:IsPart vl lo)(pu:IsPart vu hi)(hw:¬(sIx items.size 0 lo=0∧sIx items.size items.size hi=items.size))(h:Q (.ref s.heap.objs.size) { s with heap:=s.heap.push { cls:=.type "tuple",data:=.seq ((items.toList.drop (sIx items.size 0 lo)).take (sIx items.size items.size hi-sIx items.size 0 lo)).toArray } })(hsz:items.size≤sizeLine):wpAny (model prog w) A (getItem (.ref t) (.ref sl)) Q E s:=by
 have htake:sizeOk (.seq ((items.toList.drop (sIx items.size 0 lo)).take (sIx items.size items.size hi-sIx items.size 0 lo)).toArray):=by
  show((items.toList.drop (sIx items.size 0 lo)).take (sIx items.size items.size hi-sIx items.size 0 lo)).toArray.size≤sizeLine
  rw[List.size_toArray,List.length_take,List.length_drop,Array.length_toList]
  omega
 have hj:sIx items.size items.size hi≤items.size:=Yl _ _ (Nat.le_refl _) hi
 obtain⟨os,hos,hcs,hds⟩:=id hs
 have hTs:s.TypeIs (.ref sl) "slice":=⟨os,hos,hcs⟩
 unfold getItem
 try with_reducible refine wpAny_holding ?_
 first|refine wpAny_bind (wpAny_pure ?_)|skip
 refine wpAny_bind (wpAny_sequenceKey ht.typeIs (by decide) ?_)
 refine wpAny_bind (wpAny_callSpecial?_slot (name:=Str.ofString "__getitem__") ht.typeIs PyProof.Rows.slot_tuple_getitem
  (wpAny_call_entry PyProof.Rows.slot_tuple_getitem ht.typeIs entry_tuple_getitem ?_ (args_tuple_getitem _ _)))
 show wpAny _ _ (Builtin.Tuple.tupleItemsOf (.ref t) >>= _) _ _ s
 refine wpAny_bind (tupleItemsOf_ ht ?_)
 refine wpAny_bind (wpAny_typeOf hTs ?_)
 rw[if_pos (by decide)]
 refine wpAny_bind (sliceApplied_gen hs pl pu ?_)
 have hno:¬((((sIx items.size 0 lo:Nat):Int) == 0&&(1:Int) == 1&&(sIx items.size items.size hi-sIx items.size 0 lo) == items.size)=true):=by
  intro q
  rw[Bool.and_eq_true,Bool.and_eq_true] at q
  have q1:((sIx items.size 0 lo:Nat):Int)=0:=eq_of_beq q.1.1
  have q2:sIx items.size items.size hi-sIx items.size 0 lo=items.size:=eq_of_beq q.2
  exact hw ⟨by omega,by omega⟩
 show wpAny _ _ (if (((sIx items.size 0 lo:Nat):Int) == 0&&(1:Int) == 1&&(sIx items.size items.size hi-sIx items.size 0 lo) == items.size)=true then _ else _) _ _ s
 rw[if_neg hno,Ua]
 first
  |exact wpAny_bind (m:=Builtin.Tuple.tupleExact _) (wpAny_newObj_type (wpAny_pure ⟨_,rfl,wpAny_pure h⟩) htake)
  |exact wpAny_bind (m:=Builtin.Tuple.tupleExact _) (wpAny_newObj_type (wpAny_bind (wpAny_pure (wpAny_pure ⟨_,rfl,wpAny_pure h⟩))) htake)
  |exact wpAny_bind (wpAny_bind (m:=Builtin.Tuple.tupleExact _) (wpAny_newObj_type (wpAny_pure (wpAny_pure ⟨_,rfl,wpAny_pure h⟩)) htake))
  |exact wpAny_bind (wpAny_bind (m:=Builtin.Tuple.tupleExact _) (wpAny_newObj_type (wpAny_pure ⟨_,rfl,wpAny_pure h⟩) htake))
end
end HT
namespace L2
open PySem PySem.Spec PyProof.Rows
abbrev TO:=St→Hp→(Option Int→Hp→Prop)→Prop
def PO(X:Cx)(e:Option Expr)(t:TO):Prop:=
 ∀(pins:List (Addr×Obj)) (s:Shared) (σ:St) (H:Hp) (Q:Option Int→Hp→Prop),Inv X pins σ H s→t σ H Q→
  wpAny (model X.prog X.w) X.A (evalPart e X.env) (fun u s'=>∃o H',Inv X pins σ H' s'∧IsPart u o∧Q o H') X.xe s
def Vw:TO:=fun _ H Q=>Q none H
def tPart(t:TE):TO:=fun σ H Q=>t σ H fun x H1=>∃i,x=.int i∧Q (some i) H1

section
variable{X:Cx}{e:Expr}{te:TE}{lo hi:Option Expr}{tl th:TO}{pos p2:Pos}
theorem po_none:PO X none Vw:=by
 intro pins s σ H Q I h
 rw[evalPart_none]
 exact wpAny_pure ⟨none,H,I,.none,h⟩
theorem Wh(h:PE X e te):PO X (some e) (tPart te):=by
 intro pins s σ H Q I hw
 rw[evalPart_some]
 refine thn (h pins s σ H _ I hw) fun u s1 ⟨x,H1,I1,r1,q1⟩=>?_
 obtain⟨i,rfl,q⟩:=q1
 obtain⟨t,rfl⟩:=r1
 exact⟨some i,H1,I1,.int i t,q⟩

def SlR(X:Cx)(r:V→Option Int→Option Int→Hp→VK→Prop):Prop:=
 ∀(pins:List (Addr×Obj)) (s:Shared) (σ:St) (H:Hp) (x:V) (v vl vu:Value) (lo hi:Option Int) (sl:Addr) (Q:VK),Inv X pins σ H s→RelV x v→s.heap.IsSliceOf sl vl vu .none→IsPart vl lo→IsPart vu hi→r x lo hi H Q→
  ∃T id,typeLookup (.type T) "__getitem__" = pure (some (.builtin id))∧s.TypeIs v T∧wpAny (model X.prog X.w) X.A (getItem v (.ref sl)) (EP X pins σ Q) X.xe s
def tSl(r:V→Option Int→Option Int→Hp→VK→Prop)(te:TE)(tl th:TO):TE:=fun σ H Q=>te σ H fun x H1=>tl σ H1 fun l H2=>th σ H2 fun u H3=>r x l u H3 Q
theorem Uc{r:V→Option Int→Option Int→Hp→VK→Prop}(hr:SlR X r)(he:PE X e te)(hl:PO X lo tl)(hu:PO X hi th):PE X (.Subscript e (.Slice lo hi none p2) pos) (tSl r te tl th):=by
 intro pins s σ H Q I h
 refine Subscript_ (thn (he pins s σ H _ I h) fun v s1 ⟨x,H1,I1,r1,q1⟩=>?_)
 refine wpAny_Slice (thn (hl pins s1 σ H1 _ I1 q1) fun vl s2 ⟨l,H2,I2,pl,q2⟩=>thn (hu pins s2 σ H2 _ I2 q2) fun vu s3 ⟨u,H3,I3,pu,q3⟩=>?_)
 rw[evalPart_none]
 refine wpAny_pure ?_
 have I4:Inv X pins σ H3 { s3 with heap:=s3.heap.push { cls:=.type "slice",data:=.fields #[vl,vu,.none] } }:=I3.kept (t':=s3.toks) fun b ob q=>Heap.get?_push_of_some _ q
 obtain⟨T,id,hT,ht,hg⟩:=hr pins { s3 with heap:=s3.heap.push { cls:=.type "slice",data:=.fields #[vl,vu,.none] } } σ H3 x v vl vu l u s3.heap.objs.size Q I4 r1 (Heap.IsSliceOf.new ..) pl pu q3
 show wpAny (model X.prog X.w) X.A (subscriptTail e (.Slice lo hi none p2) v (.ref s3.heap.objs.size)) (EP X pins σ Q) X.xe { s3 with heap:=s3.heap.push { cls:=.type "slice",data:=.fields #[vl,vu,.none] } }
 exact tail_any (ops:=[.ref s3.heap.objs.size,v]) ht hT hg (by with_unfolding_all rfl)

def Lg(xs:List V)(lo hi:Option Int):List V:=(xs.drop (HT.sIx xs.length 0 lo)).take (HT.sIx xs.length xs.length hi-HT.sIx xs.length 0 lo)
theorem Ge(xs:List V)(lo hi:Option Int):(Lg xs lo hi).length≤xs.length:=by
 unfold Lg
 rw[List.length_take,List.length_drop]
 omega
def rSlT(K:PySem.W.Frag):V→Option Int→Option Int→Hp→VK→Prop:=fun x lo hi H Q=>∃a xs,x=.ref a∧SqT K H a xs∧
 ¬(HT.sIx xs.length 0 lo=0∧HT.sIx xs.length xs.length hi=xs.length)∧∀p,H p=none→Q (.ref p) (upd H p (.tup (Lg xs lo hi)))
theorem Yh:SlR X (rSlT X.K):=by
 intro pins s σ H x v vl vu lo hi sl Q I rx hs pl pu h
 obtain⟨a,xs,rfl,hx,hw,q⟩:=h
 cases rx
 obtain⟨its,r,ht,hz⟩:=I.tuple hx
 have hlen:its.toArray.size=xs.length:=by rw[List.size_toArray];exact r.length.symm
 refine⟨"tuple",_,PyProof.Rows.slot_tuple_getitem.lookup,ht.typeIs,?_⟩
 refine HT.getItem_tuple_cut ht hs pl pu (by rw[hlen];exact hw) ?_ (by rw[hlen];exact hz)
 rw[hlen]
 refine⟨.ref s.heap.objs.size,_,I.laid (t':=s.toks) (o:=.tup (Lg xs lo hi)) (fun b ob q=>Heap.get?_push_of_some _ q) (Nat.le_refl _) ?_,rfl,q _ (I.hok.fresh (Nat.le_refl _))⟩
 exact⟨Nat.le_trans (Ge xs lo hi) hz,_,(r.drop (HT.sIx xs.length 0 lo)).take (HT.sIx xs.length xs.length hi-HT.sIx xs.length 0 lo),IsTup.new _ _⟩

def rCatT(K:PySem.W.Frag):R2:=fun x y H Q=>∃a b xs ys,x=.ref a∧y=.ref b∧SqT K H a xs∧SqT K H b ys∧xs≠[]∧xs.length+ys.length≤sizeLine∧
 (ys=[]→Q (.ref a) H)∧(ys≠[]→∀p,H p=none→Q (.ref p) (upd H p (.tup (xs++ys))))
theorem Vals.nil_iff{xs:List V}{us:List Value}(r:Vals xs us):us=[]↔xs=[]:=by
 cases r with
 |nil=>simp
 |cons _ _=>simp
theorem Wo:OpR X (binaryOp .Add) (rCatT X.K):=by
 intro pins s σ H x y v u Q I rx ry h
 obtain⟨a,b,xs,ys,rfl,rfl,ha,hb,hx,hz,q1,q2⟩:=h
 cases rx
 cases ry
 obtain⟨its,r1,p1,_⟩:=I.tuple ha
 obtain⟨its2,r2,p2,_⟩:=I.tuple hb
 refine HT.cat_tup p1 p2 (fun z=>hx (r1.nil_iff.mp z)) (fun z=>⟨.ref a,H,I,rfl,q1 (r2.nil_iff.mp z)⟩) (fun z=>?_) (by rw[←r1.length,←r2.length];exact hz)
 refine⟨.ref s.heap.objs.size,_,I.laid (t':=s.toks) (o:=.tup (xs++ys)) (fun b ob q=>Heap.get?_push_of_some _ q) (Nat.le_refl _) ?_,rfl,q2 (fun w=>z (r2.nil_iff.mpr w)) _ (I.hok.fresh (Nat.le_refl _))⟩
 exact⟨by rw[List.length_append];exact hz,_,r1.append r2,IsTup.new _ _⟩
end
end L2
namespace L2
open PySem PySem.Spec PyProof.Rows
def ixN(n:Nat)(i:Int):Option Nat:=if 0≤i then (if i<n then some i.toNat else none) else if -(n:Int)≤i then some (i+n).toNat else none
def atI{α:Type}(xs:List α)(i:Int):Option α:=(ixN xs.length i).bind fun j=>xs[j]?
theorem Pe{n:Nat}{i:Int}{j:Nat}(h:ixN n i=some j):seqIndex? i n=some j∧j<n∧-(n:Int)≤i∧i<n:=by
 unfold ixN at h
 by_cases h0:0≤i
 ·rw[if_pos h0] at h
  by_cases h1:i<n
  ·rw[if_pos h1] at h
   have e:i.toNat=j:=Option.some.inj h
   exact⟨by rw[seqIndex_of h0 h1,e],by omega,by omega,h1⟩
  ·rw[if_neg h1] at h;cases h
 ·rw[if_neg h0] at h
  by_cases h1 : -(n:Int)≤i
  ·rw[if_pos h1] at h
   have e:(i+n).toNat=j:=Option.some.inj h
   exact⟨by rw[seqIndex_neg (by omega) h1,e],by omega,h1,by omega⟩
  ·rw[if_neg h1] at h;cases h
theorem Ks{α:Type}{xs:List α}{i:Int}{v:α}(h:atI xs i=some v):∃j,seqIndex? i xs.length=some j∧xs[j]? = some v∧j<xs.length∧-(xs.length:Int)≤i∧i<xs.length:=by
 unfold atI at h
 cases e:ixN xs.length i with
 |none=>rw[e] at h;cases h
 |some j=>
  rw[e] at h
  obtain⟨h1,h2,h3,h4⟩:=Pe e
  exact⟨j,h1,h,h2,h3,h4⟩
theorem Gx{α:Type}{xs:List α}{j:Nat}{v:α}(h:xs[j]? = some v):atI xs (j:Int)=some v:=by
 have hj:j<xs.length:=(List.getElem?_eq_some_iff.mp h).1
 have e:ixN xs.length (j:Int)=some j:=by
  unfold ixN
  rw[if_pos (by omega),if_pos (by omega)];simp
 unfold atI;rw[e];exact h
theorem Mt{α:Type}(xs:List α)(v:α):atI (xs++[v]) (-1)=some v:=by
 have hl:(xs++[v]).length=xs.length+1:=by simp
 have e:ixN (xs++[v]).length (-1)=some xs.length:=by
  unfold ixN
  rw[hl,if_neg (by decide),if_pos (by omega)]
  congr 1
  omega
 unfold atI
 rw[e]
 show(xs++[v])[xs.length]? = some v
 simp

def Ps(b:Expr):Prop:=∀o i,subscripted b false o i=operate [o,i] (getItem o i)
def IxR(X:Cx)(r:R2):Prop:=
 ∀(value slice:Expr) (pins:List (Addr×Obj)) (s:Shared) (σ:St) (H:Hp) (x y:V) (v u:Value) (Q:VK),Inv X pins σ H s→RelV x v→RelV y u→r x y H Q→
  subscripted slice false v u=operate [v,u] (getItem v u)→wpAny (model X.prog X.w) X.A (subscriptTail value slice v u) (EP X pins σ Q) X.xe s
def MtR(X:Cx)(id:String)(r:V→List V→Hp→VK→Prop):Prop:=
 ∀(pins:List (Addr×Obj)) (s:Shared) (σ:St) (H:Hp) (x:V) (xs:List V) (v:Value) (us:List Value) (Q:VK),Inv X pins σ H s→RelV x v→Vals xs us→r x xs H Q→
  wpAny (model X.prog X.w) X.A (call (.builtin id) (v::us)) (EP X pins σ Q) X.xe s
section
variable{X:Cx}{a b:Expr}{ta tb:TE}{pos:Pos}
theorem IxR.or{r r':R2}(h:IxR X r)(h':IxR X r'):IxR X (fun x y H Q=>r x y H Q∨r' x y H Q):=by
 intro value slice pins s σ H x y v u Q I rx ry q hs
 rcases q with q|q
 ·exact h value slice pins s σ H x y v u Q I rx ry q hs
 ·exact h' value slice pins s σ H x y v u Q I rx ry q hs
theorem pe_ix{r:R2}(hr:IxR X r)(ha:PE X a ta)(hb:PE X b tb)(hs:Ps b):PE X (.Subscript a b pos) (tOp r ta tb):=by
 intro pins s σ H Q I h
 exact Subscript_ (X8 ha hb I h fun v u s2 x y H2 I2 rx ry q=>hr a b pins s2 σ H2 x y v u Q I2 rx ry q (hs _ _))

def rIxL(K:PySem.W.Frag):R2:=fun x y H Q=>∃p xs i v,x=.ref p∧y=.int i∧SqL K H p xs∧atI xs i=some v∧Q v H
def rIxT(K:PySem.W.Frag):R2:=fun x y H Q=>∃p xs i v,x=.ref p∧y=.int i∧SqT K H p xs∧atI xs i=some v∧Q v H
def rIxS:R2:=fun x y H Q=>∃z i c,x=.str z∧y=.int i∧z.length≤sizeLine∧atI z.cps.toList i=some c∧Q (.str ⟨#[c]⟩) H
theorem ix_list:IxR X (rIxL X.K):=by
 intro value slice pins s σ H x y v u Q I rx ry h hs
 obtain⟨p,xs,i,z,rfl,rfl,hq,he,q⟩:=h
 cases rx
 obtain⟨t,rfl⟩:=ry
 obtain⟨its,r,pl,hz⟩:=I.list hq
 obtain⟨j,h1,h2,h3,h4,h5⟩:=Ks he
 obtain⟨w,ew,rw'⟩:=r.get h2
 have hl:=r.length
 have hn:=Ft
 have fin:EP X pins σ Q w s:=⟨z,H,I,rw',q⟩
 by_cases h0:0≤i
 ·have hj:i.toNat=j:=by
   rw[seqIndex_of h0 h5] at h1
   exact Option.some.inj h1
  exact item_listR pl.isList h0 (by omega) (by rw[hj];simpa using ew) fin hs
 ·have hj:(i+(its.toArray.size:Int)).toNat=j:=by
   rw[seqIndex_neg (by omega) h4] at h1
   rw[List.size_toArray,←hl]
   exact Option.some.inj h1
  exact subscriptTail_builtinR (x:=w) pl.isList.typeIs slot_list_getitem.lookup
   (wpAny_getItem_list_neg (Q:=fun r s'=>r=w∧EP X pins σ Q r s') pl.isList (by omega) (by rw[List.size_toArray]<;>omega) (by omega) (by rw[hj];simpa using ew) ⟨rfl,fin⟩) hs
theorem ix_tup:IxR X (rIxT X.K):=by
 intro value slice pins s σ H x y v u Q I rx ry h hs
 obtain⟨p,xs,i,z,rfl,rfl,hq,he,q⟩:=h
 cases rx
 obtain⟨t,rfl⟩:=ry
 obtain⟨its,r,pl,hz⟩:=I.tuple hq
 obtain⟨j,h1,h2,h3,h4,h5⟩:=Ks he
 obtain⟨w,ew,rw'⟩:=r.get h2
 have hl:=r.length
 have hn:=Ft
 have fin:EP X pins σ Q w s:=⟨z,H,I,rw',q⟩
 exact subscriptTail_builtinR (x:=w) pl.typeIs slot_tuple_getitem.lookup
  (getItem_tuple (j:=j) (Q:=fun r s'=>r=w∧EP X pins σ Q r s') pl (by omega) (by omega) (by rw[List.size_toArray,←hl];exact h1) (by simpa using ew) ⟨rfl,fin⟩) hs
theorem Z4:IxR X rIxS:=by
 intro value slice pins s σ H x y v u Q I rx ry h hs
 obtain⟨z,i,c,rfl,rfl,hz,he,q⟩:=h
 obtain⟨t,rfl⟩:=rx
 obtain⟨t',rfl⟩:=ry
 obtain⟨j,h1,h2,h3,h4,h5⟩:=Ks he
 have hl:z.cps.toList.length=z.length:=by simp[Str.length]
 rw[hl] at h1 h4 h5
 have hn:=Ft
 exact tail_any (typeIs_str s z t) slot_str_getitem.lookup (getItem_str (c:=c) (by
  have e1:decide (i < -(2 ^ 63:Int))=false:=decide_eq_false (by omega)
  have e2:decide (i ≥ 2 ^ 63)=false:=decide_eq_false (by omega)
  rw[e1,e2,Bool.or_false]) (by rw[h1];simpa using h2) ⟨.str ⟨#[c]⟩,H,I.tok _,⟨_,rfl⟩,q⟩) hs
def rIx(K:PySem.W.Frag):R2:=fun x y H Q=>rIxL K x y H Q∨rIxT K x y H Q∨rIxS x y H Q
theorem ix_seq:IxR X (rIx X.K):=ix_list.or (ix_tup.or Z4)

theorem N5(its:List Value)(n j:Nat)(u:Value):Obj.mapSeq (·.setIfInBounds j u) { cls:=.type "list",data:=.seq its.toArray n }={ cls:=.type "list",data:=.seq (its.set j u).toArray n }:=by
 simp[Obj.mapSeq]
theorem Inv.lst{pins:List (Addr×Obj)}{σ:St}{H:Hp}{s:Shared}{p:Addr}{xs:List V}(I:Inv X pins σ H s)(h:H p=some (.lst xs)) :
  ∃(its:List Value) (n:Nat),Vals xs its∧s.heap.get? p=some { cls:=.type "list",data:=.seq its.toArray n }∧xs.length≤sizeLine:=by
 obtain⟨z,its,n,r,e⟩:=I.hok p _ h
 exact⟨its,n,r,e,z⟩
theorem Inv.lstUpd{pins:List (Addr×Obj)}{σ:St}{H:Hp}{s:Shared}{p:Addr}{xs ys:List V}{its its':List Value}{n n':Nat}{f:Obj→Obj}(I:Inv X pins σ H s)(h:H p=some (.lst xs))(ho:s.heap.get? p=some { cls:=.type "list",data:=.seq its.toArray n })(hf:f { cls:=.type "list",data:=.seq its.toArray n }={ cls:=.type "list",data:=.seq its'.toArray n' })(r:Vals ys its')(hz:ys.length≤sizeLine)(t:Nat) :
  Inv X pins σ (upd H p (.lst ys)) { s with heap:=s.heap.update p f,toks:=t }:=by
 have e:(s.heap.update p f).get? p=some { cls:=.type "list",data:=.seq its'.toArray n' }:=by
  rw[Heap.get?_update_self f ho (by rw[hf]<;>rfl),hf]
 refine I.write (x:=p) (e:=p) (by rw[h];trivial) (.inl rfl) (fun b u hb q=>(Heap.get?_update_other _ _ (Ne.symm hb)).trans q) ⟨_,e⟩ ?_
 exact⟨hz,its',n',r,e⟩
def rSetL:V→V→V→Hp→(Hp→Prop)→Prop:=fun o i v H Q=>∃p xs k j,o=.ref p∧i=.int k∧H p=some (.lst xs)∧ixN xs.length k=some j∧Q (upd H p (.lst (xs.set j v)))
theorem set_list:PSet X rSetL:=by
 intro pins s σ H o i v ov iv u Q I ro ri rv h
 obtain⟨p,xs,k,j,rfl,rfl,hp,hj,q⟩:=h
 cases ro
 obtain⟨t,rfl⟩:=ri
 obtain⟨its,n,r,ho,hz⟩:=I.lst hp
 obtain⟨h1,h2,h3,h4⟩:=Pe hj
 have hl:=r.length
 have hn:=Ft
 have I':Inv X pins σ (upd H p (.lst (xs.set j v))) { s with heap:=s.heap.update p (Obj.mapSeq (·.setIfInBounds j u)) }:=
  I.lstUpd hp ho (N5 its n j u) (r.set rv j) (by rw[List.length_set];exact hz) s.toks
 by_cases h0:0≤k
 ·have hk:k.toNat=j:=by
   rw[seqIndex_of h0 h4] at h1
   exact Option.some.inj h1
  exact PySem.W.ki_setAt ho h0 (by omega) (by rw[List.size_toArray,←hl];exact h4) (by rw[hk];exact⟨_,I',q⟩)
 ·have hk:(k+(its.toArray.size:Int)).toNat=j:=by
   rw[seqIndex_neg (by omega) h3] at h1
   rw[List.size_toArray,←hl]
   exact Option.some.inj h1
  exact PySem.W.ki_setBack ho (by omega) (by rw[List.size_toArray,←hl];exact h3) (by omega) (by rw[hk];exact⟨_,I',q⟩)

theorem Kw(lo hi:Option Int)(n:Nat):(sliceBounds lo hi none n).1=((HT.sIx n 0 lo:Nat):Int)∧(sliceBounds lo hi none n).2.1=((HT.sIx n n hi:Nat):Int)∧(sliceBounds lo hi none n).2.2=1:=by
 refine⟨?_,?_,rfl⟩
 ·cases lo with
  |none=>simp[sliceBounds,HT.sIx]
  |some i=>
   simp only[sliceBounds,HT.sIx,Option.getD_none,show(1:Int)>0 by decide,if_true]
   by_cases h:i<0
   ·simp only[h,if_true]<;>omega
   ·simp only[h,if_false]<;>omega
 ·cases hi with
  |none=>simp[sliceBounds,HT.sIx]
  |some i=>
   simp only[sliceBounds,HT.sIx,Option.getD_none,show(1:Int)>0 by decide,if_true]
   by_cases h:i<0
   ·simp only[h,if_true]<;>omega
   ·simp only[h,if_false]<;>omega
theorem Ir(its:List Value)(lo hi:Option Int):slicePick its.toArray lo hi none=((its.drop (HT.sIx its.length 0 lo)).take (HT.sIx its.length its.length hi-HT.sIx its.length 0 lo)).toArray:=by
 obtain⟨h1,h2,h3⟩:=Kw lo hi its.toArray.size
 unfold slicePick
 rw[h1,h2,h3]
 simp only[sliceRange_one,pick_run,List.size_toArray]<;>rfl
def rSlL(K:PySem.W.Frag):V→Option Int→Option Int→Hp→VK→Prop:=fun x lo hi H Q=>∃a xs,x=.ref a∧SqL K H a xs∧∀p,H p=none→Q (.ref p) (upd H p (.lst (Lg xs lo hi)))
theorem V0:SlR X (rSlL X.K):=by
 intro pins s σ H x v vl vu lo hi sl Q I rx hs pl pu h
 obtain⟨a,xs,rfl,hx,q⟩:=h
 cases rx
 obtain⟨its,r,ht,hz⟩:=I.list hx
 have hlen:=r.length
 refine⟨"list",_,slot_list_getitem.lookup,ht.isList.typeIs,?_⟩
 refine wpAny_getItem_list_slice ht.isList hs pl pu .none (by simp) ?_ (by rw[List.size_toArray]<;>omega)
 rw[Ir,←hlen]
 refine⟨.ref s.heap.objs.size,_,I.laid (t':=s.toks) (o:=.lst (Lg xs lo hi)) (fun b ob q=>Heap.get?_push_of_some _ q) (Nat.le_refl _) ?_,rfl,q _ (I.hok.fresh (Nat.le_refl _))⟩
 exact⟨Nat.le_trans (Ge xs lo hi) hz,_,0,(r.drop (HT.sIx xs.length 0 lo)).take (HT.sIx xs.length xs.length hi-HT.sIx xs.length 0 lo),Heap.get?_push_size _ rfl⟩

theorem call_list_of:CallR X (.type "list") (fun xs H Q=>∃p ys,xs=[.ref p]∧(SqL X.K H p ys∨SqT X.K H p ys)∧∀l,H l=none→Q (.ref l) (upd H l (.lst ys))):=by
 intro pins s σ H xs us Q I r h
 obtain⟨p,ys,rfl,hq,q⟩:=h
 obtain⟨u,rfl,rx⟩:=Cs r
 cases rx
 have fin:∀(its:List Value),Vals ys its→ys.length≤sizeLine→∀(h':Heap) (c':Nat),(∀b o',s.heap.get? b=some o'→h'.get? b=some o')→
   h'.get? s.heap.objs.size=some { cls:=.type "list",dict:=none,data:=.seq its.toArray c',slots:=#[] }→EP X pins σ Q (.ref s.heap.objs.size) { s with heap:=h' }:=fun its r' hz h' c' kp e=>
  ⟨.ref s.heap.objs.size,_,I.laid (t':=s.toks) kp (Nat.le_refl _) (show ObjOk X.prog X.w _ h' _ (.lst ys) from⟨hz,its,c',r',e⟩),rfl,q _ (I.hok.fresh (Nat.le_refl _))⟩
 rcases hq with hq|hq
 ·obtain⟨its,r',pl,hz⟩:=I.list hq
  have hlen:=r'.length
  obtain⟨o,ho,hc,n,hd⟩:=pl.isList
  exact call_list_seq p (.inl rfl) ho hc hd (fun h' c' kp e=>fin its r' hz h' c' kp e) (by simp only[List.size_toArray]<;>omega)
 ·obtain⟨its,r',pl,hz⟩:=I.tuple hq
  have hlen:=r'.length
  obtain⟨o,ho,hc,n,hd⟩:=pl
  exact call_list_seq p (.inr rfl) ho hc hd (fun h' c' kp e=>fin its r' hz h' c' kp e) (by simp only[List.size_toArray]<;>omega)
theorem call_tuple_of:CallR X (.type "tuple") (fun xs H Q=>∃p ys,xs=[.ref p]∧((SqL X.K H p ys∧∀l,H l=none→Q (.ref l) (upd H l (.tup ys)))∨(SqT X.K H p ys∧Q (.ref p) H))):=by
 intro pins s σ H xs us Q I r h
 obtain⟨p,ys,rfl,h⟩:=h
 obtain⟨u,rfl,rx⟩:=Cs r
 cases rx
 rcases h with ⟨hq,q⟩|⟨hq,q⟩
 ·obtain⟨its,r',pl,hz⟩:=I.list hq
  have hlen:=r'.length
  refine call_tuple_list pl.isList (fun h' kp=>?_) (by simp only[List.size_toArray]<;>omega)
  have I1:Inv X pins σ H { s with heap:=h' }:=I.kept (t':=s.toks) kp
  have I2:Inv X pins σ (upd H h'.objs.size (.tup ys)) { s with heap:=h'.push { cls:=.type "tuple",data:=.seq its.toArray } }:=
   I1.laid (t':=s.toks) (fun b o e=>Heap.get?_push_of_some _ e) (Nat.le_refl _) (show ObjOk X.prog X.w _ _ _ (.tup ys) from⟨hz,its,r',IsTup.new _ _⟩)
  exact⟨.ref h'.objs.size,_,I2,rfl,q _ (I1.hok.fresh (Nat.le_refl _))⟩
 ·obtain⟨its,r',pl,hz⟩:=I.tuple hq
  exact call_tuple_same pl ⟨.ref p,H,I,rfl,q⟩

def tyV(K:PySem.W.Frag)(T:String)(x:V)(H:Hp):Prop:=match x with
 |.str _=>T = "str"
 |.int _=>T = "int"
 |.ref p=>(T = "list"∧∃xs,SqL K H p xs)∨(T = "tuple"∧∃o,K.lookup p=some o∧o.cls=.type "tuple"∧o.dict=none)∨
   (T = "dict"∧((∃kvs,H p=some (.dK kvs))∨∃kvs,H p=some (.dT kvs)))∨(T = "set"∧∃S n,H p=some (.set S n))
 |_=>False
theorem Ss{pins:List (Addr×Obj)}{σ:St}{H:Hp}{s:Shared}{T:String}{x:V}{v:Value}(I:Inv X pins σ H s)(r:RelV x v)(ty:tyV X.K T x H) :
  s.TypeIs v T∧∀a,v=.ref a→∃ob,s.heap.get? a=some ob∧ob.dict=none:=by
 cases x with
 |str z=>
  obtain⟨t,rfl⟩:=r
  cases(show T = "str" from ty)
  exact⟨typeIs_str s z t,fun _ e=>nomatch e⟩
 |int i=>
  obtain⟨t,rfl⟩:=r
  cases(show T = "int" from ty)
  exact⟨typeIs_int s i t,fun _ e=>nomatch e⟩
 |ref p=>
  cases r
  rcases ty with ⟨rfl,xs,hq⟩|⟨rfl,o,hk,hc,hd⟩|⟨rfl,hk⟩|⟨rfl,S,n,hk⟩
  ·obtain⟨its,_,pl,_⟩:=I.list hq
   refine⟨pl.isList.typeIs,fun a e=>?_⟩
   cases e
   obtain⟨o,n,e,c,hd,_⟩:=pl
   exact⟨o,e,hd⟩
  ·refine⟨⟨o,I.kIn p o hk,hc⟩,fun a e=>?_⟩
   cases e
   exact⟨o,I.kIn _ o hk,hd⟩
  ·have z:∃o,s.heap.get? p=some o∧o.ExactDict:=by
    rcases hk with ⟨kvs,hk⟩|⟨kvs,hk⟩
    ·obtain⟨_,_,_,_,o,_,_,e,ex,_⟩:=I.hok p _ hk
     exact⟨o,e,ex⟩
    ·obtain⟨_,_,_,_,o,_,_,e,ex,_⟩:=I.hok p _ hk
     exact⟨o,e,ex⟩
   obtain⟨o,e,ex⟩:=z
   refine⟨⟨o,e,ex.1⟩,fun a e2=>?_⟩
   cases e2
   exact⟨o,e,ex.2.1⟩
  ·obtain⟨o,_,_,_,e,ex,_⟩:=I.hok p _ hk
   refine⟨⟨o,e,ex.1⟩,fun a e2=>?_⟩
   cases e2
   exact⟨o,e,ex.2.1⟩
 |_=>exact False.elim ty
def tBM0(K:PySem.W.Frag)(T:String)(r:V→List V→Hp→VK→Prop)(to:TE):TE:=fun σ H Q=>to σ H fun x H1=>tyV K T x H1∧r x [] H1 Q
def tBM(K:PySem.W.Frag)(T:String)(r:V→List V→Hp→VK→Prop)(to:TE)(t:TA):TE:=fun σ H Q=>to σ H fun x H1=>tyV K T x H1∧t σ H1 fun xs H2=>r x xs H2 Q
variable{o e:Expr}{es:List Expr}{to:TE}{t:TA}{name:Str}{apos cpos:Pos}{T id:String}{r:V→List V→Hp→VK→Prop}
theorem Zg(pa:PlainAttrs T)(slot:Slot T name id)(hty:typeOf (.builtin id)=pure (.type "method_descriptor"))(hm:MtR X id r)(ho:PE X o to)(hbase:attributeBase o name X.env (eval o X.env)=eval o X.env:=by rfl)(hline:(apos.endLine == cpos.line)=true:=by rfl):PE X (.Call (.Attribute o name apos) [] [] cpos) (tBM0 X.K T r to):=by
 intro pins s σ H Q I h
 refine wpAny_Call_method0_late hbase hline (thn (ho pins s σ H _ I h) fun v s1 ⟨x,H1,I1,r1,ty,q1⟩=>?_)
 obtain⟨h1,h2⟩:=Ss I1 r1 ty
 exact⟨T,id,pa,slot,hty,h1,h2,Calls.callWith_builtin rfl (PySem.evalArgs_none (hm pins s1 σ H1 x [] v [] Q I1 r1 .nil q1))⟩
theorem R9(pa:PlainAttrs T)(slot:Slot T name id)(hty:typeOf (.builtin id)=pure (.type "method_descriptor"))(hm:MtR X id r)(ho:PE X o to)(ha:PA X (e::es) t)(hbase:attributeBase o name X.env (eval o X.env)=eval o X.env:=by rfl)(hfew:((backTo cpos (starEach (e::es) X.env)).all (fun x=>!x.1)&&(backToKw cpos (keywordEach [] X.env)).all (fun x=>x.1.isSome)
   && decide ((e::es).length+([]:List Keyword).length+(if ([]:List Keyword).isEmpty then 0 else 1)<30))=true:=by rfl)(hline:(apos.endLine == cpos.line)=true:=by rfl)(hs:starEach (e::es) X.env=(false,eval e X.env)::starEach es X.env:=by rfl)(hplain:(backTo cpos (starEach es X.env)).any (·.1)=false:=by rfl) :
  PE X (.Call (.Attribute o name apos) (e::es) [] cpos) (tBM X.K T r to t):=by
 intro pins s σ H Q I h
 refine wpAny_Call_method_late hbase hfew hline rfl (thn (ho pins s σ H _ I h) fun v s1 ⟨x,H1,I1,r1,ty,q1⟩=>?_)
 obtain⟨h1,h2⟩:=Ss I1 r1 ty
 refine⟨T,id,pa,slot,hty,h1,h2,?_⟩
 have hA:=ha cpos pins s1 σ H1 _ I1 q1
 rw[hs] at hA ⊢
 refine Calls.callWith_builtin (by show(false||(backTo cpos (starEach es X.env)).any (·.1))=false;rw[hplain]<;>rfl) (Calls.evalArgs_plain ?_)
 exact thn hA fun us s2 ⟨vs,H2,I2,r2,q2⟩=>hm pins s2 σ H2 x vs v us Q I2 r1 r2 q2
end
end L2
namespace L2
open PySem PySem.Spec PyProof.Rows
def MtM(X:Cx)(id:String)(r:V→List V→Hp→VK→Prop):Prop:=
 ∀(pins:List (Addr×Obj)) (s:Shared) (σ:St) (H:Hp) (x:V) (xs:List V) (v:Value) (us:List Value) (Q:VK),Inv X pins σ H s→RelV x v→Vals xs us→r x xs H Q→
  wpAny (model X.prog X.w) X.A (call (.builtin id) (v::us)) (EP X pins σ Q) X.xe s

theorem Vals.one:∀{x:V} {us:List Value},Vals [x] us→∃u,us=[u]∧RelV x u
 |_,_,.cons r .nil=>⟨_,rfl,r⟩
theorem Vals.zero:∀{us:List Value},Vals [] us→us=[]
 |_,.nil=>rfl
theorem Vals.dropLast{xs:List V}{us:List Value}(h:Vals xs us):Vals xs.dropLast us.dropLast:=by
 induction h with
 |nil=>exact .nil
 |cons r t ih=>
  cases t with
  |nil=>exact .nil
  |cons q t'=>exact .cons r ih
theorem Vals.reverse{xs:List V}{us:List Value}(h:Vals xs us):Vals xs.reverse us.reverse:=by
 induction h with
 |nil=>exact .nil
 |cons r t ih=>rw[List.reverse_cons,List.reverse_cons];exact Vals.append ih (.cons r .nil)
theorem Vals.rep{xs:List V}{us:List Value}(h:Vals xs us):∀k:Nat,Vals (List.replicate k xs).flatten (List.replicate k us).flatten
 |0=>.nil
 |k+1=>by
  rw[List.replicate_succ,List.replicate_succ,List.flatten_cons,List.flatten_cons]
  exact Vals.append h (Vals.rep h k)
theorem Oc{α:Type}(l:List α):l.eraseIdx (l.length-1)=l.dropLast:=by
 induction l with
 |nil=>rfl
 |cons a r ih=>
  cases r with
  |nil=>rfl
  |cons b r=>
   have e:(a::b::r).length-1=((b::r).length-1)+1:=by
    have h1:(a::b::r).length=r.length+2:=rfl
    have h2:(b::r).length=r.length+1:=rfl
    omega
   rw[e,List.eraseIdx_cons_succ,ih]
   all_goals rfl
theorem D8(its:List Value):∀(k:Nat) (acc:List Value),
  List.foldl (fun x1 x2=>x1++x2) acc.toArray (List.replicate k its.toArray)=(acc++(List.replicate k its).flatten).toArray
 |0,acc=>by simp
 |k+1,acc=>by
  have e:acc.toArray++its.toArray=(acc++its).toArray:=by simp
  have e2:(acc++its)++(List.replicate k its).flatten=acc++(List.replicate (k+1) its).flatten:=by
   rw[List.replicate_succ,List.flatten_cons,List.append_assoc]
  rw[←e2,←D8 its k (acc++its),←e,List.replicate_succ,List.foldl_cons]

section
variable{X:Cx}{pins:List (Addr×Obj)}{σ:St}{H:Hp}{s:Shared}{l b:Addr}{xs ys zs:List V}
theorem Inv.lset{its its':List Value}{n:Nat}{f:Array Value→Array Value}{t':Nat}(I:Inv X pins σ H s)(hH:H l=some (.lst xs))(e:s.heap.get? l=some { cls:=.type "list",data:=.seq its.toArray n })(hf:f its.toArray=its'.toArray)(hv:Vals ys its')(hz:ys.length≤sizeLine) :
  Inv X pins σ (upd H l (.lst ys)) { s with heap:=s.heap.update l (Obj.mapSeq f),toks:=t' }:=by
 have q:=PySem.IsL.update e f
 rw[hf] at q
 refine I.write (x:=l) (e:=l) (by rw[hH];exact trivial) (.inl rfl) (fun b' u hb hu=>(Heap.get?_update_other s.heap (Obj.mapSeq f) (Ne.symm hb)).trans hu) ⟨_,q⟩ ?_
 exact⟨hz,its',_,hv,q⟩
theorem Inv.lnew{its:List Value}{t':Nat}(I:Inv X pins σ H s)(hv:Vals ys its)(hz:ys.length≤sizeLine) :
  Inv X pins σ (upd H s.heap.objs.size (.lst ys)) { s with heap:=s.heap.push { cls:=.type "list",data:=.seq its.toArray },toks:=t' }:=
 I.laid (fun _ _ q=>Heap.get?_push_of_some _ q) (Nat.le_refl _) ⟨hz,its,0,hv,Heap.get?_push_size _ rfl⟩
theorem Inv.fresh(I:Inv X pins σ H s):H s.heap.objs.size=none:=I.hok.fresh (Nat.le_refl _)
theorem Inv.lstM(I:Inv X pins σ H s)(hH:H l=some (.lst xs)):xs.length≤sizeLine∧∃(its:List Value) (n:Nat),Vals xs its∧xs.length=its.length∧s.heap.get? l=some { cls:=.type "list",data:=.seq its.toArray n }:=by
 obtain⟨z,its,n,r,e⟩:=I.hok l _ hH
 exact⟨z,its,n,r,r.length,e⟩

theorem L9{n:Nat}(h:n≤sizeLine):Builtin.List.listTooLong n=false:=by
 unfold Builtin.List.listTooLong
 exact decide_eq_false (by omega)
end
section
variable{X:Cx}
def Wb:V→List V→Hp→VK→Prop:=fun x vs H Q=>∃l xs y,x=.ref l∧vs=[y]∧H l=some (.lst xs)∧xs.length<sizeLine∧Q .non (upd H l (.lst (xs++[y])))
theorem Fw:MtM X "list.append" Wb:=by
 intro pins s σ H x vs v us Q I rx rv h
 obtain⟨l,xs,y,rfl,rfl,hH,hz,q⟩:=h
 cases rx
 obtain⟨u,rfl,ru⟩:=rv.one
 obtain⟨z,its,n,r,hl,e⟩:=I.lstM hH
 refine call_meets F.slot_list_append ⟨_,e,rfl⟩ F.entry_list_append (F.args_list_append_2 _ _) (PySem.list_append l its.toArray n u (by rw[List.size_toArray];omega)) ⟨e,?_⟩
 refine⟨.non,_,I.lset (its':=its++[u]) hH e (by simp) (r.append (.cons ru .nil)) ?_,rfl,q⟩
 rw[List.length_append,List.length_singleton]
 omega

def Wa:V→List V→Hp→VK→Prop:=fun x vs H Q=>∃l b xs zs,x=.ref l∧vs=[.ref b]∧H l=some (.lst xs)∧H b=some (.lst zs)∧xs.length+zs.length≤sizeLine∧Q .non (upd H l (.lst (xs++zs)))
theorem Aaj:MtM X "list.extend" Wa:=by
 intro pins s σ H x vs v us Q I rx rv h
 obtain⟨l,b,xs,zs,rfl,rfl,hH,hB,hz,q⟩:=h
 cases rx
 obtain⟨u,rfl,ru⟩:=rv.one
 cases ru
 obtain⟨z,its,n,r,hl,e⟩:=I.lstM hH
 obtain⟨z2,its2,n2,r2,hl2,e2⟩:=I.lstM hB
 have hsz:its.toArray.size+its2.toArray.size≤sizeLine:=by rw[List.size_toArray,List.size_toArray];omega
 have hlong:¬(!its.toArray.isEmpty&&Builtin.List.listTooLong (its.toArray.size+its2.toArray.size))=true:=by
  rw[L9 hsz,Bool.and_false]
  exact Bool.false_ne_true
 refine call_meets F.slot_list_extend ⟨_,e,rfl⟩ F.entry_list_extend (F.args_list_extend_2 _ _)
  (AutoSeq1.list_extend_list_list_0 l its.toArray n b its2.toArray n2 hlong (by rw[List.size_toArray];omega) (by omega)) ⟨e,e2,?_⟩
 refine⟨.non,_,I.lset (its':=its++its2) hH e (by simp) (r.append r2) ?_,rfl,q⟩
 rw[List.length_append]
 omega

def rPop:V→List V→Hp→VK→Prop:=fun x vs H Q=>∃l xs y,x=.ref l∧vs=[]∧H l=some (.lst xs)∧xs[xs.length-1]? = some y∧Q y (upd H l (.lst xs.dropLast))
theorem mt_pop:MtM X "list.pop" rPop:=by
 intro pins s σ H x vs v us Q I rx rv h
 obtain⟨l,xs,y,rfl,rfl,hH,hy,q⟩:=h
 cases rx
 have hus:=rv.zero
 subst hus
 obtain⟨z,its,n,r,hl,e⟩:=I.lstM hH
 obtain⟨u,hu,ru⟩:=r.get hy
 have hy':its.toArray[its.toArray.size-1]? = some u:=by
  show its.toArray[its.length-1]? = some u
  rw[←Array.getElem?_toList,←hl]
  exact hu
 refine call_meets F.slot_list_pop ⟨_,e,rfl⟩ F.entry_list_pop (F.args_list_pop_1 _) (MeetsSeq.list_pop_last l its.toArray n u hy' (by rw[List.size_toArray];omega)) ⟨e,?_⟩
 refine⟨y,_,I.lset (its':=its.dropLast) hH e ?_ r.dropLast ?_,ru,q⟩
 ·show its.toArray.eraseIdxIfInBounds (its.toArray.size-1)=its.dropLast.toArray
  rw[List.size_toArray,List.eraseIdxIfInBounds_toArray,Oc]
 ·rw[List.length_dropLast]
  omega

def T2:V→List V→Hp→VK→Prop:=fun x vs H Q=>∃l xs,x=.ref l∧vs=[]∧H l=some (.lst xs)∧Q .non (upd H l (.lst xs.reverse))
theorem N4:MtM X "list.reverse" T2:=by
 intro pins s σ H x vs v us Q I rx rv h
 obtain⟨l,xs,rfl,rfl,hH,q⟩:=h
 cases rx
 have hus:=rv.zero
 subst hus
 obtain⟨z,its,n,r,hl,e⟩:=I.lstM hH
 refine call_meets F.slot_list_reverse ⟨_,e,rfl⟩ F.entry_list_reverse (F.args_list_reverse_1 _) (AutoSeq1.list_reverse_list_0 l its.toArray n (by rw[List.size_toArray];omega)) ⟨e,?_⟩
 refine⟨.non,_,I.lset (its':=its.reverse) hH e (by simp) r.reverse ?_,rfl,q⟩
 rw[List.length_reverse]
 omega

def rCat:R2:=fun x y H Q=>∃l b xs zs,x=.ref l∧y=.ref b∧H l=some (.lst xs)∧H b=some (.lst zs)∧xs.length+zs.length≤sizeLine∧∀p,H p=none→Q (.ref p) (upd H p (.lst (xs++zs)))
theorem Zn:OpR X (binaryOp .Add) rCat:=by
 intro pins s σ H x y v u Q I rx ry h
 obtain⟨l,b,xs,zs,rfl,rfl,hH,hB,hz,q⟩:=h
 cases rx
 cases ry
 obtain⟨z,its,n,r,hl,e⟩:=I.lstM hH
 obtain⟨z2,its2,n2,r2,hl2,e2⟩:=I.lstM hB
 refine PySem.P.add_list e e2 ?_ (by rw[List.size_toArray,List.size_toArray];omega)
 have ea:its.toArray++its2.toArray=(its++its2).toArray:=by simp
 rw[ea]
 exact⟨.ref _,_,I.lnew (t':=s.toks) (r.append r2) (by rw[List.length_append];omega),rfl,q _ I.fresh⟩
def rRep:R2:=fun x y H Q=>∃l k xs,x=.ref l∧y=.int k∧H l=some (.lst xs)∧-(2 ^ 63)≤k∧k<2 ^ 63∧xs.length*k.toNat≤sizeLine∧
 ∀p,H p=none→Q (.ref p) (upd H p (.lst (List.replicate k.toNat xs).flatten))
theorem Ko{α:Type}(xs:List α)(k:Nat):(List.replicate k xs).flatten.length=k*xs.length:=by
 induction k with
 |zero=>simp
 |succ k ih=>rw[List.replicate_succ,List.flatten_cons,List.length_append,ih,Nat.succ_mul,Nat.add_comm]
theorem Zj:OpR X (binaryOp .Mult) rRep:=by
 intro pins s σ H x y v u Q I rx ry h
 obtain⟨l,k,xs,rfl,rfl,hH,h1,h2,hz,q⟩:=h
 cases rx
 obtain⟨t,rfl⟩:=ry
 obtain⟨z,its,n,r,hl,e⟩:=I.lstM hH
 have hlen:its.toArray.size*k.toNat≤sizeLine:=by rw[List.size_toArray,←hl];exact hz
 have hcap:¬its.toArray.size*k.toNat>(2 ^ 63-1) / 8:=by
  have:(sizeLine:Nat)≤(2 ^ 63-1) / 8:=by decide
  omega
 have hfit:¬(!Builtin.List.listFitsIndex k)=true:=by
  rw[fitsIndex_both h1 h2]
  exact Bool.false_ne_true
 have hlong:¬Builtin.List.listTooLong (its.toArray.size*k.toNat)=true:=by
  rw[L9 hlen]
  exact Bool.false_ne_true
 have hnew:List.foldl (fun x1 x2=>x1++x2) #[] (List.replicate (if its.toArray.isEmpty=true then 0 else k.toNat) its.toArray)=(List.replicate k.toNat its).flatten.toArray:=by
  have f0:∀m:Nat,List.foldl (fun x1 x2=>x1++x2) #[] (List.replicate m its.toArray)=(List.replicate m its).flatten.toArray:=fun m=>by
   have:=D8 its m []
   rw[List.nil_append] at this
   exact this
  rw[f0]
  cases its with
  |nil=>simp
  |cons a r'=>rw[if_neg (by simp)]
 refine wpAny_binaryOp_repeat_ref (T:="list") (U:="int") (by decide) ⟨_,e,rfl⟩ (fun s'=>typeIs_int s' k t) noFill_list_mul F.fills_int_mul F.slot_int_rmul repeat_list F.slot_int_index.lookup
  (call_meets F.slot_int_rmul (typeIs_int s k t) F.entry_int_rmul (F.args_int_rmul_2 _ _) (int___rmul___int_list k t l its.toArray n)
   ⟨e,rfl,⟨_,e,rfl⟩,call_meets F.slot_list_mul ⟨_,e,rfl⟩ F.entry_list_mul (F.args_list_mul_2 _ _) (AutoListH.list___mul___list_int_3 l its.toArray n k t hfit hcap hlong) ⟨e,?_⟩⟩)
 rw[hnew]
 exact⟨.ref _,_,I.lnew (t':=s.toks) (r.rep k.toNat) (by rw[Ko,Nat.mul_comm];exact hz),rfl,q _ I.fresh⟩

end
section
variable{prog:Program}{w:World}{A:Around}{E:Value→Shared→Prop}{s:Shared}
end
section
variable{X:Cx}
end
end L2
namespace L2
open PySem PySem.Spec PyProof.Rows
section
variable{κ:Type}[DecidableEq κ]
def Di(kvs:List (κ×V))(k:κ):Option V:=(kvs.find? fun kv=>decide (kv.1=k)).map (·.2)
def Et(kvs:List (κ×V))(k:κ)(v:V):List (κ×V):=
 if (kvs.any fun kv=>decide (kv.1=k))=true then kvs.map (fun kv=>if kv.1=k then (kv.1,v) else kv) else kvs++[(k,v)]
theorem Tj{p:κ×V}{r:List (κ×V)}{k:κ}(e:p.1=k):Di (p::r) k=some p.2:=by simp[Di,List.find?_cons,e]
theorem Tk{p:κ×V}{r:List (κ×V)}{k:κ}(e:¬p.1=k):Di (p::r) k=Di r k:=by simp[Di,List.find?_cons,e]
theorem M2(kvs:List (κ×V))(k:κ)(v:V):(Et kvs k v).length≤kvs.length+1:=by
 unfold Et
 split
 ·rw[List.length_map];omega
 ·rw[List.length_append,List.length_cons,List.length_nil];omega
theorem KV.val{kvs:List (κ×V)}{vs:List (κ×Value)}(r:KV kvs vs)(k:κ):RelO (Di kvs k) (valueAt vs k):=by
 unfold KV at r
 induction r with
 |nil=>exact True.intro
 |@cons p q ps qs h t ih=>
  obtain⟨h1,h2⟩:=h
  by_cases e:p.1=k
  ·have e':q.1=k:=h1.symm.trans e
   have b:valueAt (q::qs) k=some q.2:=by simp[valueAt,List.find?_cons,e']
   rw[Tj e,b];exact h2
  ·have e':¬q.1=k:=fun z=>e (h1.trans z)
   have b:valueAt (q::qs) k=valueAt qs k:=by simp[valueAt,List.find?_cons,e']
   rw[Tk e,b];exact ih
theorem KV.any{kvs:List (κ×V)}{vs:List (κ×Value)}(r:KV kvs vs)(k:κ):(kvs.any fun kv=>decide (kv.1=k))=vs.any fun kv=>decide (kv.1=k):=by
 unfold KV at r
 induction r with
 |nil=>rfl
 |cons h t ih=>rw[List.any_cons,List.any_cons,ih,h.1]
theorem KV.repl{kvs:List (κ×V)}{vs:List (κ×Value)}(r:KV kvs vs)(k:κ){y:V}{u:Value}(ry:RelV y u) :
  KV (kvs.map fun kv=>if kv.1=k then (kv.1,y) else kv) (vs.map fun kv=>if kv.1=k then (kv.1,u) else kv):=by
 unfold KV at r ⊢
 induction r with
 |nil=>exact .nil
 |@cons p q ps qs h t ih=>
  rw[List.map_cons,List.map_cons]
  refine .cons ?_ ih
  obtain⟨h1,h2⟩:=h
  by_cases e:p.1=k
  ·rw[if_pos e,if_pos (h1.symm.trans e)];exact⟨h1,ry⟩
  ·rw[if_neg e,if_neg (fun z=>e (h1.trans z))];exact⟨h1,h2⟩
theorem KV.put{kvs:List (κ×V)}{vs:List (κ×Value)}(r:KV kvs vs)(k:κ){y:V}{u:Value}(ry:RelV y u):KV (Et kvs k y) (stored vs k u):=by
 unfold Et stored
 rw[r.any k]
 by_cases e:(vs.any fun kv=>decide (kv.1=k))=true
 ·rw[if_pos e,if_pos e];exact r.repl k ry
 ·rw[if_neg e,if_neg e];exact Paired.snoc r ⟨rfl,ry⟩
theorem KV.length{kvs:List (κ×V)}{vs:List (κ×Value)}(r:KV kvs vs):kvs.length=vs.length:=Paired.length r
end
theorem Ot{P:Program}{w:World}{k:Key}{u:Value}(r:RelV (kV k) u):(A5 P w).is k u=true:=by
 cases k with
 |inl i=>obtain⟨t,e⟩:=(show ∃t,u=Value.int i t from r);subst e;exact M1 P w i t
 |inr x=>obtain⟨t,e⟩:=(show ∃t,u=Value.str x t from r);subst e;exact M0 P w x t
theorem Jr{P:Program}{w:World}:∀{ks:List Key} {us:List Value},Vals (ks.map kV) us→ItemsAre (A5 P w) ks us
 |[],_,r=>by rw[List.map_nil] at r;cases r;exact .nil
 |k::ks,_,r=>by
  rw[List.map_cons] at r
  cases r with
  |cons h t=>exact .cons (Ot h) (Jr t)

abbrev KT(H:Hp):List (List Key×V)→List (List Key×Addr×Value)→Prop:=Paired fun p q=>p.1=q.1∧H q.2.1=some (.tup (p.1.map kV))∧RelV p.2 q.2.2
section
variable{P:Program}{w:World}{H:Hp}{h:Heap}{a:Addr}
theorem Xr{u:HO}(ok:HOk P w H h)(e:Rd H a u):ObjOk P w H h a u:=e.ok ok
theorem X1{kvs:List (Key×V)}(ok:HOk P w H h)(e:Rd H a (.dK kvs)):kvs.length≤sizeLine∧(a == sysModules)=false∧∃vs,KV kvs vs∧h.DictOf (A5 P w) a vs:=
 show ObjOk P w H h a (.dK kvs) from Xr ok e
theorem Lq{kvs:List (Key×V)}(ok:HOk P w H h)(e:H a=some (.dK kvs)):kvs.length≤sizeLine∧(a == sysModules)=false∧∃vs,KV kvs vs∧h.DictOf (A5 P w) a vs:=X1 ok (.inl e)
theorem Z0{ks:List Key}(ok:HOk P w H h)(e:H a=some (.tup (ks.map kV))):(tupleKind (A5 P w)).is h ks a:=by
 obtain⟨_,its,r,o,h1,h2,n,h3⟩:=(show ObjOk P w H h a (.tup (ks.map kV)) from ok a _ e)
 exact⟨o,its.toArray,n,h1,h2,h3,by simpa using Jr r⟩
theorem dt_rd{kvs:List (List Key×V)}(ok:HOk P w H h)(e:Rd H a (.dT kvs)):kvs.length≤sizeLine∧(a == sysModules)=false∧
  ∃xs,KT H kvs xs∧h.DictOfH (tupleKind (A5 P w)) a xs:=by
 obtain⟨z,y,xs,r,o,es,ep,h1,h2,h3,h4,h5⟩:=(show ObjOk P w H h a (.dT kvs) from Xr ok e)
 refine⟨z,y,xs,r,o,es,ep,h1,h2,h3,h4,fun x hx=>?_,h5⟩
 have all:∀{l:List (List Key×V)} {m:List (List Key×Addr×Value)},KT H l m→∀x∈m,(tupleKind (A5 P w)).is h x.1 x.2.1:=by
  intro l m q
  induction q with
  |nil=>intro x hx;exact nomatch hx
  |@cons p q ps qs hq t ih=>
   intro x hx
   rcases List.mem_cons.mp hx with e|hx
   ·subst e
    exact Z0 ok (by rw[←hq.1];exact hq.2.1)
   ·exact ih x hx
 exact all r x hx
end
def DGet(H:Hp)(a:Addr)(y:V)(r:Option V):Prop:=
 (∃kvs k,Rd H a (.dK kvs)∧y=kV k∧r=Di kvs k)∨∃kvs k b,Rd H a (.dT kvs)∧y=.ref b∧H b=some (.tup (k.map kV))∧r=Di kvs k
def DPut(H:Hp)(a:Addr)(y v:V)(H':Hp):Prop:=
 (∃kvs k,H a=some (.dK kvs)∧y=kV k∧kvs.length<sizeLine∧H'=upd H a (.dK (Et kvs k v)))∨
 ∃kvs k b,H a=some (.dT kvs)∧y=.ref b∧H b=some (.tup (k.map kV))∧kvs.length<sizeLine∧H'=upd H a (.dT (Et kvs k v))
theorem DGet.k{H:Hp}{a:Addr}{kvs:List (Key×V)}{k:Key}(e:H a=some (.dK kvs)):DGet H a (kV k) (Di kvs k):=.inl ⟨kvs,k,.inl e,rfl,rfl⟩
theorem DGet.t{H:Hp}{a b:Addr}{kvs:List (List Key×V)}{k:List Key}(e:H a=some (.dT kvs))(eb:H b=some (.tup (k.map kV))):DGet H a (.ref b) (Di kvs k):=.inr ⟨kvs,k,b,.inl e,rfl,eb,rfl⟩
theorem DPut.k{H:Hp}{a:Addr}{kvs:List (Key×V)}{k:Key}{v:V}(e:H a=some (.dK kvs))(hl:kvs.length<sizeLine):DPut H a (kV k) v (upd H a (.dK (Et kvs k v))):=.inl ⟨kvs,k,e,rfl,hl,rfl⟩
theorem DPut.t{H:Hp}{a b:Addr}{kvs:List (List Key×V)}{k:List Key}{v:V}(e:H a=some (.dT kvs))(eb:H b=some (.tup (k.map kV)))(hl:kvs.length<sizeLine) :
  DPut H a (.ref b) v (upd H a (.dT (Et kvs k v))):=.inr ⟨kvs,k,b,e,rfl,eb,hl,rfl⟩


section
variable{X:Cx}{pins:List (Addr×Obj)}{σ:St}{H:Hp}{s:Shared}{a:Addr}{y v:V}{u r:Value}{o:Option V}{A:Around}{E:Value→Shared→Prop}
theorem Inv.big(I:Inv X pins σ H s):sysModules<s.heap.objs.size:=by
 have h:mainGlobals<s.heap.objs.size:=(I.mod.glob.keeps I.bk).lt
 exact Nat.lt_trans (by decide) h

theorem Xf{h':Heap}{t':Nat}{ob:HO}(I:Inv X pins σ H s)(mu:Mut (H a))(hs:Heap.SameBut a s.heap h')(he:∃q,h'.get? a=some q)(new:ObjOk X.prog X.w (upd H a ob) h' a ob) :
  Inv X pins σ (upd H a ob) { s with heap:=h',toks:=t' }:=
 I.write (x:=a) (e:=a) mu (.inl rfl) (fun b q hb z=>(hs.2 b hb).trans z) he new
theorem Aaa{P:Program}{w:World}{H':Hp}{h':Heap}{kvs:List (Key×V)}{vs:List (Key×Value)}(z:kvs.length≤sizeLine)(hd:(a == sysModules)=false)(rel:KV kvs vs)(dd:h'.DictOf (A5 P w) a vs) :
  ObjOk P w H' h' a (.dK kvs):=⟨z,hd,vs,rel,dd⟩
end
section
variable{X:Cx}{pins:List (Addr×Obj)}{σ:St}{H:Hp}{s:Shared}{a:Addr}{kvs:List (Key×V)}{k:Key}{u:Value}{A:Around}{E:Value→Shared→Prop}
end
def Yb(i:Expr):Prop:=∀ov iv,subscripted i false ov iv=operate [ov,iv] (getItem ov iv)
theorem Vy{prog:Program}{w:World}{A:Around}{E:Value→Shared→Prop}{s:Shared}{env:Env}{value slice:Expr}{pos:Pos}{T id:String}{Q:Value→Shared→Prop}(hl:typeLookup (.type T) "__getitem__" = pure (some (.builtin id)))(hs:Yb slice)(h:wpAny (model prog w) A (eval value env) (fun o s₁=>wpAny (model prog w) A (eval slice env) (fun i s₂=>s₂.TypeIs o T∧wpAny (model prog w) A (getItem o i) Q E s₂) E s₁) E s) :
  wpAny (model prog w) A (eval (.Subscript value slice pos) env) Q E s:=by
 refine Subscript_ (wpAny_mono h (fun o s₁ h₁=>wpAny_mono h₁ (fun i s₂ h₂=>?_) fun _ _ x=>x) fun _ _ x=>x)
 obtain⟨hT,h₂⟩:=h₂
 unfold subscriptTail
 refine wpAny_bind ?_
 rw[getitemInPython_of_ne hT.not_modules]
 refine wpAny_bind (wpAny_specialOf hT hl ?_)
 have fin:wpAny (model prog w) A (subscripted slice false o i) (fun r s₃=>wpAny (model prog w) A (letTemporaryGo value o r >>= fun _=>pure r) Q E s₃) E s₂:=by
  rw[hs o i]
  exact wpAny_operating (wpAny_mono h₂ (fun r s₃ h₃=>wpAny_bind (wpAny_letTemporaryGo (wpAny_pure h₃))) fun _ _ x=>x)
 first
  |exact wpAny_pure (wpAny_bind fin)
  |exact wpAny_bind (wpAny_pure (wpAny_bind fin))
  |exact wpAny_bind fin

section
variable{X:Cx}{o i e value:Expr}{pos pos' tpos:Pos}{td ty tv:TE}
end
theorem Mp{P:Program}{w:World}{H:Hp}(h:Heap)(hb:sysModules<h.objs.size):ObjOk P w H (h.push { cls:=.type "dict",data:=.dict #[] }) h.objs.size (.dK []):=
 ⟨Nat.zero_le _,beq_eq_false_iff_ne.mpr (Ne.symm (Nat.ne_of_lt hb)),[],.nil,Heap.DictOf.new h⟩
def Yf:TE:=fun _ H Q=>∀p,H p=none→Q (.ref p) (upd H p (.dK []))
section
variable{X:Cx}{pos:Pos}
theorem pe_dnewK:PE X (.Dict [] [] pos) Yf:=fun pins s σ H Q I h=>
 wpAny_Dict_empty ⟨.ref s.heap.objs.size,_,I.laid (a:=s.heap.objs.size) (o:=.dK []) (t':=s.toks) (fun _ _ q=>Heap.get?_push_of_some _ q) (Nat.le_refl _) (Mp s.heap I.big),rfl,h _ (I.hok.fresh (Nat.le_refl _))⟩
end
def IsD(H:Hp)(a:Addr):Prop:=(∃kvs,Rd H a (.dK kvs))∨∃kvs,Rd H a (.dT kvs)
theorem Z5{X:Cx}{pins:List (Addr×Obj)}{σ:St}{H:Hp}{s:Shared}{a:Addr}(I:Inv X pins σ H s)(d:IsD H a) :
  s.TypeIs (.ref a) "dict"∧(∀b,Value.ref a=.ref b→∃ob,s.heap.get? b=some ob∧ob.dict=none)∧(a == sysModules)=false:=by
 rcases d with ⟨kvs,e⟩|⟨kvs,e⟩
 ·obtain⟨_,hd,vs,_,dd⟩:=X1 I.hok e
  refine⟨dd.typeIs,fun b q=>?_,hd⟩
  cases q
  obtain⟨ob,_,_,h1,h2,_⟩:=dd
  exact⟨ob,h1,h2.2.1⟩
 ·obtain⟨_,hd,xs,_,dd⟩:=dt_rd I.hok e
  refine⟨dd.typeIs,fun b q=>?_,hd⟩
  cases q
  obtain⟨ob,_,_,h1,h2,_⟩:=dd
  exact⟨ob,h1,h2.2.1⟩

section
variable{X:Cx}{pins:List (Addr×Obj)}{σ:St}{H:Hp}{s:Shared}{a:Addr}{y d:V}{u r:Value}{o:Option V}{A:Around}{E:Value→Shared→Prop}
end
section
variable{X:Cx}{o e f:Expr}{apos cpos:Pos}{td ty tx:TE}
end
section
variable{X:Cx}{pins:List (Addr×Obj)}{σ:St}{H:Hp}{s:Shared}{a:Addr}{kvs:List (Key×V)}{A:Around}{E:Value→Shared→Prop}
end
section
variable{X:Cx}{pins:List (Addr×Obj)}{σ:St}{H:Hp}{s:Shared}{a:Addr}{y:V}{u:Value}{A:Around}{E:Value→Shared→Prop}
end
end L2
namespace Att
open PySem PySem.W PySem.Calls PyProof.Rows
theorem Gi{P:Params}{h:Heap}:∀(ns:List Int) (vs:List Value),WellAll P h vs (ns.map WData.int)→IntsAre vs ns:=by
 intro ns
 induction ns with
 |nil=>
  intro vs w
  rw[List.map_nil] at w
  cases w
  exact .nil
 |cons n ns ih=>
  intro vs w
  rw[List.map_cons] at w
  cases w with
  |cons a b=>
   cases a
   exact .cons _ _ (ih _ b)

theorem P5{l:OpenLaw}{n:Nat}(hn:l.most=some n){P:Params}{h:Heap}{args:List WData}{vals:List Value}(hpre:l.row.toRowW.claim.pre args=true)(hwl:WellAll P h vals args) :
  ∃a vs ns,vals=[Value.ref a]∧args=[WData.list (ns.map WData.int)]∧h.get? a=some { cls:=.type "list",data:=.seq vs.toArray }∧IntsAre vs ns∧ns.length≤n:=by
 have hsh:WShape.hasAll [] args [.list .int]=true:=(pre_splitW hpre).1
 have hc:l.pre.holds [] { args:=args }=true:=(pre_splitW hpre).2
 obtain⟨d,r,rfl,h1,h2⟩:=hasAllW_cons hsh
 obtain rfl:=hasAllW_nil h2
 obtain⟨xs,rfl,h3⟩:=hasW_list h1
 obtain⟨ns,rfl⟩:=items_int h3
 have hlen:ns.length≤n:=by
  unfold OpenLaw.pre at hc
  have h4:(WTm.not (.lt (.lit (.int (n:Int))) (.len (.arg 0)))).holds [] { args:=[.list (ns.map .int)] }=true:=by
   have h4:=(holds_andW hc).1
   rw[hn] at h4
   exact h4
  have h5:=condW_of h4 (w_not (w_lt w_lit (w_len_list (w_arg rfl))))
  rw[List.length_map] at h5
  refine Nat.le_of_not_lt fun q=>?_
  have q':(n:Int)<((ns.length:Nat):Int):=by omega
  first
   |(rw[decide_eq_true q'] at h5;exact absurd h5 (by decide))
   |(simp at h5;omega)
 cases hwl with
 |cons w1 w2=>
  cases w2
  cases w1 with
  |list ho hall=>exact⟨_,_,ns,rfl,rfl,ho,Gi ns _ hall,hlen⟩

theorem Qk(l:OpenLaw)(args:List WData):l.row.toRowW.claim.post args (.bool true) args=true:=
 postW_of (r:=l.row.toRowW) (X:=(true == true))
  (show WShape.has [] (.bool true) .bool=true by first|rfl|decide|simp[WShape.has,WShape.arms,WShape.armsAll])
  (show(WTm.eq .res (.lit (.bool true))).value [] { args:=args,res:=some (.bool true),after:=args }=some (.bool (true == true)) from w_eq_bool (w_res rfl) w_lit) rfl

theorem attach_call{l:OpenLaw}{n:Nat}{q:Program}{loose:List Str}{XP:(Str→Option Value)→Heap→Prop}{YP:World→Heap→Prop}{d:DefRec}(hn:l.most=some n)(hdf:d.params.defaults=[])(call:∀(w:World) (s₀ s₁:Shared) (mg mb:Str→Option Value) (fa:Addr) (o:Obj) (pm cd doc:Value) (a:Addr) (vs:List Value) (ns:List Int),
   Ground q loose [] XP w s₀ mg mb s₁.heap→YP w s₁.heap→
   s₁.heap.get? fa=some o→o.data=.func (docDef d.name d.params d.body d.scope pm cd doc)→s₁.heap.CodeRec cd d.name→mg d.name=some (.ref fa)→
   s₁.heap.get? a=some { cls:=.type "list",data:=.seq vs.toArray }→IntsAre vs ns→ns.length≤n→s₁.gens=#[]→
   codeAny (model l.prog w) callerA (.call (.ref fa) ⟨[.ref a],[]⟩) (fun r s'=>r=.ok (.ret (.bool true))∧OldK s₁.heap s'.heap∧s'.os=s₁.os∧AllBare s'.gens) s₁) :
  WalkO q loose XP YP l.row.toRowW d [] (fun f vs=>PySem.call f vs):=by
 intro w s₀ s₁ mg mb G Y fa o pm cd doc dV kV ho hd hcd hD hmg hg args vals as hpre hlay hrd hwl hlo
 obtain rfl:dV=.none:=Dflts.none hD hdf
 obtain rfl:kV=.none:=Dflts.noKw hD
 obtain⟨a,vs,ns,rfl,rfl,hobj,hints,hlen⟩:=P5 hn hpre hwl
 refine enter_call (codeAny_mono (call w s₀ s₁ mg mb fa o pm cd doc a vs ns G Y ho (fd_plain hd) hcd hmg hobj hints hlen hg) fun r s' hq=>?_)
 obtain⟨rfl,h2,h3,h4⟩:=hq
 exact⟨.inl ⟨.bool true,.bool true,[],rfl,fun _=>rfl,.bool true,Qk l _,fun _=>⟨List.Pairwise.nil,fun _ hm=>(nomatch hm)⟩⟩,h2,h3,h4⟩

section
variable{prog:Program}{w:World}{A:Around}{E:Value→Shared→Prop}{s:Shared}{K:Frag}
end
end Att
namespace L2
open PySem PySem.Spec PyProof.Rows
theorem vals_ints:∀{vs:List Value} {ns:List Int},IntsAre vs ns→Vals (ns.map V.int) vs
 |_,_,.nil=>.nil
 |_,_,.cons n t h=>.cons ⟨t,rfl⟩ (vals_ints h)

end L2
namespace L2
open PySem PySem.Spec PyProof.Rows
abbrev KOf{K:W.Frag}{h:Heap}(_:K.In h):PySem.W.Frag:=K

end L2
namespace L2
open PySem PySem.Spec PyProof.Rows
def D5(s:Stmt):Arguments:=match s with
 |.FunctionDef _ a _ _ _ _ _ _ _ _=>a
 |_=>{ posonlyargs:=[],args:=[],vararg:=none,kwonlyargs:=[],kw_defaults:=[],kwarg:=none,defaults:=[] }
def Bx(s:Stmt):List Stmt:=match s with
 |.FunctionDef _ _ b _ _ _ _ _ _ _=>b
 |_=>[]
def Ac(s:Stmt):Scope:=match s with
 |.FunctionDef _ _ _ _ _ _ sc _ _ _=>sc
 |_=>{ kind:=.function,names:=[],isGenerator:=false,isCoroutine:=false }

abbrev CX0:CXT:=fun _ _ _ _ _ _=>False
abbrev E0:XK:=fun _ _ _=>False
structure Fun(K:PySem.W.Frag)(x qual:Str)(st:Stmt)(f:Addr)(fd:FuncData):Prop where
 ex:∃(oc:Value) (od:Option Addr) (kV doc pm:Value) (an:Option Addr) (cdv ct:Value) (osl:Array (Option Value)),
  fd=PySem.W.fnOf x qual (D5 st) (Bx st) (Ac st) .none kV doc pm an cdv ct∧K.lookup f=some ⟨oc,od,.func fd,osl⟩∧PySem.W.codeIn K cdv qual=true
 kp:PySem.W.keepIn K (.ref f)=true
section
variable{P:Program}{w:World}{K:W.Frag}{mg:Str→Option Value}{base:Heap}
theorem Fun.ok{x qual:Str}{st:Stmt}{f:Addr}{fd:FuncData}{N ps:List Str}{k:Nat}{sp:Sp}(F:Fun K x qual st f fd)(S:FnScope N ps (Ac st))(len:∀vs H Q E,sp vs H Q E→vs.length=ps.length)(hbody:∀(cdv:Value) (A:Around) (outer:List Env) (s:Shared) (H:Hp) (vs:List V) (Q:VK) (E:XK),Room k (A.deeper (envOfC qual (Ac st) s.heap.objs.size f cdv))→sp vs H Q E→
   ∃t,PSs (Cl CX0 P w K mg base N qual (Ac st) f cdv A outer s H E).nox (Bx st) t∧t { nx:=fun _ H'=>Q .non H',rt:=Q } (start N vs) H):FnOk P w K mg base CX0 (k+1) f fd ps sp:=by
 obtain⟨oc,od,kV,doc,pm,an,cdv,ct,osl,rfl,lk,hcd⟩:=F.ex
 refine Sg lk hcd S len fun A outer s H vs Q E hr hsp=>?_
 obtain⟨t,h,q⟩:=hbody cdv A outer s H vs Q E hr hsp
 exact⟨t,h.nox,q⟩
theorem Fun.binds{x qual:Str}{st:Stmt}{f:Addr}{fd:FuncData}{ps:List Str}(F:Fun K x qual st f fd)(h:∀(kV doc pm:Value) (an:Option Addr) (cdv ct:Value) (us:List Value),us.length=ps.length→bindArgs (PySem.W.fnOf x qual (D5 st) (Bx st) (Ac st) .none kV doc pm an cdv ct) ⟨us,[]⟩=pure (ps.zip us)):Binds K fd ps []:=by
 obtain⟨oc,od,kV,doc,pm,an,cdv,ct,osl,rfl,lk,hcd⟩:=F.ex
 exact .all (h kV doc pm an cdv ct)
theorem S6{x qual:Str}{st:Stmt}{f:Addr}{oc:Value}{od an:Option Addr}{osl:Array (Option Value)}{kV doc pm cdv ct:Value}(l:K.lookup f=some ⟨oc,od,.func (PySem.W.fnOf x qual (D5 st) (Bx st) (Ac st) .none kV doc pm an cdv ct),osl⟩)(c:PySem.W.codeIn K cdv qual=true)(k:PySem.W.keepIn K (.ref f)=true):Fun K x qual st f (PySem.W.fnOf x qual (D5 st) (Bx st) (Ac st) .none kV doc pm an cdv ct):=⟨⟨oc,od,kV,doc,pm,an,cdv,ct,osl,rfl,l,c⟩,k⟩
end
theorem Bo{n:Nat}(h:n≤1000):n<sizeLine:=Nat.lt_of_le_of_lt h (by decide)

section
variable{X:Cx}
theorem pv(i:Nat){x:Str}{pos:Pos}(hN:X.N[i]? = some x:=by rfl)(hv:Vis X.env.scope x:=by first|exact Or.inl rfl|exact Or.inr (Or.inl rfl)|exact Or.inr (Or.inr rfl))(hd:(x == ("__debug__" : Str))=false:=by decide)(hcd:(x == ("__classdict__" : Str))=false:=by decide):PE X (.Name x pos) (tVar i):=Kd hN hv hd hcd
end
def Same(H H':Hp):Prop:=∀b o,H b=some o→H' b=some o
theorem Same.trans{H H1 H2:Hp}(a:Same H H1)(b:Same H1 H2):Same H H2:=fun c o h=>b c o (a c o h)
theorem Same.free{H H':Hp}(e:Same H H'){l:Addr}(h:H' l=Option.none):H l=Option.none:=by
 cases q:H l with
 |none=>rfl
 |some o=>
  rw[e l o q] at h
  cases h
section
variable{X:Cx}
end
section
variable{κ:Type}[DecidableEq κ]
end
end L2
namespace D3
open PySem PySem.Spec
open PyProof.Rows hiding St
open L2 hiding St
inductive D where
 |non|bl (b:Bool)|int (i:Int)|str (x:Str)|tup (ds:List D)|ref (a:Addr)|ty (n:String)|lint (ns:List Int)
 deriving Inhabited

def RdI(K:PySem.W.Frag)(H:Hp)(a:Addr)(xs:List V):Prop:=(∃o,H a=some (.frz o (.lst xs)))∨
 ∃(o:Obj) (its:Array Value) (n:Nat),K.lookup a=some o∧o.cls=.type "list"∧o.dict=none∧o.data=.seq its n∧its.size≤sizeLine∧Vals xs its.toList
theorem RdI.sq{K:W.Frag}{H:Hp}{a:Addr}{xs:List V}(h:RdI K H a xs):SqL K H a xs:=h.elim (fun⟨o,e⟩=>.inl (.inr ⟨o,e⟩)) .inr
mutual
inductive DV (K:PySem.W.Frag) (H:Hp):D→V→Prop where
 |non:DV K H .non .non
 |bl (b:Bool):DV K H (.bl b) (.bl b)
 |int (i:Int):DV K H (.int i) (.int i)
 |str (x:Str):DV K H (.str x) (.str x)
 |ref (a:Addr):DV K H (.ref a) (.ref a)
 |ty (n:String):DV K H (.ty n) (.ty n)
 |lint {ns:List Int} {a:Addr} (e:RdI K H a (ns.map V.int)):DV K H (.lint ns) (.ref a)
 |tup {ds:List D} {a:Addr} {xs:List V} (e:H a=some (.tup xs)) (r:DVs K H ds xs):DV K H (.tup ds) (.ref a)
inductive DVs (K:PySem.W.Frag) (H:Hp):List D→List V→Prop where
 |nil:DVs K H [] []
 |cons {d:D} {v:V} {ds:List D} {vs:List V} (h:DV K H d v) (t:DVs K H ds vs):DVs K H (d::ds) (v::vs)
end
structure Ext(H H':Hp):Prop where
 tup:∀b xs,H b=some (.tup xs)→H' b=some (.tup xs)
 frz:∀b o u,H b=some (.frz o u)→H' b=some (.frz o u)
theorem Ext.refl(H:Hp):Ext H H:=⟨fun _ _ h=>h,fun _ _ _ h=>h⟩
theorem Ext.trans{H H1 H2:Hp}(a:Ext H H1)(b:Ext H1 H2):Ext H H2:=⟨fun c xs h=>b.tup c xs (a.tup c xs h),fun c o u h=>b.frz c o u (a.frz c o u h)⟩
theorem Ext.fresh{H:Hp}{p:Addr}{o:HO}(h:H p=none):Ext H (upd H p o):=⟨fun b xs e=>by
 rw[Af (Ap e h)];exact e,fun b ob u e=>by rw[Af (Ap e h)];exact e⟩
theorem Ext.write{H:Hp}{p:Addr}{o u:HO}(h:H p=some u)(n:∀xs,u≠.tup xs)(m:∀ob w,u≠.frz ob w):Ext H (upd H p o):=⟨fun b xs e=>by
 rw[Af (Je e h fun z=>n xs z.symm)];exact e,fun b ob w e=>by rw[Af (Je e h fun z=>m ob w z.symm)];exact e⟩
theorem RdI.ext{K:W.Frag}{H H':Hp}{a:Addr}{xs:List V}(h:RdI K H a xs)(x:Ext H H'):RdI K H' a xs:=h.elim (fun⟨o,e⟩=>.inl ⟨o,x.frz _ _ _ e⟩) .inr
section
variable{K:W.Frag}
mutual
theorem DV.ext{H H':Hp}(x:Ext H H'):∀{d:D} {v:V},DV K H d v→DV K H' d v
 |_,_,.non=>.non
 |_,_,.bl b=>.bl b
 |_,_,.int i=>.int i
 |_,_,.str s=>.str s
 |_,_,.ref a=>.ref a
 |_,_,.ty n=>.ty n
 |_,_,.lint e=>.lint (e.ext x)
 |_,_,.tup e r=>.tup (x.tup _ _ e) (DVs.ext x r)
theorem DVs.ext{H H':Hp}(x:Ext H H'):∀{ds:List D} {vs:List V},DVs K H ds vs→DVs K H' ds vs
 |_,_,.nil=>.nil
 |_,_,.cons h t=>.cons (DV.ext x h) (DVs.ext x t)
end
theorem DVs.length{H:Hp}:∀{ds:List D} {vs:List V},DVs K H ds vs→ds.length=vs.length
 |_,_,.nil=>rfl
 |_,_,.cons _ t=>congrArg (· + 1) t.length
theorem DVs.get{H:Hp}:∀{ds:List D} {vs:List V} {i:Nat} {d:D},DVs K H ds vs→ds[i]? = some d→∃v,vs[i]? = some v∧DV K H d v
 |_,_,_,_,.nil,e=>by simp at e
 |_,_,0,_,.cons h _,e=>by simp at e;subst e;exact⟨_,rfl,h⟩
 |_,_,i+1,d,.cons _ t,e=>by
  obtain⟨v,h1,h2⟩:=DVs.get (i:=i) (d:=d) t (by simpa using e)
  exact⟨v,by simpa using h1,h2⟩
theorem DVs.get'{H:Hp}:∀{ds:List D} {vs:List V} {i:Nat} {v:V},DVs K H ds vs→vs[i]? = some v→∃d,ds[i]? = some d∧DV K H d v
 |_,_,_,_,.nil,e=>by simp at e
 |_,_,0,_,.cons h _,e=>by simp at e;subst e;exact⟨_,rfl,h⟩
 |_,_,i+1,d,.cons _ t,e=>by
  obtain⟨v,h1,h2⟩:=DVs.get' (i:=i) (v:=d) t (by simpa using e)
  exact⟨v,by simpa using h1,h2⟩
theorem DVs.append{H:Hp}:∀{ds es:List D} {vs ws:List V},DVs K H ds vs→DVs K H es ws→DVs K H (ds++es) (vs++ws)
 |_,_,_,_,.nil,s=>s
 |_,_,_,_,.cons h t,s=>.cons h (t.append s)
theorem DVs.set{H:Hp}{d:D}{v:V}(r:DV K H d v):∀{ds:List D} {vs:List V} (i:Nat),DVs K H ds vs→DVs K H (ds.set i d) (vs.set i v)
 |_,_,_,.nil=>.nil
 |_,_,0,.cons _ t=>.cons r t
 |_,_,i+1,.cons h t=>.cons h (DVs.set r i t)
theorem DVs.take{H:Hp}:∀{ds:List D} {vs:List V} (n:Nat),DVs K H ds vs→DVs K H (ds.take n) (vs.take n)
 |_,_,0,_=>.nil
 |_,_,_+1,.nil=>.nil
 |_,_,n+1,.cons h t=>.cons h (t.take n)
theorem DVs.drop{H:Hp}:∀{ds:List D} {vs:List V} (n:Nat),DVs K H ds vs→DVs K H (ds.drop n) (vs.drop n)
 |_,_,0,r=>r
 |_,_,_+1,.nil=>.nil
 |_,_,n+1,.cons _ t=>t.drop n
theorem DVs.ints{H:Hp}:∀{ns:List Int},DVs K H (ns.map D.int) (ns.map V.int)
 |[]=>.nil
 |_::_=>.cons (.int _) DVs.ints
theorem DVs.one{H:Hp}{d:D}{vs:List V}(r:DVs K H [d] vs):∃v,vs=[v]∧DV K H d v:=by
 cases r with|cons h t=>cases t;exact⟨_,rfl,h⟩
theorem DVs.two{H:Hp}{d e:D}{vs:List V}(r:DVs K H [d,e] vs):∃v w,vs=[v,w]∧DV K H d v∧DV K H e w:=by
 cases r with|cons h t=>cases t with|cons h' t'=>cases t';exact⟨_,_,rfl,h,h'⟩

end
def kD:Key→D
 |.inl i=>.int i
 |.inr x=>.str x

inductive GO where
 |lst (ds:List D)
 |dct (kvs:List (List Key×D))
 |dkk (kvs:List (Key×D))
 /-- an instance of the class at C,its attributes -/
 |ins (C:Addr) (fs:List (Str×D))
 /-- the codes that were made within a def;q: how they are called -/
 |tbl (q:Str)
 /-- a thing that never changes,of which ok holds (a function,an exception) -/
 |any (ok:Hp→Addr→Prop)
abbrev Gp:=Addr→Option GO
def Ab(G:Gp)(a:Addr)(o:GO):Gp:=fun b=>if b=a then some o else G b
theorem Aa{G:Gp}{a:Addr}{o:GO}:Ab G a o a=some o:=if_pos rfl
theorem Am{G:Gp}{a b:Addr}{o:GO}(h:b≠a):Ab G a o b=G b:=if_neg h
theorem Bl{G:Gp}{a:Addr}{o u:GO}:Ab (Ab G a o) a u=Ab G a u:=by
 funext b;unfold Ab;split<;>rfl
theorem gne{G:Gp}{a b:Addr}{o:GO}(h:G a=some o)(h':G b=none):a≠b:=by
 intro e;subst e;rw[h] at h';cases h'

def CodeIs(o:Obj)(q:Str):Prop:=∃vs t,o.data=.fields vs∧vs[1]? = some (.str q t)
def GOk(K:PySem.W.Frag)(H:Hp)(a:Addr):GO→Prop
 |.lst ds=>∃xs,H a=some (.lst xs)∧DVs K H ds xs
 |.dct kvs=>∃ks,H a=some (.dT ks)∧Paired (fun(p:List Key×D) (q:List Key×V)=>p.1=q.1∧DV K H p.2 q.2) kvs ks
 |.dkk kvs=>∃ks,H a=some (.dK ks)∧Paired (fun(p:Key×D) (q:Key×V)=>p.1=q.1∧DV K H p.2 q.2) kvs ks
 |.ins C fs=>∃dx ks,H a=some (.ins C dx ks)∧Paired (fun(p:Str×D) (q:Str×V)=>p.1=q.1∧DV K H p.2 q.2) fs ks
 |.tbl q=>∃ps,H a=some (.tbl ps)∧TriplesOk ps.toList∧∀pos cv,codeAmong pos ps.toList=some cv→∃c o u,cv=.ref c∧H c=some (.frz o u)∧CodeIs o q
 |.any ok=>(∃o u,H a=some (.frz o u))∧∀H',Ext H H'→ok H' a
def RelG(K:PySem.W.Frag)(H:Hp)(G:Gp):Prop:=∀a o,G a=some o→GOk K H a o

theorem GOk.upd{K:W.Frag}{H:Hp}{a p:Addr}{o:GO}{u:HO}(h:GOk K H a o)(x:Ext H (L2.upd H p u))(n:H p=none∨a≠p):GOk K (L2.upd H p u) a o:=by
 have ne:∀u,H a=some u→a≠p:=fun u e=>n.elim (fun z=>Ap e z) id
 cases o with
 |lst ds=>obtain⟨xs,e,r⟩:=h;exact⟨xs,by rw[Af (ne _ e)];exact e,r.ext x⟩
 |dct kvs=>obtain⟨ks,e,r⟩:=h;exact⟨ks,by rw[Af (ne _ e)];exact e,L2.Paired.mapP r fun _ _ z=>⟨z.1,z.2.ext x⟩⟩
 |dkk kvs=>obtain⟨ks,e,r⟩:=h;exact⟨ks,by rw[Af (ne _ e)];exact e,L2.Paired.mapP r fun _ _ z=>⟨z.1,z.2.ext x⟩⟩
 |ins C fs=>obtain⟨dx,ks,e,r⟩:=h;exact⟨dx,ks,by rw[Af (ne _ e)];exact e,L2.Paired.mapP r fun _ _ z=>⟨z.1,z.2.ext x⟩⟩
 |tbl q=>obtain⟨ps,e,t,r⟩:=h;exact⟨ps,by rw[Af (ne _ e)];exact e,t,fun pos cv h1=>let ⟨c,o,u,a1,a2,a3⟩:=r pos cv h1;⟨c,o,u,a1,x.frz _ _ _ a2,a3⟩⟩
 |any ok=>obtain⟨⟨o,u,e⟩,r⟩:=h;exact⟨⟨o,u,x.frz _ _ _ e⟩,fun H' y=>r H' (x.trans y)⟩
theorem RelG.free{K:W.Frag}{H:Hp}{G:Gp}(r:RelG K H G){p:Addr}(h:H p=none):G p=none:=by
 cases q:G p with
 |none=>rfl
 |some o=>
  have z:=r p o q
  cases o with
  |lst ds=>obtain⟨_,e,_⟩:=z;rw[h] at e;cases e
  |dct ds=>obtain⟨_,e,_⟩:=z;rw[h] at e;cases e
  |dkk ds=>obtain⟨_,e,_⟩:=z;rw[h] at e;cases e
  |ins C fs=>obtain⟨_,_,e,_⟩:=z;rw[h] at e;cases e
  |tbl q=>obtain⟨_,e,_⟩:=z;rw[h] at e;cases e
  |any ok=>obtain⟨⟨_,_,e⟩,_⟩:=z;rw[h] at e;cases e
theorem RelG.tup{K:W.Frag}{H:Hp}{G:Gp}(r:RelG K H G){p:Addr}{u:HO}(h:H p=none):RelG K (upd H p u) G:=fun a o e=>(r a o e).upd (Ext.fresh h) (.inl h)
theorem RelG.ext'{K:W.Frag}{H:Hp}{G G':Gp}(r:RelG K H G)(s:∀a o,G' a=some o→G a=some o):RelG K H G':=fun a o e=>r a o (s a o e)

abbrev DSt:=List (Option D)
abbrev St:=L2.St
def RelS(K:PySem.W.Frag)(H:Hp)(σD:DSt)(σ:St):Prop:=σD.length=σ.length∧∀(i:Nat) d,σD[i]? = some (some d)→∃v,σ[i]? = some (some v)∧DV K H d v
theorem RelS.ext{K:W.Frag}{H H':Hp}{σD:DSt}{σ:St}(r:RelS K H σD σ)(x:Ext H H'):RelS K H' σD σ:=⟨r.1,fun i d e=>let ⟨v,h1,h2⟩:=r.2 i d e;⟨v,h1,h2.ext x⟩⟩
theorem RelS.set{K:W.Frag}{H:Hp}{σD:DSt}{σ:St}(r:RelS K H σD σ){d:D}{v:V}(h:DV K H d v)(i:Nat):RelS K H (σD.set i (some d)) (σ.set i (some v)):=by
 refine⟨by rw[List.length_set,List.length_set];exact r.1,fun j e q=>?_⟩
 by_cases hj:i=j
 ·subst hj
  rw[List.getElem?_set] at q ⊢
  rw[if_pos rfl] at q ⊢
  have hl:=r.1
  split at q
  ·rename_i hi
   cases q
   exact⟨v,by rw[if_pos (by omega)],h⟩
  ·cases q
 ·rw[List.getElem?_set_ne hj] at q ⊢
  exact r.2 j e q

abbrev DK:=D→Gp→Prop
abbrev DTE:=DSt→Gp→DK→Prop
abbrev DTT:=DSt→Gp→(Bool→Gp→Prop)→Prop
abbrev DTA:=DSt→Gp→(List D→Gp→Prop)→Prop
structure DEnds where
 nx:DSt→Gp→Prop
 rt:DK
 bk:DSt→Gp→Prop:=fun _ _=>False
 ct:DSt→Gp→Prop:=fun _ _=>False
abbrev DTS:=DEnds→DSt→Gp→Prop

def Fwd(K:PySem.W.Frag)(H:Hp)(G':Gp)(Q:Hp→Prop):Prop:=∀H',Ext H H'→RelG K H' G'→Q H'
theorem Fwd.go{K:W.Frag}{H H1:Hp}{G':Gp}{Q:Hp→Prop}(f:Fwd K H G' Q)(x:Ext H H1):Fwd K H1 G' Q:=fun H' y r=>f H' (x.trans y) r

def Bk(K:PySem.W.Frag)(t:DTE):TE:=fun σ H Q=>∃σD G Q',RelS K H σD σ∧RelG K H G∧t σD G Q'∧∀d G',Q' d G'→Fwd K H G' fun H'=>∀v,DV K H' d v→Q v H'
def Dh(K:PySem.W.Frag)(t:DTT):TT:=fun σ H Q=>∃σD G Q',RelS K H σD σ∧RelG K H G∧t σD G Q'∧∀b G',Q' b G'→Fwd K H G' fun H'=>Q b H'
def Sd(K:PySem.W.Frag)(t:DTA):TA:=fun σ H Q=>∃σD G Q',RelS K H σD σ∧RelG K H G∧t σD G Q'∧∀ds G',Q' ds G'→Fwd K H G' fun H'=>∀vs,DVs K H' ds vs→Q vs H'
structure DEnds.Reach(K:PySem.W.Frag)(H:Hp)(D:DEnds)(E:Ends):Prop where
 nx:∀σD G',D.nx σD G'→Fwd K H G' fun H'=>∀σ,RelS K H' σD σ→E.nx σ H'
 rt:∀d G',D.rt d G'→Fwd K H G' fun H'=>∀v,DV K H' d v→E.rt v H'
 bk:∀σD G',D.bk σD G'→Fwd K H G' fun H'=>∀σ,RelS K H' σD σ→E.bk σ H'
 ct:∀σD G',D.ct σD G'→Fwd K H G' fun H'=>∀σ,RelS K H' σD σ→E.ct σ H'
theorem DEnds.Reach.go{K:W.Frag}{H H1:Hp}{D:DEnds}{E:Ends}(r:D.Reach K H E)(x:Ext H H1):D.Reach K H1 E:=
 ⟨fun σ G h=>(r.nx σ G h).go x,fun d G h=>(r.rt d G h).go x,fun σ G h=>(r.bk σ G h).go x,fun σ G h=>(r.ct σ G h).go x⟩
def Dl(K:PySem.W.Frag)(t:DTS):TS:=fun E σ H=>∃σD G D,RelS K H σD σ∧RelG K H G∧t D σD G∧D.Reach K H E

def QE(X:Cx)(e:Expr)(t:DTE):Prop:=PE X e (Bk X.K t)
def QT(X:Cx)(e:Expr)(t:DTT):Prop:=PT X e (Dh X.K t)
def QW(X:Cx)(e:Expr)(t:DTT):Prop:=PW X e (Dh X.K t)
def QA(X:Cx)(es:List Expr)(t:DTA):Prop:=PA X es (Sd X.K t)
def QS(X:Cx)(s:Stmt)(t:DTS):Prop:=PS X s (Dl X.K t)
def QSs(X:Cx)(s:List Stmt)(t:DTS):Prop:=PSs X s (Dl X.K t)

theorem _root_.L2.PE.imp{X:Cx}{e:Expr}{t t':TE}(h:PE X e t)(f:∀σ H Q,t' σ H Q→t σ H Q):PE X e t':=fun pins s σ H Q I q=>h pins s σ H Q I (f σ H Q q)
theorem _root_.L2.PT.imp{X:Cx}{e:Expr}{t t':TT}(h:PT X e t)(f:∀σ H Q,t' σ H Q→t σ H Q):PT X e t':=fun pins s σ H Q I q=>h pins s σ H Q I (f σ H Q q)
theorem _root_.L2.PW.imp{X:Cx}{e:Expr}{t t':TT}(h:PW X e t)(f:∀σ H Q,t' σ H Q→t σ H Q):PW X e t':=fun w pins s σ H Q I q=>h w pins s σ H Q I (f σ H Q q)
theorem _root_.L2.PA.imp{X:Cx}{e:List Expr}{t t':TA}(h:PA X e t)(f:∀σ H Q,t' σ H Q→t σ H Q):PA X e t':=fun p pins s σ H Q I q=>h p pins s σ H Q I (f σ H Q q)
theorem _root_.L2.PS.imp{X:Cx}{e:Stmt}{t t':TS}(h:PS X e t)(f:∀D σ H,t' D σ H→t D σ H):PS X e t':=fun pins s σ H D I q=>h pins s σ H D I (f D σ H q)
theorem _root_.L2.PSs.imp{X:Cx}{e:List Stmt}{t t':TS}(h:PSs X e t)(f:∀D σ H,t' D σ H→t D σ H):PSs X e t':=fun pins s σ H D I q=>h pins s σ H D I (f D σ H q)

section
variable{X:Cx}{a b c e:Expr}{ta tb tc te:DTE}{pos:Pos}
def Ao(i:Nat):DTE:=fun σ G Q=>∃d,σ[i]? = some (some d)∧Q d G
def nC(d:D):DTE:=fun _ G Q=>Q d G
theorem R7{i:Nat}{x:Str}(hN:X.N[i]? = some x:=by rfl)(hv:Vis X.env.scope x:=by first|exact Or.inl rfl|exact Or.inr (Or.inl rfl)|exact Or.inr (Or.inr rfl))(hd:(x == ("__debug__" : Str))=false:=by decide)(hcd:(x == ("__classdict__" : Str))=false:=by decide):QE X (.Name x pos) (Ao i):=(Kd hN hv hd hcd).imp fun σ H Q ⟨σD,G,Q',rs,rg,⟨d,e,q⟩,cl⟩=>by
 obtain⟨v,e1,r⟩:=rs.2 i d e
 exact⟨v,e1,cl d G q H (Ext.refl H) rg v r⟩
theorem Hb{v:V}{d:D}(h:PE X e (tC v))(r:∀H,DV X.K H d v):QE X e (nC d):=h.imp fun σ H Q ⟨σD,G,Q',rs,rg,q,cl⟩=>cl d G q H (Ext.refl H) rg v (r H)
theorem q_int{i j pos}:QE X (.Constant (.int i) j pos) (nC (.int i)):=Hb Zf fun _=>.int i
theorem q_bl{b j pos}:QE X (.Constant (.bool b) j pos) (nC (.bl b)):=Hb pe_bl fun _=>.bl b
theorem q_non{j pos}:QE X (.Constant .none j pos) (nC .non):=Hb Zd fun _=>.non
theorem q_str{x j pos}:QE X (.Constant (.str x) j pos) (nC (.str x)):=Hb Za fun _=>.str x
theorem Yu{x:Str}{i:Int}{t:Tok}(hm:X.mg x=some (.int i t))(hg:Gl X x:=by rfl)(hd:(x == ("__debug__" : Str))=false:=by decide):QE X (.Name x pos) (nC (.int i)):=Hb (v:=.int i) (O8 hg hm ⟨t,rfl⟩ hd) fun _=>.int i
theorem q_globty{x:Str}{n:String}(hm:X.mg x=none)(hv:bootBuiltins x=some (.type n))(hg:Gl X x:=by rfl)(hn:x≠"__name__":=by decide)(hd:(x == ("__debug__" : Str))=false:=by decide):QE X (.Name x pos) (nC (.ty n)):=
 Hb (v:=.ty n) (Wm hg hm hv rfl hn hd) fun _=>.ty n

abbrev DR2:=D→D→Gp→DK→Prop
def Lo(K:PySem.W.Frag)(r:DR2):R2:=fun x y H Q=>∃dx dy G Q',DV K H dx x∧DV K H dy y∧RelG K H G∧r dx dy G Q'∧∀d G',Q' d G'→Fwd K H G' fun H'=>∀v,DV K H' d v→Q v H'
def QOp(X:Cx)(f:Value→Value→Sem Value)(r:DR2):Prop:=OpR X f (Lo X.K r)
theorem _root_.L2.OpR.imp{f:Value→Value→Sem Value}{r r':R2}(h:OpR X f r)(g:∀x y H Q,r' x y H Q→r x y H Q):OpR X f r':=fun pins s σ H x y v u Q I rx ry q=>h pins s σ H x y v u Q I rx ry (g x y H Q q)
def nOp(r:DR2)(ta tb:DTE):DTE:=fun σ G Q=>ta σ G fun x G1=>tb σ G1 fun y G2=>r x y G2 Q
theorem Gu{K:W.Frag}{r:DR2}{σ:St}{H:Hp}{Q:VK}(h:Bk K (nOp r ta tb) σ H Q):tOp (Lo K r) (Bk K ta) (Bk K tb) σ H Q:=by
 obtain⟨σD,G,Q',rs,rg,h,cl⟩:=h
 refine⟨σD,G,_,rs,rg,h,fun x G1 h1 H1 x1 rg1 v1 d1=>?_⟩
 refine⟨σD,G1,_,rs.ext x1,rg1,h1,fun y G2 h2 H2 x2 rg2 v2 d2=>?_⟩
 exact⟨x,y,G2,Q',d1.ext x2,d2,rg2,h2,fun d G' q=>(cl d G' q).go (x1.trans x2)⟩
theorem q_op{op:Operator}{r:DR2}(ho:QOp X (binaryOp op) r)(ha:QE X a ta)(hb:QE X b tb):QE X (.BinOp a op b pos) (nOp r ta tb):=(pe_op ho ha hb).imp fun _ _ _ h=>Gu h
def dI(C:Int→Int→Prop)(g:Int→Int→D):DR2:=fun x y G Q=>∃i,x=.int i∧∃j,y=.int j∧C i j∧Q (g i j) G
def dI0(g:Int→Int→D):DR2:=fun x y G Q=>∃i,x=.int i∧∃j,y=.int j∧Q (g i j) G
theorem R8{f:Value→Value→Sem Value}{C:Int→Int→Prop}{g:Int→Int→V}{g':Int→Int→D}(h:OpR X f (rI C g))(e:∀H i j,DV X.K H (g' i j) (g i j)):QOp X f (dI C g'):=L2.OpR.imp h fun x y H Q ⟨dx,dy,G,Q',hx,hy,rg,⟨i,ei,j,ej,c,q⟩,cl⟩=>by
 subst ei ej
 cases hx;cases hy
 exact⟨i,j,rfl,rfl,c,cl _ G q H (Ext.refl H) rg _ (e H i j)⟩
theorem Ka{f:Value→Value→Sem Value}{g:Int→Int→V}{g':Int→Int→D}(h:OpR X f (rI0 g))(e:∀H i j,DV X.K H (g' i j) (g i j)):QOp X f (dI0 g'):=L2.OpR.imp h fun x y H Q ⟨dx,dy,G,Q',hx,hy,rg,⟨i,ei,j,ej,q⟩,cl⟩=>by
 subst ei ej
 cases hx;cases hy
 exact⟨i,j,rfl,rfl,cl _ G q H (Ext.refl H) rg _ (e H i j)⟩
theorem o_sub:QOp X (binaryOp .Sub) (dI0 fun i j=>.int (i-j)):=Ka Zi fun _ _ _=>.int _
theorem Hc:QOp X (binaryOp .Mult) (dI CMul fun i j=>.int (i*j)):=R8 Zl fun _ _ _=>.int _
theorem Nr:QOp X (binaryOp .FloorDiv) (dI Nf fun i j=>.int (i / j)):=R8 Wn fun _ _ _=>.int _
theorem Ll:QOp X (binaryOp .Mod) (dI (fun _ j=>0<j) fun i j=>.int (i % j)):=R8 Zm fun _ _ _=>.int _
theorem o_lt:QOp X (compareOp .Lt) (dI0 fun i j=>.bl (decide (i<j))):=Ka op_lt fun _ _ _=>.bl _
theorem o_le:QOp X (compareOp .LtE) (dI0 fun i j=>.bl (decide (i≤j))):=Ka op_le fun _ _ _=>.bl _
theorem o_gt:QOp X (compareOp .Gt) (dI0 fun i j=>.bl (decide (j<i))):=Ka op_gt fun _ _ _=>.bl _
end
section
variable{K:W.Frag}
theorem RelG.lst{H:Hp}{G:Gp}(r:RelG K H G){p:Addr}{ds:List D}{xs:List V}(hp:H p=none)(rv:DVs K H ds xs):RelG K (upd H p (.lst xs)) (Ab G p (.lst ds)):=fun a o e=>by
 by_cases h:a=p
 ·subst h
  rw[Aa] at e;cases e
  exact⟨xs,Ah,rv.ext (Ext.fresh hp)⟩
 ·rw[Am h] at e
  exact(r a o e).upd (Ext.fresh hp) (.inl hp)
theorem Dd{H:Hp}{p:Addr}{xs:List V}{o:HO}(h:H p=some (.lst xs)):Ext H (upd H p o):=Ext.write h (fun _ z=>nomatch z) fun _ _ z=>nomatch z
theorem RelG.lstw{H:Hp}{G:Gp}(r:RelG K H G){p:Addr}{ds:List D}{xs ys:List V}(hp:H p=some (.lst ys))(rv:DVs K H ds xs):RelG K (upd H p (.lst xs)) (Ab G p (.lst ds)):=fun a o e=>by
 by_cases h:a=p
 ·subst h
  rw[Aa] at e;cases e
  exact⟨xs,Ah,rv.ext (Dd hp)⟩
 ·rw[Am h] at e
  exact(r a o e).upd (Dd hp) (.inr h)
end
section
variable{X:Cx}{a b c e:Expr}{ta tb tc te:DTE}{pos:Pos}
def Bj(t:DTE):DTT:=fun σ G Q=>t σ G fun x G'=>∃k,x=.bl k∧Q k G'
theorem Jn{K:W.Frag}{t:DTE}{σ:St}{H:Hp}{Q:Bool→Hp→Prop}(h:Dh K (Bj t) σ H Q):Bk K t σ H fun x H'=>∃k,x=.bl k∧Q k H':=by
 obtain⟨σD,G,Q',rs,rg,h,cl⟩:=h
 refine⟨σD,G,_,rs,rg,h,fun d G' ⟨k,ek,q⟩ H' x r v dv=>?_⟩
 subst ek;cases dv
 exact⟨k,rfl,cl k G' q H' x r⟩
theorem q_cmp{op:CmpOp}{r:DR2}(ho:QOp X (compareOp op) r)(ha:QE X a ta)(hb:QE X b tb)(hm:behindInMarks op b=false):QE X (.Compare a [op] [b] pos) (nOp r ta tb):=(Wk ho ha hb hm).imp fun _ _ _ h=>Gu h
theorem qt_cmp{op:CmpOp}{r:DR2}(ho:QOp X (compareOp op) r)(ha:QE X a ta)(hb:QE X b tb)(hm:behindInMarks op b=false):QT X (.Compare a [op] [b] pos) (Bj (nOp r ta tb)):=
 (Wd ho ha hb hm).imp fun _ _ _ h=>Gu (Jn h)
def Ej(r r':DR2)(ta tb tc:DTE):DTE:=fun σ G Q=>ta σ G fun x G1=>tb σ G1 fun y G2=>r x y G2 fun z G3=>∃k,z=.bl k∧
 (if k=true then tc σ G3 fun w' G4=>r' y w' G4 Q else Q (.bl false) G3)
theorem Ia{K:W.Frag}{r r':DR2}{σ:St}{H:Hp}{Q:VK}(h:Bk K (Ej r r' ta tb tc) σ H Q):Nh (Lo K r) (Lo K r') (Bk K ta) (Bk K tb) (Bk K tc) σ H Q:=by
 obtain⟨σD,G,Q',rs,rg,h,cl⟩:=h
 refine⟨σD,G,_,rs,rg,h,fun x G1 h1 H1 x1 rg1 v1 d1=>?_⟩
 refine⟨σD,G1,_,rs.ext x1,rg1,h1,fun y G2 h2 H2 x2 rg2 v2 d2=>?_⟩
 refine⟨x,y,G2,_,d1.ext x2,d2,rg2,h2,fun z G3 h3 H3 x3 rg3 v3 d3=>?_⟩
 obtain⟨k,ek,h3⟩:=h3
 subst ek;cases d3
 refine⟨k,rfl,?_⟩
 cases k with
 |true=>
  rw[if_pos rfl] at h3 ⊢
  refine⟨σD,G3,_,rs.ext (x1.trans (x2.trans x3)),rg3,h3,fun w4 G4 h4 H4 x4 rg4 v4 d4=>?_⟩
  exact⟨y,w4,G4,Q',d2.ext (x3.trans x4),d4,rg4,h4,fun d G' q=>(cl d G' q).go (x1.trans (x2.trans (x3.trans x4)))⟩
 |false=>
  rw[if_neg Bool.false_ne_true] at h3 ⊢
  exact cl _ G3 h3 H3 (x1.trans (x2.trans x3)) rg3 _ (.bl false)
theorem O4{op op':CmpOp}{r r':DR2}(ho:QOp X (compareOp op) r)(ho':QOp X (compareOp op') r')(ha:QE X a ta)(hb:QE X b tb)(hc:QE X c tc)(hm:lastMarks [op,op'] [b,c]=false:=by with_unfolding_all rfl):QE X (.Compare a [op,op'] [b,c] pos) (Ej r r' ta tb tc):=(Ud ho ho' ha hb hc hm).imp fun _ _ _ h=>Ia h
theorem qt_chain{op op':CmpOp}{r r':DR2}(ho:QOp X (compareOp op) r)(ho':QOp X (compareOp op') r')(ha:QE X a ta)(hb:QE X b tb)(hc:QE X c tc)(hm:lastMarks [op,op'] [b,c]=false:=by with_unfolding_all rfl):QT X (.Compare a [op,op'] [b,c] pos) (Bj (Ej r r' ta tb tc)):=(T6 ho ho' ha hb hc hm).imp fun _ _ _ h=>Ia (Jn h)

def eqS:D→D→Option Bool
 |.int i,.int j=>some (decide (i=j))
 |.bl i,.bl j=>some (decide (i=j))
 |.str i,.str j=>some (decide (i=j))
 |.non,.non=>some true
 |.non,.int _=>some false|.int _,.non=>some false|.non,.bl _=>some false|.bl _,.non=>some false|.non,.str _=>some false|.str _,.non=>some false
 |.int _,.str _=>some false|.str _,.int _=>some false|.bl _,.str _=>some false|.str _,.bl _=>some false
 |_,_=>none
theorem Ml{H:Hp}{K:W.Frag}{x y:D}{v u:V}{k:Bool}(h:eqS x y=some k)(hx:DV K H x v)(hy:DV K H y u):X4 v u=true∧decide (v=u)=k:=by
 cases hx<;>cases hy<;>simp only[eqS,Option.some.injEq,reduceCtorEq] at h<;>subst h<;>refine⟨rfl,?_⟩<;>simp
def dEq:DR2:=fun x y G Q=>∃k,eqS x y=some k∧Q (.bl k) G
def dNe:DR2:=fun x y G Q=>∃k,eqS x y=some k∧Q (.bl (!k)) G
theorem o_eq:QOp X (compareOp .Eq) dEq:=L2.OpR.imp op_eq fun x y H Q ⟨dx,dy,G,Q',hx,hy,rg,⟨k,ek,q⟩,cl⟩=>by
 obtain⟨h1,h2⟩:=Ml ek hx hy
 refine⟨h1,?_⟩
 rw[h2]
 exact cl _ G q H (Ext.refl H) rg _ (.bl k)
theorem o_ne:QOp X (compareOp .NotEq) dNe:=L2.OpR.imp op_ne fun x y H Q ⟨dx,dy,G,Q',hx,hy,rg,⟨k,ek,q⟩,cl⟩=>by
 obtain⟨h1,h2⟩:=Ml ek hx hy
 refine⟨h1,?_⟩
 rw[h2]
 exact cl _ G q H (Ext.refl H) rg _ (.bl (!k))
variable{t u:DTT}{rest:List Expr}
def Rx(t u:DTT):DTT:=fun σ G Q=>t σ G fun c G1=>if c=true then u σ G1 Q else Q false G1
def nOr(t u:DTT):DTT:=fun σ G Q=>t σ G fun c G1=>if c=true then Q true G1 else u σ G1 Q
def Ec(t:DTT):DTT:=fun σ G Q=>t σ G fun c G1=>Q (!c) G1
theorem qw_and1(ha:QT X a t):QW X (.BoolOp .And [a] pos) t:=Wc ha
theorem qw_or1(ha:QT X a t):QW X (.BoolOp .Or [a] pos) t:=Yx ha
theorem qw_and(ha:QT X a t)(hb:QW X (.BoolOp .And (b::rest) pos) u):QW X (.BoolOp .And (a::b::rest) pos) (Rx t u):=(Yy ha hb).imp fun σ H Q ⟨σD,G,Q',rs,rg,h,cl⟩=>by
 refine⟨σD,G,_,rs,rg,h,fun k G1 h1 H1 x1 rg1=>?_⟩
 cases k with
 |true=>rw[if_pos rfl] at h1 ⊢;exact⟨σD,G1,Q',rs.ext x1,rg1,h1,fun b G' q=>(cl b G' q).go x1⟩
 |false=>rw[if_neg Bool.false_ne_true] at h1 ⊢;exact cl _ G1 h1 H1 x1 rg1
theorem qw_or(ha:QT X a t)(hb:QW X (.BoolOp .Or (b::rest) pos) u):QW X (.BoolOp .Or (a::b::rest) pos) (nOr t u):=(pw_or ha hb).imp fun σ H Q ⟨σD,G,Q',rs,rg,h,cl⟩=>by
 refine⟨σD,G,_,rs,rg,h,fun k G1 h1 H1 x1 rg1=>?_⟩
 cases k with
 |true=>rw[if_pos rfl] at h1 ⊢;exact cl _ G1 h1 H1 x1 rg1
 |false=>rw[if_neg Bool.false_ne_true] at h1 ⊢;exact⟨σD,G1,Q',rs.ext x1,rg1,h1,fun b G' q=>(cl b G' q).go x1⟩
theorem qt_of(h:QW X e t):QT X e t:=h.pt
theorem qt_not(ha:QT X a t):QT X (.UnaryOp .Not a pos) (Ec t):=(Y0 ha).imp fun σ H Q ⟨σD,G,Q',rs,rg,h,cl⟩=>
 ⟨σD,G,_,rs,rg,h,fun k G1 h1 H1 x1 rg1=>cl _ G1 h1 H1 x1 rg1⟩
def Os(ta tb:DTE):DTE:=fun σ G Q=>ta σ G fun x G1=>∃c,x=.bl c∧if c=true then tb σ G1 Q else Q (.bl false) G1
def Sb(ta:DTE):DTE:=fun σ G Q=>ta σ G fun x G1=>∃c,x=.bl c∧Q (.bl (!c)) G1
theorem q_one{op}(h:QE X a ta):QE X (.BoolOp op [a] pos) ta:=Zb h
theorem q_and(ha:QE X a ta)(hb:QE X (.BoolOp .And (b::rest) pos) tb):QE X (.BoolOp .And (a::b::rest) pos) (Os ta tb):=(Zh ha hb).imp fun σ H Q ⟨σD,G,Q',rs,rg,h,cl⟩=>by
 refine⟨σD,G,_,rs,rg,h,fun d G1 ⟨k,ek,h1⟩ H1 x1 rg1 v dv=>?_⟩
 subst ek;cases dv
 refine⟨k,rfl,?_⟩
 cases k with
 |true=>rw[if_pos rfl] at h1 ⊢;exact⟨σD,G1,Q',rs.ext x1,rg1,h1,fun b G' q=>(cl b G' q).go x1⟩
 |false=>rw[if_neg Bool.false_ne_true] at h1 ⊢;exact cl _ G1 h1 H1 x1 rg1 _ (.bl false)
theorem q_not(ha:QE X a ta):QE X (.UnaryOp .Not a pos) (Sb ta):=(Zc ha).imp fun σ H Q ⟨σD,G,Q',rs,rg,h,cl⟩=>by
 refine⟨σD,G,_,rs,rg,h,fun d G1 ⟨k,ek,h1⟩ H1 x1 rg1 v dv=>?_⟩
 subst ek;cases dv
 exact⟨k,rfl,cl _ G1 h1 H1 x1 rg1 _ (.bl _)⟩
def Pt(G:Gp):D→Option Bool
 |.non=>some false
 |.bl b=>some b
 |.int i=>some (i != 0)
 |.str y=>if y.length≤sizeLine then some ((y.length:Int) != 0) else none
 |.tup ds=>some (!ds.isEmpty)
 |.lint ns=>some (!ns.isEmpty)
 |.ref a=>match G a with
  |some (.lst ds)=>some (!ds.isEmpty)
  |some (.dkk kvs)=>some (!kvs.isEmpty)
  |_=>none
 |_=>none
theorem isE{K:W.Frag}{H:Hp}{ds:List D}{vs:List V}(r:DVs K H ds vs):ds.isEmpty=vs.isEmpty:=by cases r<;>rfl
theorem Vv{K:W.Frag}{H:Hp}{G:Gp}{d:D}{v:V}{k:Bool}(rg:RelG K H G)(h:Pt G d=some k)(r:DV K H d v):Ya K v H k:=by
 cases r with
 |non=>cases h;rfl
 |bl b=>cases h;rfl
 |int i=>cases h;rfl
 |str y=>
  simp only[Pt] at h
  split at h
  ·rename_i hy;cases h;exact⟨hy,rfl⟩
  ·cases h
 |tup e r=>
  cases h
  exact .inr (.inl ⟨_,.inl (.inl e),by rw[isE r]⟩)
 |@lint ns a e=>
  cases h
  exact .inl ⟨_,e.sq,by cases ns<;>rfl⟩
 |ref a=>
  simp only[Pt] at h
  split at h
  ·rename_i ds q
   obtain⟨xs,e,r⟩:=rg a _ q
   cases h
   exact .inl ⟨xs,.inl (.inl e),by rw[isE r]⟩
  ·rename_i kvs q
   obtain⟨xs,e,r⟩:=rg a _ q
   cases h
   exact .inr (.inr ⟨xs,e,by cases r<;>rfl⟩)
  ·cases h
 |ty n=>cases h
def Eb(t:DTE):DTT:=fun σ G Q=>t σ G fun x G'=>∃k,Pt G' x=some k∧Q k G'
theorem qt_tru(ha:QE X a ta)(he:∀whole,isTrue a X.env whole=(do let v ←whole;standAt a.pos;holding [v] (truthy v)):=by intro _;rfl):QT X a (Eb ta):=(T5 ha he).imp fun σ H Q ⟨σD,G,Q',rs,rg,h,cl⟩=>by
 refine⟨σD,G,_,rs,rg,h,fun d G1 ⟨k,ek,h1⟩ H1 x1 rg1 v dv=>?_⟩
 exact⟨k,Vv rg1 ek dv,cl _ G1 h1 H1 x1 rg1⟩

variable{es:List Expr}{tA:DTA}
def Aq:DTA:=fun _ G Q=>Q [] G
def Ag(ta:DTE)(tr:DTA):DTA:=fun σ G Q=>ta σ G fun x G1=>tr σ G1 fun xs G2=>Q (x::xs) G2
theorem qa_nil:QA X [] Aq:=pa_nil.imp fun σ H Q ⟨σD,G,Q',rs,rg,h,cl⟩=>cl _ G h H (Ext.refl H) rg _ .nil
theorem Gq(ha:QE X e te)(hr:QA X es tA)(hs:starEach (e::es) X.env=(false,eval e X.env)::starEach es X.env:=by rfl):QA X (e::es) (Ag te tA):=(Da ha hr hs).imp fun σ H Q ⟨σD,G,Q',rs,rg,h,cl⟩=>by
 refine⟨σD,G,_,rs,rg,h,fun x G1 h1 H1 x1 rg1 v1 d1=>?_⟩
 refine⟨σD,G1,_,rs.ext x1,rg1,h1,fun ys G2 h2 H2 x2 rg2 v2 d2=>?_⟩
 exact cl _ G2 h2 H2 (x1.trans x2) rg2 _ (.cons (d1.ext x2) d2)
def Gz(t:DTA):DTE:=fun σ G Q=>t σ G fun xs G1=>xs.length≤sizeLine∧Q (.tup xs) G1
def Dj(t:DTA):DTE:=fun σ G Q=>t σ G fun xs G1=>xs.length≤sizeLine∧∀p,G1 p=none→Q (.ref p) (Ab G1 p (.lst xs))
theorem q_tup{x1}(h:QA X es tA):QE X (.Tuple es x1 pos) (Gz tA):=(Y9 h).imp fun σ H Q ⟨σD,G,Q',rs,rg,h,cl⟩=>by
 refine⟨σD,G,_,rs,rg,h,fun ds G1 ⟨hl,q⟩ H1 x1 rg1 vs dv=>⟨by rw[←dv.length];exact hl,fun p hp=>?_⟩⟩
 exact cl _ G1 q _ (x1.trans (Ext.fresh hp)) (rg1.tup hp) _ (.tup Ah (dv.ext (Ext.fresh hp)))
theorem q_lst(h:QA X es tA):QE X (.List es pos) (Dj tA):=(Sx h).imp fun σ H Q ⟨σD,G,Q',rs,rg,h,cl⟩=>by
 refine⟨σD,G,_,rs,rg,h,fun ds G1 ⟨hl,q⟩ H1 x1 rg1 vs dv=>⟨by rw[←dv.length];exact hl,fun p hp=>?_⟩⟩
 exact cl _ _ (q p (rg1.free hp)) _ (x1.trans (Ext.fresh hp)) (rg1.lst hp dv) _ (.ref p)

def Ey(G:Gp)(x:D)(i:Int):Option D:=match x with
 |.tup ds=>atI ds i
 |.lint ns=>atI (ns.map D.int) i
 |.ref a=>match G a with
  |some (.lst ds)=>atI ds i
  |_=>none
 |_=>none
theorem Ku{K:W.Frag}{H:Hp}{ds:List D}{vs:List V}{i:Int}{d:D}(r:DVs K H ds vs)(h:atI ds i=some d):∃v,atI vs i=some v∧DV K H d v:=by
 unfold atI at h ⊢
 rw[←r.length]
 cases e:ixN ds.length i with
 |none=>rw[e] at h;cases h
 |some j=>rw[e] at h;exact r.get h
def dIx:DR2:=fun x y G Q=>∃i,y=.int i∧∃d,Ey G x i=some d∧Q d G
theorem _root_.L2.IxR.imp{r r':R2}(h:IxR X r)(g:∀x y H Q,r' x y H Q→r x y H Q):IxR X r':=fun va sl pins s σ H x y v u Q I rx ry q hs=>h va sl pins s σ H x y v u Q I rx ry (g x y H Q q) hs
theorem o_ix:IxR X (Lo X.K dIx):=ix_seq.imp fun x y H Q ⟨dx,dy,G,Q',hx,hy,rg,⟨i,ei,d,ed,q⟩,cl⟩=>by
 subst ei;cases hy
 cases hx with
 |@tup ds a xs e r=>
  obtain⟨v,ev,dv⟩:=Ku r (show atI ds i=some d from ed)
  exact .inr (.inl ⟨a,xs,i,v,rfl,rfl,.inl (.inl e),ev,cl _ G q H (Ext.refl H) rg _ dv⟩)
 |@lint ns a e=>
  obtain⟨v,ev,dv⟩:=Ku (K:=X.K) (H:=H) DVs.ints (show atI (ns.map D.int) i=some d from ed)
  exact .inl ⟨a,_,i,v,rfl,rfl,e.sq,ev,cl _ G q H (Ext.refl H) rg _ dv⟩
 |ref a=>
  simp only[Ey] at ed
  split at ed
  ·rename_i ds g
   obtain⟨xs,e,r⟩:=rg a _ g
   obtain⟨v,ev,dv⟩:=Ku r ed
   exact .inl ⟨a,xs,i,v,rfl,rfl,.inl (.inl e),ev,cl _ G q H (Ext.refl H) rg _ dv⟩
  ·cases ed
 |_=>cases ed
theorem q_ix(ha:QE X a ta)(hb:QE X b tb)(hs:Ps b:=by intro _ _;rfl):QE X (.Subscript a b pos) (nOp dIx ta tb):=(pe_ix o_ix ha hb hs).imp fun _ _ _ h=>Gu h
end
section
variable{X:Cx}{a b c e:Expr}{ta tb tc te:DTE}{pos:Pos}{st:Stmt}{rest body orelse:List Stmt}{t u:DTS}
def Bs:DTS:=fun D σ G=>D.nx σ G
def Bh(t u:DTS):DTS:=fun D σ G=>t { D with nx:=u D } σ G
theorem qss_nil:QSs X [] Bs:=pss_nil.imp fun E σ H ⟨σD,G,D,rs,rg,h,cl⟩=>cl.nx σD G h H (Ext.refl H) rg σ rs
theorem Uu{K:W.Frag}{E:Ends}{σ:St}{H:Hp}(h:Dl K (Bh t u) E σ H):tSeq (Dl K t) (Dl K u) E σ H:=by
 obtain⟨σD,G,D,rs,rg,h,cl⟩:=h
 refine⟨σD,G,_,rs,rg,h,⟨fun σ1 G1 h1 H1 x1 rg1 σ' rs1=>⟨σ1,G1,D,rs1,rg1,h1,cl.go x1⟩,cl.rt,cl.bk,cl.ct⟩⟩
theorem qss_cons(h1:QS X st t)(h2:QSs X rest u):QSs X (st::rest) (Bh t u):=(T7 h1 h2).imp fun _ _ _ h=>Uu h
theorem qss_one(h1:QS X st t):QSs X [st] t:=Gr h1
def Ct(te:DTE):DTS:=fun D σ G=>te σ G fun _ G1=>D.nx σ G1
theorem qs_expr(he:QE X e te)(hs:swapsWith e none pos.line X.env=pure false:=by rfl):QS X (.Expr e pos) (Ct te):=(Wg he hs).imp fun E σ H ⟨σD,G,D,rs,rg,h,cl⟩=>
 ⟨σD,G,_,rs,rg,h,fun d G1 h1 H1 x1 rg1 v dv=>cl.nx σD G1 h1 H1 x1 rg1 σ (rs.ext x1)⟩
def Bi(te:DTE):DTS:=fun D σ G=>te σ G D.rt
theorem qs_ret(he:QE X e te):QS X (.Return (some e) pos) (Bi te):=(Nn he).imp fun E σ H ⟨σD,G,D,rs,rg,h,cl⟩=>⟨σD,G,_,rs,rg,h,cl.rt⟩
def C5(c:DTT)(t u:DTS):DTS:=fun D σ G=>c σ G fun b G1=>if b=true then t D σ G1 else u D σ G1
theorem qs_if{tc:DTT}(hc:QT X c tc)(ha:QSs X body t)(hb:QSs X orelse u):QS X (.If c body orelse pos) (C5 tc t u):=(Xs hc ha hb).imp fun E σ H ⟨σD,G,D,rs,rg,h,cl⟩=>by
 refine⟨σD,G,_,rs,rg,h,fun k G1 h1 H1 x1 rg1=>?_⟩
 cases k with
 |true=>rw[if_pos rfl] at h1 ⊢;exact⟨σD,G1,D,rs.ext x1,rg1,h1,cl.go x1⟩
 |false=>rw[if_neg Bool.false_ne_true] at h1 ⊢;exact⟨σD,G1,D,rs.ext x1,rg1,h1,cl.go x1⟩
def Zv:DTS:=fun _ _ _=>False
abbrev DTG:=D→DSt→Gp→(DSt→Gp→Prop)→Prop
abbrev Li:=List D→DSt→Gp→(DSt→Gp→Prop)→Prop
def Cu(K:PySem.W.Frag)(t:DTG):TG:=fun v σ H Q=>∃d σD G Q',DV K H d v∧RelS K H σD σ∧RelG K H G∧t d σD G Q'∧∀σD' G',Q' σD' G'→Fwd K H G' fun H'=>∀σ',RelS K H' σD' σ'→Q σ' H'
def Zx(K:PySem.W.Frag)(t:Li):TGs:=fun vs σ H Q=>∃ds σD G Q',DVs K H ds vs∧RelS K H σD σ∧RelG K H G∧t ds σD G Q'∧∀σD' G',Q' σD' G'→Fwd K H G' fun H'=>∀σ',RelS K H' σD' σ'→Q σ' H'
def QG(X:Cx)(e:Expr)(g:DTG):Prop:=PG X e (Cu X.K g)
def QGs(X:Cx)(es:List Expr)(g:Li):Prop:=PGs X es (Zx X.K g)
theorem _root_.L2.PG.imp{X:Cx}{e:Expr}{t t':TG}(h:PG X e t)(f:∀v σ H Q,t' v σ H Q→t v σ H Q):PG X e t':=fun pins s σ H v u Q I r q=>h pins s σ H v u Q I r (f v σ H Q q)
theorem _root_.L2.PGs.imp{X:Cx}{e:List Expr}{t t':TGs}(h:PGs X e t)(f:∀v σ H Q,t' v σ H Q→t v σ H Q):PGs X e t':=fun pins s σ H v u Q I r q=>h pins s σ H v u Q I r (f v σ H Q q)
def A0(i:Nat):DTG:=fun d σ G Q=>Q (σ.set i (some d)) G
theorem qg_name{i:Nat}{x:Str}(hN:X.N.Nodup)(hi:X.N[i]? = some x:=by rfl)(hx:Loc X.env.scope x:=by first|exact Or.inl rfl|exact Or.inr rfl)(hf:X.fn x=true∨X.env.scope.names.lookup x=some .local:=by first|exact .inl rfl|exact .inr rfl|assumption):QG X (.Name x pos) (A0 i):=
 (Wi hN hi hx hf).imp fun v σ H Q ⟨d,σD,G,Q',dv,rs,rg,h,cl⟩=>cl _ G h H (Ext.refl H) rg _ (rs.set dv i)
def Nd:Li:=fun ds σ G Q=>ds=[]∧Q σ G
def Hd(t:DTG)(u:Li):Li:=fun ds σ G Q=>∃v r,ds=v::r∧t v σ G fun σ' G'=>u r σ' G' Q
theorem qgs_nil:QGs X [] Nd:=pgs_nil.imp fun v σ H Q ⟨d,σD,G,Q',dv,rs,rg,⟨e,h⟩,cl⟩=>by
 subst e;cases dv
 exact⟨rfl,cl _ G h H (Ext.refl H) rg _ rs⟩
theorem qgs_cons{es:List Expr}{t:DTG}{u:Li}(h1:QG X e t)(h2:QGs X es u)(hs:(assignEach (e::es) X.env).map (·.2)=assign e X.env::(assignEach es X.env).map (·.2):=by rfl):QGs X (e::es) (Hd t u):=(Ub h1 h2 hs).imp fun v σ H Q ⟨d,σD,G,Q',dv,rs,rg,⟨d1,r,e,h⟩,cl⟩=>by
 subst e
 cases dv with
 |@cons _ v1 _ vs h1 t1=>
  refine⟨v1,vs,rfl,d1,σD,G,_,h1,rs,rg,h,fun σ1 G1 q1 H1 x1 rg1 σ' rs1=>?_⟩
  exact⟨r,σ1,G1,Q',t1.ext x1,rs1,rg1,q1,fun σ2 G2 q=>(cl σ2 G2 q).go x1⟩
def Nc(n:Nat)(t:Li):DTG:=fun d σ G Q=>∃ds,d=.tup ds∧ds.length=n∧t ds σ G Q
theorem qg_tup{es:List Expr}{k:Nat}{t:Li}{n:Nat}(hc:X.calm=true)(h:QGs X es t)(hn:(assignEach es X.env).length=n:=by rfl)(hst:(assignEach es X.env).findIdx? (·.1)=none:=by rfl):QG X (.Tuple es k pos) (Nc n t):=(Y5 hc h hn hst).imp fun v σ H Q ⟨d,σD,G,Q',dv,rs,rg,⟨ds,e,hl,h⟩,cl⟩=>by
 subst e
 cases dv with
 |@tup _ a xs e r=>exact⟨a,xs,rfl,.inl (.inl e),by rw[←r.length];exact hl,ds,σD,G,Q',r,rs,rg,h,cl⟩
abbrev Lv:=D→D→D→Gp→(Gp→Prop)→Prop
def W4(K:PySem.W.Frag)(t:Lv):R3:=fun o i v H Q=>∃d1 d2 d3 G Q',DV K H d1 o∧DV K H d2 i∧DV K H d3 v∧RelG K H G∧t d1 d2 d3 G Q'∧∀G',Q' G'→Fwd K H G' Q
def QSet(X:Cx)(t:Lv):Prop:=PSet X (W4 X.K t)
theorem _root_.L2.PSet.imp{X:Cx}{t t':R3}(h:PSet X t)(f:∀o i v H Q,t' o i v H Q→t o i v H Q):PSet X t':=fun pins s σ H o i v ov iv u Q I r1 r2 r3 q=>h pins s σ H o i v ov iv u Q I r1 r2 r3 (f o i v H Q q)
def Lr:Lv:=fun o i v G Q=>∃p,o=.ref p∧∃k,i=.int k∧∃ds,G p=some (.lst ds)∧∃j,ixN ds.length k=some j∧Q (Ab G p (.lst (ds.set j v)))
theorem s_list:QSet X Lr:=set_list.imp fun o i v H Q ⟨d1,d2,d3,G,Q',h1,h2,h3,rg,⟨p,e1,k,e2,ds,eg,j,ej,q⟩,cl⟩=>by
 subst e1 e2
 cases h1;cases h2
 obtain⟨xs,ex,r⟩:=rg p _ eg
 exact⟨p,xs,k,j,rfl,rfl,ex,by rw[←r.length];exact ej,cl _ q _ (Dd ex) (rg.lstw ex (r.set h3 j))⟩
def Ry(to ti:DTE)(t:Lv):DTG:=fun v σ G Q=>to σ G fun o G1=>ti σ G1 fun i G2=>t o i v G2 fun G3=>Q σ G3
theorem qg_sub{o i:Expr}{to ti:DTE}{t:Lv}(ho:QE X o to)(hi:QE X i ti)(hs:QSet X t)(ha:∀v,assign (.Subscript o i pos) X.env v=(do
   let ov ←holding [v] (eval o X.env)
   let iv ←holding [v,ov] (eval i X.env)
   standAt pos
   holding [v,ov,iv] (setItem ov iv v)
   release [v,ov,iv] []):=by intro _;rfl):QG X (.Subscript o i pos) (Ry to ti t):=(Y6 ho hi hs ha).imp fun v σ H Q ⟨d,σD,G,Q',dv,rs,rg,h,cl⟩=>by
 refine⟨σD,G,_,rs,rg,h,fun x G1 h1 H1 x1 rg1 v1 d1=>?_⟩
 refine⟨σD,G1,_,rs.ext x1,rg1,h1,fun y G2 h2 H2 x2 rg2 v2 d2=>?_⟩
 exact⟨x,y,d,G2,_,d1.ext x2,d2,dv.ext (x1.trans x2),rg2,h2,fun G3 q H3 x3 rg3=>cl σD G3 q H3 (x1.trans (x2.trans x3)) rg3 σ (rs.ext (x1.trans (x2.trans x3)))⟩
def B9(te:DTE)(g:DTG):DTS:=fun D σ G=>te σ G fun x G1=>g x σ G1 D.nx
theorem Uv{K:W.Frag}{g:DTG}{E:Ends}{σ:St}{H:Hp}(h:Dl K (B9 te g) E σ H):Vr (Bk K te) (Cu K g) E σ H:=by
 obtain⟨σD,G,D,rs,rg,h,cl⟩:=h
 refine⟨σD,G,_,rs,rg,h,fun d G1 h1 H1 x1 rg1 v dv=>?_⟩
 exact⟨d,σD,G1,_,dv,rs.ext x1,rg1,h1,fun σ2 G2 q=>(cl.go x1).nx σ2 G2 q⟩
theorem qs_asg{tg:Expr}{g:DTG}(he:QE X e te)(hg:QG X tg g)(hs:swapsWithSole [tg] e pos.line X.env=pure false:=by rfl)(hw:swappedStores [tg] e X.env=pure none:=by rfl)(h1:(assignEach [tg] X.env).map (·.2)=[assign tg X.env]:=by rfl):QS X (.Assign [tg] e pos) (B9 te g):=(Y3 he hg hs hw h1).imp fun _ _ _ h=>Uv h
theorem qs_set{i:Nat}{x:Str}{pos':Pos}(hN:X.N.Nodup)(he:QE X e te)(hi:X.N[i]? = some x:=by rfl)(hx:Loc X.env.scope x:=by first|exact Or.inl rfl|exact Or.inr rfl)(hs:swapsWith e (some (.Name x pos')) pos.line X.env=pure false:=by rfl)(hf:X.fn x=true∨X.env.scope.names.lookup x=some .local:=by first|exact .inl rfl|exact .inr rfl|assumption) :
  QS X (.Assign [.Name x pos'] e pos) (B9 te (A0 i)):=(Y2 hN hi hx he hs hf).imp fun E σ H ⟨σD,G,D,rs,rg,h,cl⟩=>
 ⟨σD,G,_,rs,rg,h,fun d G1 h1 H1 x1 rg1 v dv=>cl.nx _ G1 h1 H1 x1 rg1 _ ((rs.ext x1).set dv i)⟩
def Sub(G G':Gp):Prop:=∀a o,G a=some o→G' a=some o
theorem Sub.refl(G:Gp):Sub G G:=fun _ _ h=>h
theorem Sub.trans{G G1 G2:Gp}(a:Sub G G1)(b:Sub G1 G2):Sub G G2:=fun c o h=>b c o (a c o h)
theorem Sub.new{G:Gp}{p:Addr}{o:GO}(h:G p=none):Sub G (Ab G p o):=fun a u e=>by rw[Am (gne e h)];exact e
theorem Sub.upd{G G':Gp}(s:Sub G G')(a:Addr)(o:GO):Sub (Ab G a o) (Ab G' a o):=fun b u e=>by
 by_cases h:b=a
 ·subst h;rw[Aa] at e ⊢;exact e
 ·rw[Am h] at e ⊢;exact s b u e
theorem Sub.none{G G':Gp}(s:Sub G G'){p:Addr}(h:G' p=Option.none):G p=Option.none:=by
 cases e:G p with
 |none=>rfl
 |some o=>rw[s p o e] at h;cases h
theorem Sub.skip{G G':Gp}(s:Sub G G'){p:Addr}{o:GO}(h:G' p=Option.none):Sub G (Ab G' p o):=s.trans (Sub.new h)
def Fs(P:DSt→Gp→Prop)(σ:DSt)(G:Gp):Prop:=∃G',Sub G' G∧P σ G'
theorem Fs.of{P:DSt→Gp→Prop}{σ:DSt}{G:Gp}(h:P σ G):Fs P σ G:=⟨G,Sub.refl G,h⟩
def Aw(G:Gp):D→Option (List D)
 |.tup ds=>some ds
 |.lint ns=>some (ns.map .int)
 |.ref a=>match G a with
  |some (.lst ds)=>some ds
  |_=>none
 |_=>none
def iSeq(K:PySem.W.Frag)(tl:TE):TI:=fun σ H R=>tl σ H fun x H1=>∃a,x=.ref a∧(((∃xs,SqL K H1 a xs)∧R (Itl K a) H1)∨((∃xs,SqT K H1 a xs)∧R (Itt K a) H1))
theorem Kc{tg l:Expr}{tl:TE}(hl:PE X l tl):PI X tg l (iSeq X.K tl):=by
 intro pins s σ H R I h
 refine thn (hl pins s σ H _ I h) fun v s1 ⟨x,H1,I1,r1,q1⟩=>?_
 obtain⟨a,e,q1⟩:=q1
 subst e
 cases r1
 have fin:∀(b:Addr),b∈[s1.heap.objs.size]→Ed X pins H1 b:=fun b hb=>by
  have e:b=s1.heap.objs.size:=by simpa using hb
  subst e
  exact I1.fpOk (Nat.le_refl _) (I1.hok.fresh (Nat.le_refl _))
 rcases q1 with ⟨⟨xs,hq⟩,q⟩|⟨⟨xs,hq⟩,q⟩
 ·obtain⟨its,rv,p,hz⟩:=I1.list hq
  refine wpAny_pyIter_list p.isList ?_
  exact⟨s1.heap.objs.size,[s1.heap.objs.size],_,_,H1,rfl,I1.kept (t':=s1.toks) fun b o e=>Heap.get?_push_of_some _ e,P1 a _,⟨_,Heap.get?_push_size _ rfl,rfl,rfl⟩,fin,q⟩
 ·obtain⟨its,rv,p,hz⟩:=I1.tuple hq
  refine wpAny_pyIter_tuple (show s1.heap.IsTuple a its.toArray from p) ?_
  exact⟨s1.heap.objs.size,[s1.heap.objs.size],_,_,H1,rfl,I1.kept (t':=s1.toks) fun b o e=>Heap.get?_push_of_some _ e,Nw a _,⟨_,Heap.get?_push_size _ rfl,rfl,rfl⟩,fin,q⟩
structure Items(K:PySem.W.Frag)(J:It)(G:Gp)(H:Hp)(ds:List D):Prop where
 go:∀i,i<ds.length→J.go i H
 yl:∀i x H',i<ds.length→J.yld i H x H'→H'=H∧∃d,ds[i]? = some d∧DV K H d x
 st:J.stop ds.length H
theorem Jq{K:W.Frag}{H:Hp}{G:Gp}{a:Addr}{ds:List D}{xs:List V}(e:SqL K H a xs)(r:DVs K H ds xs):Items K (Itl K a) G H ds:=by
 refine⟨fun i hi=>?_,fun i x H' hi y=>?_,⟨xs,e,by rw[←r.length];exact Nat.le_refl _⟩⟩
 ·rw[r.length] at hi
  exact⟨xs,xs[i],e,by simp[hi]⟩
 ·obtain⟨e1,e2⟩:=y
  exact⟨e1,r.get' (e2 xs e)⟩
theorem Q2{K:W.Frag}{H:Hp}{G:Gp}{a:Addr}{ds:List D}{xs:List V}(e:H a=some (.tup xs))(r:DVs K H ds xs):Items K (Itt K a) G H ds:=by
 refine⟨fun i hi=>?_,fun i x H' hi y=>?_,⟨xs,.inl (.inl e),by rw[←r.length];exact Nat.le_refl _⟩⟩
 ·rw[r.length] at hi
  exact⟨xs,xs[i],.inl (.inl e),by simp[hi]⟩
 ·obtain⟨e1,e2⟩:=y
  exact⟨e1,r.get' (e2 xs (.inl (.inl e)))⟩
end
section
variable{X:Cx}{a b c e:Expr}{ta tb tc te:DTE}{pos:Pos}{st:Stmt}{rest body orelse:List Stmt}{t u:DTS}
def jOf(K:PySem.W.Frag)(d:D)(a:Addr):It:=match d with
 |.tup _=>Itt K a
 |_=>Itl K a
theorem Ds{K:W.Frag}{H:Hp}{G:Gp}{d:D}{ds:List D}{a:Addr}(rg:RelG K H G)(h:Aw G d=some ds)(dv:DV K H d (.ref a)):Items K (jOf K d a) G H ds:=by
 cases dv with
 |tup e r=>cases h;exact Q2 e r
 |lint e=>cases h;exact Jq e.sq DVs.ints
 |ref=>
  simp only[Aw] at h
  split at h
  ·rename_i ds' q
   cases h
   obtain⟨xs,e,r⟩:=rg a _ q
   exact Jq (.inl (.inl e)) r
  ·cases h
theorem Fc{K:W.Frag}{H:Hp}{G:Gp}{d:D}{ds:List D}{v:V}(h:Aw G d=some ds)(dv:DV K H d v):∃a,v=.ref a:=by
 cases dv<;>first|exact⟨_,rfl⟩|cases h
def Lh(ds:List D)(same:Gp→Prop)(g:DTG)(tb:DTS)(D:DEnds)(σ:DSt)(G:Gp):Prop:=∃P:Nat→DSt→Gp→Prop,P 0 σ G∧(∀i σ G,i≤ds.length→P i σ G→same G)∧
 (∀i x σ G,ds[i]? = some x→P i σ G→g x σ G fun σ2 G2=>tb { D with nx:=Fs (P (i+1)),ct:=Fs (P (i+1)),bk:=D.nx } σ2 G2)∧∀σ G,P ds.length σ G→D.nx σ G
theorem Fy{K:W.Frag}{J:It}{ds:List D}{same:Gp→Prop}{g:DTG}{tb:DTS}{D:DEnds}{E:Ends}{σD:DSt}{σ:St}{G:Gp}{H:Hp}(rs:RelS K H σD σ)(rg:RelG K H G)(cl:D.Reach K H E)(hJ:∀H' G',Ext H H'→RelG K H' G'→same G'→Items K J G' H' ds)(h:Lh ds same g tb D σD G) :
  ∃W:Nat→Nat→St→Hp→Prop,(∃m,W 0 m σ H)∧∀i m σ H,W i m σ H→
   (J.stop i H∧E.nx σ H)∨(J.go i H∧∃N:St→Hp→Prop,(∀σ' H',N σ' H'→∃m',m'<m∧W (i+1) m' σ' H')∧∀x H',J.yld i H x H'→Cu K g x σ H' fun σ2 H2=>Dl K tb { E with nx:=N,ct:=N,bk:=E.nx } σ2 H2):=by
 obtain⟨P,p0,keep,step,fin⟩:=h
 refine⟨fun i m σ' H'=>m=ds.length-i∧i≤ds.length∧∃σD' G',RelS K H' σD' σ'∧RelG K H' G'∧Ext H H'∧P i σD' G',⟨ds.length,rfl,Nat.zero_le _,σD,G,rs,rg,Ext.refl H,p0⟩,?_⟩
 rintro i m σ1 H1 ⟨rfl,hi,σD1,G1,rs1,rg1,x1,p1⟩
 have I:=hJ H1 G1 x1 rg1 (keep i σD1 G1 hi p1)
 by_cases hlt:i<ds.length
 ·refine .inr ⟨I.go i hlt,fun σ' H'=>∃σD' G',RelS K H' σD' σ'∧RelG K H' G'∧Ext H H'∧P (i+1) σD' G',fun σ' H' ⟨s2,G2,r1,r2,r3,p⟩=>⟨ds.length-(i+1),by omega,rfl,hlt,s2,G2,r1,r2,r3,p⟩,fun x H' y=>?_⟩
  obtain⟨e,d,ed,dv⟩:=I.yl i x H' hlt y
  subst e
  refine⟨d,σD1,G1,_,dv,rs1,rg1,step i d σD1 G1 ed p1,fun σ2 G2 h2 H2 x2 rg2 σ' rs2=>?_⟩
  have xx:=x1.trans x2
  exact⟨σ2,G2,_,rs2,rg2,h2,⟨fun s3 G3 ⟨G4,sb,n⟩ H3 x3 rg3 σ3 rs3=>⟨s3,G4,rs3,rg3.ext' sb,xx.trans x3,n⟩,(cl.go xx).rt,(cl.go xx).nx,fun s3 G3 ⟨G4,sb,n⟩ H3 x3 rg3 σ3 rs3=>⟨s3,G4,rs3,rg3.ext' sb,xx.trans x3,n⟩⟩⟩
 ·have e:i=ds.length:=by omega
  subst e
  exact .inl ⟨I.st,cl.nx _ G1 (fin σD1 G1 p1) H1 x1 rg1 _ rs1⟩
def Rv(te:DTE)(g:DTG)(tb:DTS):DTS:=fun D σ G=>te σ G fun d G1=>∃ds,Aw G1 d=some ds∧Lh ds (fun G'=>Aw G' d=some ds) g tb D σ G1
theorem qs_for{tg iter:Expr}{g:DTG}{tb:DTS}(hp:PassesOwn (model X.prog X.w) X.A X.env X.xe)(hc:X.calm=true)(hi:QE X iter te)(hg:QG X tg g)(hb:QSs X body tb)(hs:∀x,foldedSetIterable iter X.env x=pure x:=by intro _;rfl):QS X (.For tg iter body [] pos) (Rv te g tb):=(Kb hp hc (Kc hi) hg hb hs).imp fun E σ H ⟨σD,G,D,rs,rg,h,cl⟩=>by
 refine⟨σD,G,_,rs,rg,h,fun d G1 ⟨ds,ei,L⟩ H1 x1 rg1 v dv=>?_⟩
 obtain⟨a,rfl⟩:=Fc ei dv
 refine⟨a,rfl,?_⟩
 have lp:=Fy (J:=jOf X.K d a) (rs.ext x1) rg1 (cl.go x1) (fun H' G' x' rg' s'=>Ds rg' s' (dv.ext x')) L
 have I0:=Ds rg1 ei dv
 cases dv with
 |tup e r=>exact .inr ⟨⟨_,.inl (.inl e)⟩,lp⟩
 |lint e=>exact .inl ⟨⟨_,e.sq⟩,lp⟩
 |ref=>
  simp only[Aw] at ei
  split at ei
  ·rename_i ds' q
   obtain⟨xs,e,r⟩:=rg1 a _ q
   exact .inl ⟨⟨_,.inl (.inl e)⟩,lp⟩
  ·cases ei
def Lc(n:Nat):List D:=(List.range n).map fun i=>D.int (i:Nat)
theorem Bc(n:Nat):(Lc n).length=n:=by simp[Lc]
theorem Dq{n i:Nat}(h:i<n):(Lc n)[i]? = some (.int (i:Nat)):=by simp[Lc,h]
def Ln(tA:DTA)(g:DTG)(tb:DTS):DTS:=fun D σ G=>tA σ G fun ds G1=>∃j,ds=[.int j]∧(-(2 ^ 62)≤j∧j<2 ^ 62)∧Lh (Lc j.toNat) (fun _=>True) g tb D σ G1
theorem Go{tg:Expr}{g:DTG}{tb:DTS}{tA:DTA}{p p2:Pos}(hp:PassesOwn (model X.prog X.w) X.A X.env X.xe)(hc:X.calm=true)(hm:X.mg "range" = none)(ha:QA X [a] tA)(hg:QG X tg g)(hb:QSs X body tb)(hgl:Gl X "range":=by rfl)(hst:starEach [a] X.env=[(false,eval a X.env)]:=by rfl)(hs:∀x,foldedSetIterable (.Call (.Name "range" p) [a] [] p2) X.env x=pure x:=by intro _;rfl) :
  QS X (.For tg (.Call (.Name "range" p) [a] [] p2) body [] pos) (Ln tA g tb):=(Kb hp hc (Jk hgl hm ha hst) hg hb hs).imp fun E σ H ⟨σD,G,D,rs,rg,h,cl⟩=>by
 refine⟨σD,G,_,rs,rg,h,fun ds G1 ⟨j,ej,⟨j1,j2⟩,L⟩ H1 x1 rg1 vs dv=>?_⟩
 subst ej
 obtain⟨v,rfl,r⟩:=dv.one
 cases r
 refine⟨j,rfl,j1,j2,Fy (J:=Itr 0 j.toNat) (rs.ext x1) rg1 (cl.go x1) (fun H' G' x' rg' _=>?_) L⟩
 refine⟨fun i hi=>by rw[Bc] at hi;exact hi,fun i x H2 hi y=>?_,by show j.toNat≤_;rw[Bc];exact Nat.le_refl _⟩
 rw[Bc] at hi
 obtain⟨e1,e2⟩:=y
 refine⟨e1,_,Dq hi,?_⟩
 rw[e2,Int.zero_add]
 exact .int _

abbrev DX:=Value→Gp→Prop
abbrev DSp:=List D→Gp→DK→DX→Prop
def Ex(K:PySem.W.Frag)(E:DX):XK:=fun c _ H'=>∃G',RelG K H' G'∧E c G'
def Ai(K:PySem.W.Frag)(sp:DSp):Sp:=fun vs H Q E=>∃ds G Q' E',DVs K H ds vs∧RelG K H G∧sp ds G Q' E'∧(∀d G',Q' d G'→Fwd K H G' fun H'=>∀v,DV K H' d v→Q v H')∧∀c G',E' c G'→Fwd K H G' fun H'=>∀ad,E c ad H'
structure Def(P:Program)(w:World)(K:PySem.W.Frag)(mg:Str→Option Value)(base:Heap)(CX:CXT)(k:Nat)(x:Str)(ps:List Str)(sp:DSp):Prop where
 ex:∃f fd,FnOk P w K mg base CX k f fd ps (Ai K sp)∧mg x=some (.ref f)∧PySem.W.keepIn K (.ref f)=true∧Binds K fd ps []
def Ax(sp:DSp)(E:DX)(t:DTA):DTE:=fun σ G Q=>t σ G fun ds G1=>sp ds G1 Q E
abbrev noX:DX:=fun _ _=>False
theorem q_call{CX:CXT}{k:Nat}{x:Str}{ps:List Str}{sp:DSp}{E:DX}{es:List Expr}{p:Pos}{tA:DTA}(F:Def X.prog X.w X.K X.mg X.base CX k x ps sp)(hr:Room k X.A)(hx:Cb CX X (Ex X.K E))(ha:QA X (e::es) tA)(hg:Gl X x:=by rfl)(hdb:(x == ("__debug__" : Str))=false:=by decide)(he:starEach (e::es) X.env=(false,eval e X.env)::starEach es X.env:=by rfl)(hpl:(backTo pos (starEach es X.env)).any (·.1)=false:=by rfl) :
  QE X (.Call (.Name x p) (e::es) [] pos) (Ax sp E tA):=by
 obtain⟨f,fd,F,hm,hk,hb⟩:=F.ex
 refine(Wl (ds:=[]) (dvs:=[]) F hr hg hm hk hb .nil hx ha hdb he hpl).imp fun σ H Q ⟨σD,G,Q',rs,rg,h,cl⟩=>?_
 refine⟨σD,G,_,rs,rg,h,fun ds G1 h1 H1 x1 rg1 vs dv=>?_⟩
 show Ai X.K sp (vs++[]) H1 Q (Ex X.K E)
 rw[List.append_nil]
 exact⟨ds,G1,Q',E,dv,rg1,h1,fun d G' q=>(cl d G' q).go x1,fun c G' q H2 x2 rg2 ad=>⟨G',rg2,q⟩⟩
theorem passN{E:DX}:Cb CX0 X (Ex X.K E):=fun _ _ _ _ _ _ _ h=>h.elim

def Aj(N:List Str)(ds:List D):DSt:=ds.map some++List.replicate (N.length-ds.length) none
def Fq(Q:DK)(d:D)(G:Gp):Prop:=∃G',Sub G' G∧Q d G'
theorem Fq.of{Q:DK}{d:D}{G:Gp}(h:Q d G):Fq Q d G:=⟨G,Sub.refl G,h⟩
theorem D7{K:W.Frag}{H:Hp}{N:List Str}{ds:List D}{vs:List V}(r:DVs K H ds vs):RelS K H (Aj N ds) (L2.start N vs):=by
 have hl:=r.length
 refine⟨by simp[Aj,L2.start,hl],fun i d e=>?_⟩
 unfold Aj at e
 unfold L2.start
 by_cases hi:i<ds.length
 ·rw[List.getElem?_append_left (by simpa using hi),List.getElem?_map] at e
  rw[List.getElem?_append_left (by simpa[←hl] using hi),List.getElem?_map]
  cases q:ds[i]? with
  |none=>rw[q] at e;cases e
  |some d'=>
   rw[q] at e;cases e
   obtain⟨v,ev,dv⟩:=r.get q
   exact⟨v,by rw[ev];rfl,dv⟩
 ·rw[List.getElem?_append_right (by simpa using hi),List.getElem?_replicate] at e
  split at e<;>cases e
section
variable{P:Program}{w:World}{K:W.Frag}{mg:Str→Option Value}{base:Heap}
theorem okD{x qual:Str}{st:Stmt}{f:Addr}{fd:FuncData}{N ps:List Str}{k:Nat}{sp:DSp}(F:Fun K x qual st f fd)(S:FnScope N ps (Ac st))(len:∀ds G Q E,sp ds G Q E→ds.length=ps.length)(hbody:∀(cdv:Value) (A:Around) (outer:List Env) (s:Shared) (H:Hp) (XE:XK) (ds:List D) (G:Gp) (Q:DK) (E:DX),Room k (A.deeper (envOfC qual (Ac st) s.heap.objs.size f cdv))→sp ds G Q E→
   ∃t,QSs (Cl CX0 P w K mg base N qual (Ac st) f cdv A outer s H XE).nox (Bx st) t∧t { nx:=fun _ G'=>Fq Q .non G',rt:=Fq Q } (Aj N ds) G):FnOk P w K mg base CX0 (k+1) f fd ps (Ai K sp):=by
 refine F.ok S (fun vs H Q E ⟨ds,G,Q',E',dv,rg,h,_⟩=>by rw[←dv.length];exact len ds G Q' E' h) fun cdv A outer s H vs Q E hr ⟨ds,G,Q',E',dv,rg,h,cl,_⟩=>?_
 obtain⟨t,ht,hq⟩:=hbody cdv A outer s H E ds G Q' E' hr h
 refine⟨_,ht,Aj N ds,G,_,D7 dv,rg,hq,⟨fun σD G1 ⟨G2,sb,q⟩ H1 x1 rg1 σ rs=>cl _ G2 q H1 x1 (rg1.ext' sb) _ .non,fun d G1 ⟨G2,sb,q⟩ H1 x1 rg1 v dv=>cl _ G2 q H1 x1 (rg1.ext' sb) _ dv,fun _ _ z=>z.elim,fun _ _ z=>z.elim⟩⟩
end
abbrev DRC:=List D→Gp→DK→Prop
def Xy(K:PySem.W.Frag)(r:DRC):List V→Hp→VK→Prop:=fun xs H Q=>∃ds G Q',DVs K H ds xs∧RelG K H G∧r ds G Q'∧∀d G',Q' d G'→Fwd K H G' fun H'=>∀v,DV K H' d v→Q v H'
def QC(X:Cx)(f:Value)(r:DRC):Prop:=CallR X f (Xy X.K r)
theorem _root_.L2.CallR.imp{f:Value}{r r':List V→Hp→VK→Prop}(h:CallR X f r)(g:∀xs H Q,r' xs H Q→r xs H Q):CallR X f r':=fun pins s σ H xs us Q I rx q=>h pins s σ H xs us Q I rx (g xs H Q q)
def nCB(r:DRC)(t:DTA):DTE:=fun σ G Q=>t σ G fun vs G1=>r vs G1 Q
theorem Pb{K:W.Frag}{r:DRC}{tA:DTA}{σ:St}{H:Hp}{Q:VK}(h:Bk K (nCB r tA) σ H Q):tCB (Xy K r) (Sd K tA) σ H Q:=by
 obtain⟨σD,G,Q',rs,rg,h,cl⟩:=h
 exact⟨σD,G,_,rs,rg,h,fun ds G1 h1 H1 x1 rg1 vs dv=>⟨ds,G1,Q',dv,rg1,h1,fun d G' q=>(cl d G' q).go x1⟩⟩
theorem q_callB{x:Str}{id:String}{r:DRC}{es:List Expr}{p:Pos}{tA:DTA}(hc:QC X (.builtin id) r)(hm:X.mg x=none)(hv:bootBuiltins x=some (.builtin id))(ha:QA X (e::es) tA)(hg:Gl X x:=by rfl)(hn:x≠"__name__":=by decide)(hdb:(x == ("__debug__" : Str))=false:=by decide)(he:starEach (e::es) X.env=(false,eval e X.env)::starEach es X.env:=by rfl)(hpl:(backTo pos (starEach es X.env)).any (·.1)=false:=by rfl):QE X (.Call (.Name x p) (e::es) [] pos) (nCB r tA):=(Hm hc hg hm hv ha hn hdb he hpl).imp fun _ _ _ h=>Pb h
theorem q_callTy{x:Str}{T:String}{r:DRC}{es:List Expr}{p:Pos}{tA:DTA}(hc:QC X (.type T) r)(hm:X.mg x=none)(hv:bootBuiltins x=some (.type T))(ha:QA X (e::es) tA)(hg:Gl X x:=by rfl)(hn:x≠"__name__":=by decide)(hdb:(x == ("__debug__" : Str))=false:=by decide)(he:starEach (e::es) X.env=(false,eval e X.env)::starEach es X.env:=by rfl)(hpl:(backTo pos (starEach es X.env)).any (·.1)=false:=by rfl):QE X (.Call (.Name x p) (e::es) [] pos) (nCB r tA):=(Jl hc hg hm hv ha hn hdb he hpl).imp fun _ _ _ h=>Pb h
theorem Ls:QC X (.builtin "abs") (fun ds G Q=>∃i,ds=[.int i]∧Q (.int (if i<0 then -i else i)) G):=call_abs.imp fun xs H Q ⟨ds,G,Q',dv,rg,⟨i,e,q⟩,cl⟩=>by
 subst e
 obtain⟨v,rfl,r⟩:=dv.one
 cases r
 exact⟨i,rfl,cl _ G q H (Ext.refl H) rg _ (.int _)⟩
theorem Aae(hc:X.calm=true):QC X (.builtin "max") (fun ds G Q=>∃i j,ds=[.int i,.int j]∧Q (.int (if j>i then j else i)) G):=(Rh hc).imp fun xs H Q ⟨ds,G,Q',dv,rg,⟨i,j,e,q⟩,cl⟩=>by
 subst e
 obtain⟨v,w,rfl,r,r'⟩:=dv.two
 cases r;cases r'
 exact⟨i,j,rfl,cl _ G q H (Ext.refl H) rg _ (.int _)⟩
theorem Aad(hc:X.calm=true):QC X (.builtin "min") (fun ds G Q=>∃i j,ds=[.int i,.int j]∧Q (.int (if j<i then j else i)) G):=(Rg hc).imp fun xs H Q ⟨ds,G,Q',dv,rg,⟨i,j,e,q⟩,cl⟩=>by
 subst e
 obtain⟨v,w,rfl,r,r'⟩:=dv.two
 cases r;cases r'
 exact⟨i,j,rfl,cl _ G q H (Ext.refl H) rg _ (.int _)⟩
theorem Vb:QC X (.builtin "divmod") (fun ds G Q=>∃i j,ds=[.int i,.int j]∧Nf i j∧Q (.tup [.int (i / j),.int (i % j)]) G):=call_divmod.imp fun xs H Q ⟨ds,G,Q',dv,rg,⟨i,j,e,hc,q⟩,cl⟩=>by
 subst e
 obtain⟨v,w,rfl,r,r'⟩:=dv.two
 cases r;cases r'
 refine⟨i,j,rfl,hc,fun p hp=>?_⟩
 exact cl _ G q _ (Ext.fresh hp) (rg.tup hp) _ (.tup Ah (.cons (.int _) (.cons (.int _) .nil)))
def Fo(G:Gp):D→Option Nat
 |.tup ds=>some ds.length
 |.lint ns=>some ns.length
 |.str y=>if y.length≤sizeLine then some y.length else none
 |.ref a=>match G a with
  |some (.lst ds)=>some ds.length
  |_=>none
 |_=>none
theorem c_len:QC X (.builtin "len") (fun ds G Q=>∃d,ds=[d]∧∃n,Fo G d=some n∧Q (.int (n:Nat)) G):=call_len.imp fun xs H Q ⟨ds,G,Q',dv,rg,⟨d,e,n,en,q⟩,cl⟩=>by
 subst e
 obtain⟨v,rfl,r⟩:=dv.one
 refine⟨v,n,rfl,?_,cl _ G q H (Ext.refl H) rg _ (.int _)⟩
 cases r with
 |tup e r=>cases en;exact .inr ⟨_,.inl (.inl e),r.length⟩
 |@lint ns a e=>cases en;exact .inl ⟨_,e.sq,by simp⟩
 |str y=>
  simp only[Fo] at en
  split at en
  ·rename_i hy;cases en;exact⟨hy,rfl⟩
  ·cases en
 |ref a=>
  simp only[Fo] at en
  split at en
  ·rename_i ds g
   cases en
   obtain⟨xs,e,r⟩:=rg a _ g
   exact .inl ⟨xs,.inl (.inl e),r.length⟩
  ·cases en
 |_=>cases en
theorem c_tuple:QC X (.type "tuple") (fun ds G Q=>∃d,ds=[d]∧∃es,Aw G d=some es∧Q (.tup es) G):=call_tuple_of.imp fun xs H Q ⟨ds,G,Q',dv,rg,⟨d,e,es,en,q⟩,cl⟩=>by
 subst e
 obtain⟨v,rfl,r⟩:=dv.one
 cases r with
 |tup e r=>cases en;exact⟨_,_,rfl,.inr ⟨.inl (.inl e),cl _ G q H (Ext.refl H) rg _ (.tup e r)⟩⟩
 |@lint ns a e=>cases en;exact⟨_,_,rfl,.inl ⟨e.sq,fun p hp=>cl _ G q _ (Ext.fresh hp) (rg.tup hp) _ (.tup Ah DVs.ints)⟩⟩
 |ref a=>
  simp only[Aw] at en
  split at en
  ·rename_i ds g
   cases en
   obtain⟨xs,e,r⟩:=rg a _ g
   exact⟨a,xs,rfl,.inl ⟨.inl (.inl e),fun p hp=>cl _ G q _ (Ext.fresh hp) (rg.tup hp) _ (.tup Ah (r.ext (Ext.fresh hp)))⟩⟩
  ·cases en
 |_=>cases en
theorem c_list:QC X (.type "list") (fun ds G Q=>∃d,ds=[d]∧∃es,Aw G d=some es∧∀p,G p=none→Q (.ref p) (Ab G p (.lst es))):=call_list_of.imp fun xs H Q ⟨ds,G,Q',dv,rg,⟨d,e,es,en,q⟩,cl⟩=>by
 subst e
 obtain⟨v,rfl,r⟩:=dv.one
 cases r with
 |tup e r=>cases en;exact⟨_,_,rfl,.inr (.inl (.inl e)),fun p hp=>cl _ _ (q p (rg.free hp)) _ (Ext.fresh hp) (rg.lst hp r) _ (.ref p)⟩
 |@lint ns a e=>cases en;exact⟨_,_,rfl,.inl e.sq,fun p hp=>cl _ _ (q p (rg.free hp)) _ (Ext.fresh hp) (rg.lst hp DVs.ints) _ (.ref p)⟩
 |ref a=>
  simp only[Aw] at en
  split at en
  ·rename_i ds g
   cases en
   obtain⟨xs,e,r⟩:=rg a _ g
   exact⟨a,xs,rfl,.inl (.inl (.inl e)),fun p hp=>cl _ _ (q p (rg.free hp)) _ (Ext.fresh hp) (rg.lst hp r) _ (.ref p)⟩
  ·cases en
 |_=>cases en
def Rw(to:DTE)(ta:DTE):DTE:=fun σ G Q=>to σ G fun x G1=>∃p,x=.ref p∧(∃ds,G1 p=some (.lst ds))∧ta σ G1 fun y G2=>∃ds,G2 p=some (.lst ds)∧ds.length<sizeLine∧Q .non (Ab G2 p (.lst (ds++[y])))
theorem q_app{o:Expr}{to:DTE}{apos cpos:Pos}(ho:QE X o to)(ha:QE X e ta)(hbase:attributeBase o "append" X.env (eval o X.env)=eval o X.env:=by rfl)(hfew:((backTo cpos (starEach [e] X.env)).all (fun x=>!x.1)&&(backToKw cpos (keywordEach [] X.env)).all (fun x=>x.1.isSome)
   && decide (([e]:List Expr).length+([]:List Keyword).length+(if ([]:List Keyword).isEmpty then 0 else 1)<30))=true:=by rfl)(hline:(apos.endLine == cpos.line)=true:=by rfl)(hs:starEach [e] X.env=(false,eval e X.env)::starEach [] X.env:=by rfl)(hplain:(backTo cpos (starEach [] X.env)).any (·.1)=false:=by rfl) :
  QE X (.Call (.Attribute o "append" apos) [e] [] cpos) (Rw to ta):=
 (R9 PySem.F.plainAttrs_list PySem.F.slot_list_append PySem.F.type_list_append Fw ho (Gq ha qa_nil hs) hbase hfew hline hs hplain).imp fun σ H Q ⟨σD,G,Q',rs,rg,h,cl⟩=>by
 refine⟨σD,G,_,rs,rg,h,fun d G1 ⟨p,ep,⟨ds,eg⟩,h1⟩ H1 x1 rg1 v dv=>?_⟩
 subst ep;cases dv
 obtain⟨xs,ex,r⟩:=rg1 p _ eg
 refine⟨.inl ⟨rfl,xs,.inl (.inl ex)⟩,σD,G1,fun ds' G2=>∃y,ds'=[y]∧∃ds,G2 p=some (.lst ds)∧ds.length<sizeLine∧Q' .non (Ab G2 p (.lst (ds++[y]))),rs.ext x1,rg1,?_,?_⟩
 ·show ta σD G1 fun x G1=>Aq σD G1 fun xs G2=>_
  exact cast (by congr 1;funext y G2;simp[Aq]) h1
 ·rintro ds' G2 ⟨y,rfl,ds2,eg2,hl,q⟩ H2 x2 rg2 vs dvs
  obtain⟨v,rfl,dv⟩:=dvs.one
  obtain⟨xs2,ex2,r2⟩:=rg2 p _ eg2
  exact⟨p,xs2,v,rfl,rfl,ex2,by rw[←r2.length];exact hl,cl _ _ q _ ((x1.trans x2).trans (Dd ex2)) (rg2.lstw ex2 (r2.append (.cons dv .nil))) _ .non⟩
end
theorem Ck{n:Nat}{g:DTG}{tb:DTS}{D:DEnds}{σ:DSt}{G:Gp}(P:Nat→DSt→Gp→Prop)(h0:P 0 σ G)(hs:∀i σ G,i<n→P i σ G→g (.int (i:Nat)) σ G fun σ2 G2=>tb { D with nx:=Fs (P (i+1)),ct:=Fs (P (i+1)),bk:=D.nx } σ2 G2)(hd:∀σ G,P n σ G→D.nx σ G):Lh (Lc n) (fun _=>True) g tb D σ G:=by
 refine⟨P,h0,fun _ _ _ _ _=>trivial,fun i x σ G hx p=>?_,fun σ G p=>hd σ G (by rw[Bc] at p;exact p)⟩
 have hi:i<n:=by
  have:=(List.getElem?_eq_some_iff.mp hx).1
  rw[Bc] at this;exact this
 rw[Dq hi] at hx
 cases hx
 exact hs i σ G hi p
theorem q_globx{X:Cx}{x:Str}{i:Int}{pos:Pos}(hm:∃t,X.mg x=some (.int i t))(hg:Gl X x:=by rfl)(hd:(x == ("__debug__" : Str))=false:=by decide):QE X (.Name x pos) (nC (.int i)):=
 let ⟨_,h⟩:=hm;Yu h hg hd
theorem it0{P:Prop}[Decidable P]{A B:Prop}(h:P)(a:A):if P then A else B:=by rw[if_pos h];exact a
theorem it1{P:Prop}[Decidable P]{A B:Prop}(h:¬P)(b:B):if P then A else B:=by rw[if_neg h];exact b
theorem exI{p:Int→Prop}{j:Int}:(∃i,D.int j=D.int i∧p i)↔p j:=⟨fun⟨i,e,h⟩=>by cases e;exact h,fun h=>⟨j,rfl,h⟩⟩
theorem exB{p:Bool→Prop}{j:Bool}:(∃i,D.bl j=D.bl i∧p i)↔p j:=⟨fun⟨i,e,h⟩=>by cases e;exact h,fun h=>⟨j,rfl,h⟩⟩
theorem exR{p:Addr→Prop}{j:Addr}:(∃i,D.ref j=D.ref i∧p i)↔p j:=⟨fun⟨i,e,h⟩=>by cases e;exact h,fun h=>⟨j,rfl,h⟩⟩
theorem exT{p:List D→Prop}{j:List D}:(∃i,D.tup j=D.tup i∧p i)↔p j:=⟨fun⟨i,e,h⟩=>by cases e;exact h,fun h=>⟨j,rfl,h⟩⟩
theorem exS{α:Type}{p:α→Prop}{j:α}:(∃i,some j=some i∧p i)↔p j:=⟨fun⟨i,e,h⟩=>by cases e;exact h,fun h=>⟨j,rfl,h⟩⟩
theorem exSS{α:Type}{p:α→Prop}{j:α}:(∃i,some (some j)=some (some i)∧p i)↔p j:=⟨fun⟨i,e,h⟩=>by cases e;exact h,fun h=>⟨j,rfl,h⟩⟩
theorem ex1{p:D→Prop}{j:D}:(∃i,[j]=[i]∧p i)↔p j:=⟨fun⟨i,e,h⟩=>by cases e;exact h,fun h=>⟨j,rfl,h⟩⟩
theorem ex1I{p:Int→Prop}{j:Int}:(∃i,[D.int j]=[D.int i]∧p i)↔p j:=⟨fun⟨i,e,h⟩=>by cases e;exact h,fun h=>⟨j,rfl,h⟩⟩
theorem ex2{p:D→D→Prop}{j k:D}:(∃x y,[j,k]=[x,y]∧p x y)↔p j k:=⟨fun⟨_,_,e,h⟩=>by cases e;exact h,fun h=>⟨j,k,rfl,h⟩⟩
theorem ex2I{p:Int→Int→Prop}{j k:Int}:(∃x y,[D.int j,D.int k]=[D.int x,D.int y]∧p x y)↔p j k:=⟨fun⟨_,_,e,h⟩=>by cases e;exact h,fun h=>⟨j,k,rfl,h⟩⟩
theorem Cf{ds:List D}{same:Gp→Prop}{g:DTG}{tb:DTS}{D:DEnds}{σ:DSt}{G:Gp}(P:Nat→DSt→Gp→Prop)(h0:P 0 σ G)(hk:∀i σ G,i≤ds.length→P i σ G→same G)(hs:∀i x σ G,ds[i]? = some x→P i σ G→g x σ G fun σ2 G2=>tb { D with nx:=Fs (P (i+1)),ct:=Fs (P (i+1)),bk:=D.nx } σ2 G2)(hd:∀σ G,P ds.length σ G→D.nx σ G):Lh ds same g tb D σ G:=⟨P,h0,hk,hs,hd⟩
theorem exCons{p:D→List D→Prop}{j:D}{r:List D}:(∃x y,j::r=x::y∧p x y)↔p j r:=⟨fun⟨_,_,e,h⟩=>by cases e;exact h,fun h=>⟨j,r,rfl,h⟩⟩
theorem atI0{α:Type}{x:α}{r:List α}:atI (x::r) 0=some x:=Gx (j:=0) rfl
theorem atI1{α:Type}{x y:α}{r:List α}:atI (x::y::r) 1=some y:=Gx (j:=1) rfl
theorem U0{G:Gp}{ds:List D}{i:Int}:Ey G (.tup ds) i=atI ds i:=rfl
theorem Q3{G:Gp}{ns:List Int}{i:Int}:Ey G (.lint ns) i=atI (ns.map D.int) i:=rfl
theorem A7{G:Gp}{a:Addr}{ds:List D}{i:Int}(h:G a=some (.lst ds)):Ey G (.ref a) i=atI ds i:=by simp only[Ey,h]
theorem Gv{G:Gp}{ds:List D}:Fo G (.tup ds)=some ds.length:=rfl
theorem Md{G:Gp}{ns:List Int}:Fo G (.lint ns)=some ns.length:=rfl
theorem A9{G:Gp}{a:Addr}{ds:List D}(h:G a=some (.lst ds)):Aw G (.ref a)=some ds:=by simp only[Aw,h]
theorem Uz{G:Gp}{ds:List D}:Aw G (.tup ds)=some ds:=rfl
theorem ix0{n:Nat}:ixN (n+1) 0=some 0:=by unfold ixN;rw[if_pos (by omega),if_pos (by omega)];rfl
def Ru(c:DTT)(t u:DTS):DTS:=fun D σ G=>∃M:DSt→Gp→Prop,(c σ G fun b G1=>if b=true then t { D with nx:=Fs M } σ G1 else u { D with nx:=Fs M } σ G1)∧∀σ' G',M σ' G'→D.nx σ' G'
theorem qs_ifM{X:Cx}{c:Expr}{body orelse:List Stmt}{pos:Pos}{tc:DTT}{t u:DTS}(hc:QT X c tc)(ha:QSs X body t)(hb:QSs X orelse u):QS X (.If c body orelse pos) (Ru tc t u):=(Xs hc ha hb).imp fun E σ H ⟨σD,G,D,rs,rg,⟨M,h,hM⟩,cl⟩=>by
 refine⟨σD,G,_,rs,rg,h,fun k G1 h1 H1 x1 rg1=>?_⟩
 have cl':DEnds.Reach X.K H1 { D with nx:=Fs M } E:=⟨fun s2 G2 ⟨G3,sb,m⟩ H2 x2 rg2=>(cl.go x1).nx s2 G3 (hM s2 G3 m) H2 x2 (rg2.ext' sb),(cl.go x1).rt,(cl.go x1).bk,(cl.go x1).ct⟩
 dsimp only at h1 ⊢
 cases k with
 |true=>rw[if_pos rfl] at h1 ⊢;exact⟨σD,G1,_,rs.ext x1,rg1,h1,cl'⟩
 |false=>rw[if_neg Bool.false_ne_true] at h1 ⊢;exact⟨σD,G1,_,rs.ext x1,rg1,h1,cl'⟩
theorem Kg{α:Type}{xs:List α}{k:Nat}{x:α}(h:xs[k]? = some x):atI xs (k:Int)=some x:=Gx h
theorem szl{n:Nat}(h:n≤1000):n≤sizeLine:=Nat.le_of_lt (Bo h)
theorem sz2:2≤sizeLine:=szl (by decide)
def Nb(T:List Str)(σ:St):St:=List.replicate T.length none++σ

def Hf(ifs:List Expr)(env:Env):Sem Bool:=forIn ifs true fun c r=>if r=true then do let ok ←isTrue c env (eval c env);pure (ForInStep.yield ok) else pure (ForInStep.yield r)
def PF(X:Cx)(ifs:List Expr)(t:TT):Prop:=
 ∀(pins:List (Addr×Obj)) (s:Shared) (σ:St) (H:Hp) (Q:Bool→Hp→Prop),Inv X pins σ H s→t σ H Q→wpAny (model X.prog X.w) X.A (Hf ifs X.env) (TP X pins σ Q) X.xe s
theorem Y8{X:Cx}:PF X [] (fun _ H Q=>Q true H):=fun pins s σ H Q I h=>by
 unfold Hf
 rw[List.forIn_nil]
 exact wpAny_pure ⟨H,I,h⟩
theorem Y7{X:Cx}{c:Expr}{t:TT}(h:PT X c t):PF X [c] t:=fun pins s σ H Q I q=>by
 unfold Hf
 rw[List.forIn_cons]
 refine wpAny_bind ?_
 rw[if_pos rfl]
 refine wpAny_bind (thn (h pins s σ H Q I q) fun b s1 hb=>wpAny_pure ?_)
 show wpAny _ _ (forIn [] b _) _ _ s1
 rw[List.forIn_nil]
 exact wpAny_pure hb

def Bq(cells:List (Str×Addr)):List (Str×NameKind)→List (Str×Addr)→List (Str×Addr)
 |[],cs=>cs
 |(n,k)::r,cs=>if (k == .free)=true then match cells.lookup n with
   |some c=>Bq cells r ((n,c)::cs)
   |none=>Bq cells r cs
  else Bq cells r cs
theorem Xh{env:Env}:∀(names:List (Str×NameKind)) (cs:List (Str×Addr)),(names.all fun y=>!(y.2 == .free)||(env.cells.lookup y.1).isSome)=true→
  (forIn names cs fun(x:Str×NameKind) (r:List (Str×Addr))=>(if (x.2 == NameKind.free)=true then do let __do_lift ←cellOf env x.1;pure (ForInStep.yield ((x.1,__do_lift)::r)) else pure (ForInStep.yield r):Sem (ForInStep (List (Str×Addr)))))=pure (Bq env.cells names cs):=by
 intro names
 induction names with
 |nil=>intro cs _;rw[List.forIn_nil];rfl
 |cons y r ih=>
  intro cs h
  obtain⟨n,k⟩:=y
  rw[List.all_cons,Bool.and_eq_true] at h
  rw[List.forIn_cons]
  by_cases hk:(k == NameKind.free)=true
  ·have hs:(env.cells.lookup n).isSome=true:=by
    have h1:=h.1
    simp only[hk,Bool.not_true,Bool.false_or] at h1
    exact h1
   obtain⟨c,hc⟩:=Option.isSome_iff_exists.mp hs
   simp only[hk,if_true,Bq,hc,cellOf]
   exact ih _ h.2
  ·simp only[hk,Bq]
   exact ih _ h.2
theorem D9{cells:List (Str×Addr)}:∀(names:List (Str×NameKind)) (cs:List (Str×Addr)),(∀x c,cs.lookup x=some c→cells.lookup x=some c)→∀x c,(Bq cells names cs).lookup x=some c→cells.lookup x=some c
 |[],cs,h,x,c,e=>h x c e
 |(n,k)::r,cs,h,x,c,e=>by
  unfold Bq at e
  split at e
  ·split at e
   ·rename_i c' hc
    refine D9 r _ (fun y d z=>?_) x c e
    by_cases hy:y=n
    ·subst hy
     rw[List.lookup_cons_self] at z
     cases z
     exact hc
    ·rw[List.lookup_cons,beq_false_of_ne hy] at z
     exact h y d z
   ·exact D9 r _ h x c e
  ·exact D9 r _ h x c e
theorem F1{cells:List (Str×Addr)}:∀(names:List (Str×NameKind)) (cs:List (Str×Addr)) (x:Str),(names.all fun y=>!(y.2 == .free)||(cells.lookup y.1).isSome)=true→((x,NameKind.free)∈names∨∃c,cs.lookup x=some c)→∃c,(Bq cells names cs).lookup x=some c
 |[],cs,x,_,h=>h.elim (fun z=>nomatch z) id
 |(n,k)::r,cs,x,ha,h=>by
  rw[List.all_cons,Bool.and_eq_true] at ha
  unfold Bq
  by_cases hk:(k == NameKind.free)=true
  ·have hs:(cells.lookup n).isSome=true:=by
    have h1:=ha.1
    simp only[hk,Bool.not_true,Bool.false_or] at h1
    exact h1
   obtain⟨c,hc⟩:=Option.isSome_iff_exists.mp hs
   rw[if_pos hk,hc]
   refine F1 r _ x ha.2 ?_
   by_cases hx:x=n
   ·subst hx;exact .inr ⟨c,List.lookup_cons_self⟩
   ·rcases h with h|⟨d,h⟩
    ·rcases List.mem_cons.mp h with z|z
     ·cases z;exact absurd rfl hx
     ·exact .inl z
    ·exact .inr ⟨d,by rw[List.lookup_cons,beq_false_of_ne hx];exact h⟩
  ·rw[if_neg hk]
   refine F1 r _ x ha.2 (h.imp (fun z=>?_) id)
   rcases List.mem_cons.mp z with z|z
   ·cases z;exact absurd rfl hk
   ·exact z
def Fg(P:Gp→Prop)(G:Gp):Prop:=∃G',Sub G' G∧P G'
theorem Fg.of{P:Gp→Prop}{G:Gp}(h:P G):Fg P G:=⟨G,Sub.refl G,h⟩
def Si(n:Nat)(σ σ2:DSt):Prop:=∃pre,pre.length=n∧σ2=pre++σ
def Gc(n:Nat)(p:Addr)(ds:List D)(same:Gp→Prop)(g:DTG)(tf:DTT)(te:DTE)(σ:DSt)(G:Gp)(Q:DK):Prop:=∃P:Nat→List D→Gp→Prop,P 0 [] G∧(∀i ys G,i≤ds.length→P i ys G→same G∧G p=some (.lst ys))∧
 (∀i x ys G,ds[i]? = some x→P i ys G→g x (List.replicate n none++σ) G fun σ2 G2=>Si n σ σ2∧tf σ2 G2 fun b G3=>if b=true then te σ2 G3 fun y G4=>G4 p=some (.lst ys)∧ys.length<sizeLine∧Fg (P (i+1) (ys++[y])) (Ab G4 p (.lst (ys++[y]))) else Fg (P (i+1) ys) G3)∧
 ∀ys G,P ds.length ys G→Q (.ref p) G
theorem O9{K:W.Frag}{H:Hp}{σD:DSt}{σ:St}(n:Nat)(r:RelS K H σD σ):RelS K H (List.replicate n none++σD) (List.replicate n none++σ):=by
 refine⟨by simp[r.1],fun i d e=>?_⟩
 by_cases hi:i<n
 ·rw[List.getElem?_append_left (by simpa using hi),List.getElem?_replicate,if_pos hi] at e
  cases e
 ·rw[List.getElem?_append_right (by simpa using hi)] at e ⊢
  simp only[List.length_replicate] at e ⊢
  exact r.2 _ d e
section
variable{X:Cx}{elt iter:Expr}{x:Str}{px:Pos}{ifs:List Expr}{scope:Scope}{pos:Pos}{ti te:DTE}{tf:DTT}{T:List Str}
def QF(X:Cx)(ifs:List Expr)(t:DTT):Prop:=PF X ifs (Dh X.K t)
def Dg:DTT:=fun _ G Q=>Q true G
theorem qf_nil:QF X [] Dg:=fun pins s σ H Q I ⟨σD,G,Q',rs,rg,h,cl⟩=>Y8 pins s σ H Q I (cl _ G h H (Ext.refl H) rg)
theorem J9{c:Expr}{t:DTT}(h:QT X c t):QF X [c] t:=Y7 h
end
def A8(G:Gp):D→Option String
 |.non=>some "NoneType"
 |.bl _=>some "bool"
 |.int _=>some "int"
 |.str _=>some "str"
 |.tup _=>some "tuple"
 |.ref a=>match G a with
  |some (.lst _)=>some "list"
  |some (.dct _)=>some "dict"
  |some (.dkk _)=>some "dict"
  |_=>none
 |_=>none
theorem Yd{G:Gp}{i:Int}:A8 G (.int i)=some "int":=rfl
theorem Sr{G:Gp}{i:List D}:A8 G (.tup i)=some "tuple":=rfl
def pyIs(t c:String):Bool:=t == c||(t == "bool" && c == "int")
def Xz(t c:String):Option Bool:=if (Value.type t == Value.type c)=true then some true else if PySem.W.kitMeta c=true then (fastBuiltinMro t).map (·.contains (.type c)) else none
theorem S4(K:PySem.W.Frag)(t c:String):PySem.W.kitOne K (.type t) (.type c)=Xz t c:=rfl
abbrev tNames:List String:=["NoneType", "bool", "int", "str", "tuple", "list", "dict"]
abbrev cNames:List String:=["int", "bool", "tuple", "list", "str", "dict"]
theorem Mf:(tNames.all fun t=>cNames.all fun c=>Xz t c == some (pyIs t c))=true:=by decide +kernel
theorem Em{G:Gp}{d:D}{t:String}(h:A8 G d=some t):t∈tNames:=by
 cases d<;>simp only[A8] at h<;>first
  |(cases h;decide)
  |(split at h<;>first|(cases h;decide)|cases h)
  |cases h
theorem Vu{K:W.Frag}{H:Hp}{G:Gp}{d:D}{v:V}{t:String}(rg:RelG K H G)(h:A8 G d=some t)(dv:DV K H d v):TyOf K H v (.type t):=by
 cases dv with
 |non=>cases h;exact .non
 |bl b=>cases h;exact .bl b
 |int i=>cases h;exact .int i
 |str x=>cases h;exact .str x
 |tup e r=>cases h;exact .tup e
 |ty n=>cases h
 |lint e=>cases h
 |ref a=>
  simp only[A8] at h
  split at h
  ·rename_i ds q;cases h;obtain⟨xs,e,_⟩:=rg a _ q;exact .lst e
  ·rename_i ds q;cases h;obtain⟨xs,e,_⟩:=rg a _ q;exact .dT e
  ·rename_i ds q;cases h;obtain⟨xs,e,_⟩:=rg a _ q;exact .dK e
  ·cases h
theorem Kf:("int"∈cNames)=True:=by decide
theorem Pn:("bool"∈cNames)=True:=by decide
theorem B7:("tuple"∈cNames)=True:=by decide
theorem Xg:("list"∈cNames)=True:=by decide
def Kn(G:Gp)(d:D):Prop:=∃t,A8 G d=some t
def KnT(G:Gp):Nat→D→Prop
 |0,d=>Kn G d
 |n+1,d=>Kn G d∧∀ds,d=.tup ds→∀x∈ds,KnT G n x
theorem KnT.kn{G:Gp}:∀{n:Nat} {d:D},KnT G n d→Kn G d
 |0,_,h=>h
 |_+1,_,h=>h.1
theorem Kn.new{G:Gp}{d:D}(h:Kn G d){p:Addr}{o:GO}(hp:G p=none):Kn (Ab G p o) d:=by
 obtain⟨t,h⟩:=h
 refine⟨t,?_⟩
 cases d<;>first|exact h|skip
 rename_i a
 simp only[A8] at h ⊢
 by_cases e:a=p
 ·subst e;rw[hp] at h;cases h
 ·rw[Am e];exact h
theorem KnT.new{G:Gp}{p:Addr}{o:GO}(hp:G p=none):∀{n:Nat} {d:D},KnT G n d→KnT (Ab G p o) n d
 |0,_,h=>Kn.new h hp
 |_+1,_,h=>⟨Kn.new h.1 hp,fun ds e x hx=>KnT.new hp (h.2 ds e x hx)⟩
theorem Fp{G:Gp}{d:D}(h:A8 G d=some "tuple"):∃ds,d=.tup ds:=by
 cases d<;>simp only[A8] at h<;>first|exact⟨_,rfl⟩|(exact absurd (Option.some.inj h) (by decide))|(split at h<;>first|(exact absurd (Option.some.inj h) (by decide))|cases h)|cases h
section
variable{X:Cx}
theorem c_isinst:QC X (.builtin "isinstance") (fun ds G Q=>∃x c,ds=[x,.ty c]∧c∈cNames∧∃t,A8 G x=some t∧Q (.bl (pyIs t c)) G):=by
 intro pins s σ H xs us Q I r ⟨ds,G,Q',dv,rg,⟨x,c,e,hc,t,ht,q⟩,cl⟩
 subst e
 obtain⟨v,w,rfl,d1,d2⟩:=dv.two
 cases d2
 obtain⟨u1,u2,rfl,r1,r2⟩:=F9 r
 cases r2
 have hk:PySem.W.kitOne X.K (.type t) (.type c)=some (pyIs t c):=by
  rw[S4]
  have h1:=List.all_eq_true.mp Mf t (Em ht)
  have h2:=List.all_eq_true.mp h1 c hc
  exact beq_iff_eq.mp h2
 refine Q4 I r1 (Vu rg ht d1) hk fun tk=>?_
 exact⟨.bl (pyIs t c),H,I.tok _,rfl,cl _ G q H (Ext.refl H) rg _ (.bl _)⟩

theorem Ri(hc:X.calm=true):CallR X (.builtin "all") (fun xs H Q=>∃(a:Addr) (bs:List Bool),xs=[.ref a]∧SqL X.K H a (bs.map V.bl)∧Q (.bl (bs.all id)) H):=by
 intro pins s σ H xs us Q I r h
 obtain⟨a,bs,rfl,hq,q⟩:=h
 obtain⟨u,rfl,ru⟩:=Cs r
 cases ru
 obtain⟨its,rv,p,hz⟩:=I.list hq
 refine call_all_walk ?_
 refine wpAny_pyIter_list p.isList ?_
 have hlt:a<s.heap.objs.size:=by obtain⟨_,_,e,_⟩:=p;exact Heap.lt_size e
 refine⟨s.heap.objs.size,_,_,_,_,_,fun i=>(bs[i]?).getD true,rfl,Walks.list (A:=X.A.in1) (I.ok.hd hc) _ _ (Nat.ne_of_lt hlt) its.toArray,⟨⟨_,Heap.get?_push_size _ rfl,rfl,rfl⟩,p.isList.push _⟩,?_,?_⟩
 ·intro i v s' Q' E' hP hQ
  have hv:its[i]? = some v:=by simpa using hP
  have hb:∃b,bs[i]? = some b∧v=Value.bool b:=by
   have key:∀(bs:List Bool) (its:List Value),Vals (bs.map V.bl) its→∀(i:Nat) (v:Value),its[i]? = some v→∃b,bs[i]? = some b∧v=Value.bool b:=by
    intro bs
    induction bs with
    |nil=>intro its r i v e;cases r;simp at e
    |cons b bs ih=>
     intro its r i v e
     rw[List.map_cons] at r
     cases r with
     |cons r1 r2=>
      cases i with
      |zero=>simp at e;subst e;cases r1;exact⟨b,rfl,rfl⟩
      |succ i=>simpa using ih _ r2 i v (by simpa using e)
   exact key bs its rv i v hv
  obtain⟨b,eb,rfl⟩:=hb
  refine wpAny_truthy_bool ?_
  have:(bs[i]?).getD true=b:=by rw[eb];rfl
  dsimp only at hQ;rw[this] at hQ;exact hQ
 ·intro h' tk hk
  have hl:=rv.length
  rw[List.length_map] at hl
  have e:((List.range its.toArray.size).all fun i=>(bs[i]?).getD true)=bs.all id:=by
   rw[List.size_toArray,←hl,Bool.eq_iff_iff,List.all_eq_true,List.all_eq_true]
   constructor
   ·intro h b hb
    obtain⟨i,hi,e⟩:=List.getElem_of_mem hb
    have:=h i (List.mem_range.mpr hi)
    rw[List.getElem?_eq_getElem hi,e] at this
    exact this
   ·intro h i hi
    have hi:=List.mem_range.mp hi
    rw[List.getElem?_eq_getElem hi]
    exact h _ (List.getElem_mem hi)
  refine⟨.bl (bs.all id),H,I.kept (t':=tk) fun b o eb=>hk b o (fun z=>?_) (Heap.get?_push_of_some _ eb),by rw[e];rfl,q⟩
  have:b=s.heap.objs.size:=by simpa using z
  subst this
  exact absurd (Heap.lt_size eb) (Nat.lt_irrefl _)
theorem Tc{K:W.Frag}{H:Hp}:∀{bs:List Bool} {vs:List V},DVs K H (bs.map D.bl) vs→vs=bs.map V.bl
 |[],_,r=>by cases r;rfl
 |b::bs,_,r=>by
  cases r with
  |cons h t=>cases h;rw[Tc t];rfl
theorem c_all(hc:X.calm=true):QC X (.builtin "all") (fun ds G Q=>∃a,ds=[.ref a]∧∃bs:List Bool,G a=some (.lst (bs.map D.bl))∧Q (.bl (bs.all id)) G):=(Ri hc).imp fun xs H Q ⟨ds,G,Q',dv,rg,⟨a,e,bs,eg,q⟩,cl⟩=>by
 subst e
 obtain⟨v,rfl,r⟩:=dv.one
 cases r
 obtain⟨ys,ey,ry⟩:=rg a _ eg
 have:=Tc ry
 subst this
 exact⟨a,bs,rfl,.inl (.inl ey),cl _ G q H (Ext.refl H) rg _ (.bl _)⟩
theorem Bv{n i0:Nat}{p:Addr}{ds:List D}{same:Gp→Prop}{tf:DTT}{te:DTE}{σ:DSt}{G:Gp}{Q:DK}(f:D→D)(c:D→Bool)(hz:ds.length<sizeLine)(hsm:∀ys,same (Ab G p (.lst ys)))(h0:i0<n)(hs:∀x ys,x∈ds→ys.length<sizeLine→∀(R1:D→Gp→Prop) (R2:Gp→Prop),(c x=true→R1 (f x) (Ab G p (.lst (ys++[f x]))))→(c x=false→R2 (Ab G p (.lst ys)))→
   tf ((List.replicate n none++σ).set i0 (some x)) (Ab G p (.lst ys)) fun b G3=>if b=true then te ((List.replicate n none++σ).set i0 (some x)) G3 fun y G4=>G4 p=some (.lst ys)∧ys.length<sizeLine∧Fg (R1 y) (Ab G4 p (.lst (ys++[y]))) else Fg R2 G3)(hq:Q (.ref p) (Ab G p (.lst ((ds.filter c).map f)))):Gc n p ds same (A0 i0) tf te σ (Ab G p (.lst [])) Q:=by
 refine⟨fun i ys G'=>ys=((ds.take i).filter c).map f∧Ab G p (.lst ys)=G',⟨rfl,rfl⟩,?_,?_,?_⟩
 ·rintro i ys _ _ ⟨_,rfl⟩
  exact⟨hsm ys,Aa⟩
 ·rintro i x ys _ hx ⟨e,rfl⟩
  have hi:=(List.getElem?_eq_some_iff.mp hx).1
  have hl:ys.length<sizeLine:=by
   rw[e,List.length_map]
   refine Nat.lt_of_le_of_lt (List.length_filter_le _ _) ?_
   rw[List.length_take];omega
  have tk:ds.take (i+1)=ds.take i++[x]:=by rw[List.take_add_one,hx];rfl
  refine⟨⟨(List.replicate n none).set i0 (some x),by simp,by rw[List.set_append_left _ _ (by simpa using h0)]⟩,?_⟩
  refine hs x ys (List.mem_of_getElem? hx) hl (fun y G'=>ys++[y]=((ds.take (i+1)).filter c).map f∧Ab G p (.lst (ys++[y]))=G') (fun G'=>ys=((ds.take (i+1)).filter c).map f∧Ab G p (.lst ys)=G') (fun hc=>⟨?_,rfl⟩) (fun hc=>⟨?_,rfl⟩)
  ·rw[tk,List.filter_append,List.map_append,←e];simp[hc]
  ·rw[tk,List.filter_append,List.map_append,←e];simp[hc]
 ·rintro ys _ ⟨e,rfl⟩
  rw[List.take_length] at e
  rw[e];exact hq
end
mutual
inductive RepD (G:Gp):D→PyData→Prop where
 |non:RepD G .non .none
 |bl (b:Bool):RepD G (.bl b) (.bool b)
 |int (i:Int):RepD G (.int i) (.int i)
 |str (x:Str):RepD G (.str x) (.str x)
 |tup {ds:List D} {ps:List PyData} (r:RepDs G ds ps):RepD G (.tup ds) (.tuple ps)
 |lst {a:Addr} {ds:List D} {ps:List PyData} (e:G a=some (.lst ds)) (r:RepDs G ds ps):RepD G (.ref a) (.list ps)
 |dct0 {a:Addr} (e:G a=some (.dkk [])):RepD G (.ref a) (.dict [])
inductive RepDs (G:Gp):List D→List PyData→Prop where
 |nil:RepDs G [] []
 |cons {d:D} {p:PyData} {ds:List D} {ps:List PyData} (h:RepD G d p) (t:RepDs G ds ps):RepDs G (d::ds) (p::ps)
end
section
variable{P:Program}{w:World}{K:W.Frag}{H:Hp}{G:Gp}{h:Heap}
mutual
theorem Bd(rg:RelG K H G)(ok:HOk P w H h):∀{d:D} {p:PyData} {v:V} {u:Value},RepD G d p→DV K H d v→RelV v u→∃as,Reads h u p as∧∀b∈as,H b≠none
 |_,_,_,_,.non,dv,r=>by cases dv;cases r;exact⟨_,.none,by simp⟩
 |_,_,_,_,.bl b,dv,r=>by cases dv;cases r;exact⟨_,.bool b,by simp⟩
 |_,_,_,_,.int i,dv,r=>by cases dv;obtain⟨t,rfl⟩:=r;exact⟨_,.int i t,by simp⟩
 |_,_,_,_,.str x,dv,r=>by cases dv;obtain⟨t,rfl⟩:=r;exact⟨_,.str x t,by simp⟩
 |_,_,_,_,.tup rs,dv,r=>by
  cases dv with
  |@tup _ a xs e ds=>
   cases r
   obtain⟨_,its,rv,o,h1,h2,n,h3⟩:=(show ObjOk P w H h a (.tup xs) from ok a _ e)
   obtain⟨as,ra,hb⟩:=Du rg ok rs ds rv
   exact⟨_,.tuple h1 h2 h3 (by simpa using ra),hb⟩
 |_,_,_,_,@RepD.lst _ a _ _ e rs,dv,r=>by
  cases dv with
  |ref=>
   cases r
   obtain⟨xs,ex,ds⟩:=rg _ _ e
   obtain⟨_,its,n,rv,h1⟩:=(show ObjOk P w H h a (.lst xs) from ok a _ ex)
   obtain⟨as,ra,hb⟩:=Du rg ok rs ds rv
   refine⟨_,.list h1 rfl rfl (by simpa using ra),fun b hm=>?_⟩
   rcases List.mem_cons.mp hm with z|z
   ·subst z;rw[ex];simp
   ·exact hb b z
 |_,_,_,_,@RepD.dct0 _ a e,dv,r=>by
  cases dv with
  |ref=>
   cases r
   obtain⟨ks,ex,ds⟩:=rg _ _ e
   cases ds
   obtain⟨_,_,vs,rv,o,es,ep,h1,h2,h3,_,h4,_⟩:=(show ObjOk P w H h a (.dK []) from ok a _ ex)
   cases rv
   have he:es.toList=[]:=by
    revert h4
    cases es.toList with
    |nil=>intro _;rfl
    |cons x r=>intro h4;exact absurd h4 (by intro z;cases z)
   refine⟨_,.dict (kvs:=[]) h1 h2.1 h3 (by rw[he];exact .nil) (by rw[he];exact .nil),fun b hm=>?_⟩
   have:b=a:=by simpa using hm
   subst this
   rw[ex];simp
theorem Du(rg:RelG K H G)(ok:HOk P w H h):∀{ds:List D} {ps:List PyData} {vs:List V} {us:List Value},RepDs G ds ps→DVs K H ds vs→Vals vs us→∃as,ReadsAll h us ps as∧∀b∈as,H b≠none
 |_,_,_,_,.nil,dv,r=>by cases dv;cases r;exact⟨_,.nil,by simp⟩
 |_,_,_,_,.cons hd tl,dv,r=>by
  cases dv with
  |cons d1 d2=>
   cases r with
   |cons r1 r2=>
    obtain⟨as,a,ha⟩:=Bd rg ok hd d1 r1
    obtain⟨bs,b,hb⟩:=Du rg ok tl d2 r2
    exact⟨_,.cons a b,fun x hx=>(List.mem_append.mp hx).elim (ha x) (hb x)⟩
end
end
theorem Ki{X:Cx}{pins:List (Addr×Obj)}{σ:St}{H:Hp}{s:Shared}(I:Inv X pins σ H s):H sysModules=none:=by
 obtain⟨mm,o,es,ep,e,_⟩:=I.mod.sm
 exact(I.bs _ _ e).2
section
variable{X:Cx}{k:Nat}
def dEqD:DR2:=fun x y G Q=>∃p q,RepD G x p∧RepD G y q∧p.canLay0=true∧q.canLay0=true∧min p.depth q.depth≤100∧Q (.bl (PyData.eqv p q)) G
def R0:DR2:=fun x y G Q=>∃p q,RepD G x p∧RepD G y q∧p.canLay0=true∧q.canLay0=true∧min p.depth q.depth≤100∧Q (.bl (!PyData.eqv p q)) G
theorem Dx{A:Around}(hr:Room k A){n:Nat}(h:n≤100):A.units+n<cLine:=by have:=hr.un;omega
theorem o_eqD(hr:Room k X.A):QOp X (compareOp .Eq) dEqD:=by
 intro pins s σ H x y v u Q I rx ry ⟨dx,dy,G,Q',hx,hy,rg,⟨p,q,rp,rq,c1,c2,hd,h⟩,cl⟩
 obtain⟨as,ra,hfa⟩:=Bd rg I.hok rp hx rx
 obtain⟨bs,rb,hfb⟩:=Bd rg I.hok rq hy ry
 exact SeqAt.compareEq_reads ra rb c1 c2 (Dx hr hd) ⟨.bl _,H,I,rfl,cl _ G h H (Ext.refl H) rg _ (.bl _)⟩
theorem o_neD(hr:Room k X.A):QOp X (compareOp .NotEq) R0:=by
 intro pins s σ H x y v u Q I rx ry ⟨dx,dy,G,Q',hx,hy,rg,⟨p,q,rp,rq,c1,c2,hd,h⟩,cl⟩
 obtain⟨as,ra,hfa⟩:=Bd rg I.hok rp hx rx
 obtain⟨bs,rb,hfb⟩:=Bd rg I.hok rq hy ry
 exact SeqAt.compareNe_reads ra rb c1 c2 (Dx hr hd) ⟨.bl _,H,I,rfl,cl _ G h H (Ext.refl H) rg _ (.bl _)⟩
def X7(neg:Bool):DR2:=fun x y G Q=>∃p ps,RepD G x p∧(RepD G y (.list ps)∨RepD G y (.tuple ps))∧p.canLay0=true∧PyData.canLayAll0 ps=true∧1+min (PyData.depthAll ps) p.depth≤100∧Q (.bl (if neg then !(ps.any fun y=>PyData.eqv y p) else ps.any fun y=>PyData.eqv y p)) G
theorem o_inD(hr:Room k X.A):QOp X (compareOp .In) (X7 false):=by
 intro pins s σ H x y v u Q I rx ry ⟨dx,dy,G,Q',hx,hy,rg,⟨p,ps,rp,rq,c1,c2,hd,h⟩,cl⟩
 obtain⟨as,ra,hfa⟩:=Bd rg I.hok rp hx rx
 have fin:EP X pins σ Q (.bool (ps.any fun y=>PyData.eqv y p)) s:=⟨.bl _,H,I,rfl,cl _ G h H (Ext.refl H) rg _ (.bl _)⟩
 rcases rq with rq|rq
 ·obtain⟨bs,rb,hfb⟩:=Bd rg I.hok rq hy ry
  exact SeqAt.in_list_reads rb ra c2 c1 (by have:=Dx hr hd;omega) fin
 ·obtain⟨bs,rb,hfb⟩:=Bd rg I.hok rq hy ry
  exact SeqAt.in_tuple_reads rb ra c2 c1 (by have:=Dx hr hd;omega) fin
theorem o_notinD(hr:Room k X.A):QOp X (compareOp .NotIn) (X7 true):=by
 intro pins s σ H x y v u Q I rx ry ⟨dx,dy,G,Q',hx,hy,rg,⟨p,ps,rp,rq,c1,c2,hd,h⟩,cl⟩
 obtain⟨as,ra,hfa⟩:=Bd rg I.hok rp hx rx
 have fin:EP X pins σ Q (.bool (!ps.any fun y=>PyData.eqv y p)) s:=⟨.bl _,H,I,rfl,cl _ G h H (Ext.refl H) rg _ (.bl _)⟩
 rcases rq with rq|rq
 ·obtain⟨bs,rb,hfb⟩:=Bd rg I.hok rq hy ry
  exact SeqAt.notIn_list_reads rb ra c2 c1 (by have:=Dx hr hd;omega) fin
 ·obtain⟨bs,rb,hfb⟩:=Bd rg I.hok rq hy ry
  exact SeqAt.notIn_tuple_reads rb ra c2 c1 (by have:=Dx hr hd;omega) fin
theorem c_repr(hr:Room k X.A):QC X (.builtin "repr") (fun ds G Q=>∃d,ds=[d]∧∃p,RepD G d p∧p.showable=true∧p.shown.length≤sizeLine∧p.depth≤99∧Q (.str p.shown) G):=by
 intro pins s σ H xs us Q I r ⟨ds,G,Q',dv,rg,⟨d,e,p,rp,h1,h2,h3,q⟩,cl⟩
 subst e
 obtain⟨v,rfl,d1⟩:=dv.one
 obtain⟨u,rfl,r1⟩:=Cs r
 have fin:∀(h':Heap) (tk:Nat) (t:Tok),(∀b o,s.heap.get? b=some o→h'.get? b=some o)→EP X pins σ Q (.str p.shown t) { s with heap:=h',toks:=tk }:=fun h' tk t kp=>
  ⟨.str p.shown,H,I.kept kp,⟨t,rfl⟩,cl _ G q H (Ext.refl H) rg _ (.str _)⟩
 obtain⟨as,ra,hfa⟩:=Bd rg I.hok rp d1 r1
 cases ra with
 |none=>exact PySem.P.repr_of_none (fin s.heap _ _ fun _ _ e=>e)
 |bool b=>exact PySem.P.repr_of_bool (fin s.heap _ _ fun _ _ e=>e)
 |int i t=>exact PySem.P.repr_of_int (of_decide_eq_true h1) (fin s.heap _ _ fun _ _ e=>e)
 |str x t=>exact PySem.P.repr_of_str (fin s.heap _ _ fun _ _ e=>e) h2
 |list a1 a2 a3 a4=>exact repr_of_reads' (.list a1 a2 a3 a4) h1 (fun _ z=>hfa _ z (Ki I)) hr.gd (by have:=hr.un;omega) (fun _ _ e=>e) (fun h' u tk kp=>fin h' tk u kp) h2
 |tuple a1 a2 a3 a4=>exact repr_of_reads' (.tuple a1 a2 a3 a4) h1 (fun _ z=>hfa _ z (Ki I)) hr.gd (by have:=hr.un;omega) (fun _ _ e=>e) (fun h' u tk kp=>fin h' tk u kp) h2
 |dict a1 a2 a3 a4 a5=>exact repr_of_reads' (.dict a1 a2 a3 a4 a5) h1 (fun _ z=>hfa _ z (Ki I)) hr.gd (by have:=hr.un;omega) (fun _ _ e=>e) (fun h' u tk kp=>fin h' tk u kp) h2

end
section
variable{prog:Program}{w:World}{A:Around}{E:Value→Shared→Prop}{s:Shared}
theorem Fm{t sl:Addr}{items:Array Value}{vl vu:Value}{lo hi:Option Int}{Q:Value→Shared→Prop}(ht:IsTup s.heap t items)(hs:s.heap.IsSliceOf sl vl vu .none)(pl:IsPart vl lo)(pu:IsPart vu hi)(hw:HT.sIx items.size 0 lo=0∧HT.sIx items.size items.size hi=items.size)(h:Q (.ref t) s):wpAny (model prog w) A (getItem (.ref t) (.ref sl)) Q E s:=by
 obtain⟨os,hos,hcs,hds⟩:=id hs
 have hTs:s.TypeIs (.ref sl) "slice":=⟨os,hos,hcs⟩
 unfold getItem
 try with_reducible refine wpAny_holding ?_
 first|refine wpAny_bind (wpAny_pure ?_)|skip
 refine wpAny_bind (wpAny_sequenceKey ht.typeIs (by decide) ?_)
 refine wpAny_bind (wpAny_callSpecial?_slot (name:=Str.ofString "__getitem__") ht.typeIs PyProof.Rows.slot_tuple_getitem
  (wpAny_call_entry PyProof.Rows.slot_tuple_getitem ht.typeIs entry_tuple_getitem ?_ (args_tuple_getitem _ _)))
 show wpAny _ _ (Builtin.Tuple.tupleItemsOf (.ref t) >>= _) _ _ s
 refine wpAny_bind (tupleItemsOf_ ht ?_)
 refine wpAny_bind (wpAny_typeOf hTs ?_)
 rw[if_pos (by decide)]
 refine wpAny_bind (HT.sliceApplied_gen hs pl pu ?_)
 show wpAny _ _ (if (((HT.sIx items.size 0 lo:Nat):Int) == 0&&(1:Int) == 1&&(HT.sIx items.size items.size hi-HT.sIx items.size 0 lo) == items.size)=true then _ else _) _ _ s
 rw[if_pos (by rw[hw.1,hw.2];simp)]
 refine wpAny_bind ?_
 unfold Builtin.Tuple.tupleIsExact
 refine wpAny_bind (wpAny_typeOf ht.typeIs (wpAny_pure ?_))
 rw[if_pos (by decide)]
 refine wpAny_bind (wpAny_rule ?_)
 exact wpAny_pure ⟨_,rfl,wpAny_pure h⟩
end
section
variable{X:Cx}{a b c e:Expr}{ta tb tc te:DTE}{pos p2:Pos}{lo hi:Option Expr}
def Av(xs:List D)(lo hi:Option Int):List D:=(xs.drop (HT.sIx xs.length 0 lo)).take (HT.sIx xs.length xs.length hi-HT.sIx xs.length 0 lo)
theorem Ta{K:W.Frag}{H:Hp}{ds:List D}{vs:List V}(r:DVs K H ds vs)(lo hi:Option Int):DVs K H (Av ds lo hi) (Lg vs lo hi):=by
 unfold Av Lg;rw[r.length];exact(r.drop _).take _
theorem Rb{ds:List D}{lo hi:Option Int}(h:HT.sIx ds.length 0 lo=0∧HT.sIx ds.length ds.length hi=ds.length):Av ds lo hi=ds:=by
 unfold Av;rw[h.1,h.2];simp
abbrev DTO:=DSt→Gp→(Option Int→Gp→Prop)→Prop
def liftO(K:PySem.W.Frag)(t:DTO):TO:=fun σ H Q=>∃σD G Q',RelS K H σD σ∧RelG K H G∧t σD G Q'∧∀o G',Q' o G'→Fwd K H G' fun H'=>Q o H'
def QO(X:Cx)(e:Option Expr)(t:DTO):Prop:=PO X e (liftO X.K t)
def Cn:DTO:=fun _ G Q=>Q none G
def Ga(t:DTE):DTO:=fun σ G Q=>t σ G fun x G1=>∃i,x=.int i∧Q (some i) G1
theorem _root_.L2.PO.imp{X:Cx}{e:Option Expr}{t t':TO}(h:PO X e t)(f:∀σ H Q,t' σ H Q→t σ H Q):PO X e t':=fun pins s σ H Q I q=>h pins s σ H Q I (f σ H Q q)
theorem qo_none:QO X none Cn:=po_none.imp fun σ H Q ⟨σD,G,Q',rs,rg,h,cl⟩=>cl _ G h H (Ext.refl H) rg
theorem qo_some(h:QE X e te):QO X (some e) (Ga te):=(Wh h).imp fun σ H Q ⟨σD,G,Q',rs,rg,h,cl⟩=>by
 refine⟨σD,G,_,rs,rg,h,fun d G1 ⟨i,ei,h1⟩ H1 x1 rg1 v dv=>?_⟩
 subst ei;cases dv
 exact⟨i,rfl,cl _ G1 h1 H1 x1 rg1⟩
def Dn(G:Gp)(x:D)(lo hi:Option Int)(Q:DK):Prop:=match x with
 |.tup ds=>Q (.tup (Av ds lo hi)) G
 |.ref a=>match G a with
  |some (.lst ds)=>∀p,G p=none→Q (.ref p) (Ab G p (.lst (Av ds lo hi)))
  |_=>False
 |_=>False
def rSl(K:PySem.W.Frag):V→Option Int→Option Int→Hp→VK→Prop:=fun x lo hi H Q=>∃d G Q',DV K H d x∧RelG K H G∧Dn G d lo hi Q'∧∀d G',Q' d G'→Fwd K H G' fun H'=>∀v,DV K H' d v→Q v H'
theorem Yi:SlR X (rSl X.K):=by
 intro pins s σ H x v vl vu lo hi sl Q I rx hs pl pu ⟨d,G,Q',dv,rg,h,cl⟩
 cases dv with
 |@tup ds a xs e r=>
  have h:Q' (.tup (Av ds lo hi)) G:=h
  by_cases hw:HT.sIx xs.length 0 lo=0∧HT.sIx xs.length xs.length hi=xs.length
  ·cases rx
   obtain⟨its,rv,ht,hz⟩:=I.tuple (.inl (.inl e))
   have hlen:its.toArray.size=xs.length:=by rw[List.size_toArray];exact rv.length.symm
   refine⟨"tuple",_,PyProof.Rows.slot_tuple_getitem.lookup,ht.typeIs,Fm ht hs pl pu (by rw[hlen];exact hw) ⟨.ref a,H,I,rfl,?_⟩⟩
   rw[Rb (by rw[r.length];exact hw)] at h
   exact cl _ G h H (Ext.refl H) rg _ (.tup e r)
  ·exact Yh pins s σ H _ v vl vu lo hi sl Q I rx hs pl pu ⟨a,xs,rfl,.inl (.inl e),hw,fun p hp=>cl _ G h _ (Ext.fresh hp) (rg.tup hp) _ (.tup Ah ((Ta r lo hi).ext (Ext.fresh hp)))⟩
 |ref a=>
  simp only[Dn] at h
  split at h
  ·rename_i ds g
   obtain⟨xs,e,r⟩:=rg a _ g
   exact V0 pins s σ H _ v vl vu lo hi sl Q I rx hs pl pu ⟨a,xs,rfl,.inl (.inl e),fun p hp=>cl _ _ (h p (rg.free hp)) _ (Ext.fresh hp) (rg.lst hp (Ta r lo hi)) _ (.ref p)⟩
  ·exact h.elim
 |_=>exact h.elim
def nSl(te:DTE)(tl th:DTO):DTE:=fun σ G Q=>te σ G fun x G1=>tl σ G1 fun l G2=>th σ G2 fun u G3=>Dn G3 x l u Q
theorem q_slice{tl th:DTO}(he:QE X e te)(hl:QO X lo tl)(hu:QO X hi th):QE X (.Subscript e (.Slice lo hi none p2) pos) (nSl te tl th):=(Uc Yi he hl hu).imp fun σ H Q ⟨σD,G,Q',rs,rg,h,cl⟩=>by
 refine⟨σD,G,_,rs,rg,h,fun x G1 h1 H1 x1 rg1 v1 d1=>?_⟩
 refine⟨σD,G1,_,rs.ext x1,rg1,h1,fun l G2 h2 H2 x2 rg2=>?_⟩
 refine⟨σD,G2,_,rs.ext (x1.trans x2),rg2,h2,fun u G3 h3 H3 x3 rg3=>?_⟩
 exact⟨x,G3,Q',d1.ext (x2.trans x3),rg3,h3,fun d G' q=>(cl d G' q).go (x1.trans (x2.trans x3))⟩

theorem Mh{α:Type}(xs:List α):(List.range xs.length).filterMap (fun k=>xs[k]?)=xs:=by
 induction xs with
 |nil=>rfl
 |cons x r ih=>
  rw[List.length_cons,List.range_succ_eq_map,List.filterMap_cons]
  simp only[List.getElem?_cons_zero,List.filterMap_map]
  congr 1
theorem En{α β:Type}{f g:α→Option β}:∀{l:List α},(∀x∈l,f x=g x)→l.filterMap f=l.filterMap g
 |[],_=>rfl
 |x::r,h=>by
  rw[List.filterMap_cons,List.filterMap_cons,h x (by simp),En fun y hy=>h y (by simp[hy])]
theorem T9(its:List Value):slicePick its.toArray none none (some (-1))=its.reverse.toArray:=by
 unfold slicePick
 have hb:sliceBounds none none (some (-1)) its.toArray.size=((its.length:Int)-1,-1,-1):=by
  simp[sliceBounds]
 rw[hb]
 congr 1
 show(sliceRange ((its.length:Int)-1) (-1) (-1)).filterMap (its.toArray[·]?)=its.reverse
 have hr:sliceRange ((its.length:Int)-1) (-1) (-1)=(List.range its.length).map fun k=>its.length-1-k:=by
  unfold sliceRange
  have hc:(if (-1:Int)>0 then (if (its.length:Int)-1 < -1 then (-1-((its.length:Int)-1) + -1-1) / -1 else 0) else (if (its.length:Int)-1 > -1 then ((its.length:Int)-1 - -1 - -1-1) / (- -1) else 0))=(its.length:Int):=by
   rw[if_neg (by decide)]
   by_cases h:(its.length:Int)-1 > -1
   ·rw[if_pos h];show(_:Int) / 1=_;rw[Int.ediv_one];omega
   ·rw[if_neg h];omega
  simp only[hc,Int.toNat_natCast]
  refine List.map_congr_left fun k hk=>?_
  have:=List.mem_range.mp hk
  omega
 rw[hr,List.filterMap_map]
 have e:=Mh its.reverse
 rw[List.length_reverse] at e
 rw[←e]
 refine En fun k hk=>?_
 have:=List.mem_range.mp hk
 simp only[Function.comp,List.getElem?_toArray]
 rw[List.getElem?_reverse this]

theorem Fl{prog:Program}{w:World}{A:Around}{E:Value→Shared→Prop}{s:Shared}{t sl:Addr}{its:List Value}{vs:Value}{Q:Value→Shared→Prop}(ht:IsTup s.heap t its.toArray)(hs:s.heap.IsSliceOf sl .none .none vs)(ps:IsPart vs (some (-1)))(hz:its.length≤sizeLine)(h:Q (.ref s.heap.objs.size) { s with heap:=s.heap.push { cls:=.type "tuple",data:=.seq its.reverse.toArray } }):wpAny (model prog w) A (getItem (.ref t) (.ref sl)) Q E s:=by
 obtain⟨os,hos,hcs,hds⟩:=id hs
 have hTs:s.TypeIs (.ref sl) "slice":=⟨os,hos,hcs⟩
 unfold getItem
 try with_reducible refine wpAny_holding ?_
 first|refine wpAny_bind (wpAny_pure ?_)|skip
 refine wpAny_bind (wpAny_sequenceKey ht.typeIs (by decide) ?_)
 refine wpAny_bind (wpAny_callSpecial?_slot (name:=Str.ofString "__getitem__") ht.typeIs PyProof.Rows.slot_tuple_getitem
  (wpAny_call_entry PyProof.Rows.slot_tuple_getitem ht.typeIs entry_tuple_getitem ?_ (args_tuple_getitem _ _)))
 show wpAny _ _ (Builtin.Tuple.tupleItemsOf (.ref t) >>= _) _ _ s
 refine wpAny_bind (tupleItemsOf_ ht ?_)
 refine wpAny_bind (wpAny_typeOf hTs ?_)
 rw[if_pos (by decide)]
 refine wpAny_bind ?_
 unfold Builtin.Slice.sliceApplied Builtin.Slice.sliceFields
 refine wpAny_bind (wpAny_bind (wpAny_field hos hds (x:=.none) rfl (wpAny_bind (wpAny_field hos hds (x:=.none) rfl (wpAny_bind (wpAny_field hos hds (x:=vs) rfl (wpAny_pure ?_)))))))
 refine wpAny_bind (HT.slicePart_ ps ?_)
 show wpAny _ _ (if ((-1:Int) == 0)=true then _ else _) _ _ s
 rw[if_neg (by decide)]
 refine wpAny_bind (HT.slicePart_ .none (wpAny_bind (HT.slicePart_ .none (wpAny_bind (wpAny_pure ?_)))))
 have ha:Builtin.Slice.sliceAdjust none none (-1) ((its.toArray.size:Nat):Int)=((its.length:Int)-1,-1):=by simp[Builtin.Slice.sliceAdjust]
 show wpAny _ _ (match Builtin.Slice.sliceAdjust none none (-1) ((its.toArray.size:Nat):Int) with|(lo,hi)=>pure (lo,(-1:Int),Builtin.Slice.slicePlaces lo hi (-1))) _ _ s
 rw[ha]
 have hp:Builtin.Slice.slicePlaces ((its.length:Int)-1) (-1) (-1)=its.length:=by
  unfold Builtin.Slice.slicePlaces
  rw[if_neg (by decide)]
  by_cases h:(its.length:Int)-1 > -1
  ·rw[if_pos h];show((_:Int) / 1+1).toNat=_;rw[Int.ediv_one];omega
  ·rw[if_neg h];show(0:Int).toNat=_;simp;omega
 show wpAny _ _ (pure ((its.length:Int)-1,(-1:Int),Builtin.Slice.slicePlaces ((its.length:Int)-1) (-1) (-1))) _ _ s
 rw[hp]
 refine wpAny_pure ?_
 show wpAny _ _ (if (((its.length:Int)-1) == 0&&(-1:Int) == 1&&its.length == its.toArray.size)=true then _ else _) _ _ s
 rw[if_neg (by simp)]
 have hr:((List.range its.length).filterMap fun(k:Nat)=>its.toArray[(((its.length:Int)-1)+(k:Int)*(-1)).toNat]?)=its.reverse:=by
  have e:=Mh its.reverse
  rw[List.length_reverse] at e
  rw[←e]
  refine En fun k hk=>?_
  have:=List.mem_range.mp hk
  rw[List.getElem?_reverse this,List.getElem?_toArray]
  congr 1;omega
 rw[hr]
 have htake:sizeOk (.seq its.reverse.toArray):=by
  show its.reverse.toArray.size≤sizeLine
  rw[List.size_toArray,List.length_reverse];exact hz
 first
  |exact wpAny_bind (m:=Builtin.Tuple.tupleExact _) (wpAny_newObj_type (wpAny_pure ⟨_,rfl,wpAny_pure h⟩) htake)
  |exact wpAny_bind (m:=Builtin.Tuple.tupleExact _) (wpAny_newObj_type (wpAny_bind (wpAny_pure (wpAny_pure ⟨_,rfl,wpAny_pure h⟩))) htake)
  |exact wpAny_bind (wpAny_bind (m:=Builtin.Tuple.tupleExact _) (wpAny_newObj_type (wpAny_pure (wpAny_pure ⟨_,rfl,wpAny_pure h⟩)) htake))
  |exact wpAny_bind (wpAny_bind (m:=Builtin.Tuple.tupleExact _) (wpAny_newObj_type (wpAny_pure ⟨_,rfl,wpAny_pure h⟩) htake))
theorem DVs.rev{K:W.Frag}{H:Hp}:∀{ds:List D} {vs:List V},DVs K H ds vs→DVs K H ds.reverse vs.reverse
 |_,_,.nil=>.nil
 |_,_,.cons h t=>by rw[List.reverse_cons,List.reverse_cons];exact(DVs.rev t).append (.cons h .nil)
theorem Hj:∀{xs:List V} {us:List Value},Vals xs us→Vals xs.reverse us.reverse
 |_,_,.nil=>.nil
 |_,_,.cons h t=>by rw[List.reverse_cons,List.reverse_cons];exact Vals.append (Hj t) (.cons h .nil)
def Px(G:Gp)(x:D)(Q:DK):Prop:=match x with
 |.tup ds=>Q (.tup ds.reverse) G
 |.ref a=>match G a with
  |some (.lst ds)=>∀p,G p=none→Q (.ref p) (Ab G p (.lst ds.reverse))
  |_=>False
 |_=>False
def X6(te:DTE)(ts:DTE):DTE:=fun σ G Q=>te σ G fun x G1=>ts σ G1 fun y G2=>y=.int (-1)∧Px G2 x Q
theorem q_rev(he:QE X e te)(hb:QE X b tb):QE X (.Subscript e (.Slice none none (some b) p2) pos) (X6 te tb):=by
 intro pins s σ H Q I ⟨σD,G,Q',rs,rg,h,cl⟩
 refine Subscript_ (thn (he pins s σ H (fun xv H1=>∃x G1,DV X.K H1 x xv∧(tb σD G1 fun y G2=>y=.int (-1)∧Px G2 x Q')∧RelG X.K H1 G1∧Ext H H1) I ⟨σD,G,_,rs,rg,h,fun x G1 h1 H1 x1 rg1 v1 d1=>⟨x,G1,d1,h1,rg1,x1⟩⟩) fun v s1 ⟨xv,H1,I1,r1,x,G1,d1,h1,rg1,x1⟩=>?_)
 refine wpAny_Slice ?_
 rw[evalPart_none]
 refine wpAny_pure (wpAny_pure ?_)
 rw[evalPart_some]
 refine thn (hb pins s1 σ H1 (fun yv H2=>∃y G2,DV X.K H2 y yv∧(y=.int (-1)∧Px G2 x Q')∧RelG X.K H2 G2∧Ext H1 H2) I1 ⟨σD,G1,_,rs.ext x1,rg1,h1,fun y G2 h2 H2 x2 rg2 v2 d2=>⟨y,G2,d2,h2,rg2,x2⟩⟩) fun vst s3 ⟨yv,H3,I3,r3,y,G2,d2,⟨ey,h2⟩,rg2,x2⟩=>?_
 subst ey;cases d2
 obtain⟨tk,rfl⟩:=r3
 have I4:Inv X pins σ H3 { s3 with heap:=s3.heap.push { cls:=.type "slice",data:=.fields #[.none,.none,.int (-1) tk] } }:=I3.kept (t':=s3.toks) fun b ob q=>Heap.get?_push_of_some _ q
 have hsl:({ s3 with heap:=s3.heap.push { cls:=.type "slice",data:=.fields #[.none,.none,.int (-1) tk] } }:Shared).heap.IsSliceOf s3.heap.objs.size .none .none (.int (-1) tk):=Heap.IsSliceOf.new ..
 show wpAny (model X.prog X.w) X.A (subscriptTail e (.Slice none none (some b) p2) v (.ref s3.heap.objs.size)) (EP X pins σ Q) X.xe { s3 with heap:=s3.heap.push { cls:=.type "slice",data:=.fields #[.none,.none,.int (-1) tk] } }
 have cl2:=fun d G' q=>(cl d G' q).go (x1.trans x2)
 cases d1.ext x2 with
 |@tup ds a xs ea ra=>
  cases r1
  have h2:Q' (.tup ds.reverse) G2:=h2
  obtain⟨its,rv,ht,hz⟩:=I4.tuple (.inl (.inl ea))
  refine tail_any (ops:=[.ref a,.ref s3.heap.objs.size]) ht.typeIs PyProof.Rows.slot_tuple_getitem.lookup (Fl ht hsl (.int _ _) (by rw[←rv.length];exact hz) ?_) (by with_unfolding_all rfl)
  refine⟨.ref _,_,I4.laid (t':=s3.toks) (o:=.tup xs.reverse) (fun b ob q=>Heap.get?_push_of_some _ q) (Nat.le_refl _) ⟨by rw[List.length_reverse];exact hz,_,Hj rv,IsTup.new _ _⟩,rfl,?_⟩
  have hp:=I4.hok.fresh (Nat.le_refl _)
  exact cl2 _ G2 h2 _ (Ext.fresh hp) (rg2.tup hp) _ (.tup Ah (ra.rev.ext (Ext.fresh hp)))
 |ref a=>
  cases r1
  simp only[Px] at h2
  split at h2
  ·rename_i ds g
   obtain⟨xs,ea,ra⟩:=rg2 a _ g
   obtain⟨its,rv,ht,hz⟩:=I4.list (.inl (.inl ea))
   have hlen:=rv.length
   refine tail_any (ops:=[.ref a,.ref s3.heap.objs.size]) ht.isList.typeIs slot_list_getitem.lookup (wpAny_getItem_list_slice ht.isList hsl .none .none (.int _ _) (by simp) ?_ (by rw[List.size_toArray]<;>omega)) (by with_unfolding_all rfl)
   rw[T9]
   refine⟨.ref _,_,I4.laid (t':=s3.toks) (o:=.lst xs.reverse) (fun b ob q=>Heap.get?_push_of_some _ q) (Nat.le_refl _) ⟨by rw[List.length_reverse];exact hz,_,0,Hj rv,Heap.get?_push_size _ rfl⟩,rfl,?_⟩
   have hp:=I4.hok.fresh (Nat.le_refl _)
   exact cl2 _ _ (h2 _ (rg2.free hp)) _ (Ext.fresh hp) (rg2.lst hp ra.rev) _ (.ref _)
  ·exact h2.elim
 |_=>exact h2.elim
theorem rev_l{G:Gp}{a:Addr}{ds:List D}{Q:DK}(h:G a=some (.lst ds)):Px G (.ref a) Q = ∀p,G p=none→Q (.ref p) (Ab G p (.lst ds.reverse)):=by
 simp only[Px,h]
theorem Va{prog:Program}{w:World}{A:Around}{E:Value→Shared→Prop}{s:Shared}{t b:Addr}{ws:List Value}{Q:Value→Shared→Prop}(ht:IsTup s.heap t #[])(hb:IsTup s.heap b ws.toArray)(h1:Q (.ref b) s) :
  wpAny (model prog w) A (binaryOp .Add (.ref t) (.ref b)) Q E s:=by
 obtain⟨⟨cls,dd,data,sl⟩,ho,hc,n,hd⟩:=id ht
 obtain⟨⟨cls2,dd2,data2,sl2⟩,ho2,hc2,n2,hd2⟩:=id hb
 simp only at hc hd hc2 hd2
 subst hc hd hc2 hd2
 exact concat_meets ⟨_,ho,rfl⟩ ⟨_,ho2,rfl⟩ noFill_tuple_add seq_tuple_add PySem.F.slot_tuple_add PySem.F.entry_tuple_add (PySem.F.args_tuple_add_2 _ _)
   (tuple_addW0 t b #[] ws.toArray n n2 dd dd2 sl sl2 rfl) ⟨ho,ho2,h1⟩
def Eh:DR2:=fun x y G Q=>match x,y with
 |.int i,.int j=>Q (.int (i+j)) G
 |.tup xs,.tup ys=>xs.length+ys.length≤sizeLine∧Q (.tup (xs++ys)) G
 |.ref a,.ref b=>match G a,G b with
  |some (.lst xs),some (.lst ys)=>xs.length+ys.length≤sizeLine∧∀p,G p=none→Q (.ref p) (Ab G p (.lst (xs++ys)))
  |_,_=>False
 |_,_=>False
theorem o_addD:QOp X (binaryOp .Add) Eh:=by
 intro pins s σ H x y v u Q I rx ry ⟨dx,dy,G,Q',hx,hy,rg,h,cl⟩
 cases hx with
 |int i=>
  cases hy with
  |int j=>exact Zo pins s σ H _ _ v u Q I rx ry ⟨i,j,rfl,rfl,cl _ G h H (Ext.refl H) rg _ (.int _)⟩
  |_=>exact h.elim
 |@tup xs a vs ea ra=>
  cases hy with
  |@tup ys b ws eb rb=>
   obtain⟨hl,h⟩:=h
   by_cases hne:vs=[]
   ·subst hne
    cases ra
    cases rx;cases ry
    obtain⟨its,r1,p1,_⟩:=I.tuple (.inl (.inl ea))
    obtain⟨its2,r2,p2,_⟩:=I.tuple (.inl (.inl eb))
    cases r1
    exact Va p1 p2 ⟨.ref b,H,I,rfl,cl _ G h H (Ext.refl H) rg _ (.tup eb rb)⟩
   ·refine Wo pins s σ H _ _ v u Q I rx ry ⟨a,b,vs,ws,rfl,rfl,.inl (.inl ea),.inl (.inl eb),hne,by rw[←ra.length,←rb.length];exact hl,?_,fun _ p hp=>cl _ G h _ (Ext.fresh hp) (rg.tup hp) _ (.tup Ah ((ra.append rb).ext (Ext.fresh hp)))⟩
    intro z
    subst z;cases rb
    rw[List.append_nil] at h
    exact cl _ G h H (Ext.refl H) rg _ (.tup ea ra)
  |_=>exact h.elim
 |ref a=>
  cases hy with
  |ref b=>
   simp only[Eh] at h
   split at h
   ·rename_i xs ys ga gb
    obtain⟨hl,h⟩:=h
    obtain⟨vs,ea,ra⟩:=rg a _ ga
    obtain⟨ws,eb,rb⟩:=rg b _ gb
    exact Zn pins s σ H _ _ v u Q I rx ry ⟨a,b,vs,ws,rfl,rfl,ea,eb,by rw[←ra.length,←rb.length];exact hl,fun p hp=>cl _ _ (h p (rg.free hp)) _ (Ext.fresh hp) (rg.lst hp (ra.append rb)) _ (.ref p)⟩
   ·exact h.elim
  |_=>exact h.elim
 |_=>exact h.elim
theorem Dp{i j:Int}{G:Gp}{Q:DK}:Eh (.int i) (.int j) G Q=Q (.int (i+j)) G:=rfl
theorem Nv{i j:List D}{G:Gp}{Q:DK}:Eh (.tup i) (.tup j) G Q=(i.length+j.length≤sizeLine∧Q (.tup (i++j)) G):=rfl
theorem C6{a b:Addr}{xs ys:List D}{G:Gp}{Q:DK}(ha:G a=some (.lst xs))(hb:G b=some (.lst ys)):Eh (.ref a) (.ref b) G Q=(xs.length+ys.length≤sizeLine∧∀p,G p=none→Q (.ref p) (Ab G p (.lst (xs++ys)))):=by
 simp only[Eh,ha,hb]
theorem E4{G:Gp}{ds:List D}{lo hi:Option Int}{Q:DK}:Dn G (.tup ds) lo hi Q=Q (.tup (Av ds lo hi)) G:=rfl
theorem Gn{G:Gp}{a:Addr}{ds:List D}{lo hi:Option Int}{Q:DK}(h:G a=some (.lst ds)):Dn G (.ref a) lo hi Q = ∀p,G p=none→Q (.ref p) (Ab G p (.lst (Av ds lo hi))):=by
 simp only[Dn,h]
theorem c_int:QC X (.type "int") (fun ds G Q=>∃k,ds=[.bl k]∧Q (.int (if k then 1 else 0)) G):=call_int1.imp fun xs H Q ⟨ds,G,Q',dv,rg,⟨k,e,q⟩,cl⟩=>by
 subst e
 obtain⟨v,rfl,r⟩:=dv.one
 cases r
 exact .inr ⟨k,rfl,cl _ G q H (Ext.refl H) rg _ (.int _)⟩
def Xx:DTE:=fun _ G Q=>∀p,G p=none→Q (.ref p) (Ab G p (.dkk []))
theorem RelG.new{K:W.Frag}{H:Hp}{G:Gp}(r:RelG K H G){p:Addr}{u:HO}{o:GO}(h:H p=none)(n:GOk K (upd H p u) p o):RelG K (upd H p u) (Ab G p o):=fun a q e=>by
 by_cases z:a=p
 ·subst z
  rw[Aa] at e;cases e
  exact n
 ·rw[Am z] at e
  exact(r a q e).upd (Ext.fresh h) (.inr z)
theorem Yv:QE X (.Dict [] [] pos) Xx:=pe_dnewK.imp fun σ H Q ⟨σD,G,Q',rs,rg,h,cl⟩=>fun p hp=>
 cl _ _ (h p (rg.free hp)) _ (Ext.fresh hp) (rg.new hp ⟨[],Ah,.nil⟩) _ (.ref p)
end
structure Src where
 it:Addr
 l:Addr
 tp:Bool
def Src.At(h:Heap)(c:Src)(i:Nat):Prop:=if c.tp=true then h.IsTupleIter c.it c.l i else h.IsListIter c.it c.l i
def Src.Sq(h:Heap)(c:Src)(xs:Array Value):Prop:=if c.tp=true then h.IsTuple c.l xs else h.IsList c.l xs
theorem Src.At.keep{h h':Heap}{c:Src}{i:Nat}(x:c.At h i)(k:∀o,h.get? c.it=some o→h'.get? c.it=some o):c.At h' i:=by
 unfold Src.At at x ⊢
 split at x
 ·rename_i e;rw[if_pos e];exact x.at k
 ·rename_i e;rw[if_neg e];exact x.at k
theorem Src.Sq.keep{h h':Heap}{c:Src}{xs:Array Value}(x:c.Sq h xs)(k:∀o,h.get? c.l=some o→h'.get? c.l=some o):c.Sq h' xs:=by
 unfold Src.Sq at x ⊢
 split at x
 ·rename_i e;rw[if_pos e];exact x.at k
 ·rename_i e;rw[if_neg e];exact x.at k
theorem Src.At.obj{h:Heap}{c:Src}{i:Nat}(x:c.At h i):∃o,h.get? c.it=some o∧∀v,o.data≠.cell v:=by
 unfold Src.At at x
 split at x
 ·obtain⟨o,e,_,d⟩:=x;exact⟨o,e,fun v z=>by rw[d] at z;cases z⟩
 ·obtain⟨o,e,_,d⟩:=x;exact⟨o,e,fun v z=>by rw[d] at z;cases z⟩
section
variable{prog:Program}{w:World}{A:Around}{E:Value→Shared→Prop}{s:Shared}
theorem Hz{p q:Addr}{n:Nat}{vals:Array Value}{R:Value→Shared→Prop}(calm:A.handled=none)(at_:s.heap.IsTupleIter p q n)(tp:s.heap.IsTuple q vals)(more:∀v,vals[n]? = some v→∀g,g.IsTupleIter p q (n+1)→Heap.SameBut p s.heap g→R v { s with heap:=g })(last:vals[n]? = none→∀g x,Heap.ExtBut p s.heap g→(∃ob,g.get? x=some ob∧ob.cls=.type "StopIteration")→E (.ref x) { s with heap:=g }):wpAny (model prog w) A (Builtin.SmallTypes.nextOf (.ref p)) R E s:=by
 obtain⟨ob,eo,co,fo⟩:=id at_;obtain⟨ot,et,_,m,ft⟩:=tp
 unfold Builtin.SmallTypes.nextOf;refine wpAny_bind (wpAny_callSpecial?_slot (name:=Str.ofString "__next__") at_.typeIs F.slot_tuple_iterator_next (wpAny_call_entry F.slot_tuple_iterator_next at_.typeIs F.entry_tuple_iterator_next ?_ (F.args_tuple_iterator_next_1 _)))
 show wpAny _ _ (field (.ref p) 0 >>= _) _ _ s;refine wpAny_bind (wpAny_field eo fo (x:=.ref q) rfl ?_)
 show wpAny _ _ (if (Value.ref q == Value.none)=true then _ else _) _ _ s;rw[if_neg (by intro z;cases z)]
 show wpAny _ _ (field (.ref p) 1 >>= _) _ _ s;refine wpAny_bind (wpAny_field eo fo (x:=.int n 0) rfl ?_)
 show wpAny _ _ (seqItems? (.ref q) >>= _) _ _ s;refine wpAny_bind (wpAny_seqItems et ft ?_)
 simp only[Int.toNat_natCast]
 cases hv:vals[n]? with
 |some v=>
  refine wpAny_bind (wpAny_setField eo fo (by simp) (wpAny_pure ⟨v,rfl,wpAny_pure (more v hv _ ⟨_,Heap.get?_update_self _ eo (Obj.isFreed_of_fields (Obj.data_mapFields fo _)),(Obj.cls_mapFields ..).trans co,?_⟩ (Heap.SameBut.update ..))⟩))
  rw[Obj.data_mapFields fo];simp[rawInt]
 |none=>
  refine wpAny_bind (wpAny_rule (wpAny_bind (wpAny_setField eo fo (by simp) (show wpAny _ _ (newExc (.type "StopIteration") [] >>= _) _ _ _ from wpAny_bind ?_))))
  simp only[newExc,newTuple];refine wpAny_bind (wpAny_newObj_type (wpAny_bind (m:=firstArgMember _ _) (wpAny_of_eq (a:=Value.none) (by first|rfl|(simp only[firstArgMember];rfl)) (wpAny_newObj_type ?_ (by size_fits)))) (by size_fits))
  simp only[raiseNew];refine wpAny_bind (wpAny_handled ?_);first|rw[show A.in1.handled=none from calm]|rw[calm]
  exact wpAny_bind (wpAny_pure (wpAny_throw (last hv _ _ (((Heap.SameBut.update ..).extBut.push _).push _) ⟨_,Heap.get?_push_size _ rfl,rfl⟩)))
theorem Tq{c:Src}{i:Nat}{xs:Array Value}{x:Value}{Q:Value→Shared→Prop}(hh:A.handled=none)(hit:c.At s.heap i)(ht:c.Sq s.heap xs)(hx:xs[i]? = some x)(hQ:∀h',c.At h' (i+1)→Heap.SameBut c.it s.heap h'→Q x { s with heap:=h' }):wpAny (model prog w) A (Builtin.SmallTypes.nextOf (.ref c.it)) Q E s:=by
 unfold Src.At at hit hQ
 unfold Src.Sq at ht
 by_cases e:c.tp=true
 ·rw[if_pos e] at hit ht;exact Hz hh hit ht (fun v ev h' a b=>by rw[hx] at ev;cases ev;exact hQ h' (by rw[if_pos e];exact a) b) (fun z=>by rw[hx] at z;cases z)
 ·rw[if_neg e] at hit ht;exact wpAny_nextOf_list_item hit ht hx fun h' a=>hQ h' (by rw[if_neg e];exact a)
theorem Vz{c:Src}{i:Nat}{xs:Array Value}{Q:Value→Shared→Prop}(hh:A.handled=none)(hit:c.At s.heap i)(ht:c.Sq s.heap xs)(hx:xs[i]? = none)(hE:∀h' e,Heap.ExtBut c.it s.heap h'→(∃o,h'.get? e=some o∧o.cls=.type "StopIteration")→E (.ref e) { s with heap:=h' }):wpAny (model prog w) A (Builtin.SmallTypes.nextOf (.ref c.it)) Q E s:=by
 unfold Src.At at hit
 unfold Src.Sq at ht
 by_cases e:c.tp=true
 ·rw[if_pos e] at hit ht;exact Hz hh hit ht (fun v ev=>by rw[hx] at ev;cases ev) (fun _=>hE)
 ·rw[if_neg e] at hit ht;exact wpAny_nextOf_list_end hh hit ht hx hE
theorem Lx{M:Model}{α β:Type}{f:α→β→Sem (ForInStep β)}{Q:β→Shared→Prop}(I:List α→β→Shared→Prop)(step:∀x r b s,I (x::r) b s→wpAny M A (f x b) (fun y s'=>match y with|.yield b'=>I r b' s'|.done b'=>Q b' s') E s)(fin:∀b s,I [] b s→Q b s) :
  ∀(l:List α) (b:β) (s:Shared),I l b s→wpAny M A (forIn l b f) Q E s
 |[],b,s,h=>by rw[List.forIn_nil];exact wpAny_pure (fin b s h)
 |x::r,b,s,h=>by
  rw[List.forIn_cons]
  refine wpAny_bind (wpAny_mono (step x r b s h) (fun y s' h'=>?_) fun _ _ z=>z)
  cases y with
  |yield b'=>exact Lx I step fin r b' s' h'
  |done b'=>exact wpAny_pure h'
abbrev Dk(h:Heap)(T:Addr)(vs:List Value):Prop:=h.get? T=some { cls:=.type "tuple",data:=.seq vs.toArray }
abbrev zfp(z TO:Addr)(cs:List Src):List Addr:=z::TO::cs.map (·.it)
structure ZApart(z TI TO:Addr)(cs:List Src):Prop where
 nd:(z::TO::cs.map (·.it)).Nodup
 ti:TI ∉ zfp z TO cs
 ls:∀c∈cs,c.l ∉ zfp z TO cs
theorem Te{z TI TO:Addr}{cs:List Src}{i:Nat}{old:List Value}{X:Src→Array Value}{Q:Value→Shared→Prop}(hh:A.handled=none)(hne:cs≠[])(hs16:cs.length≤16)(D:ZApart z TI TO cs)(hz:IsZip s.heap z TI TO .none)(hTI:Dk s.heap TI (cs.map fun c=>.ref c.it))(hTO:Dk s.heap TO old)(hol:old.length=cs.length)(hA:∀c∈cs,c.At s.heap i)(hX:∀c∈cs,c.Sq s.heap (X c))(hQ:(∀c∈cs,i<(X c).size)→∀h',IsZip h' z TI TO (rawInt s.heap.objs.size)→(∃vs,Dk h' TO vs∧vs.length=cs.length)→(∀c∈cs,c.At h' (i+1))→Dk h' s.heap.objs.size (cs.map fun c=>(X c).getD i .none)→
   (∀b o,b ∉ zfp z TO cs→s.heap.get? b=some o→h'.get? b=some o)→Q (.ref s.heap.objs.size) { s with heap:=h' })(hE:(∃c∈cs,(X c).size≤i)→∀h' e,(∀b o,b ∉ zfp z TO cs→s.heap.get? b=some o→h'.get? b=some o)→(∃o,h'.get? e=some o∧o.cls=.type "StopIteration")→E (.ref e) { s with heap:=h' }) :
  wpAny (model prog w) A (Builtin.«zip.__next__» ⟨[.ref z],[]⟩) (fun fin s'=>∃v,fin=.done (.ret v)∧Q v s') E s:=by
 show wpAny _ _ (field (.ref z) 2 >>= _) _ _ _;refine wpAny_bind (wpAny_field hz rfl (x:=.bool false) rfl ?_)
 show wpAny _ _ (field (.ref z) 3 >>= _) _ _ _;refine wpAny_bind (wpAny_field hz rfl (x:=.ref TI) rfl (wpAny_bind (wpAny_seqItems hTI rfl ?_)))
 have hemp:¬((cs.map fun c=>Value.ref c.it).toArray.isEmpty=true):=by
  cases cs with
  |nil=>exact absurd rfl hne
  |cons c r=>simp
 simp only[hemp]
 show wpAny _ _ (Builtin.SmallTypes.ownedTupleIsFree (.ref z) >>= _) _ _ _;refine wpAny_bind ?_;unfold Builtin.SmallTypes.ownedTupleIsFree
 refine wpAny_bind (wpAny_field hz rfl (x:=.none) rfl (wpAny_pure ?_));simp only[if_true]
 refine wpAny_bind (wpAny_rule (wpAny_bind (wpAny_field hz rfl (x:=.ref TO) rfl (wpAny_bind (wpAny_setField_rec hz (by simp) fun h₁ hz₁ hs₁=>?_)))))
 have hz₁:IsZip h₁ z TI TO .ellipsis:=hz₁
 refine wpAny_bind ?_
 have ne:=D.nd
 have TOz:TO≠z:=fun e=>(List.nodup_cons.mp ne).1 (by simp[e])
 have itz:∀c∈cs,c.it≠z:=fun c hc e=>(List.nodup_cons.mp ne).1 (by rw[←e];exact List.mem_cons_of_mem _ (List.mem_map_of_mem hc))
 have itT:∀c∈cs,c.it≠TO:=fun c hc e=>(List.nodup_cons.mp (List.nodup_cons.mp ne).2).1 (by rw[←e];exact List.mem_map_of_mem hc)
 have sq:∀{h':Heap},(∀b o,b ∉ zfp z TO cs→s.heap.get? b=some o→h'.get? b=some o)→∀c∈cs,c.Sq h' (X c):=fun k c hc=>(hX c hc).keep fun o e=>k _ o (D.ls c hc) e
 have nfp:∀{b:Addr},b ∉ zfp z TO cs→b≠z∧b≠TO∧∀c∈cs,b≠c.it:=fun {b} hb=>⟨fun e=>hb (by simp[e]),fun e=>hb (by simp[e]),fun c hc e=>hb (by rw[e];exact List.mem_cons_of_mem _ (List.mem_cons_of_mem _ (List.mem_map_of_mem hc)))⟩
 have sz16:∀{n:Nat},n≤16→n≤sizeLine:=fun h=>szl (by omega)
 refine Lx (fun rest b s'=>b=(none,())∧∃pre post h',s'={ s with heap:=h' }∧cs=pre++post∧rest=(post.map fun c=>Value.ref c.it).zipIdx pre.length∧IsZip h' z TI TO .ellipsis∧Dk h' TO (pre.map (fun c=>(X c).getD i .none)++old.drop pre.length)∧
  (∀c∈pre,i<(X c).size∧c.At h' (i+1))∧(∀c∈post,c.At h' i)∧h'.objs.size=s.heap.objs.size∧∀b o,b ∉ zfp z TO cs→s.heap.get? b=some o→h'.get? b=some o) ?_ ?_ _ _ _
  ⟨rfl,[],cs,h₁,rfl,rfl,rfl,hz₁,hs₁.extBut _ _ TOz hTO,fun c hc=>absurd hc (by simp),fun c hc=>(hA c hc).keep fun o e=>hs₁.extBut _ _ (itz c hc) e,hs₁.1,fun b o hb e=>hs₁.extBut _ _ (nfp hb).1 e⟩
 ·rintro⟨itv,k⟩ r b s' ⟨rfl,pre,post,h',rfl,hcs,hr,hz',hTO',hpre,hpost,hsz,hk⟩
  cases post with
  |nil=>simp at hr
  |cons c post=>
   rw[List.map_cons,List.zipIdx_cons] at hr
   injection hr with hr1 hr2
   cases hr1
   have hc:c∈cs:=by rw[hcs];simp
   have nd2:((pre++c::post).map (·.it)).Nodup:=by rw[←hcs];exact(List.nodup_cons.mp (List.nodup_cons.mp ne).2).2
   rw[List.map_append,List.map_cons] at nd2
   have npre:∀d∈pre,d.it≠c.it:=fun d hd e=>(List.nodup_append.mp nd2).2.2 d.it (List.mem_map_of_mem hd) c.it (by simp) e
   have npost:∀d∈post,d.it≠c.it:=fun d hd e=>(List.nodup_cons.mp (List.nodup_append.mp nd2).2.1).1 (by rw[←e];exact List.mem_map_of_mem hd)
   refine wpAny_bind (wpAny_onRaise ?_)
   show wpAny _ _ (Builtin.SmallTypes.nextOf (.ref c.it) >>= _) _ _ _
   by_cases hi:i<(X c).size
   ·refine wpAny_bind (Tq hh (hpost c (by simp)) (sq hk c hc) (Array.getElem?_eq_getElem hi) fun h2 at2 sb2=>wpAny_pure ?_)
    have hTO2:=sb2.extBut _ _ (itT c hc).symm hTO'
    refine wpAny_bind (wpAny_seqItems hTO2 rfl ?_)
    have hlt:pre.length<old.length:=by rw[hol,hcs];simp
    have hlen:(pre.map (fun c=>(X c).getD i .none)++old.drop pre.length).length=cs.length:=by
     rw[List.length_append,List.length_map,List.length_drop,hol,hcs];simp
    refine wpAny_bind (wpAny_updateSeq hTO2 rfl ?_ (by rw[List.size_toArray,hlen];exact sz16 hs16) (by rw[Array.size_setIfInBounds,List.size_toArray,hlen];exact Nat.le_succ_of_le (sz16 hs16)))
    refine wpAny_bind (wpAny_letGo (wpAny_pure ?_))
    have sb3:Heap.SameBut TO h2 (h2.update TO (Obj.mapSeq fun x_2=>x_2.setIfInBounds pre.length (X c)[i])):=Heap.SameBut.update ..
    have hTO3:Dk (h2.update TO (Obj.mapSeq fun x_2=>x_2.setIfInBounds pre.length (X c)[i])) TO ((pre++[c]).map (fun c=>(X c).getD i .none)++old.drop (pre++[c]).length):=by
     show Heap.get? _ _=_
     rw[Heap.get?_update_self _ hTO2 rfl]
     have e1:old.drop pre.length=old[pre.length]::old.drop (pre.length+1):=List.drop_eq_getElem_cons hlt
     have e2:(X c).getD i Value.none=(X c)[i]:=by simp[Array.getD,hi]
     simp only[Obj.mapSeq]
     rw[e1]
     congr 2
     simp only[List.map_append,List.map_cons,List.map_nil,e2,List.setIfInBounds_toArray,List.length_append,List.length_cons,List.length_nil]
     rw[List.set_append_right _ _ (by simp)]
     simp only[List.length_map,Nat.sub_self,List.set_cons_zero,List.append_assoc,List.cons_append,List.nil_append]
     rw[if_pos (by simp;omega)]
    refine⟨rfl,pre++[c],post,_,rfl,by rw[hcs];simp,by rw[hr2];simp,sb3.extBut _ _ TOz.symm (sb2.extBut _ _ (itz c hc).symm hz'),hTO3,fun d hd=>?_,fun d hd=>?_,by rw[sb3.1,sb2.1];exact hsz,fun b o hb e=>sb3.extBut _ _ (nfp hb).2.1 (sb2.extBut _ _ ((nfp hb).2.2 c hc) (hk b o hb e))⟩
    ·rcases List.mem_append.mp hd with hd|hd
     ·have hd2:d∈cs:=by rw[hcs];simp[hd]
      exact⟨(hpre d hd).1,(hpre d hd).2.keep fun o e=>sb3.extBut _ _ (itT d hd2) (sb2.extBut _ _ (npre d hd) e)⟩
     ·have:d=c:=by simpa using hd
      subst this
      exact⟨hi,at2.keep fun o e=>sb3.extBut _ _ (itT d hc) e⟩
    ·have hd2:d∈cs:=by rw[hcs];simp[hd]
     exact(hpost d (by simp[hd])).keep fun o e=>sb3.extBut _ _ (itT d hd2) (sb2.extBut _ _ (npost d hd) e)
   ·refine wpAny_bind (Vz hh (hpost c (by simp)) (sq hk c hc) (Array.getElem?_eq_none (by omega)) fun h2 e eb st=>?_)
    obtain⟨oe,hoe,hce⟩:=st
    have hz2:IsZip h2 z TI TO .ellipsis:=eb _ _ (itz c hc).symm hz'
    have hez:e≠z:=fun x=>by subst x;rw[hz2] at hoe;cases hoe;simp at hce
    exact wpAny_setField_rec hz2 (by simp) fun h3 _ hs3=>hE ⟨c,hc,by omega⟩ h3 e (fun b o hb x=>hs3.extBut _ _ (nfp hb).1 (eb _ _ ((nfp hb).2.2 c hc) (hk b o hb x))) ⟨oe,hs3.extBut _ _ hez hoe,hce⟩
 ·rintro b s' ⟨rfl,pre,post,h5,rfl,hcs,hr,hz5,hTO5,hpre,hpost,hsz,hk⟩
  have hp:post=[]:=by
   cases post with
   |nil=>rfl
   |cons c r=>simp at hr
  subst hp
  rw[List.append_nil] at hcs
  subst hcs
  rw[←hol,List.drop_length,List.append_nil] at hTO5
  refine wpAny_bind (wpAny_seqItems hTO5 rfl ?_)
  refine wpAny_bind (wpAny_newTuple ?_)
  have hzlt:z<h5.objs.size:=Heap.lt_size hz5
  show wpAny _ _ (Builtin.SmallTypes.ownedTupleHandOut (.ref z) (.ref h5.objs.size) >>= _) _ _ _
  refine wpAny_bind ?_
  unfold Builtin.SmallTypes.ownedTupleHandOut
  have hz6:=Heap.get?_push_of_some { cls:=.type "tuple",data:=.seq (cs.map fun c=>(X c).getD i .none).toArray } hz5
  refine wpAny_bind (wpAny_setField_rec hz6 (by simp) fun h7 hz7 hs7=>?_)
  replace hz7:IsZip h7 z TI TO (rawInt h5.objs.size):=hz7
  refine wpAny_setField_rec hz7 (by simp) fun h8 hz8 hs8=>?_
  replace hz8:IsZip h8 z TI TO (rawInt h5.objs.size):=hz8
  have up:∀c o,c≠z→h5.get? c=some o→h8.get? c=some o:=fun c o c1 e=>hs8.extBut _ _ c1 (hs7.extBut _ _ c1 (Heap.get?_push_of_some _ e))
  have hT8:Dk h8 h5.objs.size (cs.map fun c=>(X c).getD i .none):=hs8.extBut _ _ (Nat.ne_of_gt hzlt) (hs7.extBut _ _ (Nat.ne_of_gt hzlt) (Heap.get?_push_size _ rfl))
  rw[hsz] at hz8 hT8
  refine wpAny_pure ⟨_,rfl,?_⟩
  show Q (.ref h5.objs.size) _
  rw[hsz]
  exact hQ (fun c hc=>(hpre c hc).1) h8 hz8 ⟨_,up _ _ TOz hTO5,by simp⟩ (fun c hc=>(hpre c hc).2.keep fun o e=>up _ o (itz c hc) e) hT8 fun b o hb e=>up b o (nfp hb).1 (hk b o hb e)

theorem Hw{z TI TO:Addr}{cs:List Src}{i:Nat}{old:List Value}{X:Src→Array Value}{Q:Option Value→Shared→Prop}(hh:A.handled=none)(hne:cs≠[])(hs16:cs.length≤16)(D:ZApart z TI TO cs)(hz:IsZip s.heap z TI TO .none)(hTI:Dk s.heap TI (cs.map fun c=>.ref c.it))(hTO:Dk s.heap TO old)(hol:old.length=cs.length)(hA:∀c∈cs,c.At s.heap i)(hX:∀c∈cs,c.Sq s.heap (X c))(hQ:(∀c∈cs,i<(X c).size)→∀h',IsZip h' z TI TO (rawInt s.heap.objs.size)→(∃vs,Dk h' TO vs∧vs.length=cs.length)→(∀c∈cs,c.At h' (i+1))→Dk h' s.heap.objs.size (cs.map fun c=>(X c).getD i .none)→
   (∀b o,b ∉ zfp z TO cs→s.heap.get? b=some o→h'.get? b=some o)→Q (some (.ref s.heap.objs.size)) { s with heap:=h' })(hE:(∃c∈cs,(X c).size≤i)→∀h',(∀b o,b ∉ zfp z TO cs→s.heap.get? b=some o→h'.get? b=some o)→Q none { s with heap:=h' }) :
  wpAny (model prog w) A (pyNext (.ref z)) Q E s:=by
 have ty:s.TypeIs (.ref z) "zip":=⟨_,hz,rfl⟩
 unfold pyNext;refine wpAny_bind (wpAny_attempt (wpAny_callSpecial?_slot (name:=Str.ofString "__next__") ty F.slot_zip_next (wpAny_call_entry F.slot_zip_next ty F.entry_zip_next (Te hh hne hs16 D hz hTI hTO hol hA hX (fun a h' a1 a2 a3 a4 a5=>wpAny_pure (hQ a h' a1 a2 a3 a4 a5)) fun a h' e hk ⟨o,ho,co⟩=>?_) (F.args_zip_next_1 _))))
 exact wpAny_bind (wpAny_isInstance (T:="StopIteration") (b:=true) ⟨o,ho,co⟩ isSubtype_stop (wpAny_pure (hE a _ hk)))
abbrev Ou(l:Addr)(tp:Bool):Obj:={ cls:=.type (if tp then "tuple_iterator" else "list_iterator"),data:=.fields #[.ref l,.int 0 0] }
theorem Hx{l:Addr}{tp:Bool}{xs:Array Value}{Q:Value→Shared→Prop}(h:if tp=true then s.heap.IsTuple l xs else s.heap.IsList l xs)(hQ:Q (.ref s.heap.objs.size) { s with heap:=s.heap.push (Ou l tp) }) :
  wpAny (model prog w) A (pyIter (.ref l)) Q E s:=by
 cases tp with
 |true=>exact wpAny_pyIter_tuple h hQ
 |false=>exact wpAny_pyIter_list h hQ
end
abbrev SqOf(h:Heap)(l:Addr)(tp:Bool)(xs:Array Value):Prop:=if tp=true then h.IsTuple l xs else h.IsList l xs
theorem SqOf.push{h:Heap}{l:Addr}{tp:Bool}{xs:Array Value}(x:SqOf h l tp xs)(o:Obj):SqOf (h.push o) l tp xs:=by
 unfold SqOf at x ⊢
 split at x
 ·rename_i e;rw[if_pos e];exact x.push o
 ·rename_i e;rw[if_neg e];exact x.push o
abbrev zh1(h:Heap)(a:Addr×Bool):Heap:=h.push (Ou a.1 a.2)
abbrev J3(h:Heap)(ts:List Value)(k:Nat):Heap:=((h.push { cls:=.type "tuple",data:=.seq ts.toArray }).push { cls:=.type "tuple",data:=.seq (List.replicate k Value.none).toArray }).push
 { cls:=.type "zip",data:=.fields #[.none,.bool false,.bool false,.ref h.objs.size,.ref (h.objs.size+1)] }
theorem Tf(a b:Addr×Bool)(xs ys:Array Value) :
  Meets (Builtin.«zip.__new__» ⟨[.type "zip",.ref a.1,.ref b.1],[]⟩) (fun _ R s=>SqOf s.heap a.1 a.2 xs∧SqOf s.heap b.1 b.2 ys∧
   R (.ok (.ret (.ref (s.heap.objs.size+4)))) { s with heap:=J3 (zh1 (zh1 s.heap a) b) [.ref s.heap.objs.size,.ref (s.heap.objs.size+1)] 2 }):=
 .of_wp fun prog w A R s h=>by
  obtain⟨hp,g,d,tk,os⟩:=s;obtain⟨hl1,hl2,h⟩:=h
  have hsub:=sub_zip
  have hL1:SqOf (Shared.heap ⟨hp,g,d,tk,os⟩) a.1 a.2 xs:=hl1
  have hL2:SqOf (Shared.heap ⟨hp.push (Ou a.1 a.2),g,d,tk,os⟩) b.1 b.2 ys:=SqOf.push hl2 _
  wp_walk using Hx hL1,Hx hL2
  refine⟨_,rfl,?_⟩
  simp only[J3,zh1,Heap.size_push] at h ⊢
  exact h
theorem Src.Sq.inj{h:Heap}{c:Src}{xs ys:Array Value}(x:c.Sq h xs)(y:c.Sq h ys):xs=ys:=by
 unfold Src.Sq at x y
 split at x
 ·rename_i e
  rw[if_pos e] at y
  obtain⟨o,h1,_,n,d⟩:=x
  obtain⟨o',h1',_,n',d'⟩:=y
  rw[h1] at h1';cases h1'
  rw[d] at d';cases d';rfl
 ·rename_i e
  rw[if_neg e] at y
  obtain⟨o,h1,_,n,d⟩:=x
  obtain⟨o',h1',_,n',d'⟩:=y
  rw[h1] at h1';cases h1'
  rw[d] at d';cases d';rfl
def SqC(K:PySem.W.Frag)(H:Hp)(c:Addr×Bool)(xs:List V):Prop:=if c.2=true then SqT K H c.1 xs else SqL K H c.1 xs
def Itz (K:PySem.W.Frag) (cs:List (Addr×Bool)):It:=
  ⟨fun i H=>∀c∈cs,∃xs,SqC K H c xs∧i<xs.length,
   fun i H x H'=>∃p vs,H p=none∧x=.ref p∧H'=upd H p (.tup vs)∧Paired (fun (c:Addr×Bool) v=>∀xs,SqC K H c xs→xs[i]? = some v) cs vs,
   fun i H=>(∀c∈cs,∃xs,SqC K H c xs)∧∃c∈cs,∃xs,SqC K H c xs∧xs.length≤i⟩
section
variable{X:Cx}{pins:List (Addr×Obj)}{σ:St}{H:Hp}{s:Shared}
theorem Nj(I:Inv X pins σ H s){c:Src}{xs:List V}(h:SqC X.K H (c.l,c.tp) xs):∃its:List Value,Vals xs its∧c.Sq s.heap its.toArray:=by
 unfold SqC at h
 unfold Src.Sq
 by_cases e:c.tp=true
 ·rw[if_pos e] at h
  obtain⟨its,r,p,_⟩:=I.tuple h
  exact⟨its,r,by rw[if_pos e];exact p⟩
 ·rw[if_neg e] at h
  obtain⟨its,r,p,_⟩:=I.list h
  exact⟨its,r,by rw[if_neg e];exact p.isList⟩
theorem Oz(I:Inv X pins σ H s){c:Addr×Bool}{xs ys:List V}(h:SqC X.K H c xs)(h':SqC X.K H c ys):xs=ys:=by
 unfold SqC at h h'
 split at h
 ·rename_i e;rw[if_pos e] at h';exact I.tuple_inj h h'
 ·rename_i e;rw[if_neg e] at h';exact I.list_inj h h'
theorem Ox{t':Nat}{h':Heap}{fp:List Addr}(I:Inv X pins σ H s)(k:∀b o,b ∉ fp→s.heap.get? b=some o→h'.get? b=some o)(hf:∀b∈fp,Ed X pins H b):Inv X pins σ H { s with heap:=h',toks:=t' }:=by
 have nit:∀b u,H b=some u→b ∉ fp:=fun b u e z=>by rw[(hf b z).1] at e;cases e
 refine I.step (g':=s.gens) (d':=s.drawn) (ch:=fp) (fun b hb=>⟨(hf b hb).2.2.2.1,(hf b hb).2.1,(hf b hb).2.2.2.2.1,(hf b hb).2.2.2.2.2⟩) (fun b o _ _ hc e _=>k b o hc e) (fun b o _ _ hc e _=>⟨o.slots,k b o hc e⟩) (fun _ _ _ _ n=>n)
  (fun b o hc e=>⟨o,k b o hc e⟩) (fun _ _ e=>e) (fun _ _ _ e=>e) (fun b ps e=>⟨#[],by rw[e];simp⟩) (fun m hm=>?_) (fun b u e=>?_) I.bare
 ·obtain⟨o,es,ep,ho,r⟩:=hm
  exact⟨o,es,ep,k _ o (fun z=>(hf _ z).2.1 rfl) ho,r⟩
 ·refine(I.hok b u e).stay (fun c v hc q=>k c v ?_ q) (fun _ q=>q) fun _ _ q=>q
  rcases hc with z|z
  ·rw[z];exact nit b u e
  ·exact nit c _ z
theorem Sm{K:W.Frag}{i:Nat}{Y:Src→Array Value}:∀(cs:List Src),(∀c∈cs,∃v,RelV v ((Y c).getD i .none)∧∀xs,SqC K H (c.l,c.tp) xs→xs[i]? = some v)→
  ∃vs,Vals vs (cs.map fun c=>(Y c).getD i .none)∧Paired (fun(c:Addr×Bool) v=>∀xs,SqC K H c xs→xs[i]? = some v) (cs.map fun c=>(c.l,c.tp)) vs
 |[],_=>⟨[],.nil,.nil⟩
 |c::cs,h=>by
  obtain⟨v,r,q⟩:=h c (by simp)
  obtain⟨vs,a,b⟩:=Sm cs fun d hd=>h d (by simp[hd])
  exact⟨v::vs,.cons r a,.cons q b⟩
end
theorem Tl{P:Program}{w:World}{K:W.Frag}{elts:List Expr}{kk:Nat}{pos:Pos}(z TI TO:Addr)(cs:List Src)(hne:cs≠[])(h16:cs.length≤16)(D:ZApart z TI TO cs) :
  Turn P w K (.Tuple elts kk pos) (Itz K (cs.map fun c=>(c.l,c.tp))) (TI::zfp z TO cs) z
   (fun i h=>IsZip h z TI TO .none∧Dk h TI (cs.map fun c=>.ref c.it)∧(∃vs,Dk h TO vs∧vs.length=cs.length)∧∀c∈cs,c.At h i) where
 mem:=by simp
 obj:=fun i h ⟨hz,hTI,⟨vs,hTO,_⟩,hA⟩ b hb=>by
  have hb':b=TI∨b=z∨b=TO∨∃c∈cs,c.it=b:=by simpa[zfp] using hb
  rcases hb' with rfl|rfl|rfl|⟨c,hc,rfl⟩
  ·exact⟨_,hTI,fun v e=>by cases(show Data.seq _ _=Data.cell v from e)⟩
  ·exact⟨_,hz,fun v e=>by cases(show Data.fields _=Data.cell v from e)⟩
  ·exact⟨_,hTO,fun v e=>by cases(show Data.seq _ _=Data.cell v from e)⟩
  ·exact(hA c hc).obj
 keep:=fun i h h' ⟨hz,hTI,⟨vs,hTO,hl⟩,hA⟩ k=>⟨k z (by simp) _ hz,k TI (by simp) _ hTI,⟨vs,k TO (by simp) _ hTO,hl⟩,fun c hc=>(hA c hc).keep fun o e=>k c.it (List.mem_cons_of_mem _ (List.mem_cons_of_mem _ (List.mem_cons_of_mem _ (List.mem_map_of_mem hc)))) o e⟩
 item:=by
  intro X hP hw hK hc i pins s σ H E I hf st hg
  subst hP hw hK
  obtain⟨hz,hTI,⟨old,hTO,hol⟩,hA⟩:=st
  have hex:∀c∈cs,∃(xs:List V) (its:List Value),SqC X.K H (c.l,c.tp) xs∧i<xs.length∧Vals xs its∧c.Sq s.heap its.toArray:=fun c hc=>by
   obtain⟨xs,h1,h2⟩:=hg (c.l,c.tp) (List.mem_map_of_mem (f:=fun c:Src=>(c.l,c.tp)) hc)
   obtain⟨its,r,p⟩:=Nj I h1
   exact⟨xs,its,h1,h2,r,p⟩
  open Classical in
  let Y:Src→Array Value:=fun c=>if h:∃ys,c.Sq s.heap ys then Classical.choose h else #[]
  have hY:∀c∈cs,c.Sq s.heap (Y c):=fun c hc=>by
   obtain⟨xs,its,_,_,_,p⟩:=hex c hc
   have h:∃ys,c.Sq s.heap ys:=⟨_,p⟩
   show c.Sq s.heap (if h:∃ys,c.Sq s.heap ys then Classical.choose h else #[])
   rw[dif_pos h];exact Classical.choose_spec h
  obtain⟨vs,rv,pv⟩:=Sm (H:=H) (K:=X.K) (i:=i) (Y:=Y) cs fun c hc=>by
   obtain⟨xs,its,h1,h2,r,p⟩:=hex c hc
   have e:=(hY c hc).inj p
   have hx:xs[i]? = some xs[i]:=List.getElem?_eq_getElem h2
   obtain⟨u,hu,ru⟩:=r.get hx
   refine⟨xs[i],?_,fun ys hy=>by rw[Oz I hy h1];exact hx⟩
   rw[e]
   have:its.toArray.getD i Value.none=u:=by simp[Array.getD_eq_getD_getElem?,hu]
   rw[this];exact ru
  refine Hw (X:=Y) (I.ok.hd hc) hne h16 D hz hTI hTO hol hA hY (fun _ h' a1 a2 a3 a4 a5=>?_) fun⟨c,hc,hl⟩=>?_
  ·refine⟨_,rfl,wpAny_letOwnedTupleGo_zip (s:={ s with heap:=h' }) a1 fun h2 hz2 sb2=>?_⟩
   have TIne:TI≠z:=fun e=>D.ti (by simp[e])
   have TOz:TO≠z:=fun e=>(List.nodup_cons.mp D.nd).1 (by simp[e])
   have itz:∀c∈cs,c.it≠z:=fun c hc e=>(List.nodup_cons.mp D.nd).1 (by rw[←e];exact List.mem_cons_of_mem _ (List.mem_map_of_mem hc))
   have hTne:s.heap.objs.size≠z:=Nat.ne_of_gt (Heap.lt_size hz)
   have I1:Inv X pins σ (upd H s.heap.objs.size (.tup vs)) { s with heap:=s.heap.push { cls:=.type "tuple",data:=.seq (cs.map fun c=>(Y c).getD i .none).toArray } }:=
    I.laid (t':=s.toks) (fun b u e=>Heap.get?_push_of_some _ e) (Nat.le_refl _) ⟨by rw[rv.length,List.length_map];exact szl (by omega),_,rv,⟨_,Heap.get?_push_size _ rfl,rfl,_,rfl⟩⟩
   have hfl:∀b∈TI::zfp z TO cs,b<s.heap.objs.size:=fun b hb=>by
    have hb':b=TI∨b=z∨b=TO∨∃c∈cs,c.it=b:=by simpa[zfp] using hb
    rcases hb' with rfl|rfl|rfl|⟨c,hc,rfl⟩
    ·exact Heap.lt_size hTI
    ·exact Heap.lt_size hz
    ·exact Heap.lt_size hTO
    ·obtain⟨o,e,_⟩:=(hA c hc).obj;exact Heap.lt_size e
   have hf1:∀b∈TI::zfp z TO cs,Ed X pins (upd H s.heap.objs.size (.tup vs)) b:=fun b hb=>⟨by rw[Af (Nat.ne_of_lt (hfl b hb))];exact(hf b hb).1,(hf b hb).2⟩
   have I2:=Ox (t':=s.toks) (h':=h2) I1 (fp:=TI::zfp z TO cs) (fun b o hb e=>?_) hf1
   ·refine⟨.ref s.heap.objs.size,_,I2,rfl,⟨s.heap.objs.size,vs,I.hok.fresh (Nat.le_refl _),rfl,rfl,pv⟩,⟨hz2,sb2.extBut _ _ TIne (a5 _ _ D.ti hTI),?_,fun c hc=>(a3 c hc).keep fun o e=>sb2.extBut _ _ (itz c hc) e⟩,fun b hb=>(hf1 b hb).1⟩
    obtain⟨ws,b1,b2⟩:=a2
    exact⟨ws,sb2.extBut _ _ TOz b1,b2⟩
   ·have hbz:b≠z:=fun e=>hb (by simp[e])
    refine sb2.extBut _ _ hbz ?_
    rcases Heap.get?_push_cases e with ⟨rfl,rfl⟩|e
    ·exact a4
    ·exact a5 _ _ (fun q=>hb (List.mem_cons_of_mem _ q)) e
  ·intro h' hk
   obtain⟨xs,its,h1,h2,r,p⟩:=hex c hc
   have e:=(hY c hc).inj p
   rw[e,List.size_toArray,←r.length] at hl
   omega
 done:=by
  intro X hP hw hK hc i pins s σ H E I hf st hg
  subst hP hw hK
  obtain⟨hz,hTI,⟨old,hTO,hol⟩,hA⟩:=st
  obtain⟨hall,c0,hc0,xs0,hx0,hl0⟩:=hg
  obtain⟨c1,hc1,rfl⟩:=List.mem_map.mp hc0
  have hex:∀c∈cs,∃(xs:List V) (its:List Value),SqC X.K H (c.l,c.tp) xs∧Vals xs its∧c.Sq s.heap its.toArray:=fun c hc=>by
   obtain⟨xs,h1⟩:=hall (c.l,c.tp) (List.mem_map_of_mem (f:=fun c:Src=>(c.l,c.tp)) hc)
   obtain⟨its,r,p⟩:=Nj I h1
   exact⟨xs,its,h1,r,p⟩
  open Classical in
  let Y:Src→Array Value:=fun c=>if h:∃ys,c.Sq s.heap ys then Classical.choose h else #[]
  have hY:∀c∈cs,c.Sq s.heap (Y c):=fun c hc=>by
   obtain⟨xs,its,_,_,p⟩:=hex c hc
   have h:∃ys,c.Sq s.heap ys:=⟨_,p⟩
   show c.Sq s.heap (if h:∃ys,c.Sq s.heap ys then Classical.choose h else #[])
   rw[dif_pos h];exact Classical.choose_spec h
  refine Hw (X:=Y) (I.ok.hd hc) hne h16 D hz hTI hTO hol hA hY (fun hlt=>?_) fun _ h' hk=>⟨rfl,Ox (t':=s.toks) (h':=h') (fp:=TI::zfp z TO cs) I (fun b o hb e=>hk b o (fun q=>hb (List.mem_cons_of_mem _ q)) e) hf⟩
  have h1:=hlt c1 hc1
  obtain⟨xs,its,h2,r,p⟩:=hex c1 hc1
  rw[(hY c1 hc1).inj p,List.size_toArray,←r.length,Oz I h2 hx0] at h1
  omega
 self:=fun _ _ _ _ _ st h=>wpAny_pyIter_zip st.1 h
theorem zipTy:bootBuiltins "zip" = some (.type "zip"):=by decide +kernel
section
variable{X:Cx}{pins:List (Addr×Obj)}{σ:St}{H:Hp}{s:Shared}{E:Value→Shared→Prop}
theorem Oy(I:Inv X pins σ H s){c:Addr×Bool}(h:∃xs,SqC X.K H c xs):∃xs,SqOf s.heap c.1 c.2 xs∧c.1<s.heap.objs.size:=by
 obtain⟨xs,h⟩:=h
 obtain⟨its,_,p⟩:=Nj (c:=⟨0,c.1,c.2⟩) I h
 refine⟨_,p,?_⟩
 unfold Src.Sq at p
 split at p
 ·obtain⟨o,e,_⟩:=p;exact Heap.lt_size e
 ·obtain⟨o,e,_⟩:=p;exact Heap.lt_size e
theorem Td{h h':Heap}{l:Addr}{tp:Bool}(e:h'.get? h.objs.size=some (Ou l tp)):Src.At h' ⟨h.objs.size,l,tp⟩ 0:=by
 unfold Src.At
 cases tp with
 |true=>exact⟨_,e,rfl,rfl⟩
 |false=>exact⟨_,e,rfl,rfl⟩
theorem Mv{elts:List Expr}{kk:Nat}{tp:Pos}{R:It→Hp→Prop}(I:Inv X pins σ H s){z TI TO:Addr}{cs:List Src}{h':Heap}(hne:cs≠[])(h16:cs.length≤16)(hk:∀b o,s.heap.get? b=some o→h'.get? b=some o)(hz:IsZip h' z TI TO .none)(hTI:Dk h' TI (cs.map fun c=>.ref c.it))(hTO:Dk h' TO (List.replicate cs.length .none))(hA:∀c∈cs,c.At h' 0)(nd:(z::TO::cs.map (·.it)).Nodup)(ti:TI ∉ zfp z TO cs)(new:∀b∈TI::zfp z TO cs,s.heap.objs.size≤b)(old:∀c∈cs,c.l<s.heap.objs.size)(q:R (Itz X.K (cs.map fun c=>(c.l,c.tp))) H) :
  wpAny (model X.prog X.w) X.A (pyIter (.ref z)) (PIE X pins σ (.Tuple elts kk tp) R) E { s with heap:=h' }:=by
 refine wpAny_pyIter_zip (s:={ s with heap:=h' }) hz ?_
 have D:ZApart z TI TO cs:=⟨nd,ti,fun c hc hb=>absurd (Nat.lt_of_lt_of_le (old c hc) (new _ (List.mem_cons_of_mem _ hb))) (Nat.lt_irrefl _)⟩
 refine⟨z,TI::zfp z TO cs,_,_,H,rfl,I.kept (t':=s.toks) hk,Tl z TI TO cs hne h16 D,⟨hz,hTI,⟨_,hTO,by simp⟩,hA⟩,fun b hb=>I.fpOk (new b hb) (I.hok.fresh (new b hb)),q⟩
theorem Vs{elts:List Expr}{kk:Nat}{tp:Pos}{R:It→Hp→Prop}(I:Inv X pins σ H s){a b:Addr×Bool}(ha:∃xs,SqC X.K H a xs)(hb:∃xs,SqC X.K H b xs)(q:R (Itz X.K [a,b]) H) :
  wpAny (model X.prog X.w) X.A (call (.type "zip") [.ref a.1,.ref b.1]) (fun v s1=>wpAny (model X.prog X.w) X.A (pyIter v) (PIE X pins σ (.Tuple elts kk tp) R) E s1) E s:=by
 obtain⟨xs,sa,la⟩:=Oy I ha
 obtain⟨ys,sb,lb⟩:=Oy I hb
 refine callType_new F.called_zip (by decide) (F.typeCall_zip_2 _ _) (F.newCall_zip_2 _ _) (fun obj=>F.args_object_init_3 obj _ _) F.entry_zip_new (Tf a b xs ys) ⟨sa,sb,?_⟩
 generalize hh:s.heap=h at *
 have z1:(zh1 h a).objs.size=h.objs.size+1:=Heap.size_push ..
 have z2:(zh1 (zh1 h a) b).objs.size=h.objs.size+2:=by rw[Heap.size_push,z1]
 have g0:∀c o,(zh1 (zh1 h a) b).get? c=some o→(J3 (zh1 (zh1 h a) b) [.ref h.objs.size,.ref (h.objs.size+1)] 2).get? c=some o:=fun c o e=>Heap.get?_push_of_some _ (Heap.get?_push_of_some _ (Heap.get?_push_of_some _ e))
 have gz:(J3 (zh1 (zh1 h a) b) [.ref h.objs.size,.ref (h.objs.size+1)] 2).get? (h.objs.size+4)=some { cls:=.type "zip",data:=.fields #[.none,.bool false,.bool false,.ref (h.objs.size+2),.ref (h.objs.size+3)] }:=by
  have e:h.objs.size+4=(((zh1 (zh1 h a) b).push { cls:=.type "tuple",data:=.seq [Value.ref h.objs.size,.ref (h.objs.size+1)].toArray }).push { cls:=.type "tuple",data:=.seq (List.replicate 2 Value.none).toArray }).objs.size:=by rw[Heap.size_push,Heap.size_push,z2]
  rw[e];unfold J3;rw[z2];exact Heap.get?_push_size _ rfl
 have gTI:Dk (J3 (zh1 (zh1 h a) b) [.ref h.objs.size,.ref (h.objs.size+1)] 2) (h.objs.size+2) [.ref h.objs.size,.ref (h.objs.size+1)]:=by
  rw[←z2];exact Heap.get?_push_of_some _ (Heap.get?_push_of_some _ (Heap.get?_push_size _ rfl))
 have gTO:Dk (J3 (zh1 (zh1 h a) b) [.ref h.objs.size,.ref (h.objs.size+1)] 2) (h.objs.size+3) (List.replicate 2 Value.none):=by
  have e:h.objs.size+3=((zh1 (zh1 h a) b).push { cls:=.type "tuple",data:=.seq [Value.ref h.objs.size,.ref (h.objs.size+1)].toArray }).objs.size:=by rw[Heap.size_push,z2]
  rw[e];exact Heap.get?_push_of_some _ (Heap.get?_push_size _ rfl)
 have A1:Src.At (J3 (zh1 (zh1 h a) b) [.ref h.objs.size,.ref (h.objs.size+1)] 2) ⟨h.objs.size,a.1,a.2⟩ 0:=Td (g0 _ _ (Heap.get?_push_of_some _ (Heap.get?_push_size _ rfl)))
 have A2:Src.At (J3 (zh1 (zh1 h a) b) [.ref h.objs.size,.ref (h.objs.size+1)] 2) ⟨h.objs.size+1,b.1,b.2⟩ 0:=by
  have:=Td (h:=zh1 h a) (l:=b.1) (tp:=b.2) (g0 _ _ (Heap.get?_push_size _ rfl))
  rw[z1] at this;exact this
 refine⟨⟨_,gz,rfl⟩,Mv (s:=s) (cs:=[⟨h.objs.size,a.1,a.2⟩,⟨h.objs.size+1,b.1,b.2⟩]) I (by simp) (by simp) (fun c o e=>?_) gz gTI gTO (fun c hc=>?_) (by simp) (by simp[zfp]) (fun c hc=>?_) (fun c hc=>?_) q⟩
 ·rw[hh] at e;exact g0 _ _ (Heap.get?_push_of_some _ (Heap.get?_push_of_some _ e))
 ·simp only[List.mem_cons,List.not_mem_nil,or_false] at hc
  rcases hc with rfl|rfl
  ·exact A1
  ·exact A2
 ·rw[hh]
  simp only[zfp,List.map_cons,List.map_nil,List.mem_cons,List.not_mem_nil,or_false] at hc
  rcases hc with rfl|rfl|rfl|rfl|rfl<;>first|exact Nat.le_refl _|exact Nat.le_add_right _ _
 ·rw[hh]
  simp only[List.mem_cons,List.not_mem_nil,or_false] at hc
  rcases hc with rfl|rfl
  ·exact la
  ·exact lb
end
def Gy(ls:List (List D))(i:Nat):List D:=ls.map fun l=>l.getD i .non
def Cc:List (List D)→Nat
 |[]=>0
 |[l]=>l.length
 |l::m::r=>min l.length (Cc (m::r))
def Bb(ls:List (List D)):List D:=(List.range (Cc ls)).map fun i=>.tup (Gy ls i)
theorem Ci(ls:List (List D)):(Bb ls).length=Cc ls:=by simp[Bb]
theorem E7{ls:List (List D)}{i:Nat}(h:i<Cc ls):(Bb ls)[i]? = some (.tup (Gy ls i)):=by simp[Bb,h]
theorem E5:∀{ls:List (List D)} {i:Nat},i<Cc ls→∀l∈ls,i<l.length
 |[],_,h,_,_=>by simp[Cc] at h
 |[l],i,h,m,hm=>by
  have:m=l:=by simpa using hm
  subst this;exact h
 |l::k::r,i,h,m,hm=>by
  have h1:i<min l.length (Cc (k::r)):=h
  rcases List.mem_cons.mp hm with e|e
  ·subst e;omega
  ·exact E5 (by omega) m e
theorem Pa:∀{ls:List (List D)},ls≠[]→∃l∈ls,l.length≤Cc ls
 |[],h=>absurd rfl h
 |[l],_=>⟨l,by simp,Nat.le_refl _⟩
 |l::k::r,_=>by
  obtain⟨m,hm,h1⟩:=Pa (ls:=k::r) (by simp)
  show ∃m∈l::k::r,m.length≤min l.length (Cc (k::r))
  by_cases h:l.length≤Cc (k::r)
  ·exact⟨l,by simp,by omega⟩
  ·exact⟨m,by simp[List.mem_cons.mp hm],by omega⟩
abbrev Hh(K:PySem.W.Frag)(H:Hp)(cs:List (Addr×Bool))(ls:List (List D)):Prop:=Paired (fun(c:Addr×Bool) l=>∃xs,SqC K H c xs∧DVs K H l xs) cs ls
structure ItemsX(K:PySem.W.Frag)(J:It)(H:Hp)(ds:List D):Prop where
 go:∀i,i<ds.length→J.go i H
 yl:∀i x H',i<ds.length→J.yld i H x H'→Ext H H'∧(∀G,RelG K H G→RelG K H' G)∧∃d,ds[i]? = some d∧DV K H' d x
 st:J.stop ds.length H
theorem Dr{K:W.Frag}{H:Hp}:∀{cs:List (Addr×Bool)} {ls:List (List D)},Hh K H cs ls→∀c∈cs,∃l∈ls,∃xs,SqC K H c xs∧DVs K H l xs
 |_,_,.cons h t,c,hc=>by
  rcases List.mem_cons.mp hc with e|e
  ·subst e;exact⟨_,by simp,h⟩
  ·obtain⟨l,hl,q⟩:=Dr t c e;exact⟨l,by simp[hl],q⟩
theorem Jj{K:W.Frag}{H:Hp}:∀{cs:List (Addr×Bool)} {ls:List (List D)},Hh K H cs ls→∀l∈ls,∃c∈cs,∃xs,SqC K H c xs∧DVs K H l xs
 |_,_,.cons h t,c,hc=>by
  rcases List.mem_cons.mp hc with e|e
  ·subst e;exact⟨_,by simp,h⟩
  ·obtain⟨l,hl,q⟩:=Jj t c e;exact⟨l,by simp[hl],q⟩
theorem Sv{K:W.Frag}{H:Hp}{i:Nat}:∀{cs:List (Addr×Bool)} {ls:List (List D)} {vs:List V},Hh K H cs ls→(∀l∈ls,i<l.length)→Paired (fun(c:Addr×Bool) v=>∀xs,SqC K H c xs→xs[i]? = some v) cs vs→DVs K H (Gy ls i) vs
 |_,_,_,.nil,_,.nil=>.nil
 |_,_,_,.cons (b:=l) h t,hl,.cons q r=>by
  obtain⟨xs,h1,h2⟩:=h
  have hi:i<l.length:=hl l (by simp)
  obtain⟨v,hv,dv⟩:=h2.get (List.getElem?_eq_getElem hi)
  rw[q xs h1] at hv
  cases hv
  show DVs K H (l.getD i .non::Gy _ i) _
  have e:l.getD i .non=l[i]:=by simp[List.getD,hi]
  rw[e]
  exact .cons dv (Sv t (fun m hm=>hl m (by simp[hm])) r)
theorem Jp{K:W.Frag}{H:Hp}{cs:List (Addr×Bool)}{ls:List (List D)}(h:Hh K H cs ls)(hne:ls≠[]):ItemsX K (Itz K cs) H (Bb ls):=by
 refine⟨fun i hi c hc=>?_,fun i x H' hi y=>?_,⟨fun c hc=>?_,?_⟩⟩
 ·rw[Ci] at hi
  obtain⟨l,hl,xs,h1,h2⟩:=Dr h c hc
  exact⟨xs,h1,by rw[←h2.length];exact E5 hi l hl⟩
 ·rw[Ci] at hi
  obtain⟨p,vs,hp,rfl,rfl,pv⟩:=y
  refine⟨Ext.fresh hp,fun G r=>r.tup hp,_,E7 hi,.tup Ah ((Sv h (E5 hi) pv).ext (Ext.fresh hp))⟩
 ·obtain⟨l,_,xs,h1,_⟩:=Dr h c hc
  exact⟨xs,h1⟩
 ·obtain⟨l,hl,hle⟩:=Pa hne
  obtain⟨c,hc,xs,h1,h2⟩:=Jj h l hl
  exact⟨c,hc,xs,h1,by rw[Ci,←h2.length];exact hle⟩
def By(G:Gp):List D→Option (List (List D))
 |[]=>some []
 |d::r=>match Aw G d,By G r with
  |some l,some ls=>some (l::ls)
  |_,_=>none
def Ha:D→V→Addr×Bool
 |.tup _,.ref a=>(a,true)
 |_,.ref a=>(a,false)
 |_,_=>(0,false)
theorem Yg{K:W.Frag}{H:Hp}{G:Gp}{d:D}{v:V}{l:List D}(rg:RelG K H G)(h:Aw G d=some l)(dv:DV K H d v):v=.ref (Ha d v).1∧∃xs,SqC K H (Ha d v) xs∧DVs K H l xs:=by
 cases dv with
 |tup e r=>cases h;exact⟨rfl,_,.inl (.inl e),r⟩
 |lint e=>cases h;exact⟨rfl,_,e.sq,DVs.ints⟩
 |ref a=>
  simp only[Aw] at h
  split at h
  ·rename_i ds' q
   cases h
   obtain⟨xs,e,r⟩:=rg a _ q
   exact⟨rfl,xs,.inl (.inl e),r⟩
  ·cases h
 |_=>cases h
theorem E3{K:W.Frag}{H:Hp}{G:Gp}(rg:RelG K H G):∀{ds:List D} {vs:List V} {ls:List (List D)},By G ds=some ls→DVs K H ds vs→vs=(List.zipWith Ha ds vs).map (fun c=>V.ref c.1)∧Hh K H (List.zipWith Ha ds vs) ls
 |[],_,_,h,.nil=>by cases h;exact⟨rfl,.nil⟩
 |d::ds,_,_,h,.cons (v:=v) (vs:=vs) dv t=>by
  simp only[By] at h
  split at h
  ·rename_i l ls e1 e2
   cases h
   obtain⟨a1,a2⟩:=Yg rg e1 dv
   obtain⟨b1,b2⟩:=E3 rg e2 t
   refine⟨?_,.cons a2 b2⟩
   show v::vs=V.ref (Ha d v).1::_
   rw[←a1,←b1]
  ·cases h
def iZip(K:PySem.W.Frag)(n:Nat)(ta:TA):TI:=fun σ H R=>ta σ H fun vs H1=>∃cs:List (Addr×Bool),vs=cs.map (fun c=>V.ref c.1)∧cs.length=n∧(∀c∈cs,∃xs,SqC K H1 c xs)∧R (Itz K cs) H1
section
variable{X:Cx}{a b c e:Expr}{elts:List Expr}{kk:Nat}{tp p pos:Pos}{body:List Stmt}
theorem O7{ta:TA}(hg:Gl X "zip")(hm:X.mg "zip" = none)(ha:PA X [a,b] ta)(hs:starEach [a,b] X.env=(false,eval a X.env)::starEach [b] X.env:=by rfl)(hpl:(backTo pos (starEach [b] X.env)).any (·.1)=false:=by rfl) :
  PI X (.Tuple elts kk tp) (.Call (.Name "zip" p) [a,b] [] pos) (iZip X.K 2 ta):=by
 intro pins s σ H R I h
 refine Call_ (Ek I hg hm zipTy (PyProof.Rows.callWith_type1 (thn (ha pos pins s σ H _ I h) fun us s1 ⟨vs,H1,I1,r1,q1⟩=>?_) hs hpl))
 obtain⟨cs,e,hl,hq,q⟩:=q1
 match cs,hl with
 |[x,y],_=>
  subst e
  obtain⟨u1,u2,rfl,r1,r2⟩:=F9 r1
  cases r1;cases r2
  exact Vs I1 (hq x (by simp)) (hq y (by simp)) q
theorem vals3{x y z:V}{us:List Value}(r:Vals [x,y,z] us):∃u v w,us=[u,v,w]∧RelV x u∧RelV y v∧RelV z w:=by
 cases r with|cons a t=>cases t with|cons b t=>cases t with|cons c t=>cases t;exact⟨_,_,_,rfl,a,b,c⟩
theorem N6{K:W.Frag}{J:It}{ds:List D}{same:Gp→Prop}{g:DTG}{tb:DTS}{D:DEnds}{E:Ends}{σD:DSt}{σ:St}{G:Gp}{H:Hp}(rs:RelS K H σD σ)(rg:RelG K H G)(cl:D.Reach K H E)(hJ:∀H' G',Ext H H'→RelG K H' G'→same G'→ItemsX K J H' ds)(h:Lh ds same g tb D σD G) :
  ∃W:Nat→Nat→St→Hp→Prop,(∃m,W 0 m σ H)∧∀i m σ H,W i m σ H→
   (J.stop i H∧E.nx σ H)∨(J.go i H∧∃N:St→Hp→Prop,(∀σ' H',N σ' H'→∃m',m'<m∧W (i+1) m' σ' H')∧∀x H',J.yld i H x H'→Cu K g x σ H' fun σ2 H2=>Dl K tb { E with nx:=N,ct:=N,bk:=E.nx } σ2 H2):=by
 obtain⟨P,p0,keep,step,fin⟩:=h
 refine⟨fun i m σ' H'=>m=ds.length-i∧i≤ds.length∧∃σD' G',RelS K H' σD' σ'∧RelG K H' G'∧Ext H H'∧P i σD' G',⟨ds.length,rfl,Nat.zero_le _,σD,G,rs,rg,Ext.refl H,p0⟩,?_⟩
 rintro i m σ1 H1 ⟨rfl,hi,σD1,G1,rs1,rg1,x1,p1⟩
 have I:=hJ H1 G1 x1 rg1 (keep i σD1 G1 hi p1)
 by_cases hlt:i<ds.length
 ·refine .inr ⟨I.go i hlt,fun σ' H'=>∃σD' G',RelS K H' σD' σ'∧RelG K H' G'∧Ext H H'∧P (i+1) σD' G',fun σ' H' ⟨s2,G2,r1,r2,r3,p⟩=>⟨ds.length-(i+1),by omega,rfl,hlt,s2,G2,r1,r2,r3,p⟩,fun x H' y=>?_⟩
  obtain⟨xe,rge,d,ed,dv⟩:=I.yl i x H' hlt y
  refine⟨d,σD1,G1,_,dv,rs1.ext xe,rge _ rg1,step i d σD1 G1 ed p1,fun σ2 G2 h2 H2 x2 rg2 σ' rs2=>?_⟩
  have xx:=x1.trans (xe.trans x2)
  exact⟨σ2,G2,_,rs2,rg2,h2,⟨fun s3 G3 ⟨G4,sb,n⟩ H3 x3 rg3 σ3 rs3=>⟨s3,G4,rs3,rg3.ext' sb,xx.trans x3,n⟩,(cl.go xx).rt,(cl.go xx).nx,fun s3 G3 ⟨G4,sb,n⟩ H3 x3 rg3 σ3 rs3=>⟨s3,G4,rs3,rg3.ext' sb,xx.trans x3,n⟩⟩⟩
 ·have e:i=ds.length:=by omega
  subst e
  exact .inl ⟨I.st,cl.nx _ G1 (fin σD1 G1 p1) H1 x1 rg1 _ rs1⟩
def Sc(n:Nat)(tA:DTA)(g:DTG)(tb:DTS):DTS:=fun D σ G=>tA σ G fun ds G1=>ds.length=n∧∃ls,By G1 ds=some ls∧Lh (Bb ls) (fun G'=>By G' ds=some ls) g tb D σ G1
theorem Kv{G:Gp}:∀{ds:List D} {ls:List (List D)},By G ds=some ls→ls.length=ds.length
 |[],_,h=>by cases h;rfl
 |d::ds,_,h=>by
  simp only[By] at h
  split at h
  ·rename_i l ls e1 e2
   cases h
   simp[Kv e2]
  ·cases h
theorem Ut{n:Nat}(hn:n≠0){g:DTG}{tb:DTS}{tA:DTA}{E:Ends}{σ:St}{H:Hp}(h:Dl X.K (Sc n tA g tb) E σ H):tFor (iZip X.K n (Sd X.K tA)) (Cu X.K g) (Dl X.K tb) E σ H:=by
 obtain⟨σD,G,D,rs,rg,h,cl⟩:=h
 refine⟨σD,G,_,rs,rg,h,fun ds G1 ⟨hn2,ls,ei,L⟩ H1 x1 rg1 vs dv=>?_⟩
 obtain⟨e1,ok⟩:=E3 rg1 ei dv
 refine⟨List.zipWith Ha ds vs,e1,by rw[List.length_zipWith,←dv.length,Nat.min_self];exact hn2,fun c hc=>?_,?_⟩
 ·obtain⟨l,_,xs,h1,_⟩:=Dr ok c hc
  exact⟨xs,h1⟩
 ·refine N6 (rs.ext x1) rg1 (cl.go x1) (fun H' G' x' rg' s'=>?_) L
  obtain⟨_,ok'⟩:=E3 rg' s' (dv.ext x')
  refine Jp ok' fun z=>?_
  have:=Kv ei
  rw[z] at this
  simp at this
  omega
theorem qs_forZ2{g:DTG}{tb:DTS}{tA:DTA}(hp:PassesOwn (model X.prog X.w) X.A X.env X.xe)(hc:X.calm=true)(hm:X.mg "zip" = none)(ha:QA X [a,b] tA)(hg:QG X (.Tuple elts kk tp) g)(hb:QSs X body tb)(hgl:Gl X "zip":=by rfl)(hst:starEach [a,b] X.env=(false,eval a X.env)::starEach [b] X.env:=by rfl)(hpl:(backTo pos (starEach [b] X.env)).any (·.1)=false:=by rfl)(hs:∀x,foldedSetIterable (.Call (.Name "zip" p) [a,b] [] pos) X.env x=pure x:=by intro _;rfl){pos2:Pos} :
  QS X (.For (.Tuple elts kk tp) (.Call (.Name "zip" p) [a,b] [] pos) body [] pos2) (Sc 2 tA g tb):=(Kb hp hc (O7 hgl hm ha hst hpl) hg hb hs).imp fun E σ H h=>Ut (by decide) h
end
def A3(scope:Scope)(cl:List (Str×Addr))(C:Addr):List (Str×Addr):=cellsFrom (C+1) scope.names cl
def Ak(X:Cx)(scope:Scope)(cl:List (Str×Addr))(T M:List Str)(s:Shared)(H:Hp)(fp:List Addr):Cx where
 prog:=X.prog
 w:=X.w
 K:=X.K
 mg:=X.mg
 base:=X.base
 A:=X.A
 N:=T++M
 s₀:=s
 H₀:=H
 env:=compEnvC scope (A3 scope cl s.heap.objs.size) s.heap.objs.size X.env
 outer:=X.stack
 stack:=X.stack
 ex:=fp
 fn:=fun x=>scope.names.lookup x == some .cell
 calm:=X.calm
 pn:=[]
 xe:=fun _ _=>False
structure CompOz(X:Cx)(scope:Scope)(cl:List (Str×Addr))(T M:List Str):Prop where
 clos:closureFor scope X.env=pure cl
 kind:scope.kind=.function
 names:∀y∈scope.names,y.2=.local→scope.names.lookup y.1=some .local
 nocl:∀y∈scope.names,y.2=.cell→scope.names.lookup y.1=some .cell
 sub:∀x c,cl.lookup x=some c→X.env.cells.lookup x=some c∧scope.names.lookup x=some .free
 has:∀x,scope.names.lookup x=some .free→∃c,cl.lookup x=some c
 len:M.length=X.N.length
 vis:∀(i:Nat) (x:Str),M[i]? = some x→∀k,scope.names.lookup x=some k→k≠.local∧k≠.cell∧(k=.free→X.N[i]? = some x∧(X.env.kindOf x=some .cell∨X.env.kindOf x=some .free))
theorem Bz{scope:Scope}{env:Env}{x:Str}:(relabel scope env).names.lookup x=(scope.names.lookup x).map fun k=>if (k == NameKind.free&&env.scope.kind == .function&&env.kindOf x == some .cell)=true then NameKind.cell else k:=by
 show(scope.names.map fun(n,k)=>if (k == NameKind.free&&env.scope.kind == .function&&env.kindOf n == some .cell) then (n,NameKind.cell) else (n,k)).lookup x=_
 generalize scope.names=names
 induction names with
 |nil=>rfl
 |cons y r ih=>
  obtain⟨n,k⟩:=y
  rw[List.map_cons]
  by_cases hx:x=n
  ·subst hx
   by_cases hc:(k == NameKind.free&&env.scope.kind == .function&&env.kindOf x == some .cell)=true
   ·simp only[hc,if_true,List.lookup_cons_self,Option.map_some]
   ·simp only[hc,Bool.false_eq_true,if_false,List.lookup_cons_self,Option.map_some]
  ·have e:∀k',List.lookup x ((n,k')::r)=List.lookup x r:=fun k'=>by rw[List.lookup_cons,beq_false_of_ne hx]
   rw[e,←ih]
   by_cases hc:(k == NameKind.free&&env.scope.kind == .function&&env.kindOf n == some .cell)=true
   ·simp only[hc,if_true];rw[List.lookup_cons,beq_false_of_ne hx]
   ·simp only[hc];rw[show(if false=true then (n,NameKind.cell) else (n,k))=(n,k) from rfl,List.lookup_cons,beq_false_of_ne hx]
theorem Be:∀(names:List (Str×NameKind)) (n:Nat) (acc:List (Str×Addr)),∃own,cellsFrom n names acc=own++acc∧(∀p∈own,(p.1,NameKind.cell)∈names∧n≤p.2)∧∀x,(x,NameKind.cell)∈names→∃c,own.lookup x=some c
 |[],n,acc=>⟨[],rfl,by simp,by simp⟩
 |(y,k)::r,n,acc=>by
  unfold cellsFrom
  by_cases hk:(k == NameKind.cell)=true
  ·rw[if_pos hk]
   obtain⟨own,e,h1,h2⟩:=Be r (n+1) ((y,n)::acc)
   have hk':k=.cell:=by simpa using hk
   subst hk'
   refine⟨own++[(y,n)],by rw[e];simp,fun p hp=>?_,fun x hx=>?_⟩
   ·rcases List.mem_append.mp hp with hp|hp
    ·exact⟨List.mem_cons_of_mem _ (h1 p hp).1,by have:=(h1 p hp).2;omega⟩
    ·have:p=(y,n):=by simpa using hp
     subst this
     exact⟨by simp,Nat.le_refl _⟩
   ·rcases List.mem_cons.mp hx with z|z
    ·cases z
     rw[List.lookup_append]
     cases q:own.lookup y with
     |some c=>exact⟨c,rfl⟩
     |none=>exact⟨n,by simp⟩
    ·obtain⟨c,hc⟩:=h2 x z
     exact⟨c,by rw[List.lookup_append,hc];rfl⟩
  ·rw[if_neg hk]
   obtain⟨own,e,h1,h2⟩:=Be r n acc
   refine⟨own,e,fun p hp=>⟨List.mem_cons_of_mem _ (h1 p hp).1,(h1 p hp).2⟩,fun x hx=>?_⟩
   rcases List.mem_cons.mp hx with z|z
   ·cases z;exact absurd rfl hk
   ·exact h2 x z
theorem B3{X:Cx}{scope:Scope}{cl:List (Str×Addr)}{T M:List Str}(ok:CompOz X scope cl T M)(C:Addr):∀x c,(A3 scope cl C).lookup x=some c→(scope.names.lookup x=some .cell∧C+1≤c)∨(cl.lookup x=some c∧scope.names.lookup x=some .free):=by
 intro x c h
 obtain⟨own,e,h1,h2⟩:=Be scope.names (C+1) cl
 unfold A3 at h
 rw[e,List.lookup_append] at h
 cases q:own.lookup x with
 |some c'=>
  rw[q] at h
  have h:some c'=some c:=h
  cases h
  have:=h1 _ (PySem.mem_of_lookup q)
  exact .inl ⟨ok.nocl _ this.1 rfl,this.2⟩
 |none=>
  rw[q] at h
  have h:cl.lookup x=some c:=h
  exact .inr ⟨h,(ok.sub x c h).2⟩
theorem Eg{X:Cx}{scope:Scope}{cl:List (Str×Addr)}{T M:List Str}(ok:CompOz X scope cl T M)(C:Addr){x:Str}(hx:scope.names.lookup x=some .free):(A3 scope cl C).lookup x=cl.lookup x:=by
 obtain⟨own,e,h1,h2⟩:=Be scope.names (C+1) cl
 unfold A3
 rw[e,List.lookup_append]
 cases q:own.lookup x with
 |some c'=>
  have:=ok.nocl _ (h1 _ (PySem.mem_of_lookup q)).1 rfl
  rw[hx] at this;cases this
 |none=>rfl
theorem F0{X:Cx}{scope:Scope}{cl:List (Str×Addr)}{T M:List Str}{pins:List (Addr×Obj)}{σ:St}{H:Hp}{s s4:Shared}{fp:List Addr}{m:Str→Option Value}(ok:CompOz X scope cl T M)(I:Inv X pins σ H s)(hfp:∀b∈fp,Ed X pins H b∧b<s.heap.objs.size)(hn:s4.heap.Ns s.heap.objs.size m)(hk:∀b o,s.heap.get? b=some o→s4.heap.get? b=some o)(hos:s4.os=s.os)(hg:s4.gens=s.gens)(hc1:∀x c,(A3 scope cl s.heap.objs.size).lookup x=some c→scope.names.lookup x=some .cell→∃v,s4.heap.IsCell c v)(hc2:∀x y c,(A3 scope cl s.heap.objs.size).lookup x=some c→(A3 scope cl s.heap.objs.size).lookup y=some c→scope.names.lookup x=some .cell→x=y) :
  Inv (Ak X scope cl T M s H fp) [] (Nb T σ) H s4:=by
 have fr:∀{b:Addr},s.heap.objs.size≤b→H b=none:=fun h=>I.hok.fresh h
 have old:∀x c,cl.lookup x=some c→c<s.heap.objs.size:=fun x c e=>by
  obtain⟨v,o,ho,_⟩:=I.cell x c (ok.sub x c e).1
  exact Heap.lt_size ho
 have lk:=B3 ok s.heap.objs.size
 have inj:∀x y c,(A3 scope cl s.heap.objs.size).lookup x=some c→(A3 scope cl s.heap.objs.size).lookup y=some c→x=y:=fun x y c h1 h2=>by
  rcases lk x c h1 with ⟨a1,a2⟩|⟨a1,a2⟩
  ·exact hc2 x y c h1 h2 a1
  ·rcases lk y c h2 with ⟨b1,b2⟩|⟨b1,b2⟩
   ·exact absurd (Nat.lt_of_lt_of_le (old x c a1) (Nat.le_of_succ_le b2)) (Nat.lt_irrefl _)
   ·exact I.ok.inj x y c (ok.sub x c a1).1 (ok.sub y c b1).1
 have has:∀x,((relabel scope X.env).names.lookup x=some .cell∨(relabel scope X.env).names.lookup x=some .free)→∃c,(A3 scope cl s.heap.objs.size).lookup x=some c:=fun x hx=>by
  rw[Bz] at hx
  cases q:scope.names.lookup x with
  |none=>rw[q] at hx;simp at hx
  |some k=>
   rw[q] at hx
   simp only[Option.map_some] at hx
   by_cases hkf:k=.free
   ·subst hkf
    obtain⟨c,hc⟩:=ok.has x q
    exact⟨c,by rw[Eg ok _ q];exact hc⟩
   ·have:k=.cell:=by
     have hb:(k == NameKind.free)=false:=by simpa using hkf
     simp only[hb,Bool.false_and,Bool.false_eq_true,if_false,Option.some.injEq] at hx
     exact hx.elim id fun z=>absurd z hkf
    subst this
    obtain⟨own,e,h1,h2⟩:=Be scope.names (s.heap.objs.size+1) cl
    obtain⟨c,hc⟩:=h2 x (PySem.mem_of_lookup q)
    exact⟨c,by unfold A3;rw[e,List.lookup_append,hc];rfl⟩
 refine⟨⟨I.ok.mod,ok.kind,I.ok.glob,I.ok.blt,Nat.le_refl _,inj,has,fun x c h h1=>?_,I.ok.hd,I.ok.frames,.inl rfl,fun b hb=>⟨Nat.ne_of_lt (hfp b hb).2,fun x c e=>?_⟩,I.bs,Nat.le_trans I.ok.bsz I.sz,fun b o e hb=>?_,fun b hb z=>?_,I.stack,I.stkFree⟩,
  hos,by rw[hg];exact I.bare,Un.kept hk,⟨m,hn,fun i x v e1 e2 e3=>?_⟩,fun x c e=>?_,fr (Nat.le_refl _),fun x c e=>?_,fun p hp=>absurd (show p∈([]:List (Addr×Obj)) from hp) (by simp),I.hok.kept hk,?_⟩
 ·have h:(scope.names.lookup x == some .cell)=true:=h
  have h:scope.names.lookup x=some .cell:=by simpa using h
  rcases lk x c h1 with ⟨_,a2⟩|⟨_,a2⟩
  ·exact Nat.le_of_succ_le a2
  ·rw[h] at a2;cases a2
 ·rcases lk x c e with ⟨_,a2⟩|⟨a1,a2⟩
  ·exact Nat.ne_of_gt (Nat.lt_of_lt_of_le (hfp b hb).2 (Nat.le_of_succ_le a2))
  ·exact(hfp b hb).1.2.2.2.2.1 x c (ok.sub x c a1).1
 ·rcases(hfp b hb).1.2.2.2.1 with z|z
  ·exact I.ok.noex b o e z
  ·exact absurd (Nat.lt_of_lt_of_le (Heap.lt_size e) (Nat.le_trans I.ok.bsz z)) (Nat.lt_irrefl _)
 ·rcases List.mem_cons.mp (I.stkSub b z) with e|e
  ·exact(hfp b hb).1.2.1 e
  ·exact(hfp b hb).1.2.2.1 e
 ·have e1:(T++M)[i]? = some x:=e1
  have e2:(List.replicate T.length none++σ)[i]? = some (some v):=e2
  by_cases hi:i<T.length
  ·rw[List.getElem?_append_left (by simpa using hi),List.getElem?_replicate,if_pos hi] at e2
   cases e2
  ·rw[List.getElem?_append_right (by omega)] at e1
   rw[List.getElem?_append_right (by simpa using hi),List.length_replicate] at e2
   have e3:Vis (relabel scope X.env) x:=e3
   have hq:∃k,scope.names.lookup x=some k∧k=.free:=by
    cases q:scope.names.lookup x with
    |none=>unfold Vis at e3;rw[Bz,q] at e3;simp at e3
    |some k=>
     obtain⟨v1,v2,_⟩:=ok.vis _ x e1 k q
     refine⟨k,rfl,?_⟩
     unfold Vis at e3
     rw[Bz,q] at e3
     by_cases hkf:k=.free
     ·exact hkf
     ·have hb:(k == NameKind.free)=false:=by simpa using hkf
      simp only[Option.map_some,hb,Bool.false_and,Bool.false_eq_true,if_false,Option.some.injEq] at e3
      rcases e3 with z|z|z
      ·exact absurd z v1
      ·exact absurd z v2
      ·exact z
   obtain⟨k,hq,rfl⟩:=hq
   obtain⟨e1,k2⟩:=(ok.vis _ x e1 _ hq).2.2 rfl
   obtain⟨m0,hn0,hl0⟩:=I.loc
   have v0:Vis X.env.scope x:=k2.elim (fun z=>.inr (.inl z)) fun z=>.inr (.inr z)
   obtain⟨u,r,l⟩:=hl0 _ x v e1 e2 v0
   have k1:(relabel scope X.env).names.lookup x=some .cell∨(relabel scope X.env).names.lookup x=some .free:=by
    rw[Bz,hq]
    simp only[Option.map_some]
    split
    ·exact .inl rfl
    ·exact .inr rfl
   refine⟨u,r,.inr ⟨k1,?_⟩⟩
   obtain⟨c,hc⟩:=ok.has x hq
   refine⟨c,(Eg ok _ hq).trans hc,?_⟩
   rcases l with ⟨l,_⟩|⟨_,c',hc',hv'⟩
   ·rcases k2 with z|z
    ·rw[l] at z;cases z
    ·rw[l] at z;cases z
   ·rw[(ok.sub x c hc).1] at hc'
    cases hc'
    obtain⟨o,ho,hd⟩:=hv'
    exact⟨o,hk _ _ ho,hd⟩
 ·rcases lk x c e with ⟨a1,a2⟩|⟨a1,a2⟩
  ·exact hc1 x c e a1
  ·obtain⟨v,o,ho,hd⟩:=I.cell x c (ok.sub x c a1).1
   exact⟨v,o,hk _ _ ho,hd⟩
 ·rcases lk x c e with ⟨a1,a2⟩|⟨a1,a2⟩
  ·exact fr (Nat.le_of_succ_le a2)
  ·exact I.freeC x c (ok.sub x c a1).1
 ·show(List.replicate T.length none++σ).length=(T++M).length
  rw[List.length_append,List.length_append,List.length_replicate,I.len,ok.len]

def Lw(P:Program)(w:World)(A:Around)(env:Env)(tg elt:Expr)(ifs:List Expr)(it acc:Value)(X:Value→Shared→Prop)(nxt:Shared→Prop)(v:Value)(t:Shared):Prop:=
 wpAny (model P w) A (letOwnedTupleGo tg it v) (fun _ a=>wpAny (model P w) A (assign tg env v) (fun _ b=>wpAny (model P w) A (Hf ifs env) (fun y c=>
  if y=true then wpAny (model P w) A (eval elt env) (fun e d=>wpAny (model P w) A (call (.builtin "list.append") [acc,e]) (fun _ f=>nxt f) X d) X c else nxt c) X b) X a) X t
theorem Gf{P:Program}{w:World}{A:Around}{R:Result→Shared→Prop}{s:Shared}{elt tg src:Expr}{ifs:List Expr}{sc:Scope}{pl:Pos}{it acc:Value}{env:Env}(V:Nat→Shared→Prop)(go:∀k t,V k t→wpAny (model P w) A (pyNext it) (fun r u=>match r with
   |none=>R (.ok .next) u
   |some v=>Lw P w A env tg elt ifs it acc (notedBy (model P w) A env fun e z=>R (.error e) z) (fun z=>∃m,m<k∧V m z) v u) (notedBy (model P w) A env fun e z=>R (.error e) z) t)(k:Nat)(h0:V k s):codeAny (model P w) A (.compLoop (.ListComp elt [⟨tg,src,ifs,0⟩] sc pl) 0 it acc env) R s:=by
 refine codeAny_loop rfl V (fun k t hv=>(show wpAny _ A ((compTurn (.ListComp elt [⟨tg,src,ifs,0⟩] sc pl) 0 it acc env).onRaise (fun x=>do noteFrame x env;theTreesLotGoes x)) _ _ t from wpAny_noted ?_)) k h0
 rw[compTurn_list];refine wpAny_bind (wpAny_standAt (wpAny_bind (wpAny_mono (go k t hv) (fun r u hr=>?_) fun _ _ z=>z)))
 cases r with
 |none=>exact wpAny_pure hr
 |some v=>
  refine wpAny_bind (wpAny_mono hr (fun _ a ha=>wpAny_bind (wpAny_mono ha (fun _ b hb=>wpAny_bind (wpAny_mono hb (fun y c hc=>?_) fun _ _ z=>z)) fun _ _ z=>z)) fun _ _ z=>z)
  cases y with
  |true=>exact wpAny_bind (wpAny_bind (wpAny_mono hc (fun e d hd=>wpAny_bind (wpAny_mono hd (fun _ f hf=>wpAny_pure (wpAny_pure ⟨rfl,hf⟩)) fun _ _ z=>z)) fun _ _ z=>z))
  |false=>refine wpAny_pure ⟨rfl,?_⟩;exact hc
theorem Hn{M:Model}{A:Around}{E:Value→Shared→Prop}{s:Shared}{scope:Scope}{env:Env}{cl:List (Str×Addr)}{Q:Env→Shared→Prop}(hk:scope.kind=.function)(h:∀h':Heap,h'.Ns s.heap.objs.size (fun _=>none)→(∀b o,s.heap.get? b=some o→h'.get? b=some o)→CellsOk h' (s.heap.objs.size+1) (cellsFrom (s.heap.objs.size+1) scope.names [])→
   Q (newEnv scope s.heap.objs.size env.globals (A3 scope cl s.heap.objs.size) env.qual none .none (some env) builtinsNs) { s with heap:=h' }) :
  wpAny M A (newFunctionEnv scope env.globals cl [] env.qual none .none (some env)) Q E s:=by
 simp only[newFunctionEnv,Option.isSome_some,if_true];refine wpAny_bind (wpAny_alloc ?_)
 refine wpAny_bind (wpAny_layCells _ (fun name kind cells=>by cases hkc:kind == NameKind.cell<;>simp) _ _ _ _ ?_)
 have okc:=cellsFrom_ok scope.names (s.heap.push { cls:=.type "dict",data:=.dict #[] }) (s.heap.objs.size+1) [] ⟨fun _ _ hm=>(nomatch hm),List.Pairwise.nil⟩ (by rw[Heap.size_push];exact Nat.le_refl _)
 rw[Heap.size_push] at okc
 rw[show({ s with heap:=s.heap.push { cls:=.type "dict",data:=.dict #[] } }:Shared).heap.objs.size=s.heap.objs.size+1 from Heap.size_push ..]
 refine wpAny_bind ?_
 rw[List.forIn_nil]
 refine wpAny_pure (wpAny_pure ?_)
 exact h _ ((Heap.Ns.new s.heap (.type "dict")).keeps (pushCells_keeps _ _)) (fun b o e=>pushCells_keeps _ _ b o (Heap.get?_push_of_some _ e)) okc

theorem B5:∀(names:List (Str×NameKind)) (n:Nat) (acc:List (Str×Addr)),cellsFrom n names acc=cellsFrom n names []++acc
 |[],n,acc=>rfl
 |(y,k)::r,n,acc=>by
  unfold cellsFrom
  split
  ·rw[B5 r (n+1) ((y,n)::acc),B5 r (n+1) [(y,n)]];simp
  ·exact B5 r n acc
theorem Np{scope:Scope}{cl:List (Str×Addr)}{C:Addr}{x:Str}{c:Addr}(h:(A3 scope cl C).lookup x=some c)(hn:cl.lookup x=none∨C+1≤c)(old:∀x c,cl.lookup x=some c→c<C):(x,c)∈cellsFrom (C+1) scope.names []:=by
 unfold A3 at h
 rw[B5,List.lookup_append] at h
 cases q:(cellsFrom (C+1) scope.names []).lookup x with
 |some c'=>
  rw[q] at h
  have h:some c'=some c:=h
  cases h
  exact PySem.mem_of_lookup q
 |none=>
  rw[q] at h
  have h:cl.lookup x=some c:=h
  rcases hn with z|z
  ·rw[z] at h;cases h
  ·exact absurd (Nat.lt_of_lt_of_le (old x c h) (Nat.le_of_succ_le z)) (Nat.lt_irrefl _)
theorem Kq{X:Cx}{scope:Scope}{cl:List (Str×Addr)}{T M:List Str}{C:Addr}{h':Heap}(ok:CompOz X scope cl T M)(okc:CellsOk h' (C+1) (cellsFrom (C+1) scope.names []))(old:∀x c,cl.lookup x=some c→c<C) :
  ∀x c,(A3 scope cl C).lookup x=some c→scope.names.lookup x=some .cell→∃v,h'.IsCell c v:=fun x c h hx=>by
 rcases B3 ok C x c h with ⟨_,a2⟩|⟨_,a2⟩
 ·exact⟨_,(okc.empty x c (Np h (.inr a2) old)).1⟩
 ·rw[hx] at a2;cases a2
theorem Kp{X:Cx}{scope:Scope}{cl:List (Str×Addr)}{T M:List Str}{C:Addr}{h':Heap}(ok:CompOz X scope cl T M)(okc:CellsOk h' (C+1) (cellsFrom (C+1) scope.names []))(old:∀x c,cl.lookup x=some c→c<C) :
  ∀x y c,(A3 scope cl C).lookup x=some c→(A3 scope cl C).lookup y=some c→scope.names.lookup x=some .cell→x=y:=fun x y c h1 h2 hx=>by
 rcases B3 ok C x c h1 with ⟨_,a2⟩|⟨_,a2⟩
 ·exact name_of_addr okc.apart (Np h1 (.inr a2) old) (Np h2 (.inr a2) old)
 ·rw[hx] at a2;cases a2
def Ng(n:Nat)(wi:TI)(g:TG)(tf:TT)(te:TE):TE:=fun σ H Q=>wi σ H fun J H1=>∀p,H1 p=none→∃W:Nat→Nat→St→Hp→Prop,(∃m,W 0 m (List.replicate n none++σ) (upd H1 p (.lst [])))∧∀i m σ1 H,W i m σ1 H→
 ((J.stop i H∧Q (.ref p) H)∨(J.go i H∧∃N:St→Hp→Prop,(∀σ' H',N σ' H'→∃m',m'<m∧W (i+1) m' σ' H')∧
  ∀x H',J.yld i H x H'→g x σ1 H' fun σ2 H2=>tf σ2 H2 fun b H3=>if b=true then te σ2 H3 fun y H4=>∃ys,H4 p=some (.lst ys)∧ys.length<sizeLine∧N σ2 (upd H4 p (.lst (ys++[y]))) else N σ2 H3))
theorem E9{X:Cx}{elt iter tg:Expr}{ifs:List Expr}{scope:Scope}{cl:List (Str×Addr)}{pos:Pos}{wi:TI}{g:TG}{tf:TT}{te:TE}{T M:List Str}(hc:X.calm=true)(ok:CompOz X scope cl T M)(hi:PI X tg iter wi)(hg:∀s H fp,PG (Ak X scope cl T M s H fp) tg g)(hf:∀s H fp,PF (Ak X scope cl T M s H fp) ifs tf)(he:∀s H fp,PE (Ak X scope cl T M s H fp) elt te)(hs:∀x,foldedSetIterable iter X.env x=pure x:=by intro _;rfl):PE X (.ListComp elt [⟨tg,iter,ifs,0⟩] scope pos) (Ng T.length wi g tf te):=by
 intro pins s σ H Q I h
 rw[eval_ListComp]
 refine wpAny_comprehension_free (use:=none) (cl:=cl) rfl hs ok.clos ok.kind ok.names (thn (hi pins s σ H _ I h) fun v s1 h1=>thn h1 fun itv s2 h2=>?_)
 obtain⟨it,fp,tn,J,H2,e,I2,Tn,st2,f2,q⟩:=h2
 subst e
 have q:=q s2.heap.objs.size (I2.hok.fresh (Nat.le_refl _))
 refine wpAny_newObj_type ?_
 -- the new list,tracked
 have I3:Inv X pins σ (upd H2 s2.heap.objs.size (.lst [])) { s2 with heap:=s2.heap.push { cls:=.type "list",dict:=none,data:=.seq ([]:List Value).toArray } }:=
  I2.laid (t':=s2.toks) (fun b u e=>Heap.get?_push_of_some _ e) (Nat.le_refl _) ⟨Nat.zero_le _,[],0,.nil,Heap.get?_push_size _ rfl⟩
 generalize hH3:upd H2 s2.heap.objs.size (.lst [])=H3 at I3 q
 generalize hs3:({ s2 with heap:=s2.heap.push { cls:=.type "list",dict:=none,data:=.seq ([]:List Value).toArray } }:Shared)=s3 at I3
 have fpl:∀b∈fp,b<s2.heap.objs.size:=fun b hb=>let ⟨o,e,_⟩:=Tn.obj 0 _ st2 b hb;Heap.lt_size e
 have sz3:s2.heap.objs.size≤s3.heap.objs.size:=by rw[←hs3];show _≤(s2.heap.push _).objs.size;rw[Heap.size_push];exact Nat.le_succ _
 have fok:∀b∈fp,Ed X pins H3 b:=fun b hb=>⟨by rw[←hH3,Af (Nat.ne_of_lt (fpl b hb))];exact(f2 b hb).1,(f2 b hb).2⟩
 have k23:∀b o,s2.heap.get? b=some o→s3.heap.get? b=some o:=fun b o e=>by rw[←hs3];exact Heap.get?_push_of_some _ e
 have st3:tn 0 s3.heap:=Tn.keep _ _ _ st2 fun b _ o e=>k23 b o e
 refine Hn ok.kind (fun h4 hns4 k34 okc=>?_)
 have oldc:∀x c,cl.lookup x=some c→c<s3.heap.objs.size:=fun x c e=>by
  obtain⟨v,o,ho,_⟩:=I3.cell x c (ok.sub x c e).1
  exact Heap.lt_size ho
 have hc1:=Kq (h':=h4) ok okc oldc
 have hc2:=Kp (h':=h4) ok okc oldc
 have I4:Inv (Ak X scope cl T M s3 H3 fp) [] (Nb T σ) H3 { s3 with heap:=h4 }:=
  F0 ok I3 (fun b hb=>⟨fok b hb,Nat.lt_of_lt_of_le (fpl b hb) sz3⟩) hns4 k34 rfl rfl hc1 hc2
 have st4:tn 0 h4:=Tn.keep _ _ _ st3 fun b _ o e=>k34 b o e
 obtain⟨W,⟨m0,w0⟩,turn⟩:=q
 have cfpc:∀b∈fp,∀x c,(A3 scope cl s3.heap.objs.size).lookup x=some c→c≠b:=fun b hb x c e=>by
  rcases B3 ok s3.heap.objs.size x c e with ⟨_,a2⟩|⟨a1,_⟩
  ·exact Nat.ne_of_gt (Nat.lt_of_lt_of_le (Nat.lt_of_lt_of_le (fpl b hb) sz3) (Nat.le_of_succ_le a2))
  ·exact(fok b hb).2.2.2.2.1 x c (ok.sub x c a1).1
 have cfp:∀{H':Hp},(∀b∈fp,H' b=none)→∀b∈fp,Ed (Ak X scope cl T M s3 H3 fp) [] H' b:=fun hn b hb=>by
  refine⟨hn b hb,Nat.ne_of_lt (Nat.lt_of_lt_of_le (fpl b hb) sz3),fun z=>?_,.inl hb,fun x c e=>cfpc b hb x c e,fun p hp=>absurd (show p∈([]:List (Addr×Obj)) from hp) (by simp)⟩
  rcases List.mem_cons.mp (I3.stkSub b z) with e|e
  ·exact(fok b hb).2.1 e
  ·exact(fok b hb).2.2.1 e
 have fin:∀(σ':St) (H':Hp) (s':Shared),Inv (Ak X scope cl T M s3 H3 fp) [] σ' H' s'→Q (.ref s2.heap.objs.size) H'→compPost (model X.prog X.w) X.A X.xe none (EP X pins σ Q) (.ref s2.heap.objs.size) s3.heap.objs.size (.ok .next) s':=fun σ' H' s' J q=>by
  obtain⟨m',hm',_⟩:=J.loc
  refine⟨m',hm',fun h' hs'=>?_⟩
  have J0:Inv X pins σ H' s':=I3.call' (ch:=fp) J.os J.base J.hok J.bare fun b hb=>⟨(fok b hb).2.2.2.1,(fok b hb).2.1,(fok b hb).2.2.2.2.1,(fok b hb).2.2.2.2.2⟩
  have nC:=I3.fpOk (H':=H') (Nat.le_refl s3.heap.objs.size) J.free
  exact⟨.ref s2.heap.objs.size,H',J0.turned (t':=s'.toks) (fun b o hb e=>(hs'.2 b hb).trans e) nC.1 nC.2.1 nC.2.2.2.1 nC.2.2.2.2.1 nC.2.2.2.2.2,rfl,q⟩
 have loop:∀s5:Shared,s5={ s3 with heap:=h4 }→
   codeAny (model X.prog X.w) X.A (.compLoop (.ListComp elt [⟨tg,iter,ifs,0⟩] scope pos) 0 (.ref it) (.ref s2.heap.objs.size) (compEnvC scope (A3 scope cl s3.heap.objs.size) s3.heap.objs.size X.env))
    (compPost (model X.prog X.w) X.A X.xe none (EP X pins σ Q) (.ref s2.heap.objs.size) s3.heap.objs.size) s5:=by
  rintro s5 rfl
  refine Gf (fun k s'=>∃i σ' H',Inv (Ak X scope cl T M s3 H3 fp) [] σ' H' s'∧tn i s'.heap∧(∀b∈fp,H' b=none)∧W i k σ' H') ?_ m0 ⟨0,Nb T σ,H3,I4,st4,fun b hb=>(fok b hb).1,w0⟩
  rintro k s6 ⟨i,σ6,H6,I6,st6,fr6,w6⟩
  rcases turn i k σ6 H6 w6 with ⟨stop,qn⟩|⟨go,N,hN,step⟩
  ·refine wpAny_mono (Tn.done (Ak X scope cl T M s3 H3 fp) rfl rfl rfl hc i [] s6 _ H6 (fun _ _=>False) I6 (cfp fr6) st6 stop) (fun r s7 ⟨hr,I7⟩=>?_) fun _ _ z=>z.elim
   subst hr
   exact fin _ H6 s7 I7 qn
  ·refine wpAny_mono (Tn.item (Ak X scope cl T M s3 H3 fp) rfl rfl rfl hc i [] s6 _ H6 (fun _ _=>False) I6 (cfp fr6) st6 go) (fun r s7 ⟨u,hr,h7⟩=>?_) fun _ _ z=>z.elim
   subst hr
   show Lw _ _ _ _ _ _ _ _ _ _ _ _ _;unfold Lw
   refine wpAny_mono h7 (fun _ s8 h8=>?_) fun _ _ z=>z.elim
   obtain⟨x7,H7,I7,r7,y7,st7,fr7⟩:=h8
   have I7':=I7.pinned (cfp fr7) (Tn.obj _ _ st7)
   have back:∀{σ8:St} {H8:Hp} {s9:Shared},Inv (Ak X scope cl T M s3 H3 fp) ([]++Cq fp s8.heap) σ8 H8 s9→tn (i+1) s9.heap∧∀b∈fp,H8 b=none:=fun {σ8 H8 s9} I8=>by
    refine⟨Tn.keep _ _ _ st7 fun b hb o e=>(I8.pin (b,o) (List.mem_append_right _ (List.mem_append_right _ (Bm hb e)))).1,fun b hb=>?_⟩
    obtain⟨o,e,d⟩:=Tn.obj _ _ st7 b hb
    exact(I8.pin (b,o) (List.mem_append_right _ (List.mem_append_right _ (Bm hb e)))).2.1
   have again:∀{σ9:St} {H9:Hp} {s9:Shared},Inv (Ak X scope cl T M s3 H3 fp) ([]++Cq fp s8.heap) σ9 H9 s9→N σ9 H9→
     ∃m,m<k∧∃i σ' H',Inv (Ak X scope cl T M s3 H3 fp) [] σ' H' s9∧tn i s9.heap∧(∀b∈fp,H' b=none)∧W i m σ' H':=fun {σ9 H9 s9} I9 n9=>by
    obtain⟨m',hm,w9⟩:=hN σ9 H9 n9
    obtain⟨b1,b2⟩:=back I9
    exact⟨m',hm,i+1,σ9,H9,I9.unpinned,b1,b2,w9⟩
   refine wpAny_mono (hg s3 H3 fp _ s8 σ6 H7 x7 u _ I7' r7 (step x7 H7 y7)) (fun _ s9 ⟨σ9,H9,I9,q9⟩=>?_) fun _ _ z=>z.elim
   refine wpAny_mono (hf s3 H3 fp _ s9 σ9 H9 _ I9 q9) (fun okb s10 ⟨H10,I10,q10⟩=>?_) fun _ _ z=>z.elim
   cases okb with
   |false=>
    rw[if_neg Bool.false_ne_true] at q10 ⊢
    exact again I10 q10
   |true=>
    rw[if_pos rfl] at q10 ⊢
    refine wpAny_mono (he s3 H3 fp _ s10 σ9 H10 _ I10 q10) (fun y s11 ⟨yv,H11,I11,ry,ys,e11,l11,n11⟩=>?_) fun _ _ z=>z.elim
    refine wpAny_mono (Fw (X:=Ak X scope cl T M s3 H3 fp) _ s11 σ9 H11 (.ref s2.heap.objs.size) [yv] (.ref s2.heap.objs.size) [y] (fun _ H12=>N σ9 H12) I11 rfl (.cons ry .nil) ⟨_,ys,yv,rfl,rfl,e11,l11,n11⟩) (fun _ s12 ⟨_,H12,I12,_,n12⟩=>?_) fun _ _ z=>z.elim
    exact again I12 n12
 exact codeAny_compStart_list (loop _ rfl) (Tn.self _ 0 _ _ _ st4 (loop _ rfl))


theorem compOz{X:Cx}{scope:Scope}{T M:List Str}(h1:(scope.names.all fun y=>!(y.2 == .free)||(X.env.cells.lookup y.1).isSome)=true:=by rfl)(h3:scope.kind=.function:=by rfl)(h4:(scope.names.all fun y=>scope.names.lookup y.1 == some y.2)=true:=by rfl)(h6:M.length=X.N.length:=by rfl)(h5:((M.zip X.N).all fun z=>match scope.names.lookup z.1 with|some .local=>false|some .cell=>false|some .free=>z.1 == z.2&&(X.env.kindOf z.1 == some .cell||X.env.kindOf z.1 == some .free)|_=>true)=true:=by rfl) :
  CompOz X scope (Bq X.env.cells scope.names []) T M:=by
 have hl:∀y∈scope.names,scope.names.lookup y.1=some y.2:=fun y hy=>by simpa using List.all_eq_true.mp h4 y hy
 have only:∀(names:List (Str×NameKind)) (cs:List (Str×Addr)) (x:Str) (c:Addr),(Bq X.env.cells names cs).lookup x=some c→(x,NameKind.free)∈names∨cs.lookup x=some c:=by
  intro names
  induction names with
  |nil=>intro cs x c h;exact .inr h
  |cons y r ih=>
   intro cs x c h
   obtain⟨n,k⟩:=y
   unfold Bq at h
   split at h
   ·rename_i hk
    split at h
    ·rename_i c' hc
     rcases ih _ x c h with z|z
     ·exact .inl (List.mem_cons_of_mem _ z)
     ·by_cases hx:x=n
      ·subst hx
       have:k=.free:=by simpa using hk
       subst this
       exact .inl (by simp)
      ·rw[List.lookup_cons,beq_false_of_ne hx] at z
       exact .inr z
    ·rcases ih _ x c h with z|z
     ·exact .inl (List.mem_cons_of_mem _ z)
     ·exact .inr z
   ·rcases ih _ x c h with z|z
    ·exact .inl (List.mem_cons_of_mem _ z)
    ·exact .inr z
 refine⟨?_,h3,fun y hy z=>by rw[hl y hy,z],fun y hy z=>by rw[hl y hy,z],fun x c e=>⟨D9 _ _ (fun _ _ z=>by simp at z) x c e,?_⟩,fun x hx=>F1 _ _ x h1 (.inl (PySem.mem_of_lookup hx)),h6,fun i x hx k q=>?_⟩
 ·unfold closureFor
  have:=Xh (env:=X.env) scope.names [] h1
  simp only[bind_pure]
  exact this
 ·rcases only _ _ x c e with z|z
  ·exact hl _ z
  ·simp at z
 ·have hi:i<X.N.length:=by rw[←h6];exact(List.getElem?_eq_some_iff.mp hx).1
  have hz:(M.zip X.N)[i]? = some (x,X.N[i]):=by rw[List.getElem?_zip_eq_some];exact⟨hx,List.getElem?_eq_getElem hi⟩
  have this:=List.all_eq_true.mp h5 _ (List.mem_of_getElem? hz)
  dsimp only at this
  rw[q] at this
  refine⟨fun z=>?_,fun z=>?_,fun z=>?_⟩
  ·subst z;exact absurd this (by simp)
  ·subst z;exact absurd this (by simp)
  ·subst z
   simp only[Bool.and_eq_true,beq_iff_eq,Bool.or_eq_true] at this
   exact⟨by rw[List.getElem?_eq_getElem hi,←this.1],this.2⟩
theorem B8{K:W.Frag}{J:It}{n:Nat}{p:Addr}{ds:List D}{same:Gp→Prop}{g:DTG}{tf:DTT}{te:DTE}{Q:DK}{QV:VK}{σD:DSt}{σ:St}{G:Gp}{H:Hp}(rs:RelS K H σD σ)(rg:RelG K H G)(hp:H p=none)(cl:∀d G',Q d G'→Fwd K H G' fun H'=>∀v,DV K H' d v→QV v H')(hJ:∀H' G',Ext H H'→RelG K H' G'→same G'→ItemsX K J H' ds)(h:Gc n p ds same g tf te σD (Ab G p (.lst [])) Q) :
  ∃W:Nat→Nat→St→Hp→Prop,(∃m,W 0 m (List.replicate n none++σ) (upd H p (.lst [])))∧∀i m σ1 H,W i m σ1 H→
   ((J.stop i H∧QV (.ref p) H)∨(J.go i H∧∃N:St→Hp→Prop,(∀σ' H',N σ' H'→∃m',m'<m∧W (i+1) m' σ' H')∧
    ∀x H',J.yld i H x H'→Cu K g x σ1 H' fun σ2 H2=>Dh K tf σ2 H2 fun b H3=>if b=true then Bk K te σ2 H3 fun y H4=>∃ys,H4 p=some (.lst ys)∧ys.length<sizeLine∧N σ2 (upd H4 p (.lst (ys++[y]))) else N σ2 H3)):=by
 obtain⟨P,p0,keep,step,fin⟩:=h
 refine⟨fun i m σ' H'=>m=ds.length-i∧i≤ds.length∧RelS K H' (List.replicate n none++σD) σ'∧∃yd G',RelG K H' G'∧Ext H H'∧P i yd G',
  ⟨ds.length,rfl,Nat.zero_le _,(O9 n rs).ext (Ext.fresh hp),[],_,rg.lst hp .nil,Ext.fresh hp,p0⟩,?_⟩
 rintro i m σ1 H1 ⟨rfl,hi,rs1,yd,G1,rg1,x1,p1⟩
 obtain⟨sm,gp⟩:=keep i yd G1 hi p1
 have I:=hJ H1 G1 x1 rg1 sm
 by_cases hlt:i<ds.length
 ·refine .inr ⟨I.go i hlt,fun σ' H'=>RelS K H' (List.replicate n none++σD) σ'∧∃yd' G',RelG K H' G'∧Ext H H'∧P (i+1) yd' G',fun σ' H' ⟨a2,yd',G',a3,a4,a5⟩=>⟨ds.length-(i+1),by omega,rfl,hlt,a2,yd',G',a3,a4,a5⟩,fun x H' y=>?_⟩
  obtain⟨xe,rge,d,ed,dv⟩:=I.yl i x H' hlt y
  refine⟨d,_,G1,_,dv,rs1.ext xe,rge _ rg1,step i d yd G1 ed p1,fun σ2 G2 ⟨⟨pre,hpre,e2⟩,st2⟩ H2 x2 rg2 σ' rs2=>?_⟩
  have back:∀{H5:Hp} {σ5:St},RelS K H5 σ2 σ5→RelS K H5 (List.replicate n none++σD) σ5:=fun {H5 σ5} r=>by
   refine⟨by rw[←r.1,e2,List.length_append,List.length_append,List.length_replicate,hpre],fun j d e=>?_⟩
   refine r.2 j d ?_
   by_cases hj:j<n
   ·rw[List.getElem?_append_left (by simpa using hj),List.getElem?_replicate,if_pos hj] at e
    cases e
   ·rw[List.getElem?_append_right (by simpa using hj),List.length_replicate] at e
    rw[e2,List.getElem?_append_right (by omega),hpre];exact e
  refine⟨σ2,G2,_,rs2,rg2,st2,fun b G3 h3 H3 x3 rg3=>?_⟩
  have x13:=x1.trans (xe.trans (x2.trans x3))
  dsimp only at h3 ⊢
  cases b with
  |false=>
   rw[if_neg Bool.false_ne_true] at h3 ⊢
   obtain⟨G4,sb,p4⟩:=h3
   exact⟨back (rs2.ext x3),yd,G4,rg3.ext' sb,x13,p4⟩
  |true=>
   rw[if_pos rfl] at h3 ⊢
   refine⟨_,G3,_,rs2.ext x3,rg3,h3,fun z G4 ⟨e4,l4,G5,sb,p5⟩ H4 x4 rg4 v4 d4=>?_⟩
   obtain⟨xs,ex,r⟩:=rg4 p _ e4
   exact⟨xs,ex,by rw[←r.length];exact l4,back ((rs2.ext (x3.trans x4)).ext (Dd ex)),_,G5,(rg4.lstw ex (r.append (.cons d4 .nil))).ext' sb,(x13.trans x4).trans (Dd ex),p5⟩
 ·have e:i=ds.length:=by omega
  subst e
  exact .inl ⟨I.st,cl _ G1 (fin yd G1 p1) H1 x1 rg1 _ (.ref p)⟩
theorem C4{K:W.Frag}{J:It}{G:Gp}{H:Hp}{ds:List D}(h:Items K J G H ds):ItemsX K J H ds:=⟨h.go,fun i x H' hi y=>by
 obtain⟨e,d,ed,dv⟩:=h.yl i x H' hi y
 subst e
 exact⟨Ext.refl _,fun _ r=>r,d,ed,dv⟩,h.st⟩
section
variable{X:Cx}{elt iter tg:Expr}{ifs:List Expr}{scope:Scope}{pos:Pos}{ti te:DTE}{tf:DTT}{g:DTG}{T M:List Str}
abbrev QGz(X:Cx)(scope:Scope)(T M:List Str)(tg:Expr)(g:DTG):Prop:=∀s H fp,QG (Ak X scope (Bq X.env.cells scope.names []) T M s H fp) tg g
abbrev QFz(X:Cx)(scope:Scope)(T M:List Str)(ifs:List Expr)(t:DTT):Prop:=∀s H fp,QF (Ak X scope (Bq X.env.cells scope.names []) T M s H fp) ifs t
abbrev QEz(X:Cx)(scope:Scope)(T M:List Str)(e:Expr)(t:DTE):Prop:=∀s H fp,QE (Ak X scope (Bq X.env.cells scope.names []) T M s H fp) e t
def Do(n:Nat)(ti:DTE)(g:DTG)(tf:DTT)(te:DTE):DTE:=fun σ G Q=>ti σ G fun d G1=>∃ds,Aw G1 d=some ds∧∀p,G1 p=none→Gc n p ds (fun G'=>Aw G' d=some ds) g tf te σ (Ab G1 p (.lst [])) Q
theorem q_compz(hc:X.calm=true)(ok:CompOz X scope (Bq X.env.cells scope.names []) T M)(hi:QE X iter ti)(hg:QGz X scope T M tg g)(hf:QFz X scope T M ifs tf)(he:QEz X scope T M elt te)(hs:∀x,foldedSetIterable iter X.env x=pure x:=by intro _;rfl):QE X (.ListComp elt [⟨tg,iter,ifs,0⟩] scope pos) (Do T.length ti g tf te):=
 (E9 (g:=Cu X.K g) (tf:=Dh X.K tf) (te:=Bk X.K te) hc ok (Kc hi) hg hf he hs).imp fun σ H Q ⟨σD,G,Q',rs,rg,h,cl⟩=>by
 refine⟨σD,G,_,rs,rg,h,fun d G1 ⟨ds,ei,L⟩ H1 x1 rg1 v dv=>?_⟩
 obtain⟨a,rfl⟩:=Fc ei dv
 refine⟨a,rfl,?_⟩
 have lp:=fun p hp=>B8 (J:=jOf X.K d a) (rs.ext x1) rg1 hp (fun d' G' q=>(cl d' G' q).go x1) (fun H' G' x' rg' s'=>C4 (Ds rg' s' (dv.ext x'))) (L p (rg1.free hp))
 cases dv with
 |tup e r=>exact .inr ⟨⟨_,.inl (.inl e)⟩,lp⟩
 |lint e=>exact .inl ⟨⟨_,e.sq⟩,lp⟩
 |ref=>
  simp only[Aw] at ei
  split at ei
  ·rename_i ds' q
   obtain⟨xs,e,r⟩:=rg1 a _ q
   exact .inl ⟨⟨_,.inl (.inl e)⟩,lp⟩
  ·cases ei
def Km(n k:Nat)(tA:DTA)(g:DTG)(tf:DTT)(te:DTE):DTE:=fun σ G Q=>tA σ G fun ds G1=>ds.length=k∧∃ls,By G1 ds=some ls∧∀p,G1 p=none→Gc n p (Bb ls) (fun G'=>By G' ds=some ls) g tf te σ (Ab G1 p (.lst [])) Q
theorem q_compzZ2{a b:Expr}{tA:DTA}{p p2 tp:Pos}{elts:List Expr}{kk:Nat}(hc:X.calm=true)(ok:CompOz X scope (Bq X.env.cells scope.names []) T M)(hm:X.mg "zip" = none)(ha:QA X [a,b] tA)(hg:QGz X scope T M (.Tuple elts kk tp) g)(hf:QFz X scope T M ifs tf)(he:QEz X scope T M elt te)(hgl:Gl X "zip":=by rfl)(hst:starEach [a,b] X.env=(false,eval a X.env)::starEach [b] X.env:=by rfl)(hpl:(backTo p2 (starEach [b] X.env)).any (·.1)=false:=by rfl)(hs:∀x,foldedSetIterable (.Call (.Name "zip" p) [a,b] [] p2) X.env x=pure x:=by intro _;rfl) :
  QE X (.ListComp elt [⟨.Tuple elts kk tp,.Call (.Name "zip" p) [a,b] [] p2,ifs,0⟩] scope pos) (Km T.length 2 tA g tf te):=
 (E9 (g:=Cu X.K g) (tf:=Dh X.K tf) (te:=Bk X.K te) hc ok (O7 hgl hm ha hst hpl) hg hf he hs).imp fun σ H Q ⟨σD,G,Q',rs,rg,h,cl⟩=>by
 refine⟨σD,G,_,rs,rg,h,fun ds G1 ⟨hn2,ls,ei,L⟩ H1 x1 rg1 vs dv=>?_⟩
 obtain⟨e1,ok'⟩:=E3 rg1 ei dv
 refine⟨List.zipWith Ha ds vs,e1,by rw[List.length_zipWith,←dv.length,Nat.min_self];exact hn2,fun c hc=>?_,fun q hq=>?_⟩
 ·obtain⟨l,_,xs,h1,_⟩:=Dr ok' c hc
  exact⟨xs,h1⟩
 ·refine B8 (rs.ext x1) rg1 hq (fun d' G' q=>(cl d' G' q).go x1) (fun H' G' x' rg' s'=>?_) (L q (rg1.free hq))
  obtain⟨_,ok2⟩:=E3 rg' s' (dv.ext x')
  refine Jp ok2 fun z=>?_
  have:=Kv ei
  rw[z] at this
  simp at this
  omega
def Gs(n:Nat)(tA:DTA)(g:DTG)(tf:DTT)(te:DTE):DTE:=fun σ G Q=>tA σ G fun ds G1=>∃j,ds=[.int j]∧(-(2 ^ 62)≤j∧j<2 ^ 62)∧∀p,G1 p=none→Gc n p (Lc j.toNat) (fun _=>True) g tf te σ (Ab G1 p (.lst [])) Q
theorem q_compzR{a:Expr}{tA:DTA}{p p2:Pos}(hc:X.calm=true)(ok:CompOz X scope (Bq X.env.cells scope.names []) T M)(hm:X.mg "range" = none)(ha:QA X [a] tA)(hg:QGz X scope T M tg g)(hf:QFz X scope T M ifs tf)(he:QEz X scope T M elt te)(hgl:Gl X "range":=by rfl)(hst:starEach [a] X.env=[(false,eval a X.env)]:=by rfl)(hs:∀x,foldedSetIterable (.Call (.Name "range" p) [a] [] p2) X.env x=pure x:=by intro _;rfl):QE X (.ListComp elt [⟨tg,.Call (.Name "range" p) [a] [] p2,ifs,0⟩] scope pos) (Gs T.length tA g tf te):=
 (E9 (g:=Cu X.K g) (tf:=Dh X.K tf) (te:=Bk X.K te) hc ok (Jk hgl hm ha hst) hg hf he hs).imp fun σ H Q ⟨σD,G,Q',rs,rg,h,cl⟩=>by
 refine⟨σD,G,_,rs,rg,h,fun ds G1 ⟨j,ej,⟨j1,j2⟩,L⟩ H1 x1 rg1 vs dv=>?_⟩
 subst ej
 obtain⟨v,rfl,r⟩:=dv.one
 cases r
 refine⟨j,rfl,j1,j2,fun p hp=>B8 (J:=Itr 0 j.toNat) (rs.ext x1) rg1 hp (fun d' G' q=>(cl d' G' q).go x1) (fun H' G' x' rg' _=>C4 (G:=G') ?_) (L p (rg1.free hp))⟩
 refine⟨fun i hi=>by rw[Bc] at hi;exact hi,fun i x H2 hi y=>?_,by show j.toNat≤_;rw[Bc];exact Nat.le_refl _⟩
 rw[Bc] at hi
 obtain⟨e1,e2⟩:=y
 refine⟨e1,_,Dq hi,?_⟩
 rw[e2,Int.zero_add]
 exact .int _
end
theorem W7{X:Cx}{pins:List (Addr×Obj)}{σ:St}{H:Hp}{s:Shared}{G:Gp}{d:D}{v:V}{u:Value}{t:String}(I:Inv X pins σ H s)(rg:RelG X.K H G)(ht:A8 G d=some t)(dv:DV X.K H d v)(rv:RelV v u) :
  ∃Hq:Heap→Prop,PySem.W.KitX X.K u (.type t) Hq∧Hq s.heap∧u≠.builtin "__main__.__loader__#opaque":=by
 cases dv with
 |non=>cases ht;cases(show u=Value.none from rv);exact⟨_,PySem.W.kitx_none,True.intro,fun z=>nomatch z⟩
 |bl y=>cases ht;cases(show u=Value.bool y from rv);exact⟨_,PySem.W.kitx_bool,True.intro,fun z=>nomatch z⟩
 |int i=>cases ht;obtain⟨t,q⟩:=(show ∃t,u=Value.int i t from rv);cases q;exact⟨_,PySem.W.kitx_int,True.intro,fun z=>nomatch z⟩
 |str y=>cases ht;obtain⟨t,q⟩:=(show ∃t,u=Value.str y t from rv);cases q;exact⟨_,PySem.W.kitx_str,True.intro,fun z=>nomatch z⟩
 |@tup ds a xs ea r=>
  cases ht
  cases(show u=Value.ref a from rv)
  obtain⟨_,_,_,p⟩:=(show ObjOk X.prog X.w H s.heap a (.tup xs) from I.hok a _ ea)
  obtain⟨o,h1,h2,_⟩:=p
  exact⟨_,PySem.W.kitx_tuple,⟨o,h1,h2⟩,fun z=>nomatch z⟩
 |ty n=>cases ht
 |lint e=>cases ht
 |ref a=>
  cases(show u=Value.ref a from rv)
  simp only[A8] at ht
  split at ht
  ·rename_i ds q
   cases ht
   obtain⟨xs,ea,_⟩:=rg a _ q
   obtain⟨_,_,n,_,h1⟩:=(show ObjOk X.prog X.w H s.heap a (.lst xs) from I.hok a _ ea)
   exact⟨_,PySem.W.kitx_list,⟨_,h1,rfl⟩,fun z=>nomatch z⟩
  ·rename_i ds q
   cases ht
   obtain⟨xs,ea,_⟩:=rg a _ q
   obtain⟨_,_,_,_,o,es,ep,h1,h2,_⟩:=(show ObjOk X.prog X.w H s.heap a (.dT xs) from I.hok a _ ea)
   exact⟨_,PySem.W.kitx_dict,⟨o,h1,h2.1⟩,fun z=>nomatch z⟩
  ·rename_i ds q
   cases ht
   obtain⟨xs,ea,_⟩:=rg a _ q
   obtain⟨_,_,vs,_,p⟩:=(show ObjOk X.prog X.w H s.heap a (.dK xs) from I.hok a _ ea)
   obtain⟨o,es,ep,h1,h2,_⟩:=p
   exact⟨_,PySem.W.kitx_dict,⟨o,h1,h2.1⟩,fun z=>nomatch z⟩
  ·cases ht
theorem Jo{K:W.Frag}{t:String}(ht:t∈tNames):∀cs:List String,(∀c∈cs,c∈cNames)→PySem.W.kitAny K (.type t) (cs.map Value.type)=some (cs.any fun c=>pyIs t c)
 |[],_=>rfl
 |c::r,h=>by
  have hk:PySem.W.kitOne K (.type t) (.type c)=some (pyIs t c):=by
   rw[S4]
   have h1:=List.all_eq_true.mp Mf t ht
   exact beq_iff_eq.mp (List.all_eq_true.mp h1 c (h c (by simp)))
  show(match PySem.W.kitOne K (.type t) (.type c) with|some true=>some true|some false=>PySem.W.kitAny K (.type t) (r.map Value.type)|none=>none)=_
  rw[hk,List.any_cons]
  cases pyIs t c with
  |true=>rfl
  |false=>simpa using Jo ht r fun x hx=>h x (by simp[hx])
theorem So{K:W.Frag}{H:Hp}:∀{cs:List String} {vs:List V} {us:List Value},DVs K H (cs.map D.ty) vs→Vals vs us→us=cs.map Value.type
 |[],_,_,r,q=>by cases r;cases q;rfl
 |c::cs,_,_,r,q=>by
  cases r with
  |cons h t=>
   cases h
   cases q with
   |cons q1 q2=>cases q1;rw[So t q2];rfl
section
variable{X:Cx}
theorem c_isinstT:QC X (.builtin "isinstance") (fun ds G Q=>∃(x:D) (cs:List String),ds=[x,.tup (cs.map D.ty)]∧(cs.all fun c=>cNames.contains c)=true∧∃t,A8 G x=some t∧Q (.bl (cs.any fun c=>pyIs t c)) G):=by
 intro pins s σ H xs us Q I r ⟨ds,G,Q',dv,rg,⟨x,cs,e,hc,t,ht,q⟩,cl⟩
 subst e
 obtain⟨v,w,rfl,d1,d2⟩:=dv.two
 obtain⟨u1,u2,rfl,r1,r2⟩:=F9 r
 obtain⟨Hq,kx,hp,hx⟩:=W7 I rg ht d1 r1
 cases d2 with
 |@tup _ a ws ea ra=>
  cases r2
  obtain⟨_,its,rv,⟨⟨cls,dd,data,sl⟩,h1,h2,n,h3⟩⟩:=(show ObjOk X.prog X.w H s.heap a (.tup ws) from I.hok a _ ea)
  simp only at h2 h3
  subst h2 h3
  have e:=So ra rv
  subst e
  refine PySem.W.kia_tup kx I.kIn hp h1 (Jo (Em ht) cs fun c hc'=>?_) hx fun tk=>⟨.bl _,H,I.tok _,rfl,cl _ G q H (Ext.refl H) rg _ (.bl _)⟩
  have:=List.all_eq_true.mp hc c hc'
  simpa using this
theorem o_pow:QOp X (binaryOp .Pow) (fun x y G Q=>∃i j,x=.int i∧y=.int j∧R4 i j∧Q (.int (i ^ j.toNat)) G):=L2.OpR.imp Zk fun x y H Q ⟨dx,dy,G,Q',hx,hy,rg,⟨i,j,e1,e2,hc,q⟩,cl⟩=>by
 subst e1 e2;cases hx;cases hy
 exact⟨i,j,rfl,rfl,hc,cl _ G q H (Ext.refl H) rg _ (.int _)⟩
def El(i j:Int):List D:=(List.range (j-i).toNat).map fun k=>D.int (i+(k:Nat))
theorem Df(i j:Int):(El i j).length=(j-i).toNat:=by simp[El]
theorem Ob{i j:Int}{k:Nat}(h:k<(j-i).toNat):(El i j)[k]? = some (.int (i+(k:Nat))):=by simp[El,h]
theorem Ht{n:Nat}{p:Addr}{ds:List D}{same:Gp→Prop}{g:DTG}{tf:DTT}{te:DTE}{σ:DSt}{G:Gp}{Q:DK}(st:D→DSt)(f:D→D)(c:D→Bool)(hz:ds.length<sizeLine)(hsm:∀ys,same (Ab G p (.lst ys)))(hst:∀x∈ds,Si n σ (st x)∧∀(G':Gp) (R:DSt→Gp→Prop),R (st x) G'→g x (List.replicate n none++σ) G' R)(hs:∀x ys,x∈ds→ys.length<sizeLine→∀(R1:D→Gp→Prop) (R2:Gp→Prop),(c x=true→R1 (f x) (Ab G p (.lst (ys++[f x]))))→(c x=false→R2 (Ab G p (.lst ys)))→
   tf (st x) (Ab G p (.lst ys)) fun b G3=>if b=true then te (st x) G3 fun y G4=>G4 p=some (.lst ys)∧ys.length<sizeLine∧Fg (R1 y) (Ab G4 p (.lst (ys++[y]))) else Fg R2 G3)(hq:Q (.ref p) (Ab G p (.lst ((ds.filter c).map f)))):Gc n p ds same g tf te σ (Ab G p (.lst [])) Q:=by
 refine⟨fun i ys G'=>ys=((ds.take i).filter c).map f∧Ab G p (.lst ys)=G',⟨rfl,rfl⟩,?_,?_,?_⟩
 ·rintro i ys _ _ ⟨_,rfl⟩
  exact⟨hsm ys,Aa⟩
 ·rintro i x ys _ hx ⟨e,rfl⟩
  have hi:=(List.getElem?_eq_some_iff.mp hx).1
  have hm:=List.mem_of_getElem? hx
  have hl:ys.length<sizeLine:=by
   rw[e,List.length_map]
   refine Nat.lt_of_le_of_lt (List.length_filter_le _ _) ?_
   rw[List.length_take];omega
  have tk:ds.take (i+1)=ds.take i++[x]:=by rw[List.take_add_one,hx];rfl
  refine(hst x hm).2 _ _ ⟨(hst x hm).1,?_⟩
  refine hs x ys hm hl (fun y G'=>ys++[y]=((ds.take (i+1)).filter c).map f∧Ab G p (.lst (ys++[y]))=G') (fun G'=>ys=((ds.take (i+1)).filter c).map f∧Ab G p (.lst ys)=G') (fun hc=>⟨?_,rfl⟩) (fun hc=>⟨?_,rfl⟩)
  ·rw[tk,List.filter_append,List.map_append,←e];simp[hc]
  ·rw[tk,List.filter_append,List.map_append,←e];simp[hc]
 ·rintro ys _ ⟨e,rfl⟩
  rw[List.take_length] at e
  rw[e];exact hq
end
def No:Expr→Bool
 |.Starred ..=>false
 |_=>true
theorem P2{e:Expr}{es:List Expr}{env:Env}(h:No e=true):starEach (e::es) env=(false,eval e env)::starEach es env:=by
 cases e<;>first|rfl|exact absurd h (by simp[No])
theorem qa_consP{X:Cx}{e:Expr}{es:List Expr}{te:DTE}{tA:DTA}(ha:QE X e te)(hr:QA X es tA)(h:No e=true:=by rfl):QA X (e::es) (Ag te tA):=Gq ha hr (P2 h)
def J4(ta:DTE):DTE:=fun σ G Q=>ta σ G fun x G1=>∃i,x=.int i∧Q (.int (-i)) G1
theorem q_neg{X:Cx}{a:Expr}{ta:DTE}{pos:Pos}(ha:QE X a ta):QE X (.UnaryOp .USub a pos) (J4 ta):=(pe_un Yc ha).imp fun σ H Q ⟨σD,G,Q',rs,rg,h,cl⟩=>by
 refine⟨σD,G,_,rs,rg,h,fun d G1 ⟨i,e,h1⟩ H1 x1 rg1 v dv=>?_⟩
 subst e;cases dv
 exact⟨i,rfl,cl _ G1 h1 H1 x1 rg1 _ (.int _)⟩
def tPar3(i j l:Nat)(ta:TA):TS:=fun D σ H=>ta σ H fun vs H1=>∃v w z,vs=[v,w,z]∧D.nx (((σ.set i (some v)).set j (some w)).set l (some z)) H1
theorem Wf{X:Cx}{pos:Pos}{i j l:Nat}{x y z:Str}{a b c:Expr}{ta:TA}{px py pz pt:Pos}{kt k2 pt2}(hc:X.calm=true)(hN:X.N.Nodup)(hi:X.N[i]? = some x)(hj:X.N[j]? = some y)(hl:X.N[l]? = some z)(hij:i≠j)(hil:i≠l)(hjl:j≠l)(hx:X.env.scope.names.lookup x=some .local)(hy:X.env.scope.names.lookup y=some .local)(hzz:X.env.scope.names.lookup z=some .local)(ha:PA X [a,b,c] ta)(hw:swappedStores [.Tuple [.Name x px,.Name y py,.Name z pz] kt pt] (.Tuple [a,b,c] k2 pt2) X.env=pure (some [x,y,z]))(hs:swapsWithSole [.Tuple [.Name x px,.Name y py,.Name z pz] kt pt] (.Tuple [a,b,c] k2 pt2) pos.line X.env=pure false:=by rfl) :
  PS X (.Assign [.Tuple [.Name x px,.Name y py,.Name z pz] kt pt] (.Tuple [a,b,c] k2 pt2) pos) (tPar3 i j l ta):=by
 intro pins s σ H D I h
 rw[exec_Assign_arm]
 refine wpAny_bind (wpAny_standAt ?_)
 rw[hs]
 refine wpAny_bind (wpAny_pure ?_)
 rw[if_neg (by decide)]
 refine wpAny_bind (Tuple_ (thn (ha _ pins s σ H _ I h) fun us s1 ⟨vs,H1,I1,r1,q1⟩=>?_))
 obtain⟨v,w,u,e1,q1⟩:=q1
 subst e1
 obtain⟨u1,u2,u3,rfl,rv,rw',rz⟩:=vals3 r1
 refine wpAny_newObj_type ?_ (by show 3≤sizeLine;decide)
 have I2:Inv X pins σ H1 { s1 with heap:=s1.heap.push { cls:=.type "tuple",data:=.seq [u1,u2,u3].toArray } }:=I1.kept (t':=s1.toks) fun b o e=>Heap.get?_push_of_some _ e
 rw[hw]
 refine wpAny_bind (wpAny_pure ?_)
 show wpAny (model X.prog X.w) X.A (do rule "assign.swapped-stores";let items ←unpackItems (.ref s1.heap.objs.size) 3 none;assignInOrder [fun v=>bindName X.env z v,fun v=>bindName X.env y v,fun v=>bindName X.env x v] items.reverse;pure Flow.next) _ _ _
 refine wpAny_bind (wpAny_rule (wpAny_bind (unpackItems_tuple (items:=#[u1,u2,u3]) (I.ok.hd hc) (IsTup.new s1.heap _) fun h' hx'=>?_)))
 have I3:=I2.kept (h':=h') (t':=s1.toks) fun b o e=>hx' b o (Nat.ne_of_lt (Heap.lt_size e)) e
 show wpAny _ _ (assignInOrder [fun v=>bindName X.env z v,fun v=>bindName X.env y v,fun v=>bindName X.env x v] [u3,u2,u1] >>= fun _=>pure Flow.next) _ _ _
 refine wpAny_bind (assignInOrder_cons (wpAny_bindName (Cv I3 hN hl (.inl hzz) rz (fun s2 I4=>?_) (.inr hzz))))
 refine assignInOrder_cons (wpAny_bindName (Cv I4 hN hj (.inl hy) rw' (fun s3 I5=>?_) (.inr hy)))
 refine assignInOrder_cons (wpAny_bindName (Cv I5 hN hi (.inl hx) rv (fun s4 I6=>assignInOrder_nil (wpAny_pure ?_)) (.inr hx)))
 have e:(((σ.set l (some u)).set j (some w)).set i (some v))=((σ.set i (some v)).set j (some w)).set l (some u):=by
  rw[List.set_comm _ _ (Ne.symm hij),List.set_comm (i:=l) (j:=i) _ _ (Ne.symm hil),List.set_comm (i:=l) (j:=j) _ _ (Ne.symm hjl)]
 rw[e] at I6
 exact⟨_,H1,I6,q1⟩
def Oq(i j l:Nat)(ta:DTA):DTS:=fun D σ G=>ta σ G fun vs G1=>∃v w z,vs=[v,w,z]∧D.nx (((σ.set i (some v)).set j (some w)).set l (some z)) G1
theorem DVs.three{K:W.Frag}{H:Hp}{d e f:D}{vs:List V}(r:DVs K H [d,e,f] vs):∃v w u,vs=[v,w,u]∧DV K H d v∧DV K H e w∧DV K H f u:=by
 cases r with|cons h t=>cases t with|cons h' t'=>cases t' with|cons h2 t2=>cases t2;exact⟨_,_,_,rfl,h,h',h2⟩
theorem qs_par3{X:Cx}{pos:Pos}{i j l:Nat}{x y z:Str}{a b c:Expr}{tA:DTA}{px py pz pt:Pos}{kt k2 pt2}(hc:X.calm=true)(hN:X.N.Nodup)(ha:QA X [a,b,c] tA)(hi:X.N[i]? = some x:=by rfl)(hj:X.N[j]? = some y:=by rfl)(hl:X.N[l]? = some z:=by rfl)(hij:i≠j:=by decide)(hil:i≠l:=by decide)(hjl:j≠l:=by decide)(hx:X.env.scope.names.lookup x=some .local:=by rfl)(hy:X.env.scope.names.lookup y=some .local:=by rfl)(hz:X.env.scope.names.lookup z=some .local:=by rfl)(hw:swappedStores [.Tuple [.Name x px,.Name y py,.Name z pz] kt pt] (.Tuple [a,b,c] k2 pt2) X.env=pure (some [x,y,z]):=by rfl)(hs:swapsWithSole [.Tuple [.Name x px,.Name y py,.Name z pz] kt pt] (.Tuple [a,b,c] k2 pt2) pos.line X.env=pure false:=by rfl) :
  QS X (.Assign [.Tuple [.Name x px,.Name y py,.Name z pz] kt pt] (.Tuple [a,b,c] k2 pt2) pos) (Oq i j l tA):=(Wf hc hN hi hj hl hij hil hjl hx hy hz ha hw hs).imp fun E σ H ⟨σD,G,D,rs,rg,h,cl⟩=>by
 refine⟨σD,G,_,rs,rg,h,fun ds G1 ⟨d1,d2,d3,e,h1⟩ H1 x1 rg1 vs dv=>?_⟩
 subst e
 obtain⟨v,w,u,rfl,r1,r2,r3⟩:=dv.three
 exact⟨v,w,u,rfl,cl.nx _ G1 h1 H1 x1 rg1 _ ((((rs.ext x1).set r1 i).set r2 j).set r3 l)⟩
theorem ex3{p:D→D→D→Prop}{j k l:D}:(∃x y z,[j,k,l]=[x,y,z]∧p x y z)↔p j k l:=⟨fun⟨_,_,_,e,h⟩=>by cases e;exact h,fun h=>⟨j,k,l,rfl,h⟩⟩
def Ris(xs:Array Nat):Prop:=∀i j,i<j→j<xs.size→∀d,xs.getD i d<xs.getD j d
theorem Hu{xs:Array Nat}{j:Nat}(hr:Ris xs):∀(fuel lo hi:Nat),hi≤lo+fuel→lo≤hi→hi≤xs.size→(∀i,i<lo→xs.getD i j<j)→(∀i,hi≤i→i<xs.size→j≤xs.getD i j)→
  (SetTable.below.go xs j fuel lo hi)≤xs.size∧(∀i,i<SetTable.below.go xs j fuel lo hi→xs.getD i j<j)∧∀i,SetTable.below.go xs j fuel lo hi≤i→i<xs.size→j≤xs.getD i j
 |0,lo,hi,h1,h2,h3,h4,h5=>by
  have:lo=hi:=by omega
  subst this
  exact⟨h3,h4,h5⟩
 |fuel+1,lo,hi,h1,h2,h3,h4,h5=>by
  rw[SetTable.below.go]
  by_cases hlt:lo<hi
  ·rw[if_pos hlt]
   have hm1:lo≤(lo+hi) / 2:=by omega
   have hm2:(lo+hi) / 2<hi:=by omega
   dsimp only
   by_cases hc:xs.getD ((lo+hi) / 2) j<j
   ·rw[if_pos hc]
    refine Hu hr fuel _ hi (by omega) (by omega) h3 (fun i hi'=>?_) h5
    by_cases e:i=(lo+hi) / 2
    ·subst e;exact hc
    ·exact Nat.lt_trans (hr i _ (by omega) (by omega) j) hc
   ·rw[if_neg hc]
    refine Hu hr fuel lo _ (by omega) hm1 (by omega) h4 (fun i hi' hs=>?_)
    by_cases e:i=(lo+hi) / 2
    ·subst e;exact Nat.le_of_not_lt hc
    ·exact Nat.le_trans (Nat.le_of_not_lt hc) (Nat.le_of_lt (hr _ i (by omega) hs j))
  ·rw[if_neg hlt]
   have:lo=hi:=by omega
   subst this
   exact⟨h3,h4,h5⟩
theorem Id{xs:Array Nat}(hr:Ris xs)(j:Nat):SetTable.below xs j≤xs.size∧(∀i,i<SetTable.below xs j→xs.getD i j<j)∧∀i,SetTable.below xs j≤i→i<xs.size→j≤xs.getD i j:=
 Hu hr _ 0 _ (by omega) (Nat.zero_le _) (Nat.le_refl _) (fun i h=>absurd h (Nat.not_lt_zero _)) (fun i h1 h2=>absurd h2 (by omega))
theorem Ms{xs:Array Nat}(hr:Ris xs){j i:Nat}(hi:i≤xs.size)(h1:∀k,k<i→xs.getD k j<j)(h2:∀k,i≤k→k<xs.size→j≤xs.getD k j):SetTable.below xs j=i:=by
 obtain⟨a,b,c⟩:=Id hr j
 generalize SetTable.below xs j=r at *
 rcases Nat.lt_trichotomy r i with h|h|h
 ·have x1:=h1 r h;have x2:=c r (Nat.le_refl _) (by omega);omega
 ·exact h
 ·have x1:=b i h;have x2:=h2 i (Nat.le_refl _) (by omega);omega
theorem C1{xs:Array Nat}{i:Nat}(h:i<xs.size)(d e:Nat):xs.getD i d=xs.getD i e:=by
 rw[Array.getD,Array.getD,dif_pos h,dif_pos h]
theorem Oj{xs:Array Nat}(hr:Ris xs){i:Nat}(h:i<xs.size):SetTable.below xs (xs.getD i 0+1)=i+1:=by
 refine Ms hr (by omega) (fun k hk=>?_) (fun k hk hs=>?_)
 ·by_cases e:k=i
  ·subst e;rw[C1 h _ 0];omega
  ·have:=hr k i (by omega) h 0
   rw[C1 (by omega) _ 0];omega
 ·have:=hr i k (by omega) hs 0
  rw[C1 hs _ 0];omega
theorem Oi{xs:Array Nat}(hr:Ris xs):SetTable.below xs 0=0:=
 Ms hr (Nat.zero_le _) (fun k h=>absurd h (Nat.not_lt_zero _)) fun k _ _=>Nat.zero_le _
theorem ins_get{α:Type}{xs:Array α}{p:Nat}{x:α}(hp:p≤xs.size)(i:Nat):(SetTable.insertAt xs p x)[i]? = if i<p then xs[i]? else if i=p then some x else xs[i-1]?:=by
 unfold SetTable.insertAt
 have e1:((xs.extract 0 p).push x).size=p+1:=by simp;omega
 rw[Array.getElem?_append,e1]
 by_cases h1:i<p
 ·rw[if_pos (by omega),if_pos h1,Array.getElem?_push,if_neg (by simp;omega),Array.getElem?_extract,if_pos (by omega),Nat.zero_add]
 ·rw[if_neg h1]
  by_cases h2:i=p
  ·subst h2
   rw[if_pos (by omega),if_pos rfl,Array.getElem?_push,if_pos (by simp;omega)]
  ·rw[if_neg (by omega),if_neg h2,Array.getElem?_extract]
   by_cases h3:i-1<xs.size
   ·rw[if_pos (by omega)];congr 1;omega
   ·rw[if_neg (by omega),Array.getElem?_eq_none (by omega)]
theorem U3{α:Type}{xs:Array α}{p:Nat}{x:α}(hp:p≤xs.size):(SetTable.insertAt xs p x).size=xs.size+1:=by
 unfold SetTable.insertAt;simp;omega
theorem getD_of{xs:Array Nat}{i d:Nat}:xs.getD i d=(xs[i]?).getD d:=by
 by_cases h:i<xs.size
 ·rw[Array.getD,dif_pos h,Array.getElem?_eq_getElem h];rfl
 ·rw[Array.getD,dif_neg h,Array.getElem?_eq_none (by omega)];rfl
theorem V9{xs:Array Nat}(hr:Ris xs){j:Nat}(hne:xs[SetTable.below xs j]?≠some j):Ris (SetTable.insertAt xs (SetTable.below xs j) j):=by
 obtain⟨a,b,c⟩:=Id hr j
 generalize SetTable.below xs j=p at *
 intro i k hik hk d
 rw[U3 a] at hk
 rw[getD_of,getD_of,ins_get a,ins_get a]
 have up:∀k,p≤k→k<xs.size→j<xs.getD k d:=fun k h1 h2=>by
  have h3:=c k h1 h2
  rw[C1 h2 j d] at h3
  refine Nat.lt_of_le_of_ne h3 fun e=>?_
  by_cases hkp:k=p
  ·subst hkp
   refine hne ?_
   rw[Array.getElem?_eq_getElem h2]
   rw[Array.getD,dif_pos h2] at e
   rw[e];rfl
  ·have h4:=c p (Nat.le_refl _) (by omega)
   have h5:=hr p k (by omega) h2 j
   rw[C1 h2 j d] at h5
   omega
 have dn:∀k,k<p→xs.getD k d<j:=fun k h1=>by
  have:=b k h1
  rw[C1 (by omega) j d] at this;exact this
 have self:∀m:Nat,(xs[m]?).getD d=xs.getD m d:=fun m=>getD_of.symm
 by_cases h1:i<p
 ·rw[if_pos h1,self]
  by_cases h2:k<p
  ·rw[if_pos h2,self];exact hr i k hik (by omega) d
  ·rw[if_neg h2]
   by_cases h3:k=p
   ·rw[if_pos h3];exact dn i h1
   ·rw[if_neg h3,self];exact Nat.lt_trans (dn i h1) (up _ (by omega) (by omega))
 ·rw[if_neg h1,if_neg (show ¬k<p by omega),if_neg (show ¬k=p by omega),self (k-1)]
  by_cases h2:i=p
  ·rw[if_pos h2];exact up _ (by omega) (by omega)
  ·rw[if_neg h2,self];exact hr _ _ (by omega) (by omega) d
theorem Qh{n:Nat}:Ris (Array.range n):=fun i j h1 h2 d=>by
 simp only[Array.size_range] at h2
 rw[Array.getD,dif_pos (by simp;omega),Array.getD,dif_pos (by simpa using h2)]
 simpa using h1
theorem Mx{l:List Nat}(h:l.Pairwise (· < ·)):Ris l.toArray:=fun i j h1 h2 d=>by
 simp only[List.size_toArray] at h2
 rw[Array.getD,dif_pos (by simp;omega),Array.getD,dif_pos (by simpa using h2)]
 exact List.pairwise_iff_getElem.mp h i j (by omega) h2 h1
theorem Ik{β:Type}(f:Nat→Option β):∀l:List Nat,l.Pairwise (· < ·)→((l.filterMap fun j=>(f j).map fun k=>(j,k)).map (·.1)).Pairwise (· < ·):=fun l h=>by
 rw[List.map_filterMap]
 refine List.Pairwise.filterMap _ (fun a a' haa b hb b' hb'=>?_) h
 cases e:f a with
 |none=>rw[e] at hb;cases hb
 |some x=>
  cases e':f a' with
  |none=>rw[e'] at hb';cases hb'
  |some x'=>rw[e] at hb;rw[e'] at hb';cases hb;cases hb';exact haa
structure TOk(w:World)(t:SetTable):Prop where
 ris:Ris t.place
 dum:t.dummies=#[]
 led:w.params.followText "set-order" = true∨t.led=true
theorem S1{j:Nat}:SetTable.has #[] j=false:=by
 unfold SetTable.has
 simp
theorem N0{t:SetTable}(h:t.dummies=#[])(j:Nat):t.slot j≠.dummy:=by
 unfold SetTable.slot
 dsimp only
 rw[h,S1]
 split
 ·intro e;cases e
 ·intro e;cases e
theorem Hy{t:SetTable}(hd:t.dummies=#[]){f:Nat→Int}{h:Int}:∀(n:Nat) (p:SetTable.Probe),p.dummy=none→∀j d,SetTable.probe.go t f h n p=some (.empty j d)→d=none∧t.slot j=.empty
 |0,p,_,j,d,e=>by rw[SetTable.probe.go] at e;cases e
 |n+1,p,hp,j,d,e=>by
  rw[SetTable.probe.go] at e
  have ha:(t.advance p).dummy=none:=by
   unfold SetTable.advance
   split
   ·exact hp
   ·exact hp
  split at e
  ·rename_i hs
   cases e
   exact⟨hp,hs⟩
  ·rename_i hs
   exact absurd hs (N0 hd _)
  ·split at e
   ·cases e
   ·exact Hy hd n _ ha j d e
theorem Q7{t:SetTable}(hd:t.dummies=#[]){h:Int}{j:Nat}{b:Bool}(e:t.freeSlot h=some (j,b)):b=false∧t.place[SetTable.below t.place j]?≠some j:=by
 unfold SetTable.freeSlot SetTable.probe at e
 split at e
 ·rename_i j' d hq
  obtain⟨rfl,hs⟩:=Hy hd _ _ rfl _ _ hq
  cases e
  refine⟨rfl,fun z=>?_⟩
  unfold SetTable.slot at hs
  dsimp only[Option.getD] at z hs
  rw[z] at hs
  simp at hs
 ·cases e
theorem TOk.standIn{w:World}{t:SetTable}(h:TOk w t)(n:Nat):TOk w (t.standIn n):=⟨Qh,rfl,h.led⟩
theorem TOk.orStand{w:World}{t:SetTable}(h:TOk w t)(n:Nat):TOk w (t.orStandIn n):=by
 unfold SetTable.orStandIn
 split
 ·exact h
 ·exact h.standIn n
theorem TOk.put{w:World}{t:SetTable}(h:TOk w t){j:Nat}(hne:t.place[SetTable.below t.place j]?≠some j):TOk w (t.put j).1:=by
 refine⟨V9 h.ris hne,?_,h.led⟩
 show(if SetTable.has t.dummies j=true then _ else t.dummies)=#[]
 rw[h.dum,S1];rfl
theorem N7{w:World}{t:SetTable}{es:Array (Int×Value)}{h:Int}{x:Value}(hT:TOk w t):TOk w (layNew t es h x).2.1:=by
 unfold layNew
 split
 ·rename_i slot b e
  obtain⟨_,hne⟩:=Q7 hT.dum e
  exact(hT.put hne).orStand _
 ·exact hT.standIn _
theorem Uw{w:World}{mask finger moves:Nat}{led plain:Bool}{hs:Array Int}{t:SetTable}{o:Array Nat}(hl:w.params.followText "set-order" = true∨led=true)(e:SetTable.laid mask finger moves led plain hs=some (t,o)):TOk w t:=by
 unfold SetTable.laid at e
 cases hq:SetTable.layClean mask hs with
 |none=>rw[hq] at e;cases e
 |some owner=>
  rw[hq] at e
  cases e
  exact⟨Mx (Ik _ _ List.pairwise_lt_range),rfl,hl⟩
theorem Qi{w:World}{t:SetTable}{es:Array (Int×Value)}{n:Nat}(hT:TOk w t):TOk w (relayAll t es n).2.1:=by
 unfold relayAll
 split
 ·rename_i t' o e
  dsimp only
  split
  ·exact Uw hT.led e
  ·exact hT.standIn _
 ·exact hT.standIn _
def eI(e:Int×Value):Int:=match e.2 with|.int i _=>i|_=>0
abbrev Ar(es:Array (Int×Value))(ep:Nat)(t:SetTable):Obj:={ cls:=.type "set",dict:=none,data:=.set es ep t,slots:=#[] }
structure SOk(P:Program)(w:World)(es:Array (Int×Value))(t:SetTable)(ks:List Int):Prop where
 tok:TOk w t
 fit:t.fits es.size=true
 el:∀e∈es.toList,∃i u,e=((intKind P w).hash i,Value.int i u)
 nd:(es.toList.map eI).Nodup
 mem:∀k,k∈es.toList.map eI↔k∈ks
 sz:es.size<scanBound
section
variable{P:Program}{w:World}{A:Around}{E:Value→Shared→Prop}{s:Shared}
theorem SOk.elems{es:Array (Int×Value)}{t:SetTable}{ks:List Int}(h:SOk P w es t ks):ElemsOf (intKind P w) es.toList:=fun e he=>by
 obtain⟨i,u,rfl⟩:=h.el e he
 exact⟨⟨i,intKind_is P w i u,rfl⟩,rfl⟩
theorem SOk.fresh(led:Bool)(h:w.params.followText "set-order" = true∨led=true):SOk P w #[] (.fresh 0 0 led) []:=
 ⟨⟨fun i j _ h=>absurd h (Nat.not_lt_zero _),rfl,h⟩,rfl,fun e he=>by simp at he,List.nodup_nil,fun k=>by simp,by decide⟩
theorem SOk.perm{es es':Array (Int×Value)}{t t':SetTable}{ks:List Int}(h:SOk P w es t ks)(p:List.Perm es'.toList es.toList)(ht:TOk w t')(hf:t'.fits es'.size=true):SOk P w es' t' ks:=by
 have hs:es'.size=es.size:=by rw[←Array.length_toList,p.length_eq,Array.length_toList]
 exact⟨ht,hf,fun e he=>h.el e (p.mem_iff.mp he),(p.map eI).nodup_iff.mpr h.nd,fun k=>((p.map eI).mem_iff).trans (h.mem k),by rw[hs];exact h.sz⟩
theorem SOk.more{es es':Array (Int×Value)}{t t':SetTable}{ks:List Int}(h:SOk P w es t ks){k:Int}{u:Tok}(hk:k ∉ ks)(p:List.Perm es'.toList (es.push ((intKind P w).hash k,Value.int k u)).toList)(hz:es.size+1<scanBound)(ht:TOk w t')(hf:t'.fits es'.size=true):SOk P w es' t' (ks++[k]):=by
 rw[Array.toList_push] at p
 have hs:es'.size=es.size+1:=by rw[←Array.length_toList,p.length_eq];simp
 have pm:=p.map eI
 rw[List.map_append] at pm
 refine⟨ht,hf,fun e he=>?_,?_,fun z=>?_,by rw[hs];exact hz⟩
 ·rcases List.mem_append.mp (p.mem_iff.mp he) with z|z
  ·exact h.el e z
  ·rw[List.mem_singleton.mp z];exact⟨k,u,rfl⟩
 ·refine pm.nodup_iff.mpr (List.nodup_append.mpr ⟨h.nd,by simp,fun a ha b hb e=>?_⟩)
  simp only[List.map_cons,List.map_nil,List.mem_singleton] at hb
  subst hb;subst e
  exact hk ((h.mem _).mp ha)
 ·rw[pm.mem_iff,List.mem_append,List.mem_append,h.mem]
  simp[eI]
theorem SOk.again{es:Array (Int×Value)}{t:SetTable}{ks:List Int}(h:SOk P w es t ks){k:Int}(hk:k∈ks):SOk P w es t (ks++[k]):=
 ⟨h.tok,h.fit,h.el,h.nd,fun z=>by rw[h.mem,List.mem_append];exact⟨.inl,fun q=>q.elim id fun e=>by rw[List.mem_singleton.mp e];exact hk⟩,h.sz⟩
theorem O5{h:Heap}{a:Addr}{es es':Array (Int×Value)}{ep:Nat}{t t':SetTable}(ho:h.get? a=some (Ar es ep t)):(h.update a (Obj.putSet es' t')).get? a=some (Ar es' (ep+1) t'):=by
 have e:=Heap.get?_update_self (Obj.putSet es' t') ho (by rw[putSet_of es' t' rfl];rfl)
 rw[putSet_of es' t' rfl] at e;exact e
theorem Tu{a:Addr}{es:Array (Int×Value)}{ep:Nat}{t:SetTable}{ks:List Int}{k:Int}{u:Tok}{Q:Bool→Shared→Prop}(ho:s.heap.get? a=some (Ar es ep t))(h:SOk P w es t ks)(hz:es.size+1<scanBound)(fin:∀b h' es' ep' t',Heap.SameBut a s.heap h'→h'.get? a=some (Ar es' ep' t')→SOk P w es' t' (ks++[k])→es'.size≤es.size+1→Q b { s with heap:=h' }) :
  wpAny (model P w) A (setAddHashed a (.int k u) ((intKind P w).hash k)) Q E s:=by
 have hk:=intKind_is P w k u
 unfold setAddHashed setAddHashedIn
 refine wpAny_holding (wpAny_bind (wpAny_setState_of ho rfl h.fit ?_));dsimp only
 rw[byScan_of (knd:=intKind P w) rfl h.sz h.elems];simp only[↓reduceIte]
 unfold setAddByScan
 refine wpAny_bind (wpAny_bind (wpAny_rule (wpAny_bind (wpAny_setScan_of (knd:=intKind P w) hk ho rfl h.fit h.elems ?_))))
 have heq:∀e∈es.toList,(intKind P w).is k e.2=decide (eI e=k):=fun e he=>by
  obtain⟨i,v,rfl⟩:=h.el e he
  show Value.isInt k (.int i v)=decide (i=k)
  simp only[Value.isInt]
  by_cases z:i=k
  ·subst z;simp
  ·simp[z]
 cases hr:List.findIdx? (fun e=>(intKind P w).is k e.2) es.toList with
 |some j=>
  obtain⟨hj,hpj,_⟩:=List.findIdx?_eq_some_iff_getElem.mp hr
  have hin:k∈ks:=by
   rw[heq _ (List.getElem_mem hj)] at hpj
   exact(h.mem k).mp (List.mem_map.mpr ⟨_,List.getElem_mem hj,of_decide_eq_true hpj⟩)
  dsimp only
  refine wpAny_pure (wpAny_pure ?_)
  have e:s={ s with heap:=s.heap }:=by cases s;rfl
  rw[e];exact fin false s.heap es ep t (Heap.SameBut.refl a s.heap) ho (h.again hin) (Nat.le_succ _)
 |none=>
  have hnot:k ∉ ks:=fun z=>by
   obtain⟨e,he,ee⟩:=List.mem_map.mp ((h.mem k).mpr z)
   have q:=List.findIdx?_eq_none_iff.mp hr e he
   rw[heq e he,decide_eq_true ee] at q
   cases q
  dsimp only
  have hp:=layNew_perm t es ((intKind P w).hash k) (.int k u);have hf:=layNew_fits t es ((intKind P w).hash k) (.int k u);have ht:=N7 (w:=w) (es:=es) (h:=(intKind P w).hash k) (x:=.int k u) h.tok
  generalize layNew t es ((intKind P w).hash k) (.int k u)=L at hp hf ht ⊢
  obtain⟨es1,t1,wd,gave⟩:=L
  dsimp only at hp hf ht ⊢
  have h1:SOk P w es1 t1 (ks++[k]):=h.more hnot hp hz ht hf
  have hs1:es1.size=es.size+1:=by rw[←Array.length_toList,hp.length_eq];simp
  refine wpAny_bind ?_
  have quiet:∀(b:Bool) {s₁:Shared} {Q':Unit→Shared→Prop},Q' () s₁→wpAny (model P w) A (match b with|true=>rule "set.scan.the-table-gave-way" | false=>pure ()) Q' E s₁:=fun b s₁ Q' q=>by
   cases b
   ·exact wpAny_pure q
   ·exact wpAny_rule q
  refine quiet _ ?_
  have tail:∀(g:Bool→Sem Unit),(∀(b:Bool) (s₁:Shared) (Q':Unit→Shared→Prop),Q' () s₁→wpAny (model P w) A (g b) Q' E s₁)→wpAny (model P w) A (do
    storeSet a es1 t1
    if (!wd&&t1.tooFull)=true then do
      g (relayAll t1 es1 (SetTable.grown es1.size)).2.2
      storeSet a (relayAll t1 es1 (SetTable.grown es1.size)).1 (relayAll t1 es1 (SetTable.grown es1.size)).2.1
      pure (some true)
     else pure (some true)) (fun r s'=>wpAny (model P w) A (match r with|some added=>pure added|none=>setAddHashedIn a (.int k u) ((intKind P w).hash k) 99999) Q E s') E s:=by
   intro g hg
   refine wpAny_bind (wpAny_storeSet_of ho rfl ?_ (fits_of_scanBound h1.sz))
   have ho1:(s.heap.update a (Obj.putSet es1 t1)).get? a=some (Ar es1 (ep+1) t1):=O5 ho
   have same1:=Heap.SameBut.update s.heap a (Obj.putSet es1 t1)
   split
   ·have hp2:=relayAll_perm t1 es1 (SetTable.grown es1.size);have hf2:=relayAll_fits t1 es1 (SetTable.grown es1.size);have ht2:=Qi (es:=es1) (n:=SetTable.grown es1.size) h1.tok
    generalize relayAll t1 es1 (SetTable.grown es1.size)=R at hp2 hf2 ht2 ⊢
    obtain⟨es2,t2,gave2⟩:=R
    dsimp only at hp2 hf2 ht2 ⊢
    have h2:SOk P w es2 t2 (ks++[k]):=h1.perm hp2 ht2 hf2
    have hs2:es2.size=es1.size:=by rw[←Array.length_toList,hp2.length_eq,Array.length_toList]
    refine wpAny_bind (hg _ _ _ (wpAny_bind (wpAny_storeSet_of ho1 rfl ?_ (fits_of_scanBound h2.sz))))
    exact wpAny_pure (wpAny_pure (fin _ _ es2 _ t2 (same1.trans (Heap.SameBut.update _ a _)) (O5 ho1) h2 (by omega)))
   ·exact wpAny_pure (wpAny_pure (fin _ _ es1 _ t1 same1 ho1 h1 (by omega)))
  split
  ·refine wpAny_bind ?_
   rw[hashByValue_scannable 8 (x:=.int k u) rfl]
   refine wpAny_pure ?_
   simp only[plainKind,if_true]
   refine tail _ fun b s₁ Q' q=>?_
   cases b
   ·exact wpAny_pure q
   ·exact wpAny_rule q
  ·refine wpAny_bind (wpAny_pure ?_)
   simp only[↓reduceIte]
   refine tail _ fun b s₁ Q' q=>?_
   cases b
   ·exact wpAny_pure q
   ·exact wpAny_rule q
end
set_option maxRecDepth 100000
section
variable{P:Program}{w:World}{A:Around}{R:Result→Shared→Prop}{E:Value→Shared→Prop}{s:Shared}
theorem L0{I:Addr}{fp wr:List Addr}{G:Array GenState→Array GenState→Prop}{n:Nat}{Pv:Nat→Value→Prop}{St:Nat→Shared→Prop}(W:WalksS P w A.in1 I fp wr G n Pv St)(S:Addr)(hSf:S ∉ fp)(ns:List Int)(hn:ns.length=n)(hval:∀i v,Pv i v→∃t,v=.int (ns.getD i 0) t)(hb:n+1<scanBound) :
  ∀(k i:Nat) (s:Shared) (es:Array (Int×Value)) (ep:Nat) (t:SetTable),n-i=k→i≤n→St i s→s.heap.get? S=some (Ar es ep t)→SOk P w es t (ns.take i)→es.size≤i→
   (∀s' es' ep' t',Moved (S::wr) G s s'→s'.heap.get? S=some (Ar es' ep' t')→SOk P w es' t' ns→es'.size≤n→R (.ok (.ret .none)) s')→
   codeAny (model P w) A (.builtin "set.update.loop" ⟨[.ref S,.ref I],[]⟩) R s:=by
 have hSw:S ∉ wr:=fun h=>hSf (W.sub _ h)
 have hsub:∀b∈wr,b∈S::wr:=fun b hb=>List.mem_cons_of_mem _ hb
 intro k
 induction k with
 |zero=>
  intro i s es ep t hk hi hst hS hO hz hR
  have hin:i=n:=by omega
  subst hin
  rw[List.take_of_length_le (by omega)] at hO
  refine codeAny_builtin PyProof.Rows.F.entry_set_update_loop ?_
  rw[Around.under_plainId PyProof.Rows.F.plain_set_update_loop _]
  show wpAny _ A.in1 (pyNext (.ref I) >>= _) _ _ s;refine wpAny_bind (W.done s _ _ hst fun s' hm=>?_)
  exact wpAny_pure (hR s' es ep t (hm.mono hsub) (hm.heap S _ hSw hS) hO hz)
 |succ k ih=>
  intro i s es ep t hk hi hst hS hO hz hR
  have hlt:i<n:=by omega
  refine codeAny_builtin PyProof.Rows.F.entry_set_update_loop ?_
  rw[Around.under_plainId PyProof.Rows.F.plain_set_update_loop _]
  show wpAny _ A.in1 (pyNext (.ref I) >>= _) _ _ s;refine wpAny_bind (W.item i s _ _ hlt hst fun v s' hP hst' hm=>?_)
  obtain⟨u,rfl⟩:=hval i v hP
  have hS':=hm.heap S _ hSw hS
  show wpAny _ A.in1 (holding [Value.int (ns.getD i 0) u] (setAdd S (.int (ns.getD i 0) u)) >>= _) _ _ s'
  refine wpAny_bind (wpAny_holding ?_);unfold setAdd
  refine wpAny_holding (wpAny_bind ((intKind P w).pyHash (k:=ns.getD i 0) (intKind_is _ _ _ _) ?_))
  refine Tu (s:={ s' with toks:=s'.toks+1 }) hS' hO (by omega) fun b h' es' ep' t' same ho' hO' hz'=>?_
  have tk:ns.take (i+1)=ns.take i++[ns.getD i 0]:=by
   rw[List.take_add_one,List.getD,List.getElem?_eq_getElem (by omega)];rfl
  rw[←tk] at hO'
  refine wpAny_pure ⟨plainId_quiet PyProof.Rows.F.plain_set_update_loop _,ih (i+1) _ es' ep' t' (by omega) hlt (W.frame _ s' _ _ hst' (Nat.le_succ _) fun b hb o e=>?_) ho' hO' (by omega) fun s'' es'' ep'' t'' hm'' hS'' hO'' hz''=>?_⟩
  ·rw[same.2 b (fun h:b=S=>hSf (by rw[←h];exact hb))];exact e
  ·refine hR s'' es'' ep'' t'' (Moved.trans W.gtrans ((hm.mono hsub).then_heap (Nat.le_succ _) fun b o hb e=>?_) hm'') hS'' hO'' hz''
   rw[same.2 b (fun h:b=S=>hb (by rw[h];exact List.mem_cons_self))];exact e
theorem N1(a:Value){Q₁:Value→Shared→Prop}(h:∀led:Bool,(w.params.followText "set-order" = true∨led=true)→Q₁ (.ref s.heap.objs.size) { s with heap:=s.heap.push (Ar #[] 0 (.fresh 0 0 led)) }) :
  codeAny (model P w) A (.call (.builtin "set.__new__") ⟨[.type "set",a],[]⟩) (wants Q₁ E) s:=by
 refine codeAny_of_tree ?_
 show wpAny _ A.in1 (do checkBuiltinCall "set.__new__" ⟨[.type "set",a],[]⟩;again (.builtin "set.__new__" ⟨[.type "set",a],[]⟩)) _ _ s;refine wpAny_bind (wpAny_of_eq (PySem.F.newCall_set_1 a) (wpAny_pure ⟨plainId_quiet PySem.F.plain_set_new _,codeAny_builtin PySem.F.entry_set_new ?_⟩))
 rw[Around.under_plainId PySem.F.plain_set_new _];unfold Builtin.«set.__new__» Builtin.Frozenset.newClass
 have hsub:=sub_set_self;obtain⟨hp,g,d,tk,os⟩:=s;dsimp only
 wp_walk
 refine wpAny_askSetting (wpAny_pure ?_);dsimp only;simp only[newObj];refine wpAny_bind (wpAny_alloc (wpAny_pure (wpAny_pure (h _ ?_))))
 show w.params.followText "set-order" = true∨(!w.params.followText "set-order")=true
 cases w.params.followText "set-order"<;>simp
theorem Tp:isSubtype (.type "tuple") (.type "set")=pure false:=by rw[isSubtype_type];kernel_rfl
theorem Ie:isSubtype (.type "tuple") (.type "frozenset")=pure false:=by rw[isSubtype_type];kernel_rfl
end
set_option maxHeartbeats 4000000
section
variable{P:Program}{w:World}{A:Around}{E:Value→Shared→Prop}{s:Shared}
theorem Tv{l:Addr}{items:Array Value}{ns:List Int}{Q:Value→Shared→Prop}(hh:A.handled=none)(hl:s.heap.IsList l items∨s.heap.IsTuple l items)(hi:PyProof.Rows.IntsAre items.toList ns)(hb:items.size+1<scanBound)(h:∀(h':Heap) (tk:Nat) es ep t,s.toks≤tk→h'.get? s.heap.objs.size=some (Ar es ep t)→SOk P w es t ns→es.size≤ns.length→
   (∀b o,b<s.heap.objs.size→s.heap.get? b=some o→h'.get? b=some o)→Q (.ref s.heap.objs.size) { s with heap:=h',toks:=tk }) :
  wpAny (model P w) A (call (.type "set") [.ref l]) Q E s:=by
 have hlen:ns.length=items.size:=by rw[←hi.length,Array.length_toList]
 obtain⟨c,tl,hmro⟩:=PySem.F.called_set.mro;have hmade:=PySem.F.called_set.made;have hsub:=PySem.F.called_set.sub
 refine wpAny_call (codeAny_of_tree ?_)
 show wpAny _ _ (callAny (.type "set") _) _ _ _;refine wpAny_pure ⟨Code.quiet_builtin _ (by decide +kernel),codeAny_builtin PySem.F.entry_type_call ?_⟩
 rw[Around.under_plain (weight_type_call_type "set" [.ref l] []) rfl];have h1:=PySem.F.called_set.notType;have h2:=PySem.F.called_set.canCreate
 have hct:=PySem.F.typeCall_set_1 (.ref l);repeat (any_goals (first|assumption|wp_step))
 refine codeAny_mono (N1 (.ref l) (E:=E) (Q₁:=fun obj s₁=>∃led:Bool,(w.params.followText "set-order" = true∨led=true)∧obj=.ref s.heap.objs.size∧s₁={ s with heap:=s.heap.push (Ar #[] 0 (.fresh 0 0 led)) }) fun led hled=>⟨led,hled,rfl,rfl⟩) fun r s₁ hr=>?_
 cases r with
 |error e=>exact hr
 |ok fl=>
  cases fl with
  |ret obj=>
   obtain⟨led,hled,rfl,rfl⟩:=hr
   have hS:(s.heap.push (Ar #[] 0 (.fresh 0 0 led))).get? s.heap.objs.size=some (Ar #[] 0 (.fresh 0 0 led)):=Heap.get?_push_size _ rfl
   have hT:Shared.TypeIs { s with heap:=s.heap.push (Ar #[] 0 (.fresh 0 0 led)) } (.ref s.heap.objs.size) "set":=⟨_,hS,rfl⟩
   have hli:=PySem.F.called_set.init.lookup;have hbi:=PySem.F.called_set.init.bind (.ref s.heap.objs.size);repeat (any_goals (first|assumption|wp_step))
   refine codeAny_mono (codeAny_call_builtin (R:=wants (fun r s₂=>r=.none∧∃h' tk es ep t,s₂={ s with heap:=h',toks:=tk }∧s.toks≤tk∧
     h'.get? s.heap.objs.size=some (Ar es ep t)∧SOk P w es t ns∧es.size≤ns.length∧
     (∀b o,b<s.heap.objs.size→s.heap.get? b=some o→h'.get? b=some o)) E) PySem.F.called_set.init.plain PySem.F.entry_set_init (check_set_init_1 hT ?_)) fun r₂ s₂ hr₂=>?_
   ·have hval:∀(i:Nat) (v:Value),items[i]? = some v→∃t,v=.int (ns.getD i 0) t:=fun i v hv=>PyProof.Rows.IntsAre.int_at hi i v (by rw[Array.getElem?_toList];exact hv)
    have hlS:l<s.heap.objs.size:=by
     rcases hl with ⟨o,e,_⟩|⟨o,e,_⟩
     ·exact Heap.lt_size e
     ·exact Heap.lt_size e
    have hneI:l≠(s.heap.push (Ar #[] 0 (.fresh 0 0 led))).objs.size:=by rw[Heap.size_push];exact Nat.ne_of_lt (Nat.lt_succ_of_lt hlS)
    have hSf:s.heap.objs.size ∉ [(s.heap.push (Ar #[] 0 (.fresh 0 0 led))).objs.size,l]:=by
     rw[Heap.size_push];simp only[List.mem_cons,List.not_mem_nil,or_false,not_or];exact⟨Nat.ne_of_lt (Nat.lt_succ_self _),Nat.ne_of_gt hlS⟩
    have hh3:A.in1.in1.in1.handled=none:=by simp[hh]
    have hO:SOk P w #[] (.fresh 0 0 led) (ns.take 0):=SOk.fresh led hled
    have fin:∀(s':Shared) (es':Array (Int×Value)) (ep':Nat) (t':SetTable) (it:Obj),Moved (s.heap.objs.size::[(s.heap.push (Ar #[] 0 (.fresh 0 0 led))).objs.size]) (fun a b=>b=a) { s with heap:=(s.heap.push (Ar #[] 0 (.fresh 0 0 led))).push it } s'→s'.heap.get? s.heap.objs.size=some (Ar es' ep' t')→SOk P w es' t' ns→es'.size≤items.size→
      ∃h' tk es ep t,s'={ s with heap:=h',toks:=tk }∧s.toks≤tk∧h'.get? s.heap.objs.size=some (Ar es ep t)∧SOk P w es t ns∧es.size≤ns.length∧(∀b o,b<s.heap.objs.size→s.heap.get? b=some o→h'.get? b=some o):=fun s' es' ep' t' it hm hS' hO' hz'=>by
     obtain⟨h',g',d',tk',os'⟩:=s'
     have eg:g'=s.gens:=hm.gens
     have ed:d'=s.drawn:=hm.drawn
     have eo:os'=s.os:=hm.os
     subst eg;subst ed;subst eo
     refine⟨h',tk',es',ep',t',rfl,hm.toks,hS',hO',by omega,fun b o hb e=>?_⟩
     exact hm.heap b o (by rw[Heap.size_push];simp only[List.mem_cons,List.not_mem_nil,or_false,not_or];exact⟨Nat.ne_of_lt hb,Nat.ne_of_lt (Nat.lt_succ_of_lt hb)⟩) (Heap.get?_push_of_some _ (Heap.get?_push_of_some _ e))
    have first0:∀it:Obj,((s.heap.push (Ar #[] 0 (.fresh 0 0 led))).push it).get? s.heap.objs.size=some (Ar #[] 0 (.fresh 0 0 led)):=fun it=>Heap.get?_push_of_some _ hS
    rcases hl with hl|hl
    ·obtain⟨ol,hol,hcl,nl,hdl⟩:=hl;obtain⟨ocls,odict,odata,oslots⟩:=ol;simp only at hcl hdl;subst hcl;subst hdl
     have hol':(s.heap.push (Ar #[] 0 (.fresh 0 0 led))).get? l=some { cls:=.type "list",dict:=odict,data:=.seq items nl,slots:=oslots }:=Heap.get?_push_of_some _ hol
     have hsls:=PySem.F.sub_list_set;have hslf:=PySem.F.sub_list_frozenset;have hne:(Value.type "list" == Value.type "dict")=false:=by decide
     have hl1:(s.heap.push (Ar #[] 0 (.fresh 0 0 led))).IsList l items:=⟨_,hol',rfl,nl,rfl⟩
     unfold Builtin.«set.__init__» noKeywords Builtin.Frozenset.updateFrom;generalize hPI:pyIter=PI
     wp_walk
     subst hPI;refine wpAny_pyIter_list hl1 (wpAny_bind (wpAny_runValue ?_))
     refine L0 ((Walks.list hh3 _ l hneI items).toS) s.heap.objs.size hSf ns hlen hval hb (items.size-0) 0 _ #[] 0 (.fresh 0 0 led) (by omega) (Nat.zero_le _) ⟨⟨_,Heap.get?_push_size _ rfl,rfl,rfl⟩,(hl1.push _)⟩ (first0 _) hO (Nat.zero_le _) fun s' es' ep' t' hm hS' hO' hz'=>?_
     exact wpAny_pure (wpAny_pure ⟨rfl,fin s' es' ep' t' _ hm hS' hO' hz'⟩)
    ·obtain⟨ol,hol,hcl,nl,hdl⟩:=hl;obtain⟨ocls,odict,odata,oslots⟩:=ol;simp only at hcl hdl;subst hcl;subst hdl
     have hol':(s.heap.push (Ar #[] 0 (.fresh 0 0 led))).get? l=some { cls:=.type "tuple",dict:=odict,data:=.seq items nl,slots:=oslots }:=Heap.get?_push_of_some _ hol
     have hsls:=Tp;have hslf:=Ie;have hne:(Value.type "tuple" == Value.type "dict")=false:=by decide
     have hl1:(s.heap.push (Ar #[] 0 (.fresh 0 0 led))).IsTuple l items:=⟨_,hol',rfl,nl,rfl⟩
     unfold Builtin.«set.__init__» noKeywords Builtin.Frozenset.updateFrom;generalize hPI:pyIter=PI
     wp_walk
     subst hPI;refine wpAny_pyIter_tuple hl1 (wpAny_bind (wpAny_runValue ?_))
     refine L0 ((Walks.tuple hh3 _ l hneI items).toS) s.heap.objs.size hSf ns hlen hval hb (items.size-0) 0 _ #[] 0 (.fresh 0 0 led) (by omega) (Nat.zero_le _) ⟨⟨_,Heap.get?_push_size _ rfl,rfl,rfl⟩,(hl1.push _)⟩ (first0 _) hO (Nat.zero_le _) fun s' es' ep' t' hm hS' hO' hz'=>?_
     exact wpAny_pure (wpAny_pure ⟨rfl,fin s' es' ep' t' _ hm hS' hO' hz'⟩)
   ·cases r₂ with
    |error e=>exact hr₂
    |ok fl₂=>
     cases fl₂ with
     |ret r=>
      obtain⟨rfl,h',tk,es,ep,t,rfl,htk,hS',hO',hz',hk'⟩:=hr₂
      repeat (any_goals (first|assumption|wp_step))
      exact h _ _ _ _ _ htk hS' hO' hz' hk'
     |_=>exact hr₂.elim
  |_=>exact hr.elim
end
theorem slot_si_next:Slot "set_iterator" "__next__" "set_iterator.__next__":=
 .of (owner:="set_iterator") (n:="__next__") (by rw[typeLookup_type,builtinLookup_eq_fast];kernel_rfl) (by decide +kernel) (by decide +kernel) (by decide +kernel) (by first|exact .inl (by decide +kernel)|exact .inr (by decide +kernel)) (by rw[isSubtype_type];kernel_rfl)
theorem Fh:Slot "set_iterator" "__iter__" "set_iterator.__iter__":=
 .of (owner:="set_iterator") (n:="__iter__") (by rw[typeLookup_type,builtinLookup_eq_fast];kernel_rfl) (by decide +kernel) (by decide +kernel) (by decide +kernel) (by first|exact .inl (by decide +kernel)|exact .inr (by decide +kernel)) (by rw[isSubtype_type];kernel_rfl)
theorem Ef:entryFor table "set_iterator.__next__" = some Builtin.«set_iterator.__next__»:=entryFor_of_tree (by kernel_rfl)
theorem Iw:entryFor table "set_iterator.__iter__" = some Builtin.«dict_keyiterator.__iter__»:=entryFor_alias (id':="dict_keyiterator.__iter__") (by kernel_rfl) rfl (by decide +kernel) (by kernel_rfl)
theorem K4:entryFor table "set.__iter__" = some Builtin.«frozenset.__iter__»:=entryFor_alias (id':="frozenset.__iter__") (by kernel_rfl) rfl (by decide +kernel) (by kernel_rfl)
theorem Sz:Manifest.owners.lookup (String.ofList ['r','o','t','a','r','e','t','i','_','t','e','s'].reverse)=some Manifest.sig_set_iterator:=by kernel_rfl
theorem Fi(a:Value):argsOk "set_iterator.__next__" ⟨[a],[]⟩:=by
 unfold argsOk;rw[signature?_of (id:="set_iterator.__next__") (n:=['_','_','t','x','e','n','_','_']) (o:=['r','o','t','a','r','e','t','i','_','t','e','s']) (by kernel_rfl) Sz];kernel_rfl
theorem La(a:Value):argsOk "set_iterator.__iter__" ⟨[a],[]⟩:=by
 unfold argsOk;rw[signature?_of (id:="set_iterator.__iter__") (n:=['_','_','r','e','t','i','_','_']) (o:=['r','o','t','a','r','e','t','i','_','t','e','s']) (by kernel_rfl) Sz];kernel_rfl

section
variable{P:Program}{w:World}{A:Around}{E:Value→Shared→Prop}{s:Shared}
theorem Br{α:Type}{c:Prop}[Decidable c]{a b:Sem α}{Q:α→Shared→Prop}{M:Model}(h:¬c)(k:wpAny M A b Q E s):wpAny M A (if c then a else b) Q E s:=by rw[if_neg h];exact k
theorem He{α:Type}{c:Prop}[Decidable c]{a b:Sem α}{Q:α→Shared→Prop}{M:Model}(h:c)(k:wpAny M A a Q E s):wpAny M A (if c then a else b) Q E s:=by rw[if_pos h];exact k
theorem wp_choose{src:Source}{n:Nat}{Q:Nat→Shared→Prop}{M:Model}(hn:n≠0)(h:∀i d,i<n→Q i { s with drawn:=d }):wpAny M A (choose src n) Q E s:=fun Γ p hΓ=>by
 unfold choose
 rw[Sem.wp_choose]
 exact⟨hn,h _ _ (Nat.mod_lt _ (Nat.pos_of_ne_zero hn))⟩
theorem Fv{α:Type}:∀(xs:List α) (i:Nat) (h:i<xs.length),(xs[i]::xs.eraseIdx i).Perm xs
 |[],i,h=>absurd h (by simp)
 |x::r,0,h=>List.Perm.refl _
 |x::r,i+1,h=>by
  have:=Fv r i (by simpa using h)
  exact(List.Perm.swap x _ _).trans (List.Perm.cons x this)
theorem Ow{α:Type}{M:Model}:∀(n:Nat) (xs:List α) (s:Shared) {Q:List α→Shared→Prop},xs.length=n→(∀ys d,ys.Perm xs→Q ys { s with drawn:=d })→wpAny M A (drawOrder n xs) Q E s
 |0,xs,s,Q,e,h=>by
  cases xs with
  |nil=>unfold drawOrder;exact wpAny_pure (h [] s.drawn (List.Perm.refl _))
  |cons x r=>simp at e
 |n+1,xs,s,Q,e,h=>by
  cases xs with
  |nil=>simp at e
  |cons x r=>
   unfold drawOrder
   refine wpAny_bind (wp_choose (by simp) fun i d hi=>?_)
   have hg:(x::r)[i]? = some ((x::r)[i]):=List.getElem?_eq_getElem hi
   rw[hg]
   dsimp only
   refine wpAny_bind (Ow n _ _ (by rw[List.length_eraseIdx_of_lt hi];simpa using e) fun ys d' hp=>wpAny_pure ?_)
   refine h _ _ (List.Perm.trans (List.Perm.cons _ hp) ?_)
   exact Fv _ _ hi
theorem O6{α:Type}(next:Nat→Nat):∀(n k:Nat) (left:List α) (out:Array α),left.length=n→(pickOrder.go next n k left out).toList.Perm (out.toList++left)
 |0,k,left,out,e=>by
  cases left with
  |nil=>rw[pickOrder.go];simp
  |cons x r=>simp at e
 |n+1,k,left,out,e=>by
  rw[pickOrder.go]
  have hi:next k % left.length<left.length:=Nat.mod_lt _ (by omega)
  rw[List.getElem?_eq_getElem hi]
  dsimp only
  refine(O6 next n (k+1) _ _ (by rw[List.length_eraseIdx_of_lt hi];omega)).trans ?_
  rw[Array.toList_push,List.append_assoc]
  exact List.Perm.append_left _ (Fv _ _ hi)
theorem Ql{α:Type}(next:Nat→Nat)(xs:Array α):(pickOrder next xs).toList.Perm xs.toList:=by
 have:=O6 next xs.size 0 xs.toList #[] (by simp)
 simpa[pickOrder] using this
abbrev Eu(first:Value)(i:Nat)(S:Addr)(n ep:Nat):Obj:={ cls:=.type "set_iterator",data:=.fields #[first,rawInt i,.ref S,rawInt n,rawInt ep] }
inductive Way (w:World) (S:Addr) (es:Array (Int×Value)) (ep:Nat) (t:SetTable):List (Int×Value)→(Nat→Nat→Prop)→Prop where
 |text (h:w.params.followText "set-order" = true):Way w S es ep t (pickOrder (w.params.setOrder S ep) es).toList (fun _ _=>True)
 |tab (h:¬w.params.followText "set-order" = true) (hd:¬(!t.plain&&decide (es.size>1))=true):Way w S es ep t es.toList (fun i slot=>SetTable.below t.place slot=i)
theorem Way.perm{S:Addr}{es:Array (Int×Value)}{ep:Nat}{t:SetTable}{items:List (Int×Value)}{F:Nat→Nat→Prop}(W:Way w S es ep t items F):items.Perm es.toList:=by
 cases W with
 |text h=>exact Ql _ _
 |tab h hd=>exact List.Perm.refl _
theorem Way.start{S:Addr}{es:Array (Int×Value)}{ep:Nat}{t:SetTable}{items:List (Int×Value)}{F:Nat→Nat→Prop}{ks:List Int}(W:Way w S es ep t items F)(h:SOk P w es t ks):F 0 0:=by
 cases W with
 |text h=>trivial
 |tab h' hd=>exact Oi h.tok.ris
theorem Way.next{S:Addr}{es:Array (Int×Value)}{ep:Nat}{t:SetTable}{items:List (Int×Value)}{F:Nat→Nat→Prop}{ks:List Int}{i slot:Nat}{Q:Option (Value×Nat)→Shared→Prop}(W:Way w S es ep t items F)(h:SOk P w es t ks)(ho:s.heap.get? S=some (Ar es ep t))(hF:F i slot)(more:∀e,items[i]? = some e→∀next,F (i+1) next→Q (some (e.2,next)) s)(last:items[i]? = none→Q none s):wpAny (model P w) A (setNext S slot i ep) Q E s:=by
 unfold setNext setsByText
 refine wpAny_bind (wpAny_setState_of ho rfl h.fit ?_);dsimp only
 refine wpAny_bind (wpAny_bind (wpAny_askSetting (wpAny_pure ?_)));dsimp only
 cases W with
 |text ht=>
  refine He ht (Br (by simp) ?_)
  refine wpAny_bind ?_
  unfold setWalk setsByText
  refine wpAny_bind (wpAny_setState_of ho rfl h.fit ?_);dsimp only
  refine wpAny_bind (wpAny_bind (wpAny_askSetting (wpAny_pure ?_)));dsimp only
  refine He ht (wpAny_bind (wpAny_askSetting (wpAny_pure (wpAny_pure ?_))))
  show Q (Option.map (fun e=>(e.2,slot)) (pickOrder (w.params.setOrder S ep) es)[i]?) s
  rw[←Array.getElem?_toList]
  cases q:(pickOrder (w.params.setOrder S ep) es).toList[i]? with
  |none=>exact last q
  |some e=>exact more e q slot trivial
 |tab ht hd=>
  refine Br ht (Br hd ?_)
  have led:t.led=true:=h.tok.led.resolve_left ht
  refine wpAny_bind (m:=if (!t.led && !es.isEmpty)=true then unsupported "set:maker-not-led" else pure ()) (Br (by simp[led]) (wpAny_pure (wpAny_pure ?_)))
  have hF':SetTable.below t.place slot=i:=hF
  rw[hF']
  have hps:t.place.size=es.size:=by
   have:=h.fit
   simp only[SetTable.fits,Bool.and_eq_true,beq_iff_eq] at this
   exact this.1
  by_cases hi:i<es.size
  ·have e1:es[i]? = some es[i]:=Array.getElem?_eq_getElem hi
   have e2:t.place[i]? = some (t.place.getD i 0):=by rw[getD_of,Array.getElem?_eq_getElem (by omega)];rfl
   rw[e1,e2]
   refine more es[i] (by rw[Array.getElem?_toList];exact e1) _ ?_
   exact Oj h.tok.ris (by omega)
  ·have e1:es[i]? = none:=Array.getElem?_eq_none (by omega)
   rw[e1]
   exact last (by rw[Array.getElem?_toList];exact e1)
theorem Ly{I:Addr}{vs:Array Value}(hh:A.handled=none)(ho:s.heap.get? I=some { cls:=.type "set_iterator",data:=.fields vs })(hv:2<vs.size){Q:Fin→Shared→Prop}(hE:∀h' e,Heap.ExtBut I s.heap h'→(∃o,h'.get? e=some o∧o.cls=.type "StopIteration")→E (.ref e) { s with heap:=h' }):wpAny (model P w) A (do setField (.ref I) 2 .none;raiseNew (←newExc (.type "StopIteration") [])) Q E s:=by
 refine wpAny_bind (wpAny_setField ho rfl hv (show wpAny _ _ (newExc (.type "StopIteration") [] >>= _) _ _ _ from wpAny_bind ?_))
 simp only[newExc,newTuple];refine wpAny_bind (wpAny_newObj_type (wpAny_bind (m:=firstArgMember _ _) (wpAny_of_eq (a:=Value.none) (by first|rfl|(simp only[firstArgMember];rfl)) (wpAny_newObj_type ?_ (by size_fits)))) (by size_fits))
 simp only[raiseNew];refine wpAny_bind (wpAny_handled ?_);first|rw[show A.in1.handled=none from hh]|rw[hh]
 exact wpAny_bind (wpAny_pure (wpAny_throw (hE _ _ (((Heap.SameBut.update ..).extBut.push _).push _) ⟨_,Heap.get?_push_size _ rfl,rfl⟩)))
end
section
variable{P:Program}{w:World}{A:Around}{E:Value→Shared→Prop}{s:Shared}
theorem O1{I S:Addr}{es:Array (Int×Value)}{ep:Nat}{t:SetTable}{ks:List Int}{items:List (Int×Value)}{F:Nat→Nat→Prop}{i slot:Nat}{Q:Option Value→Shared→Prop}(hh:A.handled=none)(W:Way w S es ep t items F)(h:SOk P w es t ks)(hne:S≠I)(hI:s.heap.get? I=some (Eu (rawInt slot) i S es.size ep))(hS:s.heap.get? S=some (Ar es ep t))(hF:F i slot)(more:∀e,items[i]? = some e→∀next h',F (i+1) next→h'.get? I=some (Eu (rawInt next) (i+1) S es.size ep)→Heap.SameBut I s.heap h'→Q (some e.2) { s with heap:=h' })(last:items[i]? = none→∀h',Heap.ExtBut I s.heap h'→Q none { s with heap:=h' }):wpAny (model P w) A (pyNext (.ref I)) Q E s:=by
 have ty:s.TypeIs (.ref I) "set_iterator":=⟨_,hI,rfl⟩
 unfold pyNext;refine wpAny_bind (wpAny_attempt (wpAny_callSpecial?_slot (name:=Str.ofString "__next__") ty slot_si_next (wpAny_call_entry slot_si_next ty Ef ?_ (Fi _))))
 unfold Builtin.«set_iterator.__next__»
 show wpAny _ _ (fieldsOf (.ref I) >>= _) _ _ s;refine wpAny_bind (wpAny_fieldsOf hI rfl ?_)
 show wpAny _ _ (setEntries S >>= _) _ _ s;refine wpAny_bind (wpAny_setEntries_of hS rfl h.fit (Br (by simp) ?_))
 show wpAny _ _ (setNext S (Int.toNat (slot:Nat)) (Int.toNat (i:Nat)) (Int.toNat (ep:Nat)) >>= _) _ _ s
 simp only[Int.toNat_natCast]
 refine wpAny_bind (W.next h hS hF (fun e he next hn=>?_) fun hz=>?_)
 ·dsimp only
  refine wpAny_bind (wpAny_setField_rec hI (by simp) fun h1 hI1 same1=>wpAny_bind (wpAny_setField_rec (s:={ s with heap:=h1 }) hI1 (by simp) fun h2 hI2 same2=>?_))
  exact wpAny_pure ⟨e.2,rfl,wpAny_pure (more e he next h2 hn hI2 (same1.trans same2))⟩
 ·dsimp only
  refine Ly (A:=A.in1) hh hI (by simp) fun h' x ext hx=>?_
  refine wpAny_bind (wpAny_isInstance (T:="StopIteration") (b:=true) hx isSubtype_stop (wpAny_pure (last hz h' ext)))
theorem Lz{I S T:Addr}{es:Array (Int×Value)}{ep:Nat}{t:SetTable}{ks:List Int}{ord:List Nat}{i:Nat}{Q:Option Value→Shared→Prop}(hh:A.handled=none)(hord:ord.Perm (List.range es.size))(h:SOk P w es t ks)(hI:s.heap.get? I=some (Eu (.ref T) i S es.size ep))(hS:s.heap.get? S=some (Ar es ep t))(hT:s.heap.get? T=some { cls:=.type "tuple",data:=.seq (ord.map fun(k:Nat)=>rawInt k).toArray })(more:∀k e,ord[i]? = some k→es[k]? = some e→∀h',h'.get? I=some (Eu (.ref T) (i+1) S es.size ep)→Heap.SameBut I s.heap h'→Q (some e.2) { s with heap:=h' })(last:ord[i]? = none→∀h',Heap.ExtBut I s.heap h'→Q none { s with heap:=h' }):wpAny (model P w) A (pyNext (.ref I)) Q E s:=by
 have ty:s.TypeIs (.ref I) "set_iterator":=⟨_,hI,rfl⟩
 unfold pyNext;refine wpAny_bind (wpAny_attempt (wpAny_callSpecial?_slot (name:=Str.ofString "__next__") ty slot_si_next (wpAny_call_entry slot_si_next ty Ef ?_ (Fi _))))
 unfold Builtin.«set_iterator.__next__»
 show wpAny _ _ (fieldsOf (.ref I) >>= _) _ _ s;refine wpAny_bind (wpAny_fieldsOf hI rfl ?_)
 show wpAny _ _ (setEntries S >>= _) _ _ s;refine wpAny_bind (wpAny_setEntries_of hS rfl h.fit (Br (by simp) ?_))
 show wpAny _ _ (seqItems? (.ref T) >>= _) _ _ s;refine wpAny_bind (wpAny_seqItems hT rfl ?_)
 simp only[rawInt,Int.toNat_natCast]
 cases q:ord[i]? with
 |none=>
  have e0:(ord.map fun(k:Nat)=>(Value.int k 0)).toArray[i]? = none:=by simp[q]
  rw[e0];dsimp only
  refine wpAny_bind (wpAny_setField_rec hI (by simp) fun h1 hI1 same1=>?_)
  refine Ly (A:=A.in1) (s:={ s with heap:=h1 }) hh hI1 (by simp) fun h' x ext hx=>?_
  refine wpAny_bind (wpAny_isInstance (T:="StopIteration") (b:=true) hx isSubtype_stop (wpAny_pure (last q h' (same1.extBut.trans ext))))
 |some k=>
  have e0:(ord.map fun(k:Nat)=>(Value.int k 0)).toArray[i]? = some (.int k 0):=by simp[q]
  rw[e0];dsimp only
  have hk:k<es.size:=List.mem_range.mp (hord.mem_iff.mp (List.mem_of_getElem? q))
  refine wpAny_bind ?_
  unfold setNextDrawn
  refine wpAny_bind (wpAny_setState_of hS rfl h.fit ?_);dsimp only
  refine Br (by simp) ?_
  have e1:es[k]? = some es[k]:=Array.getElem?_eq_getElem hk
  simp only[Int.toNat_natCast]
  rw[e1];refine wpAny_pure ?_
  refine wpAny_bind (wpAny_setField_rec hI (by simp) fun h1 hI1 same1=>?_)
  exact wpAny_pure ⟨es[k].2,rfl,wpAny_pure (more k es[k] q e1 h1 hI1 same1)⟩
theorem O0{I S:Addr}{first:Value}{i n ep:Nat}{Q:Value→Shared→Prop}(hI:s.heap.get? I=some (Eu first i S n ep))(h:Q (.ref I) s):wpAny (model P w) A (pyIter (.ref I)) Q E s:=by
 have ty:s.TypeIs (.ref I) "set_iterator":=⟨_,hI,rfl⟩
 refine wpAny_pyIter_slot ty Fh (wpAny_call_entry Fh ty Iw ?_ (La _))
 exact wpAny_pure ⟨_,rfl, "set_iterator",_,ty,slot_si_next.lookup,h⟩
theorem Th{I S:Addr}{es:Array (Int×Value)}{ep:Nat}{t:SetTable}{ks:List Int}{items:List (Int×Value)}{F:Nat→Nat→Prop}(hh:A.handled=none)(W:Way w S es ep t items F)(h:SOk P w es t ks)(hne:S≠I) :
  Walks P w A I [I,S] [I] es.size (fun i v=>(items.map (·.2))[i]? = some v) (fun i g=>(∃slot,F i slot∧g.get? I=some (Eu (rawInt slot) i S es.size ep))∧g.get? S=some (Ar es ep t)) where
 sub:=fun b hb=>by simp at hb;simp[hb]
 frame:=fun i g g' ⟨⟨slot,hF,hI⟩,hS⟩ hk=>⟨⟨slot,hF,hk I (by simp) _ hI⟩,hk S (by simp) _ hS⟩
 item:=fun i s Q E hi ⟨⟨slot,hF,hI⟩,hS⟩ hQ=>by
  refine O1 hh W h hne hI hS hF (fun e he next h' hn hI' same=>?_) fun hz=>?_
  ·exact hQ e.2 h' s.toks (by rw[List.getElem?_map,he];rfl) ⟨⟨next,hn,hI'⟩,same.extBut _ _ hne hS⟩ fun b o hb e=>same.extBut b o (fun z=>hb (by simp[z])) e
  ·have:items.length=es.size:=by rw[W.perm.length_eq];simp
   rw[List.getElem?_eq_none_iff] at hz;omega
 done:=fun s Q E ⟨⟨slot,hF,hI⟩,hS⟩ hQ=>by
  have hl:items.length=es.size:=by rw[W.perm.length_eq];simp
  refine O1 hh W h hne hI hS hF (fun e he next h' hn hI' same=>?_) fun hz h' ext=>hQ h' s.toks fun b o hb e=>ext b o (fun z=>hb (by simp[z])) e
  rw[List.getElem?_eq_none (by omega)] at he;cases he
 self:=fun i s Q E ⟨⟨slot,hF,hI⟩,hS⟩ hQ=>O0 hI hQ
theorem P0{I S T:Addr}{es:Array (Int×Value)}{ep:Nat}{t:SetTable}{ks:List Int}{ord:List Nat}(hh:A.handled=none)(hord:ord.Perm (List.range es.size))(h:SOk P w es t ks)(hne:S≠I)(hneT:T≠I) :
  Walks P w A I [I,S,T] [I] es.size (fun i v=>(ord.map fun k=>(es.toList.map (·.2)).getD k .none)[i]? = some v) (fun i g=>g.get? I=some (Eu (.ref T) i S es.size ep)∧g.get? S=some (Ar es ep t)∧g.get? T=some { cls:=.type "tuple",data:=.seq (ord.map fun(k:Nat)=>rawInt k).toArray }) where
 sub:=fun b hb=>by simp at hb;simp[hb]
 frame:=fun i g g' ⟨hI,hS,hT⟩ hk=>⟨hk I (by simp) _ hI,hk S (by simp) _ hS,hk T (by simp) _ hT⟩
 item:=fun i s Q E hi ⟨hI,hS,hT⟩ hQ=>by
  refine Lz hh hord h hI hS hT (fun k e hk he h' hI' same=>?_) fun hz=>?_
  ·refine hQ e.2 h' s.toks ?_ ⟨hI',same.extBut _ _ hne hS,same.extBut _ _ hneT hT⟩ fun b o hb e=>same.extBut b o (fun z=>hb (by simp[z])) e
   rw[List.getElem?_map,hk]
   simp[he]
  ·have:ord.length=es.size:=by rw[hord.length_eq];simp
   rw[List.getElem?_eq_none_iff] at hz;omega
 done:=fun s Q E ⟨hI,hS,hT⟩ hQ=>by
  have hl:ord.length=es.size:=by rw[hord.length_eq];simp
  refine Lz hh hord h hI hS hT (fun k e hk he h' hI' same=>?_) fun hz h' ext=>hQ h' s.toks fun b o hb e=>ext b o (fun z=>hb (by simp[z])) e
  rw[List.getElem?_eq_none (by omega)] at hk;cases hk
 self:=fun i s Q E ⟨hI,hS,hT⟩ hQ=>O0 hI hQ
end
theorem s_len:typeLookup (.type "set") "__len__" = pure (some (.builtin "set.__len__")):=by rw[typeLookup_type,builtinLookup_eq_fast];kernel_rfl
section
variable{P:Program}{w:World}{A:Around}{E:Value→Shared→Prop}{s:Shared}
theorem Uy{S:Addr}{es:Array (Int×Value)}{ep:Nat}{t:SetTable}{ks:List Int}{Q:Value→Shared→Prop}(hh:A.handled=none)(h:SOk P w es t ks)(hS:s.heap.get? S=some (Ar es ep t))(hQ:∀(I:Addr) (g:Heap) d (fp:List Addr) (vs:List Value) (St:Nat→Heap→Prop),vs.Perm (es.toList.map (·.2))→Walks P w A I fp [I] es.size (fun i v=>vs[i]? = some v) St→St 0 g→(∀b∈fp,b<g.objs.size∧(b=S∨s.heap.objs.size≤b))→I∈fp→s.heap.objs.size≤I→
   (∀b o,s.heap.get? b=some o→g.get? b=some o)→(∀(i:Nat) (s':Shared),St i s'.heap→s'.TypeIs (.ref I) "set_iterator")→Q (.ref I) { s with heap:=g,drawn:=d }) :
  wpAny (model P w) A (pyIter (.ref S)) Q E s:=by
 have ty:s.TypeIs (.ref S) "set":=⟨_,hS,rfl⟩
 have hlt:S<s.heap.objs.size:=Heap.lt_size hS
 refine wpAny_pyIter_slot ty PySem.F.slot_set_iter (wpAny_call_entry PySem.F.slot_set_iter ty K4 ?_ (PySem.F.args_set_iter_1 _))
 unfold Builtin.«frozenset.__iter__»
 show wpAny _ _ (Builtin.Frozenset.sizeOf S >>= _) _ _ s
 refine wpAny_bind ?_
 unfold Builtin.Frozenset.sizeOf
 refine wpAny_bind (wpAny_setEntries_of hS rfl h.fit (wpAny_pure ?_))
 refine wpAny_bind ?_
 unfold setDrawn setsByText
 refine wpAny_bind (wpAny_setState_of hS rfl h.fit ?_);dsimp only
 refine wpAny_bind (wpAny_bind (wpAny_askSetting (wpAny_pure (wpAny_pure ?_))));dsimp only
 have plain:∀{items:List (Int×Value)} {F:Nat→Nat→Prop},Way w S es ep t items F→wpAny (model P w) A.in1 (pure (rawInt 0)) (fun a s'=>wpAny (model P w) A.in1 (do
   ret (←newFields "set_iterator" [a,rawInt 0,.ref S,rawInt es.size,rawInt (←setEpoch S)])) (fun fin s'=>∃v,fin=Fin.done (Flow.ret v)∧∃T' r,s'.TypeIs v T'∧typeLookup (.type T') "__next__" = pure (some r)∧Q v s') E s') E s:=fun W=>by
  refine wpAny_pure (wpAny_bind (wpAny_setEpoch_of hS rfl h.fit (wpAny_bind ?_)))
  unfold newFields
  refine wpAny_newObj_type (wpAny_pure ⟨_,rfl, "set_iterator",_,⟨_,Heap.get?_push_size _ rfl,rfl⟩,slot_si_next.lookup,?_⟩) (by size_fits)
  have hne:S≠s.heap.objs.size:=Nat.ne_of_lt hlt
  have e:({ s with heap:=s.heap.push (Eu (rawInt 0) 0 S es.size ep) }:Shared)={ s with heap:=s.heap.push (Eu (rawInt 0) 0 S es.size ep),drawn:=s.drawn }:=rfl
  refine(e ▸ hQ s.heap.objs.size _ s.drawn [s.heap.objs.size,S] _ _ (W.perm.map _) (Th hh W h hne) ⟨⟨0,W.start h,Heap.get?_push_size _ rfl⟩,Heap.get?_push_of_some _ hS⟩ (fun b hb=>?_) (by simp) (Nat.le_refl _) (fun b o e=>Heap.get?_push_of_some _ e) (fun i s' ⟨⟨slot,_,hI⟩,_⟩=>⟨_,hI,rfl⟩))
  rw[Heap.size_push]
  simp only[List.mem_cons,List.not_mem_nil,or_false] at hb
  rcases hb with rfl|rfl
  ·exact⟨Nat.lt_succ_self _,.inr (Nat.le_refl _)⟩
  ·exact⟨Nat.lt_succ_of_lt hlt,.inl rfl⟩
 by_cases hbt:w.params.followText "set-order" = true
 ·refine Br (c:=(!w.params.followText "set-order" && _)=true) (by rw[hbt];simp) ?_
  exact wpAny_bind (plain (.text hbt))
 ·by_cases hd:(!t.plain&&decide (es.size>1))=true
  ·refine He (c:=(!w.params.followText "set-order" && _)=true) (by
    rw[Bool.and_eq_true]
    exact⟨by simpa using hbt,hd⟩) ?_
   refine wpAny_bind (Ow es.size (List.range es.size) s (by simp) fun ord d hp=>wpAny_bind ?_)
   unfold newTuple
   have hlen:ord.length=es.size:=by rw[hp.length_eq];simp
   have hz:es.size≤sizeLine:=fits_of_scanBound h.sz
   refine wpAny_newObj_type ?_ (by show sizeOk (.seq (ord.map fun(k:Nat)=>rawInt k).toArray);show(ord.map fun(k:Nat)=>rawInt k).toArray.size≤sizeLine;simp;omega)
   generalize hg1:s.heap.push { cls:=.type "tuple",data:=.seq (ord.map fun(k:Nat)=>rawInt k).toArray }=g1
   have hsz:g1.objs.size=s.heap.objs.size+1:=by rw[←hg1,Heap.size_push]
   have hS1:g1.get? S=some (Ar es ep t):=by rw[←hg1];exact Heap.get?_push_of_some _ hS
   have hT1:g1.get? s.heap.objs.size=some { cls:=.type "tuple",data:=.seq (ord.map fun(k:Nat)=>rawInt k).toArray }:=by rw[←hg1];exact Heap.get?_push_size _ rfl
   refine wpAny_bind (wpAny_setEpoch_of (s:={ s with heap:=g1,drawn:=d }) hS1 rfl h.fit (wpAny_bind ?_))
   unfold newFields
   refine wpAny_newObj_type (wpAny_pure ⟨_,rfl, "set_iterator",_,⟨_,Heap.get?_push_size _ rfl,rfl⟩,slot_si_next.lookup,?_⟩) (by size_fits)
   have hne:S≠g1.objs.size:=by rw[hsz];exact Nat.ne_of_lt (Nat.lt_succ_of_lt hlt)
   have hneT:s.heap.objs.size≠g1.objs.size:=by rw[hsz];exact Nat.ne_of_lt (Nat.lt_succ_self _)
   refine hQ g1.objs.size _ d [g1.objs.size,S,s.heap.objs.size] _ _ ?_ (P0 hh hp h hne hneT) ⟨Heap.get?_push_size _ rfl,Heap.get?_push_of_some _ hS1,Heap.get?_push_of_some _ hT1⟩ (fun b hb=>?_) (by simp) (by rw[hsz];exact Nat.le_succ _) (fun b o e=>?_) (fun i s' ⟨hI,_⟩=>⟨_,hI,rfl⟩)
   ·have:(List.range es.size).map (fun k=>(es.toList.map (·.2)).getD k .none)=es.toList.map (·.2):=by
     apply List.ext_getElem?
     intro i
     rw[List.getElem?_map]
     by_cases hi:i<es.size
     ·rw[List.getElem?_range hi]
      have:i<(es.toList.map (·.2)).length:=by simpa using hi
      show some ((es.toList.map (·.2)).getD i .none)=_
      rw[List.getD,List.getElem?_eq_getElem this];rfl
     ·rw[List.getElem?_eq_none (by simpa using hi),List.getElem?_eq_none (by simpa using hi)];rfl
    exact(hp.map _).trans (List.Perm.of_eq this)
   ·rw[Heap.size_push,hsz]
    simp only[List.mem_cons,List.not_mem_nil,or_false] at hb
    rcases hb with rfl|rfl|rfl
    ·rw[hsz];exact⟨Nat.lt_succ_self _,.inr (Nat.le_succ _)⟩
    ·exact⟨Nat.lt_succ_of_lt (Nat.lt_succ_of_lt hlt),.inl rfl⟩
    ·exact⟨Nat.lt_succ_of_lt (Nat.lt_succ_self _),.inr (Nat.le_refl _)⟩
   ·rw[←hg1];exact Heap.get?_push_of_some _ (Heap.get?_push_of_some _ e)
  ·refine Br (c:=(!w.params.followText "set-order" && _)=true) (fun z=>hd (by rw[Bool.and_eq_true] at z;exact z.2)) ?_
   exact wpAny_bind (plain (.tab hbt hd))
end
set_option maxHeartbeats 1000000
section
variable{P:Program}{w:World}{A:Around}{E:Value→Shared→Prop}{s:Shared}
theorem U4{S:Addr}{Q:Bool→Shared→Prop}(tyS:s.TypeIs (.ref S) "set")(h:Q false s):wpAny (model P w) A (Builtin.List.listLengthHint (.ref S)) Q E s:=by
 unfold Builtin.List.listLengthHint
 refine wpAny_bind (wpAny_specialOf tyS s_len ?_)
 (generalize hid:("set.__len__" : String)=id0;(fail_if_success (clear hid id0));wp_delta;rw[show splitId id0=some ("set", "__len__") from by subst hid;decide +kernel];subst hid)
 refine wpAny_bind (wpAny_isInstance (b:=true) tyS sub_set_self ?_)
 refine Br (by decide) ?_
 refine He (by decide +kernel) ?_
 exact wpAny_bind (wpAny_typeOf tyS (wpAny_pure h))
end
section
variable{P:Program}{w:World}{A:Around}{E:Value→Shared→Prop}{s:Shared}
theorem M4{S:Addr}{es:Array (Int×Value)}{ep:Nat}{t:SetTable}{ks:List Int}{Q:List Value→Shared→Prop}(hh:A.handled=none)(h:SOk P w es t ks)(hS:s.heap.get? S=some (Ar es ep t))(hQ:∀(vs:List Value) (s':Shared),vs.Perm (es.toList.map (·.2))→s'.gens=s.gens→s'.os=s.os→s.toks≤s'.toks→(∀b o,s.heap.get? b=some o→s'.heap.get? b=some o)→Q vs s') :
  wpAny (model P w) A (collect (.ref S)) Q E s:=by
 have hlt:S<s.heap.objs.size:=Heap.lt_size hS
 have hz:es.size≤sizeLine:=fits_of_scanBound h.sz
 unfold collect
 refine wpAny_bind (wpAny_runValue (codeAny_builtin PySem.F.entry_proto_collect ?_));rw[Around.under_plainId PySem.F.plain_proto_collect _]
 show wpAny _ A.in1 (newList [] >>= fun l=>again (.builtin "list.__iadd__" ⟨[l,.ref S],[]⟩)) _ _ s;refine wpAny_bind (wpAny_newObj_type ?_)
 refine wpAny_pure ⟨plainId_quiet PySem.F.plain_list_iadd _,codeAny_builtin PySem.F.entry_list_iadd ?_⟩;rw[Around.under_plainId PySem.F.plain_list_iadd _]
 have hS1:(s.heap.push { cls:=.type "list",data:=.seq ([]:List Value).toArray }).get? S=some (Ar es ep t):=Heap.get?_push_of_some _ hS
 have hL1:(s.heap.push { cls:=.type "list",data:=.seq ([]:List Value).toArray }).get? s.heap.objs.size=some { cls:=.type "list",data:=.seq ([]:List Value).toArray }:=Heap.get?_push_size _ rfl
 have keep1:∀b o,s.heap.get? b=some o→(s.heap.push { cls:=.type "list",data:=.seq ([]:List Value).toArray }).get? b=some o:=fun b o e=>Heap.get?_push_of_some _ e
 have hsz1:(s.heap.push { cls:=.type "list",data:=.seq ([]:List Value).toArray }).objs.size=s.heap.objs.size+1:=by rw[Heap.size_push]
 generalize s.heap.push { cls:=.type "list",data:=.seq ([]:List Value).toArray }=g1 at *
 show wpAny _ A.in1 (Builtin.List.listExtendWith (.ref s.heap.objs.size) (.ref S) (.ref s.heap.objs.size)) _ _ { s with heap:=g1 }
 unfold Builtin.List.listExtendWith
 refine wpAny_bind (wpAny_typeOf (s:={ s with heap:=g1 }) (T:="set") ⟨_,hS1,rfl⟩ ?_)
 refine Br (by
  have e1:Builtin.List.listSameRef (.ref s.heap.objs.size) (.ref S)=false:=by simp[Builtin.List.listSameRef,Nat.ne_of_gt hlt]
  rw[e1];decide) ?_
 refine wpAny_bind (Uy (A:=A.in1) (s:={ s with heap:=g1 }) hh h hS1 fun I g d fp vs St hvs W hst hfp hI hIn keep2 hty=>?_)
 have hLf:s.heap.objs.size ∉ fp:=fun z=>by
  rcases(hfp _ z).2 with e|e
  ·exact Nat.ne_of_gt hlt e
  ·rw[show({ s with heap:=g1 }:Shared).heap.objs.size=s.heap.objs.size+1 from hsz1] at e;exact Nat.not_succ_le_self _ e
 have tyS:Shared.TypeIs { s with heap:=g,drawn:=d } (.ref S) "set":=⟨_,keep2 _ _ hS1,rfl⟩
 refine wpAny_bind (wpAny_holding (U4 tyS ?_))
 refine He (by decide +kernel) (wpAny_bind (wpAny_rule (wpAny_bind ?_)))
 have hL2:=keep2 _ _ hL1
 show wpAny _ A.in1 (updateSeq s.heap.objs.size (·.push .none) >>= fun _=>updateSeq s.heap.objs.size (·.pop)) _ _ { s with heap:=g,drawn:=d }
 refine wpAny_bind (wpAny_updateSeq hL2 rfl ?_)
 have hL3:=Heap.get?_update_self (Obj.mapSeq (·.push Value.none)) hL2 rfl;refine wpAny_updateSeq hL3 rfl ?_
 have hL4:=Heap.get?_update_self (Obj.mapSeq (·.pop)) hL3 rfl
 have oth:∀b o,b≠s.heap.objs.size→g.get? b=some o→((g.update s.heap.objs.size (Obj.mapSeq (·.push Value.none))).update s.heap.objs.size (Obj.mapSeq (·.pop))).get? b=some o:=fun b o hb e=>(Heap.get?_update_other _ _ (Ne.symm hb)).trans ((Heap.get?_update_other _ _ (Ne.symm hb)).trans e)
 generalize (g.update s.heap.objs.size (Obj.mapSeq (·.push Value.none))).update s.heap.objs.size (Obj.mapSeq (·.pop))=g2 at *
 have Wt:=W.toS
 refine wpAny_pure ⟨plainId_quiet PySem.F.plain_extend_loop _,codeAny_extend_loopS Wt hz _ hLf _ es.size 0 { s with heap:=g2,drawn:=d } _ _ rfl (Nat.zero_le _) (W.frame 0 g g2 hst fun b hb o e=>oth b o (fun z=>hLf (z ▸ hb)) e) hL4 (ItemsOf.nil _) fun s' acc' c' hm hS' hacc=>?_⟩
 show wpAny _ A (load s.heap.objs.size >>= _) _ _ s';refine wpAny_bind (wpAny_load hS' (wpAny_pure ?_))
 have eacc:acc'.toList=vs:=by
  have hvl:vs.length=es.size:=by rw[hvs.length_eq];simp
  apply List.ext_getElem?
  intro i
  by_cases hi:i<acc'.size
  ·have:=hacc.2 i acc'[i] (by simp[hi])
   rw[this];simp[hi]
  ·rw[List.getElem?_eq_none (by simpa using hi),List.getElem?_eq_none (by have:=hacc.1;omega)]
 rw[eacc]
 refine hQ vs s' hvs hm.gens hm.os hm.toks fun b o e=>?_
 have hb:b<s.heap.objs.size:=Heap.lt_size e
 refine hm.heap b o ?_ (oth b o (Nat.ne_of_lt hb) (keep2 b o (keep1 b o e)))
 simp only[List.mem_cons,List.not_mem_nil,or_false,not_or]
 refine⟨Nat.ne_of_lt hb,fun z=>?_⟩
 have:g1.objs.size≤I:=hIn
 rw[hsz1,←z] at this
 exact Nat.lt_irrefl _ (Nat.lt_of_lt_of_le (Nat.lt_succ_of_lt hb) this)
end
set_option maxHeartbeats 200000
section
variable{P:Program}{w:World}{A:Around}{E:Value→Shared→Prop}{s:Shared}
theorem Nz{S:Addr}{es:Array (Int×Value)}{ep:Nat}{t:SetTable}{ks:List Int}{Q:Value→Shared→Prop}(hh:A.handled=none)(h:SOk P w es t ks)(hS:s.heap.get? S=some (Ar es ep t))(h64:es.size<64)(hQ:∀(g:Heap) (out:List Value) (ns:List Int) (n:Nat) (s':Shared),IntsAre out ns→ns.Pairwise (·≤·)→ns.Nodup→(∀k,k∈ns↔k∈ks)→ns.length=es.size→s'.gens=s.gens→s'.os=s.os→s.toks≤s'.toks→(∀b o,s.heap.get? b=some o→g.get? b=some o)→(∀b o,g.get? b=some o→s'.heap.get? b=some o)→s'.heap.get? g.objs.size=some { cls:=.type "list",data:=.seq out.toArray n }→Q (.ref g.objs.size) s') :
  wpAny (model P w) A (call (.builtin "sorted") [.ref S]) Q E s:=by
 refine Calls.call_function_entry kind_sorted plain_sorted entry_sorted (args_sorted1 _) ?_
 unfold Builtin.«sorted»
 refine wpAny_bind (m:=checkCount "sorted" 1 1 _) (wpAny_pure (wpAny_bind (M4 (A:=A.in1) hh h hS fun vs s' hvs eg eo htk keep=>?_)))
 have hI:IntsAre vs (vs.map fun v=>eI (0,v)):=by
  have:∀v∈vs,∃i u,v=Value.int i u:=fun v hv=>by
   obtain⟨e,he,rfl⟩:=List.mem_map.mp (hvs.mem_iff.mp hv)
   obtain⟨i,u,rfl⟩:=h.el e he
   exact⟨i,u,rfl⟩
  clear hvs
  induction vs with
  |nil=>exact .nil
  |cons v r ih=>
   obtain⟨i,u,rfl⟩:=this v (by simp)
   exact .cons i u (ih fun x hx=>this x (by simp[hx]))
 have pn:(vs.map fun v=>eI (0,v)).Perm (es.toList.map eI):=by
  have:=hvs.map fun v=>eI (0,v)
  rw[List.map_map] at this
  exact this
 have hvl:vs.length<64:=by rw[hvs.length_eq];simpa using h64
 refine wpAny_bind (wpAny_newList ?_ (by rw[sizeLine_eq];omega))
 have hoL:(s'.heap.push (seqObj "list" vs.toArray 0)).get? s'.heap.objs.size=some (seqObj "list" vs.toArray 0):=Heap.get?_push_size _ rfl
 show wpAny _ _ _ _ _ { s' with heap:=s'.heap.push (seqObj "list" vs.toArray 0) }
 refine wpAny_bind (wpAny_holding (wpAny_call_entry slot_list_sort ⟨_,hoL,rfl⟩ entry_list_sort (list_sort_tree hoL hI hvl fun out ns' a1 a2 a3=>⟨_,rfl,?_⟩) (args_list_sort _)))
 obtain⟨n,hn⟩:=sortedHeap_at (vs:=vs) (out:=out) hoL
 refine wpAny_pure ⟨_,rfl,hQ s'.heap out.toList ns' n _ a1 a3 ((a2.trans pn).nodup_iff.mpr h.nd) (fun k=>((a2.trans pn).mem_iff).trans (h.mem k)) (by rw[(a2.trans pn).length_eq];simp) eg eo htk keep (fun b o h1=>?_) ?_⟩
 ·have hb:b<s'.heap.objs.size:=Heap.lt_size h1
  rw[sortedHeap_old (Nat.ne_of_lt hb) (by rw[size_push'];exact Nat.lt_succ_of_lt hb)]
  exact Heap.get?_push_of_some _ h1
 ·rw[hn]
end
def Lf(x:Int):List Int→List Int
 |[]=>[x]
 |y::r=>if x<y then x::y::r else if x=y then y::r else y::Lf x r
def Ch:List Int→List Int
 |[]=>[]
 |x::r=>Lf x (Ch r)
theorem mem_insU{x z:Int}:∀{l:List Int},z∈Lf x l↔z=x∨z∈l
 |[]=>by simp[Lf]
 |y::r=>by
  rw[Lf]
  split
  ·simp
  ·split
   ·rename_i e;subst e;simp
   ·rw[List.mem_cons,mem_insU (l:=r),List.mem_cons]
    exact⟨fun h=>h.elim (fun a=>.inr (.inl a)) (fun a=>a.elim .inl fun b=>.inr (.inr b)),fun h=>h.elim (fun a=>.inr (.inl a)) fun a=>a.elim .inl fun b=>.inr (.inr b)⟩
theorem mem_sortU{z:Int}:∀{l:List Int},z∈Ch l↔z∈l
 |[]=>Iff.rfl
 |x::r=>by rw[Ch,mem_insU,mem_sortU,List.mem_cons]
theorem Ju{x:Int}:∀{l:List Int},l.Pairwise (· < ·)→(Lf x l).Pairwise (· < ·)
 |[],_=>by simp[Lf]
 |y::r,h=>by
  rw[Lf]
  obtain⟨h1,h2⟩:=List.pairwise_cons.mp h
  split
  ·rename_i hx
   refine List.pairwise_cons.mpr ⟨fun z hz=>?_,h⟩
   rcases List.mem_cons.mp hz with rfl|hz
   ·exact hx
   ·exact Int.lt_trans hx (h1 z hz)
  ·split
   ·exact h
   ·rename_i a b
    refine List.pairwise_cons.mpr ⟨fun z hz=>?_,Ju h2⟩
    rcases mem_insU.mp hz with rfl|hz
    ·omega
    ·exact h1 z hz
theorem De:∀l:List Int,(Ch l).Pairwise (· < ·)
 |[]=>List.Pairwise.nil
 |x::r=>Ju (De r)
theorem Fu:∀{a b:List Int},a.Pairwise (· < ·)→b.Pairwise (· < ·)→(∀k,k∈a↔k∈b)→a=b
 |[],[],_,_,_=>rfl
 |[],y::r,_,_,h=>absurd ((h y).mpr (by simp)) (by simp)
 |x::r,[],_,_,h=>absurd ((h x).mp (by simp)) (by simp)
 |x::r,y::q,ha,hb,h=>by
  obtain⟨a1,a2⟩:=List.pairwise_cons.mp ha
  obtain⟨b1,b2⟩:=List.pairwise_cons.mp hb
  have e:x=y:=by
   rcases List.mem_cons.mp ((h x).mp (by simp)) with e|e
   ·exact e
   ·rcases List.mem_cons.mp ((h y).mpr (by simp)) with e'|e'
    ·exact e'.symm
    ·have:=b1 x e;have:=a1 y e';omega
  subst e
  refine congrArg (x :: ·) (Fu a2 b2 fun k=>?_)
  constructor
  ·intro hk
   rcases List.mem_cons.mp ((h k).mp (List.mem_cons_of_mem _ hk)) with e|e
   ·have:=a1 k hk;omega
   ·exact e
  ·intro hk
   rcases List.mem_cons.mp ((h k).mpr (List.mem_cons_of_mem _ hk)) with e|e
   ·have:=b1 k hk;omega
   ·exact e
theorem Tt{ns ks:List Int}(h1:ns.Pairwise (·≤·))(h2:ns.Nodup)(h:∀k,k∈ns↔k∈ks):ns=Ch ks:=by
 refine Fu ?_ (De ks) fun k=>(h k).trans mem_sortU.symm
 induction ns with
 |nil=>exact .nil
 |cons x r ih=>
  obtain⟨a1,a2⟩:=List.pairwise_cons.mp h1
  obtain⟨b1,b2⟩:=List.nodup_cons.mp h2
  have:r.Pairwise (· < ·):=by
   clear ih h
   refine(List.pairwise_and_iff.mpr ⟨a2,b2⟩).imp fun⟨u,v⟩=>?_
   omega
  exact List.pairwise_cons.mpr ⟨fun y hy=>by have:=a1 y hy;have:x≠y:=fun e=>b1 (e ▸ hy);omega,this⟩
section
variable{X:Cx}{e:Expr}{te:DTE}{pos:Pos}
theorem Q5{pins:List (Addr×Obj)}{σ:St}{H:Hp}{s:Shared}{d:Drawn}(I:Inv X pins σ H s):Inv X pins σ H { s with drawn:=d }:=⟨I.ok,I.os,I.bare,I.base,I.loc,I.cell,I.free,I.freeC,I.pin,I.hok,I.len⟩
theorem Fz:∀{ns:List Int} {its:List Value},Vals (ns.map V.int) its→IntsAre its ns
 |[],_,.nil=>.nil
 |n::r,_,.cons ⟨t,rfl⟩ h=>.cons n t (Fz h)
theorem vals_ints:∀{ns:List Int} {its:List Value},IntsAre its ns→Vals (ns.map V.int) its
 |_,_,.nil=>.nil
 |_,_,.cons n t h=>.cons ⟨t,rfl⟩ (vals_ints h)
abbrev Ld(l:Addr)(es:Array (Int×Value))(ep:Nat)(t:SetTable):HO:=.ext fun h=>h.get? l=some (Ar es ep t)
theorem Rf(hc:X.calm=true):CallR X (.type "set") (fun xs H Q=>∃p ns,xs=[.ref p]∧(SqL X.K H p (ns.map V.int)∨SqT X.K H p (ns.map V.int))∧ns.length<64∧
  ∀l es ep t,H l=none→SOk X.prog X.w es t ns→es.size<64→Q (.ref l) (upd H l (Ld l es ep t))):=by
 intro pins s σ H xs us Q I r h
 obtain⟨p,ns,rfl,hq,hn,q⟩:=h
 obtain⟨u,rfl,rx⟩:=Cs r
 cases rx
 have main:∀its:List Value,Vals (ns.map V.int) its→(s.heap.IsList p its.toArray∨s.heap.IsTuple p its.toArray)→wpAny (model X.prog X.w) X.A (call (.type "set") [.ref p]) (EP X pins σ Q) X.xe s:=fun its rv hl=>by
  have hl2:=rv.length
  rw[List.length_map] at hl2
  refine Tv (I.ok.hd hc) hl (by simpa using Fz rv) (by show its.toArray.size+1<4096;simp;omega) fun h' tk es ep t htk ho hO hz kp=>?_
  have kp':∀b o,s.heap.get? b=some o→h'.get? b=some o:=fun b o e=>kp b o (Heap.lt_size e) e
  refine⟨.ref s.heap.objs.size,_,I.laid (t':=tk) (o:=Ld s.heap.objs.size es ep t) kp' (Nat.le_refl _) ?_,rfl,q _ es ep t (I.hok.fresh (Nat.le_refl _)) hO (by omega)⟩
  exact⟨ho,⟨_,ho⟩,fun h1 h2 a b=>b _ a⟩
 rcases hq with hq|hq
 ·obtain⟨its,rv,pl,_⟩:=I.list hq
  exact main its rv (.inl pl.isList)
 ·obtain⟨its,rv,pl,_⟩:=I.tuple hq
  exact main its rv (.inr pl)
theorem K5(hc:X.calm=true):CallR X (.builtin "sorted") (fun xs H Q=>∃l es ep t ks,xs=[.ref l]∧H l=some (Ld l es ep t)∧SOk X.prog X.w es t ks∧es.size<64∧∀p,H p=none→Q (.ref p) (upd H p (.lst ((Ch ks).map V.int)))):=by
 intro pins s σ H xs us Q I r h
 obtain⟨l,es,ep,t,ks,rfl,hl,hO,hz,q⟩:=h
 obtain⟨u,rfl,rx⟩:=Cs r
 cases rx
 obtain⟨ho,_⟩:=(show ObjOk X.prog X.w H s.heap l (Ld l es ep t) from I.hok l _ hl)
 refine Nz (I.ok.hd hc) hO ho hz fun g out ns n s' hI hs hnd hm hlen eg eo htk k1 k2 hL=>?_
 obtain⟨h',g',d',tk',os'⟩:=s'
 have eg:g'=s.gens:=eg
 have eo:os'=s.os:=eo
 subst eg;subst eo
 have e:ns=Ch ks:=Tt hs hnd hm
 subst e
 have I1:Inv X pins σ H { s with heap:=g,toks:=tk' }:=I.kept k1
 have I2:=I1.laid (h':=h') (t':=tk') (o:=.lst ((Ch ks).map V.int)) k2 (Nat.le_refl _) (show ObjOk X.prog X.w _ h' _ (.lst _) from⟨by rw[List.length_map,sizeLine_eq];omega,out,n,vals_ints hI,hL⟩)
 exact⟨.ref g.objs.size,_,Q5 I2,rfl,q _ (I1.hok.fresh (Nat.le_refl _))⟩
def Mb(te:DTE):DTE:=fun σ G Q=>te σ G fun d G1=>∃ns:List Int,Aw G1 d=some (ns.map D.int)∧ns.length<64∧∀p,G1 p=none→Q (.ref p) (Ab G1 p (.lst ((Ch ns).map D.int)))
theorem Fe{K:W.Frag}{H:Hp}:∀{ns:List Int} {xs:List V},DVs K H (ns.map D.int) xs→xs=ns.map V.int
 |[],_,.nil=>rfl
 |_::_,_,.cons (.int _) t=>by rw[Fe t];rfl
theorem Qj{p1 p2 p3:Pos}(hc:X.calm=true)(hm1:X.mg "sorted" = none)(hm2:X.mg "set" = none)(he:QE X e te)(hg1:Gl X "sorted":=by rfl)(hg2:Gl X "set":=by rfl)(hs1:starEach [.Call (.Name "set" p2) [e] [] p3] X.env=[(false,eval (.Call (.Name "set" p2) [e] [] p3) X.env)]:=by rfl)(hs2:starEach [e] X.env=[(false,eval e X.env)]:=by rfl) :
  QE X (.Call (.Name "sorted" p1) [.Call (.Name "set" p2) [e] [] p3] [] pos) (Mb te):=by
 refine(Hm (K5 hc) hg1 hm1 (by decide +kernel) (Da (Jl (Rf hc) hg2 hm2 (by decide +kernel) (Da he pa_nil hs2) (he:=hs2)) pa_nil hs1) (he:=hs1)).imp fun σ H Q ⟨σD,G,Q',rs,rg,h,cl⟩=>?_
 refine⟨σD,G,_,rs,rg,h,fun d G1 ⟨ns,en,hn,q⟩ H1 x1 rg1 v dv=>?_⟩
 have go:∀a,v=.ref a→(SqL X.K H1 a (ns.map V.int)∨SqT X.K H1 a (ns.map V.int))→∃p ms,[v]=[V.ref p]∧(SqL X.K H1 p (ms.map V.int)∨SqT X.K H1 p (ms.map V.int))∧ms.length<64∧
   ∀l es ep t,H1 l=none→SOk X.prog X.w es t ms→es.size<64→tNil σ (upd H1 l (Ld l es ep t)) (fun vs H2=>∃l' es' ep' t' ks,V.ref l::vs=[V.ref l']∧H2 l'=some (Ld l' es' ep' t')∧SOk X.prog X.w es' t' ks∧es'.size<64∧∀p,H2 p=none→Q (.ref p) (upd H2 p (.lst ((Ch ks).map V.int)))):=fun a e hq=>by
  subst e
  refine⟨a,ns,rfl,hq,hn,fun l es ep t hl hO hz=>⟨l,es,ep,t,ns,rfl,Ah,hO,hz,fun p hp=>?_⟩⟩
  have x2:Ext H1 (upd H1 l (Ld l es ep t)):=Ext.fresh hl
  have rg2:RelG X.K (upd H1 l (Ld l es ep t)) G1:=rg1.tup hl
  exact cl _ _ (q p (rg2.free hp)) _ (x1.trans (x2.trans (Ext.fresh hp))) (rg2.lst hp DVs.ints) _ (.ref p)
 cases dv with
 |tup e r=>cases en;rw[Fe r] at e;exact go _ rfl (.inr (.inl (.inl e)))
 |@lint ms a e=>
  have:ms=ns:=by
   simp only[Aw,Option.some.injEq] at en
   exact(List.map_inj_right (fun _ _ h=>by cases h;rfl)).mp en
  subst this
  exact go a rfl (.inl e.sq)
 |ref a=>
  simp only[Aw] at en
  split at en
  ·rename_i ds g
   cases en
   obtain⟨xs,e,r⟩:=rg1 a _ g
   rw[Fe r] at e
   exact go a rfl (.inl (.inl (.inl e)))
  ·cases en
 |_=>cases en
end
section
variable{P:Program}{w:World}{A:Around}{R:Result→Shared→Prop}
end
section
variable{X:Cx}
end
section
variable{X:Cx}{a:Expr}{ta:DTE}{pos:Pos}
end
structure FnIs(K:PySem.W.Frag)(x:Str)(st:Stmt):Prop where
 ex:∃f fd,Fun K x x st f fd∧PySem.W.nsIn K mainGlobals x=some (some (.ref f))∧PySem.W.keepIn K (.ref f)=true
theorem An{K:W.Frag}{x:Str}{st:Stmt}{f:Addr}{od an:Option Addr}{sl:Array (Option Value)}{oc kV dc pm cd ct:Value}(a:PySem.W.nsIn K mainGlobals x=some (some (.ref f)))(l:K.lookup f=some ⟨oc,od,.func (PySem.W.fnOf x x (D5 st) (Bx st) (Ac st) .none kV dc pm an cd ct),sl⟩)(c:PySem.W.codeIn K cd x=true)(k:PySem.W.keepIn K (.ref f)=true):FnIs K x st:=
 ⟨f,_,S6 l c k,a,k⟩
theorem A6{P:Program}{w:World}{K:W.Frag}{h:Heap}{mg:Str→Option Value}{base:Heap}{x:Str}{st:Stmt}{k:Nat}{ps:List Str}{sp:DSp}(I:FnIs K x st)(X:K.In h)(G:h.Ns mainGlobals mg)(hb:∀f fd,Fun K x x st f fd→Binds K fd ps [])(ok:∀f fd,Fun K x x st f fd→FnOk P w K mg base CX0 k f fd ps (Ai K sp)):Def P w K mg base CX0 k x ps sp:=by
 obtain⟨f,fd,F,a,kp⟩:=I.ex
 exact⟨f,fd,ok f fd F,PySem.W.mg_of X G a,kp,hb f fd F⟩
section
variable{X:Cx}{o e:Expr}{to te:DTE}{pos pos':Pos}{f:Str}{C:Addr}
theorem Uh{α β:Type}{R:α→β→Prop}{xs:List α}{ys:List β}(h:Paired R xs ys):xs.length=ys.length:=by
 induction h with
 |nil=>rfl
 |cons _ _ ih=>exact congrArg (· + 1) ih
end
section
variable{X:Cx}{pins:List (Addr×Obj)}{σ:St}{H:Hp}{s:Shared}{A:Around}{E:Value→Shared→Prop}
theorem Q9{a:Addr}{kvs:List (Key×V)}{k:Key}{v:V}{u r:Value}{Q:Unit→Shared→Prop}(I:Inv X pins σ H s)(e:H a=some (.dK kvs))(l:kvs.length<sizeLine)(ry:RelV (kV k) u)(rv:RelV v r)(h:∀s',Inv X pins σ (upd H a (.dK (Et kvs k v))) s'→Q () s'):wpAny (model X.prog X.w) A (dictSet a u r) Q E s:=by
 obtain⟨z,hd,vs,rel,dd⟩:=Lq I.hok e
 have hz:vs.length≤sizeLine:=by rw[←rel.length];exact z
 have hl:(Et kvs k v).length≤sizeLine:=by have:=M2 kvs k v;omega
 unfold dictSet
 refine wpAny_holding (wpAny_bind ((A5 X.prog X.w).pyHash (Ot ry) ?_))
 refine wpAny_dictSetHashed_pairs (hsz:=hz) (Ot ry) dd fun h' dd' hs=>h _ ?_
 have he:∃q,h'.get? a=some q:=let ⟨q,_,_,hq,_⟩:=dd';⟨q,hq⟩
 exact Xf (I.tok _) (by rw[e];exact True.intro) hs he (Aaa hl hd (rel.put k rv) dd')
end
def Sl(P:Program)(w:World)(A:Around)(env:Env)(tg kx vx:Expr)(ifs:List Expr)(it:Value)(acc:Addr)(X:Value→Shared→Prop)(nxt:Shared→Prop)(v:Value)(t:Shared):Prop:=
 wpAny (model P w) A (letOwnedTupleGo tg it v) (fun _ a=>wpAny (model P w) A (assign tg env v) (fun _ b=>wpAny (model P w) A (Hf ifs env) (fun y c=>
  if y=true then wpAny (model P w) A (eval kx env) (fun e d=>wpAny (model P w) A (eval vx env) (fun e2 d2=>wpAny (model P w) A (dictSet acc e e2) (fun _ f=>nxt f) X d2) X d) X c else nxt c) X b) X a) X t
theorem M3{P:Program}{w:World}{A:Around}{R:Result→Shared→Prop}{s:Shared}{kx vx tg src:Expr}{ifs:List Expr}{sc:Scope}{pl:Pos}{it:Value}{acc:Addr}{env:Env}(V:Nat→Shared→Prop)(go:∀k t,V k t→wpAny (model P w) A (pyNext it) (fun r u=>match r with
   |none=>R (.ok .next) u
   |some v=>Sl P w A env tg kx vx ifs it acc (notedBy (model P w) A env fun e z=>R (.error e) z) (fun z=>∃m,m<k∧V m z) v u) (notedBy (model P w) A env fun e z=>R (.error e) z) t)(k:Nat)(h0:V k s):codeAny (model P w) A (.compLoop (.DictComp kx vx [⟨tg,src,ifs,0⟩] sc pl) 0 it (.ref acc) env) R s:=by
 refine codeAny_loop rfl V (fun k t hv=>(show wpAny _ A ((compTurn (.DictComp kx vx [⟨tg,src,ifs,0⟩] sc pl) 0 it (.ref acc) env).onRaise (fun x=>do noteFrame x env;theTreesLotGoes x)) _ _ t from wpAny_noted ?_)) k h0
 rw[compTurn_dict];refine wpAny_bind (wpAny_standAt (wpAny_bind (wpAny_mono (go k t hv) (fun r u hr=>?_) fun _ _ z=>z)))
 cases r with
 |none=>exact wpAny_pure hr
 |some v=>
  refine wpAny_bind (wpAny_mono hr (fun _ a ha=>wpAny_bind (wpAny_mono ha (fun _ b hb=>wpAny_bind (wpAny_mono hb (fun y c hc=>?_) fun _ _ z=>z)) fun _ _ z=>z)) fun _ _ z=>z)
  cases y with
  |true=>exact wpAny_bind (wpAny_bind (wpAny_mono hc (fun e d hd=>wpAny_bind (wpAny_holding (wpAny_mono hd (fun e2 d2 hd2=>wpAny_bind (wpAny_standAt (wpAny_holding (wpAny_mono hd2 (fun _ f hf=>wpAny_pure ⟨rfl,hf⟩) fun _ _ z=>z)))) fun _ _ z=>z))) fun _ _ z=>z))
  |false=>refine wpAny_pure ⟨rfl,?_⟩;exact hc
def Vx(n:Nat)(wi:TI)(g:TG)(tf:TT)(tk tv:TE):TE:=fun σ H Q=>wi σ H fun J H1=>∀p,H1 p=none→∃W:Nat→Nat→St→Hp→Prop,(∃m,W 0 m (List.replicate n none++σ) (upd H1 p (.dK [])))∧∀i m σ1 H,W i m σ1 H→
 ((J.stop i H∧Q (.ref p) H)∨(J.go i H∧∃N:St→Hp→Prop,(∀σ' H',N σ' H'→∃m',m'<m∧W (i+1) m' σ' H')∧
  ∀x H',J.yld i H x H'→g x σ1 H' fun σ2 H2=>tf σ2 H2 fun b H3=>if b=true then tk σ2 H3 fun y H4=>tv σ2 H4 fun z H5=>∃kvs k,y=kV k∧H5 p=some (.dK kvs)∧kvs.length<sizeLine∧N σ2 (upd H5 p (.dK (Et kvs k z))) else N σ2 H3))
theorem Qo{X:Cx}{kx vx iter tg:Expr}{ifs:List Expr}{scope:Scope}{cl:List (Str×Addr)}{pos:Pos}{wi:TI}{g:TG}{tf:TT}{tk tv:TE}{T M:List Str}(hc:X.calm=true)(ok:CompOz X scope cl T M)(hi:PI X tg iter wi)(hg:∀s H fp,PG (Ak X scope cl T M s H fp) tg g)(hf:∀s H fp,PF (Ak X scope cl T M s H fp) ifs tf)(hk:∀s H fp,PE (Ak X scope cl T M s H fp) kx tk)(hv:∀s H fp,PE (Ak X scope cl T M s H fp) vx tv)(hs:∀x,foldedSetIterable iter X.env x=pure x:=by intro _;rfl):PE X (.DictComp kx vx [⟨tg,iter,ifs,0⟩] scope pos) (Vx T.length wi g tf tk tv):=by
 intro pins s σ H Q I h
 rw[show eval (.DictComp kx vx [⟨tg,iter,ifs,0⟩] scope pos) X.env=comprehension (.DictComp kx vx [⟨tg,iter,ifs,0⟩] scope pos) scope X.env (firstIterPos [⟨tg,iter,ifs,0⟩] pos) newDict (firstAsync [⟨tg,iter,ifs,0⟩]) (firstIter [⟨tg,iter,ifs,0⟩] X.env) from rfl]
 refine wpAny_comprehension_free (use:=none) (cl:=cl) rfl hs ok.clos ok.kind ok.names (thn (hi pins s σ H _ I h) fun v s1 h1=>thn h1 fun itv s2 h2=>?_)
 obtain⟨it,fp,tn,J,H2,e,I2,Tn,st2,f2,q⟩:=h2
 subst e
 have q:=q s2.heap.objs.size (I2.hok.fresh (Nat.le_refl _))
 refine wpAny_newObj_type ?_
 -- the new list,tracked
 have I3:Inv X pins σ (upd H2 s2.heap.objs.size (.dK [])) { s2 with heap:=s2.heap.push { cls:=.type "dict",data:=.dict #[] } }:=
  I2.laid (t':=s2.toks) (fun b u e=>Heap.get?_push_of_some _ e) (Nat.le_refl _) (Mp _ I2.big)
 generalize hH3:upd H2 s2.heap.objs.size (.dK [])=H3 at I3 q
 generalize hs3:({ s2 with heap:=s2.heap.push { cls:=.type "dict",data:=.dict #[] } }:Shared)=s3 at I3
 have fpl:∀b∈fp,b<s2.heap.objs.size:=fun b hb=>let ⟨o,e,_⟩:=Tn.obj 0 _ st2 b hb;Heap.lt_size e
 have sz3:s2.heap.objs.size≤s3.heap.objs.size:=by rw[←hs3];show _≤(s2.heap.push _).objs.size;rw[Heap.size_push];exact Nat.le_succ _
 have fok:∀b∈fp,Ed X pins H3 b:=fun b hb=>⟨by rw[←hH3,Af (Nat.ne_of_lt (fpl b hb))];exact(f2 b hb).1,(f2 b hb).2⟩
 have k23:∀b o,s2.heap.get? b=some o→s3.heap.get? b=some o:=fun b o e=>by rw[←hs3];exact Heap.get?_push_of_some _ e
 have st3:tn 0 s3.heap:=Tn.keep _ _ _ st2 fun b _ o e=>k23 b o e
 refine Hn ok.kind (fun h4 hns4 k34 okc=>?_)
 have oldc:∀x c,cl.lookup x=some c→c<s3.heap.objs.size:=fun x c e=>by
  obtain⟨v,o,ho,_⟩:=I3.cell x c (ok.sub x c e).1
  exact Heap.lt_size ho
 have hc1:=Kq (h':=h4) ok okc oldc
 have hc2:=Kp (h':=h4) ok okc oldc
 have I4:Inv (Ak X scope cl T M s3 H3 fp) [] (Nb T σ) H3 { s3 with heap:=h4 }:=
  F0 ok I3 (fun b hb=>⟨fok b hb,Nat.lt_of_lt_of_le (fpl b hb) sz3⟩) hns4 k34 rfl rfl hc1 hc2
 have st4:tn 0 h4:=Tn.keep _ _ _ st3 fun b _ o e=>k34 b o e
 obtain⟨W,⟨m0,w0⟩,turn⟩:=q
 have cfpc:∀b∈fp,∀x c,(A3 scope cl s3.heap.objs.size).lookup x=some c→c≠b:=fun b hb x c e=>by
  rcases B3 ok s3.heap.objs.size x c e with ⟨_,a2⟩|⟨a1,_⟩
  ·exact Nat.ne_of_gt (Nat.lt_of_lt_of_le (Nat.lt_of_lt_of_le (fpl b hb) sz3) (Nat.le_of_succ_le a2))
  ·exact(fok b hb).2.2.2.2.1 x c (ok.sub x c a1).1
 have cfp:∀{H':Hp},(∀b∈fp,H' b=none)→∀b∈fp,Ed (Ak X scope cl T M s3 H3 fp) [] H' b:=fun hn b hb=>by
  refine⟨hn b hb,Nat.ne_of_lt (Nat.lt_of_lt_of_le (fpl b hb) sz3),fun z=>?_,.inl hb,fun x c e=>cfpc b hb x c e,fun p hp=>absurd (show p∈([]:List (Addr×Obj)) from hp) (by simp)⟩
  rcases List.mem_cons.mp (I3.stkSub b z) with e|e
  ·exact(fok b hb).2.1 e
  ·exact(fok b hb).2.2.1 e
 have fin:∀(σ':St) (H':Hp) (s':Shared),Inv (Ak X scope cl T M s3 H3 fp) [] σ' H' s'→Q (.ref s2.heap.objs.size) H'→compPost (model X.prog X.w) X.A X.xe none (EP X pins σ Q) (.ref s2.heap.objs.size) s3.heap.objs.size (.ok .next) s':=fun σ' H' s' J q=>by
  obtain⟨m',hm',_⟩:=J.loc
  refine⟨m',hm',fun h' hs'=>?_⟩
  have J0:Inv X pins σ H' s':=I3.call' (ch:=fp) J.os J.base J.hok J.bare fun b hb=>⟨(fok b hb).2.2.2.1,(fok b hb).2.1,(fok b hb).2.2.2.2.1,(fok b hb).2.2.2.2.2⟩
  have nC:=I3.fpOk (H':=H') (Nat.le_refl s3.heap.objs.size) J.free
  exact⟨.ref s2.heap.objs.size,H',J0.turned (t':=s'.toks) (fun b o hb e=>(hs'.2 b hb).trans e) nC.1 nC.2.1 nC.2.2.2.1 nC.2.2.2.2.1 nC.2.2.2.2.2,rfl,q⟩
 have loop:∀s5:Shared,s5={ s3 with heap:=h4 }→
   codeAny (model X.prog X.w) X.A (.compLoop (.DictComp kx vx [⟨tg,iter,ifs,0⟩] scope pos) 0 (.ref it) (.ref s2.heap.objs.size) (compEnvC scope (A3 scope cl s3.heap.objs.size) s3.heap.objs.size X.env))
    (compPost (model X.prog X.w) X.A X.xe none (EP X pins σ Q) (.ref s2.heap.objs.size) s3.heap.objs.size) s5:=by
  rintro s5 rfl
  refine M3 (fun k s'=>∃i σ' H',Inv (Ak X scope cl T M s3 H3 fp) [] σ' H' s'∧tn i s'.heap∧(∀b∈fp,H' b=none)∧W i k σ' H') ?_ m0 ⟨0,Nb T σ,H3,I4,st4,fun b hb=>(fok b hb).1,w0⟩
  rintro k s6 ⟨i,σ6,H6,I6,st6,fr6,w6⟩
  rcases turn i k σ6 H6 w6 with ⟨stop,qn⟩|⟨go,N,hN,step⟩
  ·refine wpAny_mono (Tn.done (Ak X scope cl T M s3 H3 fp) rfl rfl rfl hc i [] s6 _ H6 (fun _ _=>False) I6 (cfp fr6) st6 stop) (fun r s7 ⟨hr,I7⟩=>?_) fun _ _ z=>z.elim
   subst hr
   exact fin _ H6 s7 I7 qn
  ·refine wpAny_mono (Tn.item (Ak X scope cl T M s3 H3 fp) rfl rfl rfl hc i [] s6 _ H6 (fun _ _=>False) I6 (cfp fr6) st6 go) (fun r s7 ⟨u,hr,h7⟩=>?_) fun _ _ z=>z.elim
   subst hr
   show Sl _ _ _ _ _ _ _ _ _ _ _ _ _ _;unfold Sl
   refine wpAny_mono h7 (fun _ s8 h8=>?_) fun _ _ z=>z.elim
   obtain⟨x7,H7,I7,r7,y7,st7,fr7⟩:=h8
   have I7':=I7.pinned (cfp fr7) (Tn.obj _ _ st7)
   have back:∀{σ8:St} {H8:Hp} {s9:Shared},Inv (Ak X scope cl T M s3 H3 fp) ([]++Cq fp s8.heap) σ8 H8 s9→tn (i+1) s9.heap∧∀b∈fp,H8 b=none:=fun {σ8 H8 s9} I8=>by
    refine⟨Tn.keep _ _ _ st7 fun b hb o e=>(I8.pin (b,o) (List.mem_append_right _ (List.mem_append_right _ (Bm hb e)))).1,fun b hb=>?_⟩
    obtain⟨o,e,d⟩:=Tn.obj _ _ st7 b hb
    exact(I8.pin (b,o) (List.mem_append_right _ (List.mem_append_right _ (Bm hb e)))).2.1
   have again:∀{σ9:St} {H9:Hp} {s9:Shared},Inv (Ak X scope cl T M s3 H3 fp) ([]++Cq fp s8.heap) σ9 H9 s9→N σ9 H9→
     ∃m,m<k∧∃i σ' H',Inv (Ak X scope cl T M s3 H3 fp) [] σ' H' s9∧tn i s9.heap∧(∀b∈fp,H' b=none)∧W i m σ' H':=fun {σ9 H9 s9} I9 n9=>by
    obtain⟨m',hm,w9⟩:=hN σ9 H9 n9
    obtain⟨b1,b2⟩:=back I9
    exact⟨m',hm,i+1,σ9,H9,I9.unpinned,b1,b2,w9⟩
   refine wpAny_mono (hg s3 H3 fp _ s8 σ6 H7 x7 u _ I7' r7 (step x7 H7 y7)) (fun _ s9 ⟨σ9,H9,I9,q9⟩=>?_) fun _ _ z=>z.elim
   refine wpAny_mono (hf s3 H3 fp _ s9 σ9 H9 _ I9 q9) (fun okb s10 ⟨H10,I10,q10⟩=>?_) fun _ _ z=>z.elim
   cases okb with
   |false=>
    rw[if_neg Bool.false_ne_true] at q10 ⊢
    exact again I10 q10
   |true=>
    rw[if_pos rfl] at q10 ⊢
    refine wpAny_mono (hk s3 H3 fp _ s10 σ9 H10 _ I10 q10) (fun y s11 ⟨yv,H11,I11,ry,q11⟩=>?_) fun _ _ z=>z.elim
    refine wpAny_mono (hv s3 H3 fp _ s11 σ9 H11 _ I11 q11) (fun z s12 ⟨zv,H12,I12,rz,kvs,k,ek,e12,l12,n12⟩=>?_) fun _ _ z=>z.elim
    subst ek
    exact Q9 (X:=Ak X scope cl T M s3 H3 fp) I12 e12 l12 ry rz fun s13 I13=>again I13 n12
 exact codeAny_compStart_dict (loop _ rfl) (Tn.self _ 0 _ _ _ st4 (loop _ rfl))


section
variable{κ:Type}[DecidableEq κ]
def Es(kvs:List (κ×D))(k:κ):Option D:=(kvs.find? fun kv=>decide (kv.1=k)).map (·.2)
def Py(kvs:List (κ×D))(k:κ)(d:D):List (κ×D):=if (kvs.any fun kv=>decide (kv.1=k))=true then kvs.map (fun kv=>if kv.1=k then (kv.1,d) else kv) else kvs++[(k,d)]
abbrev Ent(κ:Type)(K:PySem.W.Frag)(H:Hp):κ×D→κ×V→Prop:=fun p q=>p.1=q.1∧DV K H p.2 q.2
variable{K:W.Frag}{H:Hp}
theorem Pg{k:κ}:∀{kvs:List (κ×D)} {ks:List (κ×V)},Paired (Ent κ K H) kvs ks→(Es kvs k=none∧Di ks k=none)∨∃d v,Es kvs k=some d∧Di ks k=some v∧DV K H d v
 |_,_,.nil=>.inl ⟨rfl,rfl⟩
 |(a,x)::r,_,.cons (b:=(b,y)) h t=>by
  obtain⟨e,hv⟩:=h
  cases(show a=b from e)
  by_cases ha:a=k
  ·exact .inr ⟨x,y,by simp[Es,ha],by simp[Di,ha],hv⟩
  ·have e1:Es ((a,x)::r) k=Es r k:=by simp[Es,List.find?_cons,ha]
   have e2:∀z,Di ((a,y)::z) k=Di z k:=fun z=>by simp[Di,List.find?_cons,ha]
   rw[e1,e2]
   exact Pg t
theorem Pi{k:κ}:∀{kvs:List (κ×D)} {ks:List (κ×V)},Paired (Ent κ K H) kvs ks→(kvs.any fun kv=>decide (kv.1=k))=(ks.any fun kv=>decide (kv.1=k))
 |_,_,.nil=>rfl
 |(a,x)::r,_,.cons (b:=(b,y)) h t=>by
  cases(show a=b from h.1)
  rw[List.any_cons,List.any_cons,Pi t]
theorem Ph{k:κ}{d:D}{v:V}(hd:DV K H d v):∀{kvs:List (κ×D)} {ks:List (κ×V)},Paired (Ent κ K H) kvs ks→Paired (Ent κ K H) (kvs.map (fun kv=>if kv.1=k then (kv.1,d) else kv)) (ks.map (fun kv=>if kv.1=k then (kv.1,v) else kv))
 |_,_,.nil=>.nil
 |(a,x)::r,_,.cons (b:=(b,y)) h t=>by
  obtain⟨e,hv⟩:=h
  cases(show a=b from e)
  rw[List.map_cons,List.map_cons]
  refine .cons ?_ (Ph hd t)
  show Ent κ K H (if a=k then (a,d) else (a,x)) (if a=k then (a,v) else (a,y))
  by_cases ha:a=k
  ·rw[if_pos ha,if_pos ha];exact⟨rfl,hd⟩
  ·rw[if_neg ha,if_neg ha];exact⟨rfl,hv⟩
theorem Mm{p:κ×D}{q:κ×V}(h:Ent κ K H p q):∀{kvs:List (κ×D)} {ks:List (κ×V)},Paired (Ent κ K H) kvs ks→Paired (Ent κ K H) (kvs++[p]) (ks++[q])
 |_,_,.nil=>.cons h .nil
 |_::_,_,.cons h' t=>.cons h' (Mm h t)
theorem Xd{k:κ}{d:D}{v:V}(hd:DV K H d v){kvs:List (κ×D)}{ks:List (κ×V)}(r:Paired (Ent κ K H) kvs ks):Paired (Ent κ K H) (Py kvs k d) (Et ks k v):=by
 unfold Py Et
 rw[Pi r]
 split
 ·exact Ph hd r
 ·exact Mm ⟨rfl,hd⟩ r
theorem Xe{kvs:List (κ×D)}{ks:List (κ×V)}(r:Paired (Ent κ K H) kvs ks):kvs.length=ks.length:=Uh r
end
theorem RelG.dkN{K:W.Frag}{H:Hp}{G:Gp}(r:RelG K H G){p:Addr}(hp:H p=none):RelG K (upd H p (.dK [])) (Ab G p (.dkk [])):=by
 intro a o ea
 by_cases ha:a=p
 ·subst ha
  rw[Aa] at ea
  cases ea
  exact⟨[],Ah,.nil⟩
 ·rw[Am ha] at ea
  exact(r a o ea).upd (Ext.fresh hp) (.inl hp)
theorem Nu{H:Hp}{p:Addr}{ks:List (Key×V)}{u:HO}(e:H p=some (.dK ks)):Ext H (upd H p u):=Ext.write e (fun xs z=>by cases z) (fun ob w z=>by cases z)
theorem RelG.dkW{K:W.Frag}{H:Hp}{G:Gp}(r:RelG K H G){p:Addr}{ks ks':List (Key×V)}{kvs':List (Key×D)}(e:H p=some (.dK ks))(pr:Paired (Ent Key K H) kvs' ks'):RelG K (upd H p (.dK ks')) (Ab G p (.dkk kvs')):=by
 have x:Ext H (upd H p (.dK ks')):=Nu e
 intro a o ea
 by_cases ha:a=p
 ·subst ha
  rw[Aa] at ea
  cases ea
  exact⟨ks',Ah,L2.Paired.mapP pr fun _ _ z=>⟨z.1,z.2.ext x⟩⟩
 ·rw[Am ha] at ea
  exact(r a o ea).upd x (.inr ha)
def Rz:D→Option Key
 |.int i=>some (.inl i)
 |.str x=>some (.inr x)
 |_=>none
theorem Pd{K:W.Frag}{H:Hp}{d:D}{v:V}{k:Key}(e:Rz d=some k)(dv:DV K H d v):v=kV k:=by
 cases d<;>simp only[Rz,Option.some.injEq,reduceCtorEq] at e
 ·subst e;cases dv;rfl
 ·subst e;cases dv;rfl

def Sk(n:Nat)(p:Addr)(ds:List D)(same:Gp→Prop)(g:DTG)(tf:DTT)(tk tv:DTE)(σ:DSt)(G:Gp)(Q:DK):Prop:=∃P:Nat→List (Key×D)→Gp→Prop,P 0 [] G∧(∀i kvs G,i≤ds.length→P i kvs G→same G∧G p=some (.dkk kvs))∧
 (∀i x kvs G,ds[i]? = some x→P i kvs G→g x (List.replicate n none++σ) G fun σ2 G2=>Si n σ σ2∧tf σ2 G2 fun b G3=>if b=true then tk σ2 G3 fun y G4=>tv σ2 G4 fun z G5=>∃k,Rz y=some k∧G5 p=some (.dkk kvs)∧kvs.length<sizeLine∧Fg (P (i+1) (Py kvs k z)) (Ab G5 p (.dkk (Py kvs k z))) else Fg (P (i+1) kvs) G3)∧
 ∀kvs G,P ds.length kvs G→Q (.ref p) G
theorem Od{K:W.Frag}{J:It}{n:Nat}{p:Addr}{ds:List D}{same:Gp→Prop}{g:DTG}{tf:DTT}{tk tv:DTE}{Q:DK}{QV:VK}{σD:DSt}{σ:St}{G:Gp}{H:Hp}(rs:RelS K H σD σ)(rg:RelG K H G)(hp:H p=none)(cl:∀d G',Q d G'→Fwd K H G' fun H'=>∀v,DV K H' d v→QV v H')(hJ:∀H' G',Ext H H'→RelG K H' G'→same G'→ItemsX K J H' ds)(h:Sk n p ds same g tf tk tv σD (Ab G p (.dkk [])) Q) :
  ∃W:Nat→Nat→St→Hp→Prop,(∃m,W 0 m (List.replicate n none++σ) (upd H p (.dK [])))∧∀i m σ1 H,W i m σ1 H→
   ((J.stop i H∧QV (.ref p) H)∨(J.go i H∧∃N:St→Hp→Prop,(∀σ' H',N σ' H'→∃m',m'<m∧W (i+1) m' σ' H')∧
    ∀x H',J.yld i H x H'→Cu K g x σ1 H' fun σ2 H2=>Dh K tf σ2 H2 fun b H3=>if b=true then Bk K tk σ2 H3 fun y H4=>Bk K tv σ2 H4 fun z H5=>∃kvs k,y=kV k∧H5 p=some (.dK kvs)∧kvs.length<sizeLine∧N σ2 (upd H5 p (.dK (Et kvs k z))) else N σ2 H3)):=by
 obtain⟨P,p0,keep,step,fin⟩:=h
 refine⟨fun i m σ' H'=>m=ds.length-i∧i≤ds.length∧RelS K H' (List.replicate n none++σD) σ'∧∃yd G',RelG K H' G'∧Ext H H'∧P i yd G',
  ⟨ds.length,rfl,Nat.zero_le _,(O9 n rs).ext (Ext.fresh hp),[],_,rg.dkN hp,Ext.fresh hp,p0⟩,?_⟩
 rintro i m σ1 H1 ⟨rfl,hi,rs1,yd,G1,rg1,x1,p1⟩
 obtain⟨sm,gp⟩:=keep i yd G1 hi p1
 have I:=hJ H1 G1 x1 rg1 sm
 by_cases hlt:i<ds.length
 ·refine .inr ⟨I.go i hlt,fun σ' H'=>RelS K H' (List.replicate n none++σD) σ'∧∃yd' G',RelG K H' G'∧Ext H H'∧P (i+1) yd' G',fun σ' H' ⟨a2,yd',G',a3,a4,a5⟩=>⟨ds.length-(i+1),by omega,rfl,hlt,a2,yd',G',a3,a4,a5⟩,fun x H' y=>?_⟩
  obtain⟨xe,rge,d,ed,dv⟩:=I.yl i x H' hlt y
  refine⟨d,_,G1,_,dv,rs1.ext xe,rge _ rg1,step i d yd G1 ed p1,fun σ2 G2 ⟨⟨pre,hpre,e2⟩,st2⟩ H2 x2 rg2 σ' rs2=>?_⟩
  have back:∀{H5:Hp} {σ5:St},RelS K H5 σ2 σ5→RelS K H5 (List.replicate n none++σD) σ5:=fun {H5 σ5} r=>by
   refine⟨by rw[←r.1,e2,List.length_append,List.length_append,List.length_replicate,hpre],fun j d e=>?_⟩
   refine r.2 j d ?_
   by_cases hj:j<n
   ·rw[List.getElem?_append_left (by simpa using hj),List.getElem?_replicate,if_pos hj] at e
    cases e
   ·rw[List.getElem?_append_right (by simpa using hj),List.length_replicate] at e
    rw[e2,List.getElem?_append_right (by omega),hpre];exact e
  refine⟨σ2,G2,_,rs2,rg2,st2,fun b G3 h3 H3 x3 rg3=>?_⟩
  have x13:=x1.trans (xe.trans (x2.trans x3))
  dsimp only at h3 ⊢
  cases b with
  |false=>
   rw[if_neg Bool.false_ne_true] at h3 ⊢
   obtain⟨G4,sb,p4⟩:=h3
   exact⟨back (rs2.ext x3),yd,G4,rg3.ext' sb,x13,p4⟩
  |true=>
   rw[if_pos rfl] at h3 ⊢
   refine⟨_,G3,_,rs2.ext x3,rg3,h3,fun y4 G4 h4 H4 x4 rg4 v4 d4=>?_⟩
   refine⟨_,G4,_,rs2.ext (x3.trans x4),rg4,h4,fun z G5 ⟨k,ek,e5,l5,G6,sb,p6⟩ H5 x5 rg5 v5 d5=>?_⟩
   obtain⟨xs,ex,r⟩:=rg5 p _ e5
   exact⟨xs,k,Pd ek d4,ex,by rw[←Xe r];exact l5,back ((rs2.ext (x3.trans (x4.trans x5))).ext (Nu ex)),_,G6,(rg5.dkW ex (Xd d5 r)).ext' sb,(x13.trans (x4.trans x5)).trans (Nu ex),p6⟩
 ·have e:i=ds.length:=by omega
  subst e
  exact .inl ⟨I.st,cl _ G1 (fin yd G1 p1) H1 x1 rg1 _ (.ref p)⟩
section
variable{X:Cx}{kx vx iter tg:Expr}{ifs:List Expr}{scope:Scope}{pos:Pos}{ti tk tv:DTE}{tf:DTT}{g:DTG}{T M:List Str}
def Nt(n:Nat)(ti:DTE)(g:DTG)(tf:DTT)(tk tv:DTE):DTE:=fun σ G Q=>ti σ G fun d G1=>∃ds,Aw G1 d=some ds∧∀p,G1 p=none→Sk n p ds (fun G'=>Aw G' d=some ds) g tf tk tv σ (Ab G1 p (.dkk [])) Q
theorem q_dcomp(hc:X.calm=true)(ok:CompOz X scope (Bq X.env.cells scope.names []) T M)(hi:QE X iter ti)(hg:QGz X scope T M tg g)(hf:QFz X scope T M ifs tf)(hk:QEz X scope T M kx tk)(hv:QEz X scope T M vx tv)(hs:∀x,foldedSetIterable iter X.env x=pure x:=by intro _;rfl):QE X (.DictComp kx vx [⟨tg,iter,ifs,0⟩] scope pos) (Nt T.length ti g tf tk tv):=
 (Qo (g:=Cu X.K g) (tf:=Dh X.K tf) (tk:=Bk X.K tk) (tv:=Bk X.K tv) hc ok (Kc hi) hg hf hk hv hs).imp fun σ H Q ⟨σD,G,Q',rs,rg,h,cl⟩=>by
 refine⟨σD,G,_,rs,rg,h,fun d G1 ⟨ds,ei,L⟩ H1 x1 rg1 v dv=>?_⟩
 obtain⟨a,rfl⟩:=Fc ei dv
 refine⟨a,rfl,?_⟩
 have lp:=fun p hp=>Od (J:=jOf X.K d a) (rs.ext x1) rg1 hp (fun d' G' q=>(cl d' G' q).go x1) (fun H' G' x' rg' s'=>C4 (Ds rg' s' (dv.ext x'))) (L p (rg1.free hp))
 cases dv with
 |tup e r=>exact .inr ⟨⟨_,.inl (.inl e)⟩,lp⟩
 |lint e=>exact .inl ⟨⟨_,e.sq⟩,lp⟩
 |ref=>
  simp only[Aw] at ei
  split at ei
  ·rename_i ds' q
   obtain⟨xs,e,r⟩:=rg1 a _ q
   exact .inl ⟨⟨_,.inl (.inl e)⟩,lp⟩
  ·cases ei
end
def KDict(P:Program)(w:World)(K:PySem.W.Frag)(a:Addr)(kvs:List (Key×V)):Prop:=(a == sysModules)=false∧∃o vs,K.lookup a=some o∧KV kvs vs∧o.IsDictOf (A5 P w) vs
def DRd(P:Program)(w:World)(h:Heap)(a:Addr)(kvs:List (Key×V)):Prop:=(a == sysModules)=false∧∃vs,KV kvs vs∧h.DictOf (A5 P w) a vs
def RdK(P:Program)(w:World)(K:PySem.W.Frag)(H:Hp)(a:Addr)(kvs:List (Key×V)):Prop:=H a=some (.dK kvs)∨KDict P w K a kvs
section
variable{X:Cx}{pins:List (Addr×Obj)}{σ:St}{H:Hp}{s:Shared}{a:Addr}{k:Key}{v:V}{kvs:List (Key×V)}{u:Value}{A:Around}{E:Value→Shared→Prop}
theorem RdK.rd(h:RdK X.prog X.w X.K H a kvs)(I:Inv X pins σ H s):DRd X.prog X.w s.heap a kvs:=by
 rcases h with h|⟨h1,o,vs,h2,h3,h4⟩
 ·obtain⟨_,hd,vs,rel,dd⟩:=Lq I.hok h
  exact⟨hd,vs,rel,dd⟩
 ·exact⟨h1,vs,h3,Heap.dictOf_iff.mpr ⟨o,I.kIn _ _ h2,h4⟩⟩
theorem Z3{Q:Value→Shared→Prop}(g:DRd X.prog X.w s.heap a kvs)(I:Inv X pins σ H s)(l:Di kvs k=some v)(ry:RelV (kV k) u)(h:∀w' s',Inv X pins σ H s'→RelV v w'→Q w' s'):wpAny (model X.prog X.w) A (getItem (.ref a) u) Q E s:=by
 obtain⟨hd,vs,rel,dd⟩:=g
 obtain⟨w',hw,rw'⟩:=RelO.some_of (v:=v) (o:=valueAt vs k) (by rw[←l];exact rel.val k)
 exact wpAny_getItem_of (Ot ry) dd.mapOf hw (h w' _ (I.tok _) rw')
end
section
variable{X:Cx}
def tKGet(P:Program)(w:World)(K:PySem.W.Frag)(td ty:TE):TE:=fun σ H Q=>td σ H fun x H1=>ty σ H1 fun y H2=>∃a kvs k v,x=.ref a∧RdK P w K H2 a kvs∧y=kV k∧Di kvs k=some v∧Q v H2
theorem Wj{o i:Expr}{td ty:TE}{pos:Pos}(ho:PE X o td)(hi:PE X i ty)(hs:Yb i):PE X (.Subscript o i pos) (tKGet X.prog X.w X.K td ty):=by
 intro pins s σ H Q I h
 refine Vy PySem.F.slot_dict_getitem.lookup hs (thn (ho pins s σ H _ I h) fun u s1 ⟨x,H1,I1,rx,q1⟩=>thn (hi pins s1 σ H1 _ I1 q1) fun iv s2 ⟨y,H2,I2,ry,a,kvs,k,v,ex,g,ek,ev,q2⟩=>?_)
 subst ex ek
 obtain rfl:u=Value.ref a:=rx
 have g:=g.rd I2
 exact⟨let ⟨_,_,_,dd⟩:=g;dd.typeIs,Z3 g I2 ev ry fun w' s3 I3 rw'=>⟨v,H2,I3,rw',q2⟩⟩
end
section
variable{X:Cx}{e i o:Expr}{te ti td:DTE}{pos pos':Pos}{a:Addr}{kvs:List (Key×D)}
def Xv(td ty:DTE):DTE:=fun σ G Q=>td σ G fun x G1=>ty σ G1 fun y G2=>∃p,x=.ref p∧∃kvs,G2 p=some (.dkk kvs)∧∃k,Rz y=some k∧∃d,Es kvs k=some d∧Q d G2
theorem Ys(ho:QE X o td)(hi:QE X i ti)(hs:Yb i:=by intro _ _;rfl):QE X (.Subscript o i pos) (Xv td ti):=(Wj ho hi hs).imp fun σ H Q ⟨σD,G,Q',rs,rg,h,cl⟩=>by
 refine⟨σD,G,_,rs,rg,h,fun x G1 h1 H1 x1 rg1 v dv=>?_⟩
 refine⟨σD,G1,_,rs.ext x1,rg1,h1,fun y G2 ⟨p,ep,kvs,eg,k,ek,d,ed,q⟩ H2 x2 rg2 v2 dv2=>?_⟩
 subst ep
 cases dv
 obtain⟨ks,eh,r⟩:=rg2 p _ eg
 rcases Pg (k:=k) r with ⟨e1,e2⟩|⟨d',w,e1,e2,dw⟩
 ·rw[ed] at e1;cases e1
 ·rw[ed] at e1;cases e1
  exact⟨p,ks,k,w,rfl,.inl eh,Pd ek dv2,e2,cl _ _ q H2 (x1.trans x2) rg2 _ dw⟩
end
abbrev topO:HO:=.ext fun _=>True
theorem Lj{P:Program}{w:World}{H:Hp}{h:Heap}{a:Addr}{o:Obj}(e:h.get? a=some o):ObjOk P w H h a (.frz o topO):=⟨e,True.intro,⟨o,e⟩,fun _ _ _ _=>True.intro⟩
section
variable{X:Cx}{pins:List (Addr×Obj)}{σ:List (Option V)}{H:Hp}{s:Shared}{h':Heap}
theorem Inv.grown{T:Addr}{t':Nat}{ps more:Array Value}(I:Inv X pins σ H s)(e:H T=some (.tbl ps))(k:∀b u,b≠T→s.heap.get? b=some u→h'.get? b=some u)(hT:h'.get? T=some (PySem.W.tabObj (ps++more))) :
  Inv X pins σ (upd H T (.tbl (ps++more))) { s with heap:=h',toks:=t' }:=by
 have nT:∀b,H b=none→b≠T:=fun b n z=>by rw[z,e] at n;cases n
 refine I.un ⟨fun b o q n _ _=>k b o (nT b n) q,fun b o q n _ _=>⟨o.slots,k b o (nT b n) q⟩,fun b o q n _=>by rw[Af (nT b n)];exact n,fun b o q _=>?_,fun b xs q=>?_,fun b o u q=>?_,fun b qs q=>?_⟩ fun b u q=>?_
 ·by_cases hb:b=T
  ·subst hb;exact⟨_,hT⟩
  ·exact⟨o,k b o hb q⟩
 ·rw[Af (Je q e (fun z=>by cases z))];exact q
 ·rw[Af (Je q e (fun z=>by cases z))];exact q
 ·by_cases hb:b=T
  ·subst hb
   rw[e] at q;cases q
   exact⟨more,Ah⟩
  ·exact⟨#[],by rw[Af hb,q];simp⟩
 ·by_cases hb:b=T
  ·subst hb
   rw[Ah] at q;cases q
   exact hT
  ·rw[Af hb] at q
   refine(I.hok b u q).stay (fun c v hc r=>k c v (fun z=>?_) r) (fun c r=>?_) fun c xs r=>?_
   ·subst z
    rcases hc with z|z
    ·exact hb z.symm
    ·rw[e] at z;cases z
   ·rw[Af (Je r e (fun z=>by cases z))];exact r
   ·rw[Af (Je r e (fun z=>by cases z))];exact r
theorem Inv.seen{a:Addr}{o:Obj}(I:Inv X pins σ H s)(ha:X.s₀.heap.objs.size≤a)(hL:a≠X.env.locals)(hc:∀x c,X.env.cells.lookup x=some c→c≠a)(hp:∀p∈X.pn++pins,p.1≠a)(hn:H a=none)(e:s.heap.get? a=some o) :
  Inv X pins σ (upd H a (.frz o topO)) s:=by
 have nb:∀b o',X.s₀.heap.get? b=some o'→b≠a:=fun b o' q=>Nat.ne_of_lt (Nat.lt_of_lt_of_le (Heap.lt_size q) ha)
 refine⟨I.ok,I.os,I.bare,⟨I.base.keep,I.base.slot,fun b o' q n hx=>by rw[Af (nb b o' q)];exact I.base.free b o' q n hx,I.base.there,fun b xs q=>?_,fun b o' u q=>?_,fun b ps q=>?_⟩,I.loc,I.cell,by rw[Af hL.symm];exact I.free,fun x c q=>by rw[Af (hc x c q)];exact I.freeC x c q,fun p hq=>?_,fun b u q=>?_,I.len⟩
 ·have q:=I.base.tups b xs q
  rw[Af (Ap q hn)];exact q
 ·have q:=I.base.frzs b o' u q
  rw[Af (Ap q hn)];exact q
 ·obtain⟨m,q⟩:=I.base.tbls b ps q
  exact⟨m,by rw[Af (Ap q hn)];exact q⟩
 ·obtain⟨p1,p2,p3⟩:=I.pin p hq
  exact⟨p1,by rw[Af (hp p hq)];exact p2,p3⟩
 ·by_cases hb:b=a
  ·subst hb
   rw[Ah] at q;cases q
   exact Lj e
  ·rw[Af hb] at q
   exact(I.hok b u q).stay (fun c v _ r=>r) (fun c r=>by rw[Af (Ap r hn)];exact r) fun c xs r=>by rw[Af (Ap r hn)];exact r
end
abbrev lamO(q:Str)(params:Arguments)(body:Expr)(scope:Scope)(clos:List (Str×Addr))(pm cv ctv:Value):Obj:={ cls:=.type "function",data:=.func (PySem.W.kla_fn "<lambda>" q params body scope clos pm cv ctv) }
def tLam(T:Addr)(q:Str)(params:Arguments)(body:Expr)(scope:Scope)(clos:List (Str×Addr))(pm:Value)(pos:Pos):TE:=fun σ H Q=>∃ps,H T=some (.tbl ps)∧TriplesOk ps.toList∧
 (∀cv ctv f,codeAmong pos ps.toList=some cv→H f=none→Q (.ref f) (upd H f (.frz (lamO q params body scope clos pm cv ctv) topO)))∧
 ∀c o ctv f,codeAmong pos ps.toList=none→H c=none→H f=none→c≠f→CodeIs o q→
  Q (.ref f) (upd (upd (upd H T (.tbl (ps ++ #[rawInt pos.line,rawInt pos.col,.ref c]))) c (.frz o topO)) f (.frz (lamO q params body scope clos pm (.ref c) ctv) topO))
theorem Ze{X:Cx}{T c0:Addr}{params:Arguments}{body:Expr}{scope:Scope}{clos:List (Str×Addr)}{pos:Pos}(hdef:defaultsOf params X.env=([],[]))(hcl:closureFor scope X.env=pure clos)(hcode:X.env.code=.ref c0)(hC:PySem.W.codeHdIn X.K c0 T=true) :
  PE X (.Lambda params body scope pos) (tLam T (X.env.qual ++ "<lambda>") params body scope clos ((X.mg "__name__").getD .none) pos):=by
 intro pins s σ H Q I h
 obtain⟨ps,eT,ht,hit,mis⟩:=h
 have hP:s.heap.get? T=some (PySem.W.tabObj ps):=I.hok T _ eT
 have hC:=PySem.W.codeHd_of_K I.kIn hC
 have hg:s.heap.Ns mainGlobals X.mg:=I.mod.glob.keeps I.bk
 obtain⟨bm,ob,b1,b2,b3,b4,b5,b6⟩:=I.mod.bm
 have b3':=I.bk _ _ b3
 have hgT:mainGlobals≠T:=fun z=>by
  obtain⟨o,es,ep,e,hd,_⟩:=hg
  rw[z,hP] at e;cases e;cases hd
 have hbT:bm≠T:=fun z=>by rw[z,hP] at b3';cases b3';cases b4
 have hbG:bm≠mainGlobals:=fun z=>by
  obtain⟨o,es,ep,e,hd,_⟩:=hg
  rw[z,e] at b3';cases b3';rw[hd] at b6;cases b6
 have hB:s.heap.BuiltinsAt X.mg T:=⟨bm,ob,b1,b2,hbG,hbT,b3',b4,b5,b6⟩
 refine PySem.W.kla_eval hdef ?_
 cases hf:codeAmong pos ps.toList with
 |some cv=>
  refine PySem.W.kla_makeFunctionHit (mg:=X.mg) hcl I.ok.glob hg hcode hC hP ht hf hB fun ctv h' tk hk hsz=>?_
  have I1:Inv X pins σ H { s with heap:=h',toks:=tk }:=I.kept hk
  have I2:=I1.laid (t':=tk) (h':=h'.push (lamO (X.env.qual ++ "<lambda>") params body scope clos ((X.mg "__name__").getD .none) cv ctv)) (o:=.frz (lamO (X.env.qual ++ "<lambda>") params body scope clos ((X.mg "__name__").getD .none) cv ctv) topO)
   (fun b u e=>Heap.get?_push_of_some _ e) (Nat.le_refl _) (Lj (Heap.get?_push_size _ rfl))
  exact⟨.ref h'.objs.size,_,I2,rfl,hit cv ctv _ hf (I1.hok.fresh (Nat.le_refl _))⟩
 |none=>
  refine PySem.W.kla_makeFunction (mg:=X.mg) hcl I.ok.glob hg hcode hC hP ht hf hgT hB fun c' ctv h' tk hx hge hlt hrec htb=>?_
  obtain⟨c₂,oc,vs,t,e2,hoc,hd,hv⟩:=hrec
  cases e2
  have nc:H c'=none:=I.hok.fresh hge
  have neT:c'≠T:=fun z=>by rw[z,eT] at nc;cases nc
  have I1:=Inv.grown (t':=tk) I eT (fun b u hb e=>hx b u hb e) htb
  have fo:=I.fpOk (H':=H) hge nc
  have I2:=Inv.seen I1 (Nat.le_trans I.sz hge) fo.2.1 fo.2.2.2.2.1 (fun p hp=>fo.2.2.2.2.2 p hp) (by rw[Af neT];exact nc) hoc
  have I3:=I2.laid (t':=tk) (h':=h'.push (lamO (X.env.qual ++ "<lambda>") params body scope clos ((X.mg "__name__").getD .none) (.ref c') ctv)) (o:=.frz (lamO (X.env.qual ++ "<lambda>") params body scope clos ((X.mg "__name__").getD .none) (.ref c') ctv) topO)
   (fun b u e=>Heap.get?_push_of_some _ e) (Nat.le_refl _) (Lj (Heap.get?_push_size _ rfl))
  have ff:H h'.objs.size=none:=by
   cases q:H h'.objs.size with
   |none=>rfl
   |some u=>exact absurd (Nat.lt_of_lt_of_le (I.hok.lt q) (Nat.le_trans hge (Nat.le_of_lt hlt))) (Nat.lt_irrefl _)
  exact⟨.ref h'.objs.size,_,I3,rfl,mis c' oc ctv _ hf nc ff (Nat.ne_of_lt hlt) ⟨vs,t,hd,hv⟩⟩
theorem Rs{p:Pos}{a b:Int}{c cv:Value}(l:List Value)(h:TriplesOk l)(e:codeAmong p (l++[rawInt a,rawInt b,c])=some cv):codeAmong p l=some cv∨cv=c:=by
 fun_induction TriplesOk l with
 |case1=>
  simp only[List.nil_append,rawInt,codeAmong] at e
  split at e
  ·cases e;exact .inr rfl
  ·cases e
 |case2 a' t b' u x rest ih=>
  simp only[List.cons_append,codeAmong] at e ⊢
  split at e
  ·rename_i hc;rw[if_pos hc];exact .inl e
  ·rename_i hc;rw[if_neg hc];exact ih h e
 |case3 l h1 h2=>exact h.elim
section
variable{X:Cx}
theorem Ext.tbl{H:Hp}{p:Addr}{ps:Array Value}{u:HO}(e:H p=some (.tbl ps)):Ext H (upd H p u):=Ext.write e (fun xs z=>by cases z) (fun ob w z=>by cases z)
end
def Cg(H:Hp)(ts:List Addr):Hp:=fun b=>if b∈ts then some (.tbl #[]) else H b
theorem Hi{H:Hp}{ts:List Addr}{b:Addr}(h:b∈ts):Cg H ts b=some (.tbl #[]):=if_pos h
theorem Cd{H:Hp}{ts:List Addr}{b:Addr}(h:b ∉ ts):Cg H ts b=H b:=if_neg h
structure Given(K:PySem.W.Frag)(ts:List Addr)(a:Addr)(ns:List Int)(H:Hp):Prop where
 tab:∀T∈ts,H T=some (.tbl #[])
 rest:∀b,b ∉ ts→H b=none∨∃o xs,H b=some (.frz o (.lst xs))
 arg:SqL K H a (ns.map V.int)
theorem Qy{P:Program}{w:World}{K:W.Frag}{mg:Str→Option Value}{CX:CXT}{k:Nat}{fa a:Addr}{fd:FuncData}{x:Str}{sp:Sp}{s₁:Shared}{vs:List Value}{ns:List Int}{ts:List Addr}(KX:K.In s₁.heap)(hT:∀T∈ts,isCodeTable s₁.heap T∧s₁.heap.get? T=some (PySem.W.tabObj #[])∧K.lookup T=none)(hM:Mod K mg s₁.heap)(hg:s₁.gens=#[])(ha:s₁.heap.get? a=some { cls:=.type "list",data:=.seq vs.toArray })(hi:IntsAre vs ns)(hl:ns.length≤sizeLine)(hr:Room k callerA)(F:∀base:Heap,K.In base→base.Ns mainGlobals mg→FnOk P w K mg base CX k fa fd [x] sp)(hbind:∀(s:Shared) (u:Value),BindsTo s fd ⟨[u],[]⟩ [(x,u)])(hsp:∀H:Hp,Given K ts a ns H→sp [.ref a] H (fun v _=>v=.bl true) fun _ _ _=>False)(hCX:∀H e s',CX [] H s₁ (fun _ _ _=>False) e s'→False) :
  codeAny (model P w) callerA (.call (.ref fa) ⟨[.ref a],[]⟩) (fun r s'=>r=.ok (.ret (.bool true))∧OldK s₁.heap s'.heap∧s'.os=s₁.os∧AllBare s'.gens) s₁:=by
 have hat:a ∉ ts:=fun z=>by
  have e:=(hT a z).2.1
  rw[ha] at e;cases e
 have main:∀H0:Hp,(∀b,b≠a→H0 b=none)→(H0 a=none∨∃o xs,H0 a=some (.frz o (.lst xs)))→(H0 a≠none→K.lookup a=none)→SqL K H0 a (ns.map V.int)→HOk P w H0 s₁.heap→
   codeAny (model P w) callerA (.call (.ref fa) ⟨[.ref a],[]⟩) (fun r s'=>r=.ok (.ret (.bool true))∧OldK s₁.heap s'.heap∧s'.os=s₁.os∧AllBare s'.gens) s₁:=by
  intro H0 off at0 hK0 hS hok0
  have eA:Cg H0 ts a=H0 a:=Cd hat
  have gv:Given K ts a ns (Cg H0 ts):=⟨fun T h=>Hi h,fun b hb=>by
   rw[Cd hb]
   by_cases z:b=a
   ·rw[z];exact at0
   ·exact .inl (off b z),hS.elim (fun h=>.inl (h.elim (fun h=>.inl (by rw[eA];exact h)) fun⟨o,h⟩=>.inr ⟨o,by rw[eA];exact h⟩)) .inr⟩
  have hok:HOk P w (Cg H0 ts) s₁.heap:=fun b u q=>by
   by_cases hb:b∈ts
   ·rw[Hi hb] at q;cases q
    exact(hT b hb).2.1
   ·rw[Cd hb] at q
    have z:b=a:=Classical.byContradiction fun z=>by rw[off b z] at q;cases q
    subst z
    refine(hok0 b u q).stay (fun _ _ _ r=>r) (fun c r=>?_) fun c xs r=>?_
    ·have hc:c=b:=Classical.byContradiction fun z=>by rw[off c z] at r;cases r
     subst hc;rw[eA];exact r
    ·have hc:c=b:=Classical.byContradiction fun z=>by rw[off c z] at r;cases r
     subst hc;rw[eA];exact r
  have un:∀b o,s₁.heap.get? b=some o→(o.cls≠.none)→(o.cls≠.type "list")→Cg H0 ts b=none:=fun b o e n1 n2=>by
   by_cases hb:b∈ts
   ·rw[(hT b hb).2.1] at e;cases e;exact absurd rfl n1
   ·rw[Cd hb]
    refine off b fun z=>?_
    rw[z,ha] at e;cases e;exact absurd rfl n2
  have unD:∀b o es ep,s₁.heap.get? b=some o→o.data=.dict es ep→Cg H0 ts b=none:=fun b o es ep e d=>by
   by_cases hb:b∈ts
   ·rw[(hT b hb).2.1] at e;cases e;cases d
   ·rw[Cd hb]
    refine off b fun z=>?_
    rw[z,ha] at e;cases e;cases d
  have bo:∀{b:Addr} {o:Obj},s₁.heap.get? b=some o→Cg H0 ts b=none→(J5 s₁.heap (Cg H0 ts)).get? b=some o:=fun e n=>U6 e n
  have nsB:∀{b:Addr} {m:Str→Option Value},s₁.heap.Ns b m→(J5 s₁.heap (Cg H0 ts)).Ns b m:=fun {b m} ⟨o,es,ep,e,d,r⟩=>⟨o,es,ep,bo e (unD b o es ep e d),d,r⟩
  have kB:K.In (J5 s₁.heap (Cg H0 ts)):=fun b o e=>bo (KX b o e) (by
   by_cases hb:b∈ts
   ·rw[(hT b hb).2.2] at e;cases e
   ·rw[Cd hb]
    by_cases z:b=a
    ·subst z
     cases q:H0 b with
     |none=>rfl
     |some u=>rw[hK0 (by rw[q];simp)] at e;cases e
    ·exact off b z)
  have mB:Mod K mg (J5 s₁.heap (Cg H0 ts)):=⟨kB,nsB hM.glob,let ⟨mm,h1⟩:=hM.sm;⟨mm,nsB h1⟩,
   let ⟨bm,ob,b1,b2,b3,b4,b5⟩:=hM.bm;⟨bm,ob,b1,b2,bo b3 (un bm ob b3 (by rw[b4];exact fun z=>by cases z) (by rw[b4];exact fun z=>absurd (Value.type.inj z) (by decide))),b4,b5⟩,
   let ⟨mb,h1,h2⟩:=hM.blt;⟨mb,nsB h1,h2⟩,let ⟨mc,h1,h2⟩:=hM.nolimit;⟨mc,nsB h1,h2⟩⟩
  have e0:Env0 P w K mg (J5 s₁.heap (Cg H0 ts)) callerA [] s₁ (Cg H0 ts):=⟨rfl,mB,fun b o e=>W0 e,Nat.le_of_eq (Q6 _ _),trivial,fun b hb=>absurd (show b∈([]:List Addr) from hb) (by simp),hok,.of_eq hg⟩
  refine codeAny_mono ((F _ kB mB.glob).run callerA [] s₁ (Cg H0 ts) ⟨[.ref a],[]⟩ [.ref a] [.ref a] _ _ hr e0 (hbind s₁ (.ref a)) (.cons rfl .nil) (hsp _ gv)) fun r s' h=>?_
  cases r with
  |error e=>exact(hCX _ e s' h).elim
  |ok fl=>
   cases fl with
   |next=>exact False.elim h
   |brk=>exact False.elim h
   |cont=>exact False.elim h
   |ret u=>
    obtain⟨v,H',os,bare,ud,hok',r',q⟩:=h
    have q:v=.bl true:=q
    subst q
    obtain rfl:u=Value.bool true:=r'
    have keep:∀b o,b ∉ ts→s₁.heap.get? b=some o→s'.heap.get? b=some o:=fun b o hb e=>by
     rcases gv.rest b hb with z|⟨ob,xs,z⟩
     ·exact ud.keep b o e z (by intro z;exact absurd (show b∈([]:List Addr) from z) (by simp)) (by simp)
     ·obtain⟨e1,_⟩:=hok b _ z
      obtain⟨e2,_⟩:=hok' b _ (ud.frzs b ob _ z)
      rw[e] at e1;cases e1
      exact e2
    have grown:∀T∈ts,∃more,s'.heap.get? T=some (PySem.W.tabObj (#[]++more)):=fun T hb=>by
     obtain⟨more,z⟩:=ud.tbls T _ (Hi hb)
     exact⟨more,hok' T _ z⟩
    refine⟨rfl,⟨fun b o e=>?_,fun b o e=>?_⟩,os,bare⟩
    ·by_cases hb:b∈ts
     ·obtain⟨t1,t2,_⟩:=hT b hb
      rw[t2] at e;cases e
      obtain⟨more,z⟩:=grown b hb
      exact .inr (.inl ⟨t1,rfl,#[],more,rfl,z⟩)
     ·exact .inl (keep b o hb e)
    ·by_cases hb:b∈ts
     ·obtain⟨more,z⟩:=grown b hb
      exact⟨_,z⟩
     ·exact⟨o,keep b o hb e⟩
 have rv:=L2.vals_ints hi
 have lenV:=hi.length
 cases hk:K.lookup a with
 |some o=>
  have e:=KX a o hk
  rw[ha] at e;cases e
  exact main (fun _=>none) (fun _ _=>rfl) (.inl rfl) (fun z=>absurd rfl z) (.inr ⟨_,vs.toArray,_,hk,rfl,rfl,rfl,by rw[List.size_toArray,lenV];exact hl,by simpa using rv⟩) fun b u z=>by cases(show(none:Option HO)=some u from z)
 |none=>
  refine main (upd (fun _=>none) a (.frz { cls:=.type "list",data:=.seq vs.toArray } (.lst (ns.map V.int)))) (fun b z=>Af z) (.inr ⟨_,_,Ah⟩) (fun _=>hk) (.inl (.inr ⟨_,Ah⟩)) fun b u z=>?_
  by_cases hb:b=a
  ·subst hb
   rw[Ah] at z;cases z
   exact⟨ha,by rw[List.length_map];exact hl,vs,_,rv,ha⟩
  ·rw[Af hb] at z;cases z
theorem Ti{l:PySem.W.OpenLaw}{n k:Nat}{q:Program}{loose:List Str}{XP:(Str→Option Value)→Heap→Prop}{YP:World→Heap→Prop}{d:DefRec}{K:Params→PySem.W.Frag}{CX:CXT}{sp:PySem.W.Frag→Sp}{x:Str}{ts:List Addr}(hi:importsNone q=true)(hn:l.most=some n)(hn2:n≤sizeLine)(hdf:d.params.defaults=[])(hr:Room k callerA)(hY:∀(w:World) (h:Heap),YP w h→(K w.params).In h∧∀T∈ts,h.get? T=some (PySem.W.tabObj #[]))(hC:∀(w:World) (h:Heap),(K w.params).In h→∀T∈ts,(∃c,PySem.W.codeHdIn (K w.params) c T=true)∧(K w.params).lookup T=none)(F:∀(w:World) (mg:Str→Option Value) (fa:Addr) (h:Heap),(K w.params).In h→h.Ns mainGlobals mg→mg d.name=some (.ref fa)→
   ∃fd:FuncData,(∀(s:Shared) (u:Value),BindsTo s fd ⟨[u],[]⟩ [(x,u)])∧∀base:Heap,(K w.params).In base→base.Ns mainGlobals mg→FnOk l.prog w (K w.params) mg base CX k fa fd [x] (sp (K w.params)))(hsp:∀(K:PySem.W.Frag) (H:Hp) (a:Addr) (ns:List Int),ns.length≤n→Given K ts a ns H→sp K [.ref a] H (fun v _=>v=.bl true) fun _ _ _=>False)(hCX:∀(H:Hp) (s:Shared) (e:Value) (s':Shared),CX [] H s (fun _ _ _=>False) e s'→False):PySem.W.WalkO q loose XP YP l.row.toRowW d [] (fun f vs=>PySem.call f vs):=by
 refine Att.attach_call hn hdf fun w s₀ s₁ mg mb fa o pm cd doc a vs ns G Y ho hd hcd hmg hobj hints hlen hg=>?_
 obtain⟨KX,tb⟩:=hY w _ Y
 obtain⟨fd,hb,hF⟩:=F w mg fa _ KX G.T.g hmg
 refine Qy (ts:=ts) KX (fun T h=>?_) ⟨KX,G.T.g,let ⟨mm,h1,_⟩:=(G.T.seer hi).mods;⟨mm,h1⟩,G.T.bmain,⟨mb,G.T.b,G.T.builtins⟩,G.T.nolimit⟩ hg hobj hints (Nat.le_trans hlen hn2) hr hF hb (fun H g=>hsp _ H a ns hlen g) fun H e s'=>hCX H s₁ e s'
 obtain⟨⟨c,h1⟩,h2⟩:=hC w _ KX T h
 exact⟨((PySem.W.codeHd_of_K KX h1).tab (tb T h)).isCodeTable,tb T h,h2⟩
def J7(ts:List (Addr×Str)):DSp:=fun ds G Q _=>∃ns:List Int,ds=[.lint ns]∧ns.length≤63∧(∀p∈ts,G p.1=some (.tbl p.2))∧∀G',Q (.bl true) G'
theorem W5(ts:List (Addr×Str))(nd:(ts.map (·.1)).Nodup)(K:PySem.W.Frag)(H:Hp)(a:Addr)(ns:List Int)(hl:ns.length≤63)(g:Given K (ts.map (·.1)) a ns H):Ai K (J7 ts) [.ref a] H (fun v _=>v=.bl true) fun _ _ _=>False:=by
 have rd:RdI K H a (ns.map V.int):=by
  rcases g.arg with (h|h)|h
  ·by_cases ht:a∈ts.map (·.1)
   ·rw[g.tab a ht] at h;cases h
   ·rcases g.rest a ht with z|⟨o,xs,z⟩
    ·rw[h] at z;cases z
    ·rw[h] at z;cases z
  ·exact .inl h
  ·exact .inr h
 have look:∀(l:List (Addr×Str)) p,(l.map (·.1)).Nodup→p∈l→l.lookup p.1=some p.2:=fun l=>by
  induction l with
  |nil=>intro p _ h;cases h
  |cons y r ih=>
   intro p nd h
   rw[List.map_cons,List.nodup_cons] at nd
   rw[List.lookup_cons]
   rcases List.mem_cons.mp h with rfl|h
   ·rw[beq_self_eq_true]
   ·have ne:(p.1 == y.1)=false:=beq_eq_false_iff_ne.mpr fun z=>nd.1 (z ▸ List.mem_map_of_mem h)
    rw[ne];exact ih p nd.2 h
 have back:∀(l:List (Addr×Str)) b q,l.lookup b=some q→b∈l.map (·.1):=fun l=>by
  induction l with
  |nil=>intro b q h;cases h
  |cons y r ih=>
   intro b q h
   rw[List.lookup_cons] at h
   cases e:b == y.1 with
   |true=>rw[beq_iff_eq.mp e];simp
   |false=>rw[e] at h;exact List.mem_cons_of_mem _ (ih b q h)
 refine⟨[.lint ns],fun b=>(ts.lookup b).map GO.tbl,fun d _=>d=.bl true,fun _ _=>False,.cons (.lint rd) .nil,(fun b o e=>?_),⟨ns,rfl,hl,fun p hp=>by show(ts.lookup p.1).map GO.tbl=_;rw[look ts p nd hp];rfl,fun _=>rfl⟩,fun d G' e H' _ _ v dv=>?_,fun c G' (e:False)=>e.elim⟩
 ·obtain⟨q,eq,e⟩:=Option.map_eq_some_iff.mp e
  subst e
  exact⟨#[],g.tab b (back ts b q eq),True.intro,fun p cv z=>by cases z⟩
 ·have e:d=.bl true:=e
  subst e
  cases dv;rfl
section
variable{P:Program}{w:World}{A:Around}{E:Value→Shared→Prop}{s:Shared}
end
open PySem.W (KdlSrc kdl_extend kdl_values)
section
variable{P:Program}{w:World}{A:Around}{E:Value→Shared→Prop}{s:Shared}
end
open PySem.W (KdlSrc kdl_extend kdl_values)
abbrev R6(d:Addr):Obj:={ cls:=.type "dict_values",data:=.fields #[.ref d] }
section
variable{X:Cx}{o e:Expr}{to:TE}{apos cpos pos p:Pos}
def tView(mk:Addr→Obj)(to:TE):TE:=fun σ H Q=>to σ H fun x H1=>∃a kvs,x=.ref a∧H1 a=some (.dK kvs)∧∀v,H1 v=none→Q (.ref v) (upd H1 v (.frz (mk a) topO))
theorem Qn(ho:PE X o to)(hbase:attributeBase o "values" X.env (eval o X.env)=eval o X.env)(hline:(apos.endLine == cpos.line)=true):PE X (.Call (.Attribute o "values" apos) [] [] cpos) (tView R6 to):=by
 intro pins s σ H Q I h
 refine wpAny_Call_method0_late hbase hline (thn (ho pins s σ H _ I h) fun u s1 ⟨x,H1,I1,rx,a,kvs,ex,eh,q⟩=>?_)
 subst ex
 obtain rfl:u=Value.ref a:=rx
 obtain⟨t1,t2,t3⟩:=Z5 I1 (.inl ⟨kvs,.inl eh⟩)
 obtain⟨_,_,vs,_,dd⟩:=Lq I1.hok eh
 refine⟨"dict", "dict.values",PySem.F.plainAttrs_dict,PySem.F.slot_dict_values,PySem.F.type_dict_values,t1,t2,Calls.callWith_builtin rfl (PySem.evalArgs_none ?_)⟩
 refine call_meetsIn PySem.F.slot_dict_values t1 PySem.F.entry_dict_values (PySem.F.args_dict_values_1 _) (meets_dict_values (A5 X.prog X.w) a t3) ⟨⟨vs,dd⟩,?_⟩
 exact⟨.ref s1.heap.objs.size,_,I1.laid (t':=s1.toks) (o:=.frz (R6 a) topO) (fun b u e=>Heap.get?_push_of_some _ e) (Nat.le_refl _) (Lj (Heap.get?_push_size _ rfl)),rfl,q _ (I1.hok.fresh (Nat.le_refl _))⟩
end
section
variable{X:Cx}{o:Expr}{to:DTE}{apos cpos pos p:Pos}
end
section
variable{X:Cx}{pins:List (Addr×Obj)}{σ:List (Option V)}{H:Hp}{s:Shared}
end
section
variable{X:Cx}{elt o tg:Expr}{ifs:List Expr}{scope:Scope}{pos apos cpos:Pos}{to:DTE}{T M:List Str}
end
section
variable{X:Cx}
end
section
variable{P:Program}{w:World}{A:Around}{E:Value→Shared→Prop}{s:Shared}
end
section
variable{X:Cx}
end
section
variable{X:Cx}{a b:Expr}{ta:TA}{tA:DTA}{p p0 pos pos0:Pos}
end
section
variable{X:Cx}{e b:Expr}{te tb:DTE}{p2 pos:Pos}
end
theorem q_globr{X:Cx}{x:Str}{a:Addr}{pos:Pos}(hm:X.mg x=some (.ref a))(hg:Gl X x:=by rfl)(hd:(x == ("__debug__" : Str))=false:=by decide):QE X (.Name x pos) (nC (.ref a)):=
 Hb (v:=.ref a) (O8 hg hm rfl hd) fun _=>.ref a
theorem Ca{X:Cx}{ss:List Stmt}:QSs X ss Zv:=fun _ _ _ _ _ _ ⟨_,_,_,_,_,z,_⟩=>z.elim
section
variable{P:Program}{w:World}{K:W.Frag}{mg:Str→Option Value}{base:Heap}
theorem okDc{x qual:Str}{st:Stmt}{f c0:Addr}{fd:FuncData}{N ps:List Str}{k:Nat}{sp:DSp}(F:Fun K x qual st f fd)(hc:fd.code=.ref c0)(S:FnScope N ps (Ac st))(len:∀ds G Q E,sp ds G Q E→ds.length=ps.length)(hbody:∀(A:Around) (outer:List Env) (s:Shared) (H:Hp) (XE:XK) (ds:List D) (G:Gp) (Q:DK) (E:DX),Room k (A.deeper (envOfC qual (Ac st) s.heap.objs.size f (.ref c0)))→sp ds G Q E→
   ∃t,QSs (Cl CX0 P w K mg base N qual (Ac st) f (.ref c0) A outer s H XE).nox (Bx st) t∧t { nx:=fun _ G'=>Fq Q .non G',rt:=Fq Q } (Aj N ds) G):FnOk P w K mg base CX0 (k+1) f fd ps (Ai K sp):=by
 obtain⟨oc,od,kV,doc,pm,an,cdv,ct,osl,rfl,lk,hcd⟩:=F.ex
 have hc:cdv=.ref c0:=hc
 subst hc
 refine Sg lk hcd S (fun vs H Q E ⟨ds,G,Q',E',dv,rg,h,_⟩=>by rw[←dv.length];exact len ds G Q' E' h) fun A outer s H vs Q E hr ⟨ds,G,Q',E',dv,rg,h,cl,_⟩=>?_
 obtain⟨t,ht,hq⟩:=hbody A outer s H E ds G Q' E' hr h
 refine⟨_,ht.nox,Aj N ds,G,_,D7 dv,rg,hq,⟨fun σD G1 ⟨G2,sb,q⟩ H1 x1 rg1 σ rs=>cl _ G2 q H1 x1 (rg1.ext' sb) _ .non,fun d G1 ⟨G2,sb,q⟩ H1 x1 rg1 v dv=>cl _ G2 q H1 x1 (rg1.ext' sb) _ dv,fun _ _ z=>z.elim,fun _ _ z=>z.elim⟩⟩
end
theorem We{X:Cx}{i0:Nat}{y0:Str}{py spos:Pos}{elt iter tg:Expr}{ifs:List Expr}{scope:Scope}{cl:List (Str×Addr)}{pos:Pos}{wi:TI}{g:TG}{tf:TT}{te:TE}{T M:List Str}(hc:X.calm=true)(ok:CompOz X scope cl T M)(hi:PI X tg iter wi)(hg:∀s H fp,PG (Ak X scope cl T M s H fp) tg g)(hf:∀s H fp,PF (Ak X scope cl T M s H fp) ifs tf)(he:∀s H fp,PE (Ak X scope cl T M s H fp) elt te)(hN:X.N.Nodup)(hi0:X.N[i0]? = some y0)(hy:Loc X.env.scope y0)(hfn:X.fn y0=true∨X.env.scope.names.lookup y0=some .local)(hsw:swapsWith (.ListComp elt [⟨tg,iter,ifs,0⟩] scope pos) (some (.Name y0 py)) spos.line X.env=pure true)(hs:∀x,foldedSetIterable iter X.env x=pure x:=by intro _;rfl):PS X (.Assign [.Name y0 py] (.ListComp elt [⟨tg,iter,ifs,0⟩] scope pos) spos) (Vr (Ng T.length wi g tf te) (Sf i0)):=by
 intro pins s σ H D I h
 have h:(Ng T.length wi g tf te) σ H (fun v H1=>D.nx (σ.set i0 (some v)) H1):=h
 rw[exec_Assign_Name_used _ _ _ _ hsw]
 refine wpAny_bind (wpAny_standAt (wpAny_bind ?_))
 show wpAny _ X.A (do let _ ←comprehension (.ListComp elt [⟨tg,iter,ifs,0⟩] scope pos) scope X.env _ (newList []) false (eval iter X.env) (some (assign (.Name y0 py) X.env))) _ _ s
 refine wpAny_bind (wpAny_mono (wpAny_comprehension_free (use:=some (assign (.Name y0 py) X.env)) (Q:=fun _ s'=>SP X pins D .next s') (cl:=cl) rfl hs ok.clos ok.kind ok.names (thn (hi pins s σ H _ I h) fun v s1 h1=>thn h1 fun itv s2 h2=>?_)) (fun _ s' hq=>wpAny_pure (wpAny_pure hq)) fun _ _ e=>e)
 obtain⟨it,fp,tn,J,H2,e,I2,Tn,st2,f2,q⟩:=h2
 subst e
 have q:=q s2.heap.objs.size (I2.hok.fresh (Nat.le_refl _))
 refine wpAny_newObj_type ?_
 -- the new list,tracked
 have I3:Inv X pins σ (upd H2 s2.heap.objs.size (.lst [])) { s2 with heap:=s2.heap.push { cls:=.type "list",dict:=none,data:=.seq ([]:List Value).toArray } }:=
  I2.laid (t':=s2.toks) (fun b u e=>Heap.get?_push_of_some _ e) (Nat.le_refl _) ⟨Nat.zero_le _,[],0,.nil,Heap.get?_push_size _ rfl⟩
 generalize hH3:upd H2 s2.heap.objs.size (.lst [])=H3 at I3 q
 generalize hs3:({ s2 with heap:=s2.heap.push { cls:=.type "list",dict:=none,data:=.seq ([]:List Value).toArray } }:Shared)=s3 at I3
 have fpl:∀b∈fp,b<s2.heap.objs.size:=fun b hb=>let ⟨o,e,_⟩:=Tn.obj 0 _ st2 b hb;Heap.lt_size e
 have sz3:s2.heap.objs.size≤s3.heap.objs.size:=by rw[←hs3];show _≤(s2.heap.push _).objs.size;rw[Heap.size_push];exact Nat.le_succ _
 have fok:∀b∈fp,Ed X pins H3 b:=fun b hb=>⟨by rw[←hH3,Af (Nat.ne_of_lt (fpl b hb))];exact(f2 b hb).1,(f2 b hb).2⟩
 have k23:∀b o,s2.heap.get? b=some o→s3.heap.get? b=some o:=fun b o e=>by rw[←hs3];exact Heap.get?_push_of_some _ e
 have st3:tn 0 s3.heap:=Tn.keep _ _ _ st2 fun b _ o e=>k23 b o e
 refine Hn ok.kind (fun h4 hns4 k34 okc=>?_)
 have oldc:∀x c,cl.lookup x=some c→c<s3.heap.objs.size:=fun x c e=>by
  obtain⟨v,o,ho,_⟩:=I3.cell x c (ok.sub x c e).1
  exact Heap.lt_size ho
 have hc1:=Kq (h':=h4) ok okc oldc
 have hc2:=Kp (h':=h4) ok okc oldc
 have I4:Inv (Ak X scope cl T M s3 H3 fp) [] (Nb T σ) H3 { s3 with heap:=h4 }:=
  F0 ok I3 (fun b hb=>⟨fok b hb,Nat.lt_of_lt_of_le (fpl b hb) sz3⟩) hns4 k34 rfl rfl hc1 hc2
 have st4:tn 0 h4:=Tn.keep _ _ _ st3 fun b _ o e=>k34 b o e
 obtain⟨W,⟨m0,w0⟩,turn⟩:=q
 have cfpc:∀b∈fp,∀x c,(A3 scope cl s3.heap.objs.size).lookup x=some c→c≠b:=fun b hb x c e=>by
  rcases B3 ok s3.heap.objs.size x c e with ⟨_,a2⟩|⟨a1,_⟩
  ·exact Nat.ne_of_gt (Nat.lt_of_lt_of_le (Nat.lt_of_lt_of_le (fpl b hb) sz3) (Nat.le_of_succ_le a2))
  ·exact(fok b hb).2.2.2.2.1 x c (ok.sub x c a1).1
 have cfp:∀{H':Hp},(∀b∈fp,H' b=none)→∀b∈fp,Ed (Ak X scope cl T M s3 H3 fp) [] H' b:=fun hn b hb=>by
  refine⟨hn b hb,Nat.ne_of_lt (Nat.lt_of_lt_of_le (fpl b hb) sz3),fun z=>?_,.inl hb,fun x c e=>cfpc b hb x c e,fun p hp=>absurd (show p∈([]:List (Addr×Obj)) from hp) (by simp)⟩
  rcases List.mem_cons.mp (I3.stkSub b z) with e|e
  ·exact(fok b hb).2.1 e
  ·exact(fok b hb).2.2.1 e
 have fin:∀(σ':St) (H':Hp) (s':Shared),Inv (Ak X scope cl T M s3 H3 fp) [] σ' H' s'→D.nx (σ.set i0 (some (.ref s2.heap.objs.size))) H'→compPost (model X.prog X.w) X.A X.xe (some (assign (.Name y0 py) X.env)) (fun _ s'=>SP X pins D .next s') (.ref s2.heap.objs.size) s3.heap.objs.size (.ok .next) s':=fun σ' H' s' J q=>by
  obtain⟨m',hm',_⟩:=J.loc
  have J0:Inv X pins σ H' s':=I3.call' (ch:=fp) J.os J.base J.hok J.bare fun b hb=>⟨(fok b hb).2.2.2.1,(fok b hb).2.1,(fok b hb).2.2.2.2.1,(fok b hb).2.2.2.2.2⟩
  have nC:=I3.fpOk (H':=H') (Nat.le_refl s3.heap.objs.size) J.free
  show wpAny _ X.A (assign (.Name y0 py) X.env (.ref s2.heap.objs.size)) _ _ s'
  refine wpAny_assign_Name (Ji J0 hN hi0 hy (v:=.ref s2.heap.objs.size) rfl (fun s'' J1 ⟨a,sb,ha⟩=>?_) hfn)
  have na:s3.heap.objs.size≠a:=by
   rcases ha with z|z
   ·rw[z];exact nC.2.1
   ·exact fun e=>nC.2.2.2.2.1 _ _ z e.symm
  obtain⟨oC,es,ep,hoC,rC⟩:=hm'
  exact⟨m',⟨oC,es,ep,(sb.2 _ na).trans hoC,rC⟩,fun h' hs'=>⟨_,H',J1.turned (t':=s''.toks) (fun b o hb e=>(hs'.2 b hb).trans e) nC.1 nC.2.1 nC.2.2.2.1 nC.2.2.2.2.1 nC.2.2.2.2.2,q⟩⟩
 have loop:∀s5:Shared,s5={ s3 with heap:=h4 }→
   codeAny (model X.prog X.w) X.A (.compLoop (.ListComp elt [⟨tg,iter,ifs,0⟩] scope pos) 0 (.ref it) (.ref s2.heap.objs.size) (compEnvC scope (A3 scope cl s3.heap.objs.size) s3.heap.objs.size X.env))
    (compPost (model X.prog X.w) X.A X.xe (some (assign (.Name y0 py) X.env)) (fun _ s'=>SP X pins D .next s') (.ref s2.heap.objs.size) s3.heap.objs.size) s5:=by
  rintro s5 rfl
  refine Gf (fun k s'=>∃i σ' H',Inv (Ak X scope cl T M s3 H3 fp) [] σ' H' s'∧tn i s'.heap∧(∀b∈fp,H' b=none)∧W i k σ' H') ?_ m0 ⟨0,Nb T σ,H3,I4,st4,fun b hb=>(fok b hb).1,w0⟩
  rintro k s6 ⟨i,σ6,H6,I6,st6,fr6,w6⟩
  rcases turn i k σ6 H6 w6 with ⟨stop,qn⟩|⟨go,N,hN,step⟩
  ·refine wpAny_mono (Tn.done (Ak X scope cl T M s3 H3 fp) rfl rfl rfl hc i [] s6 _ H6 (fun _ _=>False) I6 (cfp fr6) st6 stop) (fun r s7 ⟨hr,I7⟩=>?_) fun _ _ z=>z.elim
   subst hr
   exact fin _ H6 s7 I7 qn
  ·refine wpAny_mono (Tn.item (Ak X scope cl T M s3 H3 fp) rfl rfl rfl hc i [] s6 _ H6 (fun _ _=>False) I6 (cfp fr6) st6 go) (fun r s7 ⟨u,hr,h7⟩=>?_) fun _ _ z=>z.elim
   subst hr
   show Lw _ _ _ _ _ _ _ _ _ _ _ _ _;unfold Lw
   refine wpAny_mono h7 (fun _ s8 h8=>?_) fun _ _ z=>z.elim
   obtain⟨x7,H7,I7,r7,y7,st7,fr7⟩:=h8
   have I7':=I7.pinned (cfp fr7) (Tn.obj _ _ st7)
   have back:∀{σ8:St} {H8:Hp} {s9:Shared},Inv (Ak X scope cl T M s3 H3 fp) ([]++Cq fp s8.heap) σ8 H8 s9→tn (i+1) s9.heap∧∀b∈fp,H8 b=none:=fun {σ8 H8 s9} I8=>by
    refine⟨Tn.keep _ _ _ st7 fun b hb o e=>(I8.pin (b,o) (List.mem_append_right _ (List.mem_append_right _ (Bm hb e)))).1,fun b hb=>?_⟩
    obtain⟨o,e,d⟩:=Tn.obj _ _ st7 b hb
    exact(I8.pin (b,o) (List.mem_append_right _ (List.mem_append_right _ (Bm hb e)))).2.1
   have again:∀{σ9:St} {H9:Hp} {s9:Shared},Inv (Ak X scope cl T M s3 H3 fp) ([]++Cq fp s8.heap) σ9 H9 s9→N σ9 H9→
     ∃m,m<k∧∃i σ' H',Inv (Ak X scope cl T M s3 H3 fp) [] σ' H' s9∧tn i s9.heap∧(∀b∈fp,H' b=none)∧W i m σ' H':=fun {σ9 H9 s9} I9 n9=>by
    obtain⟨m',hm,w9⟩:=hN σ9 H9 n9
    obtain⟨b1,b2⟩:=back I9
    exact⟨m',hm,i+1,σ9,H9,I9.unpinned,b1,b2,w9⟩
   refine wpAny_mono (hg s3 H3 fp _ s8 σ6 H7 x7 u _ I7' r7 (step x7 H7 y7)) (fun _ s9 ⟨σ9,H9,I9,q9⟩=>?_) fun _ _ z=>z.elim
   refine wpAny_mono (hf s3 H3 fp _ s9 σ9 H9 _ I9 q9) (fun okb s10 ⟨H10,I10,q10⟩=>?_) fun _ _ z=>z.elim
   cases okb with
   |false=>
    rw[if_neg Bool.false_ne_true] at q10 ⊢
    exact again I10 q10
   |true=>
    rw[if_pos rfl] at q10 ⊢
    refine wpAny_mono (he s3 H3 fp _ s10 σ9 H10 _ I10 q10) (fun y s11 ⟨yv,H11,I11,ry,ys,e11,l11,n11⟩=>?_) fun _ _ z=>z.elim
    refine wpAny_mono (Fw (X:=Ak X scope cl T M s3 H3 fp) _ s11 σ9 H11 (.ref s2.heap.objs.size) [yv] (.ref s2.heap.objs.size) [y] (fun _ H12=>N σ9 H12) I11 rfl (.cons ry .nil) ⟨_,ys,yv,rfl,rfl,e11,l11,n11⟩) (fun _ s12 ⟨_,H12,I12,_,n12⟩=>?_) fun _ _ z=>z.elim
    exact again I12 n12
 exact codeAny_compStart_list (loop _ rfl) (Tn.self _ 0 _ _ _ st4 (loop _ rfl))


theorem Yk{K:W.Frag}{t:DTE}{i:Nat}{E:Ends}{σ:St}{H:Hp}(h:Dl K (B9 t (A0 i)) E σ H):Bk K t σ H fun v H1=>E.nx (σ.set i (some v)) H1:=by
 obtain⟨σD,G,D,rs,rg,h,cl⟩:=h
 exact⟨σD,G,fun x G1=>D.nx (σD.set i (some x)) G1,rs,rg,h,fun d G' q H' x' rg' v dv=>cl.nx _ _ q _ x' rg' _ ((rs.ext x').set dv i)⟩
section
variable{X:Cx}{elt iter tg kx vx:Expr}{ifs:List Expr}{scope:Scope}{pos:Pos}{ti te tk tv:DTE}{tf:DTT}{g:DTG}{T M:List Str}
theorem T4{i0:Nat}{y0:Str}{py spos:Pos}(hc:X.calm=true)(ok:CompOz X scope (Bq X.env.cells scope.names []) T M)(hi:QE X iter ti)(hg:QGz X scope T M tg g)(hf:QFz X scope T M ifs tf)(he:QEz X scope T M elt te)(hN:X.N.Nodup)(hsw:swapsWith (.ListComp elt [⟨tg,iter,ifs,0⟩] scope pos) (some (.Name y0 py)) spos.line X.env=pure true)(hi0:X.N[i0]? = some y0:=by rfl)(hy:Loc X.env.scope y0:=by first|exact .inl rfl|exact .inr rfl)(hfn:X.fn y0=true∨X.env.scope.names.lookup y0=some .local:=by first|exact .inl rfl|exact .inr rfl)(hs:∀x,foldedSetIterable iter X.env x=pure x:=by intro _;rfl):QS X (.Assign [.Name y0 py] (.ListComp elt [⟨tg,iter,ifs,0⟩] scope pos) spos) (B9 (Do T.length ti g tf te) (A0 i0)):=
 (We (g:=Cu X.K g) (tf:=Dh X.K tf) (te:=Bk X.K te) hc ok (Kc hi) hg hf he hN hi0 hy hfn hsw hs).imp fun E0 σ H h0=>by
 obtain⟨σD,G,Q',rs,rg,h,cl⟩:=Yk h0
 refine⟨σD,G,_,rs,rg,h,fun d G1 ⟨ds,ei,L⟩ H1 x1 rg1 v dv=>?_⟩
 obtain⟨a,rfl⟩:=Fc ei dv
 refine⟨a,rfl,?_⟩
 have lp:=fun p hp=>B8 (J:=jOf X.K d a) (rs.ext x1) rg1 hp (fun d' G' q=>(cl d' G' q).go x1) (fun H' G' x' rg' s'=>C4 (Ds rg' s' (dv.ext x'))) (L p (rg1.free hp))
 cases dv with
 |tup e r=>exact .inr ⟨⟨_,.inl (.inl e)⟩,lp⟩
 |lint e=>exact .inl ⟨⟨_,e.sq⟩,lp⟩
 |ref=>
  simp only[Aw] at ei
  split at ei
  ·rename_i ds' q
   obtain⟨xs,e,r⟩:=rg1 a _ q
   exact .inl ⟨⟨_,.inl (.inl e)⟩,lp⟩
  ·cases ei

end
section
variable{X:Cx}{e:Expr}{te:DTE}{pos:Pos}
end
section
variable{X:Cx}{e:Expr}{ta:DTE}
end
section
variable{X:Cx}{a b:Expr}{ta:TA}{tA:DTA}{p p0 pos pos0:Pos}
end
section
variable{P:Program}{w:World}{A:Around}{R:Result→Shared→Prop}{it S:Addr}{fp wr:List Addr}{n:Nat}{V:Nat→Value→Prop}{st:Nat→Heap→Prop}{bt:Nat→Nat→Bool}{kw:List (Str×Value)}
end
section
variable{P:Program}{w:World}{A:Around}{E:Value→Shared→Prop}{s:Shared}
end
section
variable{X:Cx}{e:Expr}{p pos:Pos}
end
section
variable{X:Cx}{elt iter tg:Expr}{ifs:List Expr}{scope:Scope}{pos:Pos}{ti te:DTE}{tf:DTT}{g:DTG}{T M:List Str}
def Mc(n:Nat)(tA:DTA)(g:DTG)(tf:DTT)(te:DTE):DTE:=fun σ G Q=>tA σ G fun ds G1=>∃i j,ds=[.int i,.int j]∧(-(2 ^ 62)≤i∧i<2 ^ 62∧-(2 ^ 62)≤j∧j<2 ^ 62)∧∀p,G1 p=none→Gc n p (El i j) (fun _=>True) g tf te σ (Ab G1 p (.lst [])) Q
theorem q_compzR2{a b:Expr}{tA:DTA}{p p2:Pos}(hc:X.calm=true)(ok:CompOz X scope (Bq X.env.cells scope.names []) T M)(hm:X.mg "range" = none)(ha:QA X [a,b] tA)(hg:QGz X scope T M tg g)(hf:QFz X scope T M ifs tf)(he:QEz X scope T M elt te)(hgl:Gl X "range":=by rfl)(hst:starEach [a,b] X.env=[(false,eval a X.env),(false,eval b X.env)]:=by rfl)(hst2:starEach [b] X.env=[(false,eval b X.env)]:=by rfl)(hs:∀x,foldedSetIterable (.Call (.Name "range" p) [a,b] [] p2) X.env x=pure x:=by intro _;rfl):QE X (.ListComp elt [⟨tg,.Call (.Name "range" p) [a,b] [] p2,ifs,0⟩] scope pos) (Mc T.length tA g tf te):=
 (E9 (g:=Cu X.K g) (tf:=Dh X.K tf) (te:=Bk X.K te) hc ok (Qm hgl hm ha hst hst2) hg hf he hs).imp fun σ H Q ⟨σD,G,Q',rs,rg,h,cl⟩=>by
 refine⟨σD,G,_,rs,rg,h,fun ds G1 ⟨i,j,ej,hij,L⟩ H1 x1 rg1 vs dv=>?_⟩
 subst ej
 obtain⟨v,w,rfl,r,r'⟩:=dv.two
 cases r;cases r'
 refine⟨i,j,rfl,hij,fun p hp=>B8 (J:=Itr i (j-i).toNat) (rs.ext x1) rg1 hp (fun d' G' q=>(cl d' G' q).go x1) (fun H' G' x' rg' _=>C4 (G:=G') ?_) (L p (rg1.free hp))⟩
 refine⟨fun k hk=>by rw[Df] at hk;exact hk,fun k x H2 hk y=>?_,by show(j-i).toNat≤_;rw[Df];exact Nat.le_refl _⟩
 rw[Df] at hk
 obtain⟨e1,e2⟩:=y
 refine⟨e1,_,Ob hk,?_⟩
 rw[e2]
 exact .int _
end
section
variable{X:Cx}{elt iter tg kx vx:Expr}{ifs:List Expr}{scope:Scope}{pos:Pos}{ti te tk tv:DTE}{tf:DTT}{g:DTG}{T M:List Str}
end
section
variable{X:Cx}
def dRepL:DR2:=fun x y G Q=>∃a k,x=.ref a∧y=.int k∧∃xs,G a=some (.lst xs)∧0≤k∧xs.length*k.toNat≤sizeLine∧k<2 ^ 60∧∀p,G p=none→Q (.ref p) (Ab G p (.lst (List.replicate k.toNat xs).flatten))
theorem DVs.rep{K:W.Frag}{H:Hp}{ds:List D}{vs:List V}(h:DVs K H ds vs):∀n:Nat,DVs K H (List.replicate n ds).flatten (List.replicate n vs).flatten
 |0=>.nil
 |n+1=>by rw[List.replicate_succ,List.replicate_succ,List.flatten_cons,List.flatten_cons];exact h.append (h.rep n)
theorem o_repL:QOp X (binaryOp .Mult) dRepL:=by
 intro pins s σ H x y v u Q I rx ry ⟨dx,dy,G,Q',hx,hy,rg,⟨a,k,ex,ey,xs,ga,k0,hz,k1,h⟩,cl⟩
 subst ex ey
 cases hx;cases hy
 obtain⟨vs,ea,ra⟩:=rg a _ ga
 exact Zj pins s σ H _ _ v u Q I rx ry ⟨a,k,vs,rfl,rfl,ea,by omega,by omega,by rw[←ra.length];exact hz,fun p hp=>cl _ _ (h p (rg.free hp)) _ (Ext.fresh hp) (rg.lst hp (ra.rep _)) _ (.ref p)⟩
end
section
theorem F5:fillsNumberSlot (.type "tuple") "mul" = pure false:=
 PySem.fillsNumberSlot_seq (id:="tuple.__mul__") (r:=some (.builtin "tuple.__rmul__")) PySem.F.slot_tuple_mul.lookup (by decide +kernel) PySem.F.slot_tuple_rmul.lookup (by decide +kernel)
theorem K0:seqRepeat? (.type "tuple")=pure (some (.builtin "tuple.__mul__")):=by
 unfold seqRepeat?
 rw[PySem.seqSlot_of (T:="tuple") (name:="__mul__") (id:="tuple.__mul__") PySem.F.slot_tuple_mul.lookup (by decide +kernel),PySem.seqSlot_of (T:="tuple") (name:="__rmul__") (id:="tuple.__rmul__") PySem.F.slot_tuple_rmul.lookup (by decide +kernel)]
 rfl
theorem Ih(a:Int)(t:Tok)(l:Addr)(items:Array Value)(n:Nat)(dd:Option Addr)(sl:Array (Option Value)) :
  Meets (Builtin.«int.__rmul__» ⟨[.int a t,.ref l],[]⟩) (fun _ R s=>s.heap.get? l=some { cls:=.type "tuple",dict:=dd,data:=.seq items n,slots:=sl }∧R (.ok (.ret Value.notImplemented)) s):=
 .of_wp fun prog w A R s h=>by obtain⟨hp,g,d,tk,os⟩:=s;obtain⟨hl,h⟩:=h;wp_walk;exact⟨_,rfl,h⟩
theorem Ny(l:Addr)(items:Array Value)(n:Nat)(dd:Option Addr)(sl:Array (Option Value))(x:Int)(u:Tok)(h2:2≤x)(h3:x<2 ^ 60)(he:items.isEmpty=false)(hz:items.size*x.toNat≤sizeLine) :
  Meets (Builtin.«tuple.__mul__» ⟨[.ref l,.int x u],[]⟩) (fun _ R s=>s.heap.get? l=some { cls:=.type "tuple",dict:=dd,data:=.seq items n,slots:=sl }∧R (.ok (.ret (Value.ref s.heap.objs.size))) { s with heap:=s.heap.push { cls:=Value.type "tuple",data:=Data.seq ((List.replicate x.toNat items).foldl (fun a b=>a++b) #[]) } }):=
 .of_wp fun prog w A R s h=>by
  obtain⟨hp,g,d,tk,os⟩:=s;obtain⟨hl,h⟩:=h
  wp_walk
  refine Br (by simp;omega) ?_
  wp_walk
  have ex:(items.size:Int)*x=((items.size*x.toNat:Nat):Int):=by
   rw[Int.natCast_mul,Int.toNat_of_nonneg (by omega)]
  have hs:=sizeLine_eq
  refine Br (by rw[he];simp;omega) ?_
  dsimp only
  refine Br (by rw[he];simp;omega) ?_
  refine Br (by rw[ex];omega) ?_
  refine Br (by rw[ex];unfold Builtin.Tuple.tupleTooMany;rw[decide_eq_true_eq];omega) ?_
  have fit:(List.foldl (fun x1 x2=>x1++x2) #[] (List.replicate x.toNat items)).size≤sizeLine:=by
   have e:=D8 items.toList x.toNat []
   rw[List.nil_append] at e
   have e:List.foldl (fun x1 x2=>x1++x2) #[] (List.replicate x.toNat items)=(List.replicate x.toNat items.toList).flatten.toArray:=by simpa using e
   rw[e,List.size_toArray,Ko,Array.length_toList,Nat.mul_comm];exact hz
  exact wpAny_bind (m:=Builtin.Tuple.tupleExact _) (wpAny_newObj_type (wpAny_pure ⟨_,rfl,h⟩) fit)
end
section
variable{X:Cx}
def dRepT:DR2:=fun x y G Q=>∃xs k,x=.tup xs∧y=.int k∧xs≠[]∧2≤k∧k<2 ^ 60∧xs.length*k.toNat≤sizeLine∧Q (.tup (List.replicate k.toNat xs).flatten) G
theorem o_repT:QOp X (binaryOp .Mult) dRepT:=by
 intro pins s σ H x y v u Q I rx ry ⟨dx,dy,G,Q',hx,hy,rg,⟨xs,k,ex,ey,hne,k2,k60,hz,q⟩,cl⟩
 subst ex ey
 cases hy
 cases hx with
 |@tup _ a vs ea ra=>
  cases rx
  obtain⟨t,rfl⟩:=ry
  obtain⟨its,r1,p1,_⟩:=I.tuple (.inl (.inl ea))
  obtain⟨⟨cls,dd,data,sl⟩,ho,hcl,n,hd⟩:=id p1
  simp only at hcl hd
  subst hcl hd
  have l1:=r1.length
  have l2:=ra.length
  have hsz:its.toArray.size*k.toNat≤sizeLine:=by rw[List.size_toArray,←l1,←l2];exact hz
  have he:its.toArray.isEmpty=false:=by
   cases its with
   |nil=>exact absurd (List.eq_nil_of_length_eq_zero (by rw[l2,l1];rfl)) hne
   |cons _ _=>rfl
  have hnew:List.foldl (fun a b=>a++b) #[] (List.replicate k.toNat its.toArray)=(List.replicate k.toNat its).flatten.toArray:=by
   have:=D8 its k.toNat []
   rw[List.nil_append] at this
   exact this
  refine wpAny_binaryOp_repeat_ref (T:="tuple") (U:="int") (by decide) ⟨_,ho,rfl⟩ (fun s'=>typeIs_int s' k t) F5 PySem.F.fills_int_mul PySem.F.slot_int_rmul K0 PySem.F.slot_int_index.lookup
   (call_meets PySem.F.slot_int_rmul (typeIs_int s k t) PySem.F.entry_int_rmul (PySem.F.args_int_rmul_2 _ _) (Ih k t a its.toArray n dd sl)
    ⟨ho,rfl,⟨_,ho,rfl⟩,call_meets PySem.F.slot_tuple_mul ⟨_,ho,rfl⟩ PySem.F.entry_tuple_mul (PySem.F.args_tuple_mul_2 _ _) (Ny a its.toArray n dd sl k t k2 k60 he hsz) ⟨ho,?_⟩⟩)
  rw[hnew]
  have hp:=I.hok.fresh (Nat.le_refl s.heap.objs.size)
  refine⟨.ref s.heap.objs.size,_,I.laid (t':=s.toks) (o:=.tup (List.replicate k.toNat vs).flatten) (fun b o z=>Heap.get?_push_of_some _ z) (Nat.le_refl _) (show ObjOk X.prog X.w _ _ _ (.tup _) from⟨by rw[Ko,Nat.mul_comm,←l2];exact hz,_,r1.rep k.toNat,IsTup.new _ _⟩),rfl,?_⟩
  exact cl _ G q _ (Ext.fresh hp) (rg.tup hp) _ (.tup Ah ((ra.rep _).ext (Ext.fresh hp)))
end
end D3
set_option maxRecDepth 100000
namespace D3
open PySem PySem.Spec PyProof.Rows L2
section
variable{X:Cx}{pos:Pos}
theorem q_v1{i:Nat}{x:Str}(h:X.N[i]? = some x∧X.env.scope.names.lookup x=some .local∧(x == ("__debug__" : Str))=false∧(x == ("__classdict__" : Str))=false):QE X (.Name x pos) (Ao i):=R7 h.1 (.inl h.2.1) h.2.2.1 h.2.2.2
theorem q_v2{i:Nat}{x:Str}(h:X.N[i]? = some x∧X.env.scope.names.lookup x=some .cell∧(x == ("__debug__" : Str))=false∧(x == ("__classdict__" : Str))=false):QE X (.Name x pos) (Ao i):=R7 h.1 (.inr (.inl h.2.1)) h.2.2.1 h.2.2.2
theorem q_v3{i:Nat}{x:Str}(h:X.N[i]? = some x∧X.env.scope.names.lookup x=some .free∧(x == ("__debug__" : Str))=false∧(x == ("__classdict__" : Str))=false):QE X (.Name x pos) (Ao i):=R7 h.1 (.inr (.inr h.2.1)) h.2.2.1 h.2.2.2
end
theorem S0{P:Program}{w:World}{H:Hp}{h:Heap}{a:Addr}{o:HO}(x:ObjOk P w H h a o):∃ob,h.get? a=some ob:=by
 cases o with
 |lst xs=>obtain⟨_,_,_,_,e⟩:=x;exact⟨_,e⟩
 |tup xs=>obtain⟨_,_,_,ob,e,_⟩:=x;exact⟨_,e⟩
 |dK kvs=>obtain⟨_,_,_,_,ob,_,_,e,_⟩:=x;exact⟨_,e⟩
 |dT kvs=>obtain⟨_,_,_,_,ob,_,_,e,_⟩:=x;exact⟨_,e⟩
 |set S n=>obtain⟨ob,_,_,_,e,_⟩:=x;exact⟨_,e⟩
 |ins C dx fs=>obtain⟨_,_,_,e,_⟩:=x;exact⟨_,e⟩
 |own y=>exact x
 |xd fs=>obtain⟨_,⟨_,_,_,e,_⟩,_⟩:=x;exact⟨_,e⟩
 |rng lo hi=>obtain⟨_,_,_,e⟩:=x;exact⟨_,e⟩
 |frz ob u=>exact⟨_,x.1⟩
 |tbl ps=>exact⟨_,x⟩
 |met f y=>exact⟨_,x⟩
 |ext φ=>exact x.2.1
def CX1(P:Program)(w:World):CXT:=fun outer H s E e s'=>∃(a C t:Addr) (H':Hp) (B:Heap),e=.ref a∧s'.os=s.os∧AllBare s'.gens∧Un (frs outer) [] H H' s.heap s'.heap∧HOk P w H' s'.heap∧
 Heap.FlyingW B outer a (.ref C) (.ref t) s'.heap∧(∀b o,s.heap.get? b=some o→b ∉ frs outer→(H b=none→B.get? b=some o)∧∃o',B.get? b=some o')∧
 (∀b u,H' b=some u→∀o,s'.heap.get? b=some o→B.get? b=some o)∧H' a=none∧E (.ref C) none H'
section
variable{X:Cx}{pins:List (Addr×Obj)}{σ:List (Option V)}{H:Hp}{s s':Shared}{E XE:XK}{e:Value}{E':Value→Shared→Prop}
theorem Fd{env:Env}{l:List Env}{L b:Addr}(hf:env.frame=some L):b∈frs (env::l)↔b=L∨b∈frs l:=by
 unfold frs
 rw[List.filterMap_cons,hf]
 exact List.mem_cons
theorem Ke{fs ex:List Addr}{H H':Hp}{h h':Heap}(u:Un fs ex H H' h h'):Ext H H':=⟨u.tups,u.frzs⟩
theorem Pc{B h':Heap}{H':Hp}{G':Heap}(I:Inv X pins σ H s)(hst:X.stack=X.env::X.outer)(hfr:X.env.frame=some X.env.locals)(hex:X.ex=[])(un:Un (frs X.stack) [] H H' s.heap G')(hB:∀b o,s.heap.get? b=some o→b ∉ frs X.stack→(H b=none→B.get? b=some o)∧∃o',B.get? b=some o')(st:B.StaysIn h')(up:G'.UpToSlots h') :
  Un (frs X.outer) [] X.H₀ H' X.s₀.heap h'∧∀b o,X.s₀.heap.get? b=some o→b ∉ frs X.outer→(X.H₀ b=none→B.get? b=some o)∧∃o',B.get? b=some o':=by
 have u1:Un (frs X.outer) [] X.H₀ H X.s₀.heap s.heap:=by have:=I.base;rw[hex] at this;exact this
 rw[hst] at un hB
 have no:∀b:Addr,b ∉ ([]:List Addr):=fun b=>by simp
 have nf:∀b o,X.s₀.heap.get? b=some o→b ∉ frs X.outer→b ∉ frs (X.env::X.outer):=fun b o e n m=>by
  rcases(Fd hfr).mp m with z|z
  ·exact absurd (Nat.lt_of_lt_of_le (Heap.lt_size e) I.ok.above) (by rw[z];exact Nat.lt_irrefl _)
  ·exact n z
 have key:∀b o,X.s₀.heap.get? b=some o→b ∉ frs X.outer→(X.H₀ b=none→B.get? b=some o)∧∃o',B.get? b=some o':=fun b o e n=>by
  refine⟨fun hn=>(hB b o (u1.keep b o e hn n (no b)) (nf b o e n)).1 (u1.free b o e hn (no b)),?_⟩
  obtain⟨o1,e1⟩:=u1.there b o e (no b)
  exact(hB b o1 e1 (nf b o e n)).2
 have slt:∀b o,X.s₀.heap.get? b=some o→X.H₀ b=none→b∈frs X.outer→∃sl,h'.get? b=some { o with slots:=sl }:=fun b o e hn m=>by
  obtain⟨sl1,e1⟩:=u1.slot b o e hn m (no b)
  obtain⟨sl2,e2⟩:=un.slot b _ e1 (u1.free b o e hn (no b)) ((Fd hfr).mpr (.inr m)) (no b)
  obtain⟨_,o',e',nf'⟩:=I.ok.funs.mem m
  rw[e] at e';cases e'
  obtain⟨sl3,e3⟩:=up b _ e2 nf'
  exact⟨sl3,e3⟩
 refine⟨⟨fun b o e hn n _=>st b o ((key b o e n).1 hn),fun b o e hn m _=>slt b o e hn m,fun b o e hn _=>?_,fun b o e _=>?_,fun b xs e=>un.tups b xs (u1.tups b xs e),fun b o u e=>un.frzs b o u (u1.frzs b o u e),fun b ps e=>?_⟩,key⟩
 ·have h1:=u1.free b o e hn (no b)
  by_cases m:b∈frs X.outer
  ·obtain⟨sl1,e1⟩:=u1.slot b o e hn m (no b)
   exact un.free b _ e1 h1 (no b)
  ·exact un.free b o (u1.keep b o e hn m (no b)) h1 (no b)
 ·by_cases m:b∈frs X.outer
  ·obtain⟨sl,q⟩:=slt b o e (I.ok.frf b m) m
   exact⟨_,q⟩
  ·obtain⟨o',q⟩:=(key b o e m).2
   exact⟨o',st b o' q⟩
 ·obtain⟨m1,q1⟩:=u1.tbls b ps e
  obtain⟨m2,q2⟩:=un.tbls b _ q1
  exact⟨m1++m2,by rw[q2,Array.append_assoc]⟩
theorem Ho{P:Program}{w:World}{B h h':Heap}{H':Hp}(hok:HOk P w H' h)(hT:∀b u,H' b=some u→∀o,h.get? b=some o→B.get? b=some o)(st:B.StaysIn h'):HOk P w H' h'∧∀b u,H' b=some u→∀o,h'.get? b=some o→B.get? b=some o:=by
 refine⟨fun b u q=>(hok b u q).stay (fun c v hc r=>?_) (fun c r=>r) (fun c xs r=>r),fun b u q o r=>?_⟩
 ·rcases hc with rfl|hc
  ·exact st _ _ (hT _ _ q _ r)
  ·exact st _ _ (hT _ _ hc _ r)
 ·obtain⟨ob,z⟩:=S0 (hok b u q)
  have y:=hT b u q ob z
  have:=st _ _ y
  rw[r] at this
  cases this
  exact y
theorem Me(hst:X.stack=X.env::X.outer)(hfr:X.env.frame=some X.env.locals)(hex:X.ex=[])(I:Inv X pins σ H s)(h:CX1 X.prog X.w X.stack H s E e s')(hE:∀C H',Ext X.H₀ H'→E (.ref C) none H'→XE (.ref C) none H') :
  wpAny (model X.prog X.w) X.A (leaving X.env e) (fun _ s''=>CX1 X.prog X.w X.outer X.H₀ X.s₀ XE e s'') E' s':=by
 obtain⟨a,C,t,H',B,rfl,os,bare,un,hok,fl,hB,hT,hn,q⟩:=h
 rw[hst] at fl
 refine wpAny_leaves_onW (by rw[I.ok.frames,hst]) hfr fl fun h' fl' up=>?_
 obtain⟨u2,k2⟩:=Pc I hst hfr hex un hB fl'.1 up
 obtain⟨ok2,t2⟩:=Ho hok hT fl'.1
 exact⟨a,C,t,H',B,rfl,os.trans I.os,bare,u2,ok2,fl',k2,t2,hn,hE C H' (Ke u2) q⟩
theorem Qx{C x:Addr}{h1:Heap}{vs:List Value}(hst:X.stack=X.env::X.outer)(hfr:X.env.frame=some X.env.locals)(hex:X.ex=[])(I:Inv X pins σ H s)(mk:Heap.MadeExcOf s.heap h1 x (.ref C) vs)(q:XE (.ref C) none H) :
  wpAny (model X.prog X.w) X.A (leaving X.env (.ref x)) (fun _ s''=>CX1 X.prog X.w X.outer X.H₀ X.s₀ XE (.ref x) s'') E' { s with heap:=h1 }:=by
 have hin:∀env∈X.env::X.outer,∀b,env.frame=some b→b∈frs X.stack:=fun env he b hb=>by rw[hst];exact List.mem_filterMap.mpr ⟨env,he,hb⟩
 have fun_:=I.stack
 rw[hst] at fun_
 refine wpAny_leaves_madeW (base:=PySem.W.hideAll s.heap (frs X.stack)) (h:=s.heap) (by rw[I.ok.frames,hst]) hfr (fun b o z=>PySem.W.of_hideAll _ z) (PySem.W.funFrames_hide fun_ hin) mk fun h' t fl _ _ up=>?_
 have hB:∀b o,s.heap.get? b=some o→b ∉ frs X.stack→(H b=none→(PySem.W.hideAll s.heap (frs X.stack)).get? b=some o)∧∃o',(PySem.W.hideAll s.heap (frs X.stack)).get? b=some o':=fun b o z n=>⟨fun _=>PySem.W.hideAll_get _ z n,o,PySem.W.hideAll_get _ z n⟩
 have un:Un (frs X.stack) [] H H s.heap h1:=Un.kept mk.keeps
 obtain⟨u2,k2⟩:=Pc I hst hfr hex un hB fl.1 up
 obtain⟨ok2,t2⟩:=Ho I.hok (fun b u z o y=>PySem.W.hideAll_get _ y fun m=>by rw[I.stkFree b m] at z;cases z) fl.1
 have hn:H x=none:=by
  cases z:H x with
  |none=>rfl
  |some u=>
   obtain⟨ob,y⟩:=S0 (I.hok x u z)
   rw[mk.new] at y;cases y
 exact⟨x,C,t,H,_,rfl,I.os,I.bare,u2,ok2,fl,k2,t2,hn,q⟩
end
def Fx(E:DX):DX:=fun c G=>∃G',Sub G' G∧E c G'
theorem Fx.of{E:DX}{c:Value}{G:Gp}(h:E c G):Fx E c G:=⟨G,Sub.refl G,h⟩
def X9(K:PySem.W.Frag)(H:Hp)(XE:XK)(E:DX):Prop:=∀c G',E c G'→Fwd K H G' fun H'=>∀ad,XE c ad H'
section
variable{P:Program}{w:World}{K:W.Frag}{mg:Str→Option Value}{base:Heap}{N:List Str}{qual:Str}{scope:Scope}{f:Addr}{cd:Value}{A:Around}{outer:List Env}{s:Shared}{H:Hp}{XE:XK}{E:DX}
theorem Ev(hE:X9 K H XE E):Cb (CX1 P w) (Cl (CX1 P w) P w K mg base N qual scope f cd A outer s H XE) (Ex K (Fx E)):=
 fun pins σ H1 s1 e s' I h=>Me (X:=Cl (CX1 P w) P w K mg base N qual scope f cd A outer s H XE) rfl rfl rfl I h fun C H' x ⟨G',rg,G2,sb,q⟩=>hE _ G2 q H' x (rg.ext' sb) none
theorem passF{X:Cx}:Cb (CX1 X.prog X.w) X (Ex X.K noX):=fun pins σ H1 s1 e s' I ⟨a,C,t,H',B,_,_,_,_,_,_,_,_,_,G',_,z⟩=>z.elim
end
abbrev X3:List Value:=[.type "ValueError",.type "Exception",.type "BaseException",.type "object"]
structure ExcK(K:PySem.W.Frag)(x:Str)(C:Addr):Prop where
 nm:PySem.W.nsIn K mainGlobals x=some (some (.ref C))
 ok:PySem.W.excIn K C X3 "ValueError.__new__" = true
theorem ExcK.own{K:W.Frag}{g:Heap}{mg:Str→Option Value}{x:Str}{C:Addr}(X:K.In g)(G:g.Ns mainGlobals mg)(z:ExcK K x C):OwnCls x C X3 "ValueError.__new__" mg g:=by
 refine⟨PySem.W.mg_of X G z.nm,?_⟩
 have r:=z.ok
 unfold PySem.W.excIn at r
 split at r
 case h_2=>cases r
 case h_1 dct cls sl0 at_=>
  split at r
  case h_2=>cases r
  case h_1 C' tl a0 a1 a2 a3 nid a5 e1 e2=>
   simp only[Bool.and_eq_true,beq_iff_eq,Bool.not_eq_true'] at r
   obtain⟨⟨⟨⟨⟨r1,r2⟩,r3⟩,r4⟩,r5⟩,r6⟩:=r
   subst r1 r2
   obtain⟨b1,b2,b3,b4,b5,b6,b7,b8,b9,b10,b11⟩:=cls
   dsimp only at e1 r3 r5 r6
   subst e1 r3
   have e3:sl0=#[a0,a1,a2,a3,some (.builtin "ValueError.__new__"),a5]:=by
    cases sl0 with
    |mk l=>exact congrArg Array.mk e2
   subst e3
   exact⟨tl,b4,b1,b5,b2,b6,b7,b8,b9,b10,dct,a0,a1,a2,a3,a5,_,X _ _ at_,.of_isNs (PySem.W.isNs_of_in X r5),PySem.W.nsMap_none_of_in X r5 r6,PySem.W.tail_of_in X r4⟩
section
variable{X:Cx}{x:Str}{C:Addr}{np cpos pos:Pos}{e:Expr}
theorem T8{tA:TA}{R:Hp→Prop}(hc:X.calm=true)(O:ExcK X.K x C)(ha:PA X [e] tA)(hx:∀pins σ H s h1 a vs,Inv X pins σ H s→R H→Heap.MadeExcOf s.heap h1 a (.ref C) vs→X.xe (.ref a) { s with heap:=h1 })(hg:Gl X x:=by rfl)(hd:(x == ("__debug__" : Str))=false:=by decide)(he:starEach [e] X.env=(false,eval e X.env)::starEach [] X.env:=by rfl)(hpl:(backTo cpos (starEach [] X.env)).any (·.1)=false:=by rfl) :
  PS X (.Raise (some (.Call (.Name x np) [e] [] cpos)) none pos) (fun D σ H=>tA σ H fun vs H1=>vs.length≤sizeLine∧R H1):=by
 intro pins s σ H D I h
 have own:=O.own I.mod.kin I.mod.glob
 obtain⟨tl,N,nm,q,bs,hdct,sn,sub,ab,col,dd,k0,k1,k2,k3,k5,mN,hC,hN,hni,T⟩:=own.obj
 refine wpAny_Raise_call_subU (C:=C) (nm:=nm) (q:=q) (N:=N) (bs:=bs) (bm:=tl) (hdct:=hdct) (sn:=sn) (sub:=sub) (ab:=ab) (col:=col) (dd:=dd) (k0:=k0) (k1:=k1) (k2:=k2) (k3:=k3) (k5:=k5)
  PySem.F.excBase_ValueError (by decide) PySem.F.excBase_ValueError (mN:=mN) (T.hasType PySem.F.excBase_ValueError.hasBase) (I.ok.hd hc) (by rw[he];show(false||(backTo cpos (starEach [] X.env)).any (·.1))=false;rw[hpl];rfl) hni (D4 I hg own.bound ⟨rfl,?_⟩ hd)
 have z:=ha cpos pins s σ H _ I h
 rw[he] at z ⊢
 exact Calls.evalArgs_plain (wpAny_mono z (fun us s2 ⟨vs,H1,I1,r,hl,q⟩=>⟨rfl,by show us.length≤_;rw[←r.length];exact hl,I1.bk _ _ hC,hN.keeps I1.bk,T.keeps I1.bk,fun h' a mk=>hx pins σ H1 s2 h' a us I1 q mk⟩) fun _ _ y=>y)
end
section
variable{P:Program}{w:World}{K:W.Frag}{mg:Str→Option Value}{base:Heap}{N:List Str}{qual:Str}{scope:Scope}{f:Addr}{cd:Value}{A:Around}{outer:List Env}{s:Shared}{H:Hp}{XE:XK}{E:DX}{x:Str}{C:Addr}{np cpos pos:Pos}{e:Expr}{tA:DTA}
def S2(E:DX)(C:Addr)(tA:DTA):DTS:=fun D σ G=>tA σ G fun ds G1=>ds.length≤sizeLine∧Fx E (.ref C) G1
theorem T3(hE:X9 K H XE E)(O:ExcK K x C)(ha:QA (Cl (CX1 P w) P w K mg base N qual scope f cd A outer s H XE) [e] tA)(hg:Gl (Cl (CX1 P w) P w K mg base N qual scope f cd A outer s H XE) x:=by rfl)(hd:(x == ("__debug__" : Str))=false:=by decide)(he:starEach [e] (envOfC qual scope s.heap.objs.size f cd)=(false,eval e (envOfC qual scope s.heap.objs.size f cd))::starEach [] (envOfC qual scope s.heap.objs.size f cd):=by rfl)(hpl:(backTo cpos (starEach [] (envOfC qual scope s.heap.objs.size f cd))).any (·.1)=false:=by rfl) :
  QS (Cl (CX1 P w) P w K mg base N qual scope f cd A outer s H XE) (.Raise (some (.Call (.Name x np) [e] [] cpos)) none pos) (S2 E C tA):=
 (T8 (X:=Cl (CX1 P w) P w K mg base N qual scope f cd A outer s H XE) (R:=fun H1=>Ext H H1→XE (.ref C) none H1) rfl O ha (fun pins σ H1 s1 h1 a vs I q mk=>Qx (X:=Cl (CX1 P w) P w K mg base N qual scope f cd A outer s H XE) rfl rfl rfl I mk (q (Ke I.base))) hg hd he hpl).imp
  fun D σ H1 ⟨σD,G,D',rs,rg,h,cl⟩=>⟨σD,G,_,rs,rg,h,fun ds G1 ⟨hl,G2,sb,q⟩ H2 x2 rg2 vs dv=>⟨by rw[←dv.length];exact hl,fun x0=>hE _ G2 q H2 x0 (rg2.ext' sb) none⟩⟩
end
section
variable{P:Program}{w:World}{K:W.Frag}{mg:Str→Option Value}{base:Heap}
theorem okX{x qual:Str}{st:Stmt}{f:Addr}{fd:FuncData}{N ps:List Str}{k:Nat}{sp:DSp}(F:Fun K x qual st f fd)(S:FnScope N ps (Ac st))(len:∀ds G Q E,sp ds G Q E→ds.length=ps.length)(hbody:∀(cdv:Value) (A:Around) (outer:List Env) (s:Shared) (H:Hp) (XE:XK) (ds:List D) (G:Gp) (Q:DK) (E:DX),Room k (A.deeper (envOfC qual (Ac st) s.heap.objs.size f cdv))→sp ds G Q E→X9 K H XE E→
   ∃t,QSs (Cl (CX1 P w) P w K mg base N qual (Ac st) f cdv A outer s H XE) (Bx st) t∧t { nx:=fun _ G'=>Fq Q .non G',rt:=Fq Q } (Aj N ds) G):FnOk P w K mg base (CX1 P w) (k+1) f fd ps (Ai K sp):=by
 obtain⟨oc,od,kV,doc,pm,an,cdv,ct,osl,rfl,lk,hcd⟩:=F.ex
 refine Sg lk hcd S (fun vs H Q E ⟨ds,G,Q',E',dv,rg,h,_⟩=>by rw[←dv.length];exact len ds G Q' E' h) fun A outer s H vs Q XE hr ⟨ds,G,Q',E',dv,rg,h,cl,hE⟩=>?_
 obtain⟨t,ht,hq⟩:=hbody cdv A outer s H XE ds G Q' E' hr h hE
 exact⟨_,ht,Aj N ds,G,_,D7 dv,rg,hq,⟨fun σD G1 ⟨G2,sb,q⟩ H1 x1 rg1 σ rs=>cl _ G2 q H1 x1 (rg1.ext' sb) _ .non,fun d G1 ⟨G2,sb,q⟩ H1 x1 rg1 v dv=>cl _ G2 q H1 x1 (rg1.ext' sb) _ dv,fun _ _ z=>z.elim,fun _ _ z=>z.elim⟩⟩
end
def Gb(CX:CXT)(P:Program)(w:World)(K:PySem.W.Frag)(mg:Str→Option Value)(base:Heap)(N:List Str)(q:Str)(scope:Scope)(f:Addr)(cd:Value)(clos:List (Str×Addr))(A:Around)(outer:List Env)(s:Shared)(H:Hp)(E:XK):Cx where
 prog:=P
 w:=w
 K:=K
 mg:=mg
 base:=base
 A:=A.deeper (PySem.W.envX q scope s.heap.objs.size f cd clos)
 N:=N
 s₀:=s
 H₀:=H
 env:=PySem.W.envX q scope s.heap.objs.size f cd clos
 outer:=outer
 stack:=PySem.W.envX q scope s.heap.objs.size f cd clos::outer
 ex:=[]
 calm:=true
 fn:=fun _=>false
 pn:=[]
 xe:=fun e s'=>wpAny (model P w) (A.deeper (PySem.W.envX q scope s.heap.objs.size f cd clos)) (leaving (PySem.W.envX q scope s.heap.objs.size f cd clos) e) (fun _ s''=>CX outer H s E e s'') (fun e' s''=>CX outer H s E e' s'') s'
structure LamScope(scope:Scope):Prop where
 kind:scope.kind=.function
 co:scope.isCoroutine=false
 gen:scope.isGenerator=false
 cell:∀y∈scope.names,y.2≠.cell
section
variable{P:Program}{w:World}{K:W.Frag}{mg:Str→Option Value}{base:Heap}{N:List Str}{q:Str}{scope:Scope}{f c:Addr}{clos:List (Str×Addr)}{A:Around}{outer:List Env}{s:Shared}{H:Hp}{E:XK}{k:Nat}{σ:L2.St}{Q:VK}{t:TE}{params:Arguments}{body:Expr}{pm ctv:Value}
theorem W6(hr:Room k A)(e0:Env0 P w K mg base A outer s H)(ho:s.heap.get? f=some (lamO q params body scope clos pm (.ref c) ctv))(hcd:s.heap.CodeRec (.ref c) q)(S:LamScope scope)(hbind:bindArgs (PySem.W.kla_fn "<lambda>" q params body scope clos pm (.ref c) ctv) ⟨[],[]⟩=pure [])(hcl:∀x c',clos.lookup x=some c'→(∃v,s.heap.IsCell c' v)∧H c'=none)(hinj:∀x y c',clos.lookup x=some c'→clos.lookup y=some c'→x=y)(hhas:∀x,scope.names.lookup x=some .free→∃c',clos.lookup x=some c')(hσ:∀(i:Nat) (x:Str) (v:V),N[i]? = some x→σ[i]? = some (some v)→∃c' u,scope.names.lookup x=some .free∧clos.lookup x=some c'∧s.heap.IsCell c' (some u)∧RelV v u)(hlen:σ.length=N.length)(hbody:PE (Gb (CX1 P w) P w K mg base N q scope f (.ref c) clos A outer s H E) body t)(h:t σ H Q):codeAny (model P w) A (.call (.ref f) ⟨[],[]⟩) (CR (CX1 P w) outer P w H s Q E) s:=by
 have lim:s.heap.NoLimit:=e0.mod.nolimit.keeps fun b o e=>(e0.bs b o e).1
 refine PySem.W.kla_callFunE (by have:=hr.dp;omega) ho rfl S.co S.gen rfl hcd ?_
 rw[hbind]
 refine wpAny_pure (wpAny_newFunctionEnv S.cell (by simp) (fun h₁ hns hsb=>⟨lim.fresh _ hsb,?_⟩) S.kind)
 show codeAny _ _ (.expr body (PySem.W.envX q scope s.heap.objs.size f (.ref c) clos)) _ _
 have kp:∀b o,s.heap.get? b=some o→h₁.get? b=some o:=fun b o e=>hsb.extBut b o (Nat.ne_of_lt (Heap.lt_size e)) (Heap.get?_push_of_some _ e)
 have ok:(Gb (CX1 P w) P w K mg base N q scope f (.ref c) clos A outer s H E).Ok:=by
  refine⟨e0.mod,S.kind,rfl,rfl,Nat.le_refl _,fun x y c' h1 h2=>hinj x y c' h1 h2,fun x hx=>?_,fun x c' hf=>(by cases hf),fun _=>hr.hd,Around.frames_deeper e0.frames,.inr ⟨rfl,rfl⟩,fun b z=>absurd (show b∈([]:List Addr) from z) (by simp),e0.bs,e0.bsz,fun b _ _ z=>absurd (show b∈([]:List Addr) from z) (by simp),fun b z=>absurd (show b∈([]:List Addr) from z) (by simp),e0.funs,e0.frf⟩
  rcases hx with hx|hx
  ·exact absurd rfl (S.cell _ (PySem.mem_of_lookup (show scope.names.lookup x=some .cell from hx)))
  ·exact hhas x hx
 have I:Inv (Gb (CX1 P w) P w K mg base N q scope f (.ref c) clos A outer s H E) [] σ H { s with heap:=h₁,toks:=s.toks+([]:List (Str×Value)).length }:=by
  refine⟨ok,rfl,e0.bare,Un.kept kp,⟨_,hns,fun i x v h1 h2 _=>?_⟩,fun x c' hx=>?_,e0.hok.fresh (Nat.le_refl _),fun x c' hx=>(hcl x c' hx).2,fun p hp=>absurd (show p∈([]:List (Addr×Obj)) from hp) (by simp),e0.hok.kept kp,hlen⟩
  ·obtain⟨c',u,a1,a2,⟨o,a3,a4⟩,a5⟩:=hσ i x v h1 h2
   exact⟨u,a5,.inr ⟨.inr a1,c',a2,o,kp _ _ a3,a4⟩⟩
  ·obtain⟨v,o,a3,a4⟩:=(hcl x c' hx).1
   exact⟨v,o,kp _ _ a3,a4⟩
 refine PySem.W.kla_codeExpr (wpAny_mono (hbody [] _ σ H Q I h) (fun u s' hs=>?_) fun _ _ y=>y)
 obtain⟨v,H',J,rv,z⟩:=hs
 exact⟨v,H',J.os,J.bare,J.base,J.hok,rv,z⟩
theorem passL{E2:XK}(hE:∀C H',Ext H H'→E2 (.ref C) none H'→E (.ref C) none H'):Cb (CX1 P w) (Gb (CX1 P w) P w K mg base N q scope f (.ref c) clos A outer s H E) E2:=
 fun pins σ H1 s1 e s' I h=>Me (X:=Gb (CX1 P w) P w K mg base N q scope f (.ref c) clos A outer s H E) rfl rfl rfl I h hE
end
def mroK(K:PySem.W.Frag)(C:Addr):Option (List Value):=match K.lookup C with
 |some ⟨_,_,.cls cd,_⟩=>some cd.mro
 |_=>none
def ClsAt(g:Heap)(C:Addr)(tl:List Value):Prop:=∃N nm q bs hdct sn sub ab col dd k0 k1 k2 k3 k5 mN,g.get? C=some (excClassObj nm q C N bs tl hdct sn sub ab col dd k0 k1 k2 k3 k5 "ValueError.__new__")∧g.Ns N mN∧mN "__init__" = none∧OwnTail g X3 tl
theorem ClsAt.keeps{g g':Heap}{C:Addr}{tl:List Value}(z:ClsAt g C tl)(k:∀b o,g.get? b=some o→g'.get? b=some o):ClsAt g' C tl:=
 let ⟨N,nm,q,bs,hdct,sn,sub,ab,col,dd,k0,k1,k2,k3,k5,mN,hC,hN,hi,T⟩:=z;⟨N,nm,q,bs,hdct,sn,sub,ab,col,dd,k0,k1,k2,k3,k5,mN,k _ _ hC,hN.keeps k,hi,T.keeps k⟩
theorem ExcK.cls{K:W.Frag}{g:Heap}{mg:Str→Option Value}{x:Str}{C:Addr}{tl:List Value}(X:K.In g)(G:g.Ns mainGlobals mg)(z:ExcK K x C)(hm:mroK K C=some (.ref C::tl)):ClsAt g C tl:=by
 obtain⟨tl',N,nm,q,bs,hdct,sn,sub,ab,col,dd,k0,k1,k2,k3,k5,mN,hC,hN,hi,T⟩:=(z.own X G).obj
 have e:tl'=tl:=by
  unfold mroK at hm
  split at hm
  ·rename_i a b cd c ho
   have:=X _ _ ho
   rw[hC] at this
   cases this
   injection hm with hm
   injection hm
  ·cases hm
 subst e
 exact⟨N,nm,q,bs,hdct,sn,sub,ab,col,dd,k0,k1,k2,k3,k5,mN,hC,hN,hi,T⟩
theorem Qv{M:Model}{A:Around}{E:Value→Shared→Prop}{s:Shared}{e C B:Addr}{oe:Obj}{tl tm:List Value}{Q:Bool→Shared→Prop}(hC:ClsAt s.heap C tl)(hM:ClsAt s.heap B tm)(he:s.heap.get? e=some oe)(hcls:oe.cls=.ref C)(hB:tm.contains (.type "BaseException")=true)(hin:(Value.ref C::tl).contains (.ref B)=true)(q:Q true s):wpAny M A (excMatches (.ref e) (.ref B)) Q E s:=by
 obtain⟨N,nm,qn,bs,hdct,sn,sub,ab,col,dd,k0,k1,k2,k3,k5,mN,hC,_⟩:=hC
 obtain⟨N',nm',qn',bs',hdct',sn',sub',ab',col',dd',k0',k1',k2',k3',k5',mN',hM,_⟩:=hM
 obtain⟨h,g,d,t,os⟩:=s
 have hcB:(Value.ref B::tm).contains (.type "BaseException")=true:=by rw[List.contains_cons,hB,Bool.or_true]
 have f:=tc_notTuple
 unfold excMatches
 repeat (first|(with_reducible refine wpAny_loadPart_at he ?_;rw[hcls])|with_reducible refine wpAny_loadPart_at hM ?_|(with_reducible refine wpAny_isSubtype_exc hM ?_;rw[hcB])|(with_reducible refine wpAny_isSubtype_exc hC ?_;rw[hin])|wp_step)
 exact q
theorem Vt{fs:List Addr}{H H':Hp}{h G' h' B:Heap}(un:Un fs [] H H' h G')(hB:∀b o,h.get? b=some o→b ∉ fs→(H b=none→B.get? b=some o)∧∃o',B.get? b=some o')(st:B.StaysIn h')(up:G'.UpToSlots h')(hf:∀b∈fs,H b=none∧∀o,h.get? b=some o→∀vs,o.data≠.fields vs):Un fs [] H H' h h':=by
 have no:∀b:Addr,b ∉ ([]:List Addr):=fun b=>by simp
 have slt:∀b o,h.get? b=some o→H b=none→b∈fs→∃sl,h'.get? b=some { o with slots:=sl }:=fun b o e hn m=>by
  obtain⟨sl2,e2⟩:=un.slot b o e hn m (no b)
  obtain⟨sl3,e3⟩:=up b _ e2 ((hf b m).2 o e)
  exact⟨sl3,e3⟩
 refine⟨fun b o e hn n _=>st b o ((hB b o e n).1 hn),fun b o e hn m _=>slt b o e hn m,un.free,fun b o e _=>?_,un.tups,un.frzs,un.tbls⟩
 by_cases m:b∈fs
 ·obtain⟨sl,q⟩:=slt b o e (hf b m).1 m
  exact⟨_,q⟩
 ·obtain⟨o',q⟩:=(hB b o e m).2
  exact⟨o',st b o' q⟩
section
variable{X:Cx}{pins:List (Addr×Obj)}{σ:List (Option V)}{H:Hp}{s:Shared}
theorem Ok.re(h:X.Ok)(xe:Value→Shared→Prop)(pn:List (Addr×Obj)):Cx.Ok { X with xe:=xe,pn:=pn }:=⟨h.mod,h.kind,h.glob,h.blt,h.above,h.inj,h.has,h.cab,h.hd,h.frames,h.stk,h.exf,h.bs,h.bsz,h.noex,h.exfs,h.funs,h.frf⟩
theorem Ok.mark(h:X.Ok)(v:Option Value)(xe:Value→Shared→Prop)(pn:List (Addr×Obj)):Cx.Ok { X with A:=X.A.mark v,calm:=false,xe:=xe,pn:=pn }:=
 ⟨h.mod,h.kind,h.glob,h.blt,h.above,h.inj,h.has,h.cab,fun z=>(by cases z),h.frames,h.stk,h.exf,h.bs,h.bsz,h.noex,h.exfs,h.funs,h.frf⟩
theorem Z6(I:Inv X pins σ H s)(xe:Value→Shared→Prop):Inv { X with xe:=xe,pn:=X.pn++pins } [] σ H s:=
 ⟨Ok.re I.ok xe _,I.os,I.bare,I.base,I.loc,I.cell,I.free,I.freeC,fun p hp=>I.pin p (by simpa using hp),I.hok,I.len⟩
theorem E6{xe:Value→Shared→Prop}{more:List (Addr×Obj)}(ok:X.Ok)(I:Inv { X with xe:=xe,pn:=X.pn++pins } more σ H s):Inv X pins σ H s:=
 ⟨ok,I.os,I.bare,I.base,I.loc,I.cell,I.free,I.freeC,fun p hp=>I.pin p (List.mem_append_left _ hp),I.hok,I.len⟩
theorem Hr(I:Inv X pins σ H s)(v:Option Value)(xe:Value→Shared→Prop):Inv { X with A:=X.A.mark v,calm:=false,xe:=xe,pn:=X.pn++pins } [] σ H s:=
 ⟨Ok.mark I.ok v xe _,I.os,I.bare,I.base,I.loc,I.cell,I.free,I.freeC,fun p hp=>I.pin p (by simpa using hp),I.hok,I.len⟩
theorem Ic{v:Option Value}{xe:Value→Shared→Prop}{more:List (Addr×Obj)}(ok:X.Ok)(I:Inv { X with A:=X.A.mark v,calm:=false,xe:=xe,pn:=X.pn++pins } more σ H s):Inv X pins σ H s:=
 ⟨ok,I.os,I.bare,I.base,I.loc,I.cell,I.free,I.freeC,fun p hp=>I.pin p (List.mem_append_left _ hp),I.hok,I.len⟩
theorem U1{a:Addr}{o:Obj}(I:Inv X pins σ H s)(ha:X.s₀.heap.get? a=none)(hL:a≠X.env.locals)(hc:∀x c,X.env.cells.lookup x=some c→c≠a)(hp:∀p∈X.pn++pins,p.1≠a)(hn:H a=none)(e:s.heap.get? a=some o) :
  Inv X pins σ (upd H a (.frz o topO)) s:=by
 have nb:∀b o',X.s₀.heap.get? b=some o'→b≠a:=fun b o' q z=>by rw[z,ha] at q;cases q
 refine⟨I.ok,I.os,I.bare,⟨I.base.keep,I.base.slot,fun b o' q n hx=>by rw[Af (nb b o' q)];exact I.base.free b o' q n hx,I.base.there,fun b xs q=>?_,fun b o' u q=>?_,fun b ps q=>?_⟩,I.loc,I.cell,by rw[Af hL.symm];exact I.free,fun x c q=>by rw[Af (hc x c q)];exact I.freeC x c q,fun p hq=>?_,fun b u q=>?_,I.len⟩
 ·have q:=I.base.tups b xs q
  rw[Af (Ap q hn)];exact q
 ·have q:=I.base.frzs b o' u q
  rw[Af (Ap q hn)];exact q
 ·obtain⟨m,q⟩:=I.base.tbls b ps q
  exact⟨m,by rw[Af (Ap q hn)];exact q⟩
 ·obtain⟨p1,p2,p3⟩:=I.pin p hq
  exact⟨p1,by rw[Af (hp p hq)];exact p2,p3⟩
 ·by_cases hb:b=a
  ·subst hb
   rw[Ah] at q;cases q
   exact Lj e
  ·rw[Af hb] at q
   exact(I.hok b u q).stay (fun c v _ r=>r) (fun c r=>by rw[Af (Ap r hn)];exact r) fun c xs r=>by rw[Af (Ap r hn)];exact r
theorem U2{g:Heap}{m:Str→Option Value}{tk:Nat}(I:Inv X pins σ H s)(hn:g.Ns X.env.locals m)(hs:Heap.SameBut X.env.locals s.heap g):Inv X pins (List.replicate X.N.length none) H { s with heap:=g,toks:=tk }:=by
 have nL:∀b o,X.s₀.heap.get? b=some o→b≠X.env.locals:=fun b o e=>Nat.ne_of_lt (Nat.lt_of_lt_of_le (Heap.lt_size e) I.ok.above)
 refine⟨I.ok,I.os,I.bare,⟨fun b o e n hb hx=>(hs.2 b (nL b o e)).trans (I.base.keep b o e n hb hx),fun b o e n hb hx=>?_,I.base.free,fun b o e hx=>?_,I.base.tups,I.base.frzs,I.base.tbls⟩,⟨m,hn,fun i x v _ e2 _=>?_⟩,fun x c e=>?_,I.free,I.freeC,fun p hp=>?_,fun b u q=>?_,by simp⟩
 ·obtain⟨sl,q⟩:=I.base.slot b o e n hb hx
  exact⟨sl,(hs.2 b (nL b o e)).trans q⟩
 ·obtain⟨o',q⟩:=I.base.there b o e hx
  exact⟨o',(hs.2 b (nL b o e)).trans q⟩
 ·rw[List.getElem?_replicate] at e2
  split at e2<;>cases e2
 ·obtain⟨v,o,q1,q2⟩:=I.cell x c e
  exact⟨v,o,(hs.2 c (I.cne x c e)).trans q1,q2⟩
 ·obtain⟨p1,p2,p3,p4⟩:=I.pin p hp
  exact⟨(hs.2 _ p3).trans p1,p2,p3,p4⟩
 ·refine(I.hok b u q).stay (fun c v hc r=>(hs.2 c fun z=>?_).trans r) (fun _ r=>r) fun _ _ r=>r
  subst z
  rcases hc with rfl|hc
  ·rw[I.free] at q;cases q
  ·rw[I.free] at hc;cases hc
end
section
variable{X:Cx}{E:XK}{M:Addr}{mn n:Str}{i:Nat}{body suite:List Stmt}{b0:Stmt}{np hpos pos:Pos}{tb ts:TS}{tm:List Value}
def Sj(o:Obj)(C:Addr):Prop:=o.cls=.ref C∧∃vs,o.data=.fields vs
theorem Y1(hc:X.calm=true)(hst:X.stack=X.env::X.outer)(hfr:X.env.frame=some X.env.locals)(hex:X.ex=[])(hN:X.N.Nodup)(hi:X.N[i]? = some n)(hl:X.env.scope.names.lookup n=some .local)(hmg:X.mg mn=some (.ref M))(hM:ExcK X.K mn M)(hmM:mroK X.K M=some (.ref M::tm))(hB:tm.contains (.type "BaseException")=true)(hb:∀xe' pn',Cb (CX1 X.prog X.w) { X with xe:=xe',pn:=pn' } E→PSs { X with xe:=xe',pn:=pn' } body tb)(hs:∀e xe' pn',PSs { X with A:=X.A.mark (some (.ref e)),calm:=false,xe:=xe',pn:=pn' } (b0::suite) ts)(hg:Gl X mn:=by rfl)(hd:(mn == ("__debug__" : Str))=false:=by decide) :
  PS X (.Try body [.ExceptHandler (some (.Name mn np)) (some n) (b0::suite) hpos] [] [] pos)
   (fun D σ H=>tb D σ H∧∀C H' a o,Ext X.H₀ H'→E (.ref C) none H'→H' a=none→Sj o C→∃x tl,ExcK X.K x C∧mroK X.K C=some (.ref C::tl)∧(Value.ref C::tl).contains (.ref M)=true∧
    ts { nx:=fun _ _=>False,rt:=D.rt } ((List.replicate X.N.length none).set i (some (.ref a))) (upd H' a (.frz o topO))):=by
 intro pins s σ H D I ⟨h1,h2⟩
 refine wpAny_Try_except (E:=X.xe) ?_
 have ok:=I.ok
 refine wpAny_mono (hb _ (X.pn++pins) ?_ [] s σ H D (Z6 I _) h1) (fun f s1 z=>?_) fun _ _ y=>y
 case refine_2=>
  cases f with
  |next=>
   obtain⟨σ',H',J,q⟩:=z
   exact wpAny_pure ⟨σ',H',E6 ok J,q⟩
  |brk=>obtain⟨σ',H',J,q⟩:=z;exact⟨σ',H',E6 ok J,q⟩
  |cont=>obtain⟨σ',H',J,q⟩:=z;exact⟨σ',H',E6 ok J,q⟩
  |ret u=>obtain⟨v,σ',H',J,r,q⟩:=z;exact⟨v,σ',H',E6 ok J,r,q⟩
 case refine_1=>
  intro pins' σ1 H1 s1 e s' I1 hcx
  obtain⟨a,C,t,H',B,rfl,os,bare,un,hok,fl,hBk,hT,hn,q⟩:=hcx
  obtain⟨-,-,fl3,-⟩:=id fl
  have stk1:=I1.stack
  have hff:∀b∈frs X.stack,H1 b=none∧∀o,s1.heap.get? b=some o→∀vs,o.data≠.fields vs:=fun b hb=>⟨I1.stkFree b hb,fun o e vs=>by
   obtain⟨_,o',e',nf⟩:=stk1.mem hb
   rw[e] at e';cases e';exact nf vs⟩
  have move:∀g:Heap,B.StaysIn g→s'.heap.UpToSlots g→Inv X pins σ1 H' { s' with heap:=g }∧HOk X.prog X.w H' g:=fun g st up=>by
   obtain⟨ok2,_⟩:=Ho hok hT st
   exact⟨E6 ok (I1.call' (s':={ s' with heap:=g }) os (Vt un hBk st up hff) ok2 bare (fun b z=>absurd z (by simp))),ok2⟩
  have fl':=fl
  rw[hst] at fl'
  show wpAny _ _ (noteFrame _ _) _ _ _
  refine wpAny_looks_onW (by rw[ok.frames,hst]) hfr fl' fun h4 held up4=>wpAny_landsW held fun h5 fl5 up5=>?_
  obtain⟨I5,_⟩:=move h5 fl5.1 (up4.trans up5)
  obtain⟨oe,ws,hoe,hoec,hoed,_⟩:=fl5.first
  have x0:Ext X.H₀ H':=(Ke I1.base).trans (Ke un)
  obtain⟨x,tl,hx,hmx,hin,_⟩:=h2 C H' a oe x0 q hn ⟨hoec,ws,hoed⟩
  refine wpAny_handleBy_cons (codeAny_handlers_test ?_) (by intro z;cases z)
  refine D4 (X:={ X with A:=X.A.mark (some (.ref a)),calm:=false,xe:=fun _ _=>True,pn:=X.pn++pins }) (Hr I5 (some (.ref a)) (fun _ _=>True)) hg hmg ?_ hd
  have cC:ClsAt h5 C tl:=(hx.cls I5.mod.kin I5.mod.glob hmx).keeps I5.bk
  have cM:ClsAt h5 M tm:=(hM.cls I5.mod.kin I5.mod.glob hmM).keeps I5.bk
  refine Qv (s:={ s' with heap:=h5 }) cC cM hoe hoec hB hin ?_
  refine codeAny_handlers_suite_as ?_
  refine lands_againW fl5 fun h6 fl6 up6=>?_
  obtain⟨I6,_⟩:=move h6 fl6.1 ((up4.trans up5).trans up6)
  obtain⟨o6,w6,ho6,hc6,hd6,_⟩:=fl6.first
  obtain⟨_,_,_,_,_,hts⟩:=h2 C H' a o6 x0 q hn ⟨hc6,w6,hd6⟩
  have hBa:B.get? a=none:=fl.2.1
  have nfr:a ∉ frs X.stack:=fun m=>by
   rw[hst] at m
   obtain⟨_,o',e',nf⟩:=fl6.2.2.1.mem m
   rw[ho6] at e';cases e';exact nf _ hd6
  have ns1:s1.heap.get? a=none:=by
   cases z:s1.heap.get? a with
   |none=>rfl
   |some o1=>
    obtain⟨o',y⟩:=(hBk a o1 z nfr).2
    rw[hBa] at y;cases y
  have ns0:X.s₀.heap.get? a=none:=by
   cases z:X.s₀.heap.get? a with
   |none=>rfl
   |some o0=>
    obtain⟨o1,y⟩:=I1.base.there a o0 z (by show a ∉ X.ex;rw[hex];simp)
    rw[ns1] at y;cases y
  have nL:a≠X.env.locals:=fun z=>nfr (by rw[hst,z];exact(Fd hfr).mpr (.inl rfl))
  have nc:∀x c,X.env.cells.lookup x=some c→c≠a:=fun x c e z=>by
   obtain⟨v,o,e1,e2⟩:=I6.cell x c e
   rw[z] at e1
   rw[show({ s' with heap:=h6 }:Shared).heap.get? a=some o6 from ho6] at e1
   cases e1
   rw[hd6] at e2;cases e2
  have np:∀p∈X.pn++pins,p.1≠a:=fun p hp z=>by
   have:=(I1.pin p (List.mem_append_left _ hp)).1
   rw[z,ns1] at this;cases this
  have I7:Inv X pins (List.replicate X.N.length none) (upd H' a (.frz o6 topO)) { s' with heap:=h6 }:=U1 (I6.weak (by rw[List.length_replicate,I6.len]) fun j v e=>by
   rw[List.getElem?_replicate] at e
   split at e<;>cases e) ns0 nL nc np hn ho6
  refine Cv (X:={ X with A:=X.A.mark (some (.ref a)),calm:=false,xe:=fun _ _=>True,pn:=X.pn++pins }) (i:=i) (v:=.ref a) (Hr I7 (some (.ref a)) (fun _ _=>True)) hN hi (Or.inl hl) rfl (fun s8 I8=>?_) (.inr hl)
  have I8':Inv X pins ((List.replicate X.N.length none).set i (some (.ref a))) (upd H' a (.frz o6 topO)) s8:=Ic ok I8
  refine wpAny_mono (hs a _ (X.pn++pins) [] s8 _ _ _ (Hr I8' (some (.ref a)) _) hts) (fun f s9 z=>?_) fun _ _ y=>y
  cases f with
  |next=>obtain⟨_,_,_,z⟩:=z;exact z.elim
  |brk=>obtain⟨_,_,_,z⟩:=z;exact z.elim
  |cont=>obtain⟨_,_,_,z⟩:=z;exact z.elim
  |ret u=>
   obtain⟨v,σ9,H9,J,r,q9⟩:=z
   have J:=Ic ok J
   obtain⟨m,hnm,_⟩:=id J.loc
   exact wpAny_nameGoes hl hnm (by rw[ok.kind];rfl) fun g m' hn' hs'=>⟨v,_,H9,U2 J hn' hs',r,q9⟩
end
end D3
namespace L2
open PySem PySem.Spec PyProof.Rows
structure FnS(P:Program)(w:World)(K:PySem.W.Frag)(mg:Str→Option Value)(base:Heap)(CX:CXT)(k:Nat)(f:Addr)(fd:FuncData)(ps:List Str)(sp:List Env→Shared→Sp):Prop where
 len:∀outer s vs H Q E,sp outer s vs H Q E→vs.length=ps.length
 run:∀(A:Around) (outer:List Env) (s:Shared) (H:Hp) (args:Args) (us:List Value) (vs:List V) (Q:VK) (E:XK),Room k A→Env0 P w K mg base A outer s H→BindsTo s fd args (ps.zip us)→Vals vs us→sp outer s vs H Q E→
  codeAny (model P w) A (.call (.ref f) args) (CR CX outer P w H s Q E) s

theorem Z7{CX:CXT}{P:Program}{w:World}{K:W.Frag}{mg:Str→Option Value}{base:Heap}{k:Nat}{f:Addr}{name qual:Str}{params:Arguments}{body:List Stmt}{scope:Scope}{dV kV doc pm cdv ct oc:Value}{an od:Option Addr}{osl:Array (Option Value)}{N ps:List Str}{sp:List Env→Shared→Sp}(lk:K.lookup f=some ⟨oc,od,.func (PySem.W.fnOf name qual params body scope dV kV doc pm an cdv ct),osl⟩)(hcd:PySem.W.codeIn K cdv qual=true)(S:FnScope N ps scope)(len:∀outer s vs H Q E,sp outer s vs H Q E→vs.length=ps.length)(hbody:∀(A:Around) (outer:List Env) (s:Shared) (H:Hp) (vs:List V) (Q:VK) (E:XK),Room k (A.deeper (envOfC qual scope s.heap.objs.size f cdv))→sp outer s vs H Q E→
   ∃t,PSs (Cl CX P w K mg base N qual scope f cdv A outer s H E) body t∧t { nx:=fun _ H'=>Q .non H',rt:=Q } (start N vs) H) :
  FnS P w K mg base CX (k+1) f (PySem.W.fnOf name qual params body scope dV kV doc pm an cdv ct) ps sp:=by
 refine⟨len,fun A outer s H args us vs Q E hr e0 hb r hsp=>?_⟩
 have hl:=len _ _ _ _ _ _ hsp
 have KX:K.In s.heap:=e0.mod.kin.keeps fun b o e=>(e0.bs b o e).1
 have lim:s.heap.NoLimit:=e0.mod.nolimit.keeps fun b o e=>(e0.bs b o e).1
 have hkind:∀y∈ps.zip us,scope.names.lookup y.1=some .local∨(scope.names.lookup y.1=some .cell∧((cellsFrom (s.heap.objs.size+1) scope.names []).lookup y.1).isSome=true):=fun⟨n,v⟩ hy=>by
  rcases S.par n (List.of_mem_zip hy).1 with q|q
  ·exact .inl q
  ·exact .inr ⟨q,PySem.W.cellsFrom_some _ _ _ (.inl q)⟩
 refine codeAny_call_function hr.depth (KX _ _ lk) rfl S.co S.gen rfl (PySem.W.codeRec_of KX hcd) (hb _ _ _ _ ?_)
 refine wpAny_newFunctionEnv_cells S.kind hkind fun env he s1 x=>?_
 subst he
 refine⟨lim.keeps x.toInCall.keep,codeAny_func ?_⟩
 obtain⟨t,ht,hq⟩:=hbody A outer s H vs Q E (hr.deeper _) hsp
 have I:Inv (Cl CX P w K mg base N qual scope f cdv A outer s H E) [] (start N vs) H s1:=Js S hr.hd e0 hl r x
 refine wpAny_mono (ht [] s1 (start N vs) H _ I hq) (fun fl s' hs=>?_) fun e s' hs=>hs
 have fin:∀{σ':St} {H':Hp} {v:V} {u:Value},Inv (Cl CX P w K mg base N qual scope f cdv A outer s H E) [] σ' H' s'→RelV v u→Q v H'→CE outer P w H s Q u s':=
  fun {σ' H' v u} J rv q=>⟨v,H',J.os,J.bare,J.base,J.hok,rv,q⟩
 cases fl with
 |ret u=>
  obtain⟨v,σ',H',J,rv,q⟩:=hs
  exact fin J rv q
 |next=>
  obtain⟨σ',H',J,q⟩:=hs
  exact fin (v:=V.non) (u:=Value.none) J rfl q
 |brk=>
  obtain⟨_,_,_,q⟩:=hs
  exact False.elim q
 |cont=>
  obtain⟨_,_,_,q⟩:=hs
  exact False.elim q

structure RoomH(k:Nat)(A:Around):Prop where
 dp:A.depth+3*k+5<recursionLimit
 un:A.units+16*k+200<cLine
 gd:A.guards=some []
theorem RoomH.deeper{k:Nat}{A:Around}(r:RoomH (k+1) A)(env:Env):RoomH k (A.deeper env):=⟨by have:=r.dp;show A.depth+1+3*k+5<_;omega,by have:=r.un;show A.units+3+16*k+200<_;omega,r.gd⟩
theorem RoomH.depth{k:Nat}{A:Around}(r:RoomH k A):A.depth<recursionLimit:=by have:=r.dp;omega
theorem RoomH.of{k:Nat}{A:Around}(r:Room k A)(v:Option Value):RoomH k (A.mark v):=⟨r.dp,r.un,r.gd⟩

structure FnH(P:Program)(w:World)(K:PySem.W.Frag)(mg:Str→Option Value)(base:Heap)(CX:CXT)(k:Nat)(f:Addr)(fd:FuncData)(ps:List Str)(sp:Sp):Prop where
 len:∀vs H Q E,sp vs H Q E→vs.length=ps.length
 run:∀(A:Around) (outer:List Env) (s:Shared) (H:Hp) (args:Args) (us:List Value) (vs:List V) (Q:VK) (E:XK),RoomH k A→Env0 P w K mg base A outer s H→BindsTo s fd args (ps.zip us)→Vals vs us→sp vs H Q E→
  codeAny (model P w) A (.call (.ref f) args) (CR CX outer P w H s Q E) s

def Jg(CX:CXT)(P:Program)(w:World)(K:PySem.W.Frag)(mg:Str→Option Value)(base:Heap)(N:List Str)(qual:Str)(scope:Scope)(f:Addr)(cd:Value)(A:Around)(outer:List Env)(s:Shared)(H:Hp)(E:XK):Cx where
 prog:=P
 w:=w
 K:=K
 mg:=mg
 base:=base
 A:=A.deeper (envOfC qual scope s.heap.objs.size f cd)
 N:=N
 s₀:=s
 H₀:=H
 env:=envOfC qual scope s.heap.objs.size f cd
 outer:=outer
 stack:=envOfC qual scope s.heap.objs.size f cd::outer
 ex:=[]
 calm:=false
 fn:=fun _=>true
 pn:=[]
 xe:=fun e s'=>wpAny (model P w) (A.deeper (envOfC qual scope s.heap.objs.size f cd)) (leaving (envOfC qual scope s.heap.objs.size f cd) e) (fun _ s''=>CX outer H s E e s'') (fun e' s''=>CX outer H s E e' s'') s'


theorem Oa{CX:CXT}{P:Program}{w:World}{K:W.Frag}{mg:Str→Option Value}{base:Heap}{N ps:List Str}{qual:Str}{scope:Scope}{f:Addr}{cd:Value}{A:Around}{outer:List Env}{s s1:Shared}{H:Hp}{E:XK}{us:List Value}{vs:List V}(S:FnScope N ps scope)(e0:Env0 P w K mg base A outer s H)(hl:vs.length=ps.length)(r:Vals vs us)(x:InCallC s s.heap.objs.size (bindL (envOfC qual scope s.heap.objs.size f cd).kindOf (ps.zip us) fun _=>none) (cellsFrom (s.heap.objs.size+1) scope.names []) (bindC (envOfC qual scope s.heap.objs.size f cd).kindOf (ps.zip us) fun _=>none) s1) :
  Inv (Jg CX P w K mg base N qual scope f cd A outer s H E) [] (start N vs) H s1:=by
 have hpl:ps.length≤N.length:=by have:=congrArg List.length S.pre;rw[List.length_take] at this;omega
 obtain⟨h1,tk,rfl,hk⟩:=x.done
 have noA:∀b:Addr,b ∉ (Jg CX P w K mg base N qual scope f cd A outer s H E).ex:=fun b z=>absurd (show b∈([]:List Addr) from z) (by simp)
 refine⟨⟨e0.mod,S.kind,rfl,rfl,Nat.le_refl _,fun y z c h1 h2=>?_,fun y hy=>?_,fun y c _ h=>?_,fun z=>(by cases z),Around.frames_deeper e0.frames,.inr ⟨rfl,rfl⟩,fun b z=>absurd z (noA b),e0.bs,e0.bsz,fun b _ _=>noA b,fun b z=>absurd z (noA b),e0.funs,e0.frf⟩,
  rfl,e0.bare,Un.kept hk,⟨_,x.toInCall.ns,fun i y v h1 h2 h3=>?_⟩,fun y c h=>⟨_,x.cell y c h⟩,e0.hok.fresh (Nat.le_refl _),fun y c h=>?_,fun p hp=>absurd (show p∈([]:List (Addr×Obj)) from hp) (by simp),e0.hok.kept hk,?_⟩
 ·exact name_of_addr x.apart (PySem.mem_of_lookup h1) (PySem.mem_of_lookup h2)
 ·have hy:scope.names.lookup y=some .cell∨scope.names.lookup y=some .free:=hy
  rcases hy with hy|hy
  ·exact Ff hy
  ·exact absurd rfl (S.nofree _ (PySem.mem_of_lookup hy))
 ·exact Nat.le_of_lt (x.above y c (PySem.mem_of_lookup h))
 ·have hi:i<vs.length:=by
   unfold start at h2
   by_cases hi:i<vs.length
   ·exact hi
   ·rw[List.getElem?_append_right (by simpa using hi)] at h2
    rw[List.getElem?_replicate] at h2
    split at h2<;>cases h2
  have ha:vs[i]? = some v:=by
   unfold start at h2
   rw[List.getElem?_append_left (by simpa using hi),List.getElem?_map] at h2
   cases e:vs[i]? with
   |none=>rw[e] at h2;cases h2
   |some a=>rw[e] at h2;cases h2;rfl
  obtain⟨u,hu,rv⟩:=r.get ha
  have hp:ps[i]? = some y:=by
   rw[←S.pre,List.getElem?_take_of_lt (by omega)];exact h1
  have ndP:ps.Nodup:=by rw[←S.pre];exact S.nd.sublist (List.take_sublist _ _)
  refine⟨u,rv,?_⟩
  rcases S.par y (List.mem_of_getElem? hp) with k|k
  ·exact .inl ⟨k,F2 ndP hp hu k⟩
  ·obtain⟨c,e⟩:=Ff (n:=s.heap.objs.size+1) k
   refine .inr ⟨.inl k,c,e,?_⟩
   have q:=x.cell y c e
   rw[F3 ndP hp hu (by show scope.names.lookup y≠_;rw[k];decide)] at q
   exact q
 ·exact e0.hok.fresh (Nat.le_of_lt (x.above y c (PySem.mem_of_lookup h)))
 ·unfold start
  show _=N.length
  rw[List.length_append,List.length_map,List.length_replicate]
  omega


theorem Z8{CX:CXT}{P:Program}{w:World}{K:W.Frag}{mg:Str→Option Value}{base:Heap}{k:Nat}{f:Addr}{name qual:Str}{params:Arguments}{body:List Stmt}{scope:Scope}{dV kV doc pm cdv ct oc:Value}{an od:Option Addr}{osl:Array (Option Value)}{N ps:List Str}{sp:Sp}(lk:K.lookup f=some ⟨oc,od,.func (PySem.W.fnOf name qual params body scope dV kV doc pm an cdv ct),osl⟩)(hcd:PySem.W.codeIn K cdv qual=true)(S:FnScope N ps scope)(len:∀vs H Q E,sp vs H Q E→vs.length=ps.length)(hbody:∀(A:Around) (outer:List Env) (s:Shared) (H:Hp) (vs:List V) (Q:VK) (E:XK),RoomH k (A.deeper (envOfC qual scope s.heap.objs.size f cdv))→sp vs H Q E→
   ∃t,PSs (Jg CX P w K mg base N qual scope f cdv A outer s H E) body t∧t { nx:=fun _ H'=>Q .non H',rt:=Q } (start N vs) H) :
  FnH P w K mg base CX (k+1) f (PySem.W.fnOf name qual params body scope dV kV doc pm an cdv ct) ps sp:=by
 refine⟨len,fun A outer s H args us vs Q E hr e0 hb r hsp=>?_⟩
 have hl:=len _ _ _ _ hsp
 have KX:K.In s.heap:=e0.mod.kin.keeps fun b o e=>(e0.bs b o e).1
 have lim:s.heap.NoLimit:=e0.mod.nolimit.keeps fun b o e=>(e0.bs b o e).1
 have hkind:∀y∈ps.zip us,scope.names.lookup y.1=some .local∨(scope.names.lookup y.1=some .cell∧((cellsFrom (s.heap.objs.size+1) scope.names []).lookup y.1).isSome=true):=fun⟨n,v⟩ hy=>by
  rcases S.par n (List.of_mem_zip hy).1 with q|q
  ·exact .inl q
  ·exact .inr ⟨q,PySem.W.cellsFrom_some _ _ _ (.inl q)⟩
 refine codeAny_call_function hr.depth (KX _ _ lk) rfl S.co S.gen rfl (PySem.W.codeRec_of KX hcd) (hb _ _ _ _ ?_)
 refine wpAny_newFunctionEnv_cells S.kind hkind fun env he s1 x=>?_
 subst he
 refine⟨lim.keeps x.toInCall.keep,codeAny_func ?_⟩
 obtain⟨t,ht,hq⟩:=hbody A outer s H vs Q E (hr.deeper _) hsp
 have I:Inv (Jg CX P w K mg base N qual scope f cdv A outer s H E) [] (start N vs) H s1:=Oa S e0 hl r x
 refine wpAny_mono (ht [] s1 (start N vs) H _ I hq) (fun fl s' hs=>?_) fun e s' hs=>hs
 have fin:∀{σ':St} {H':Hp} {v:V} {u:Value},Inv (Jg CX P w K mg base N qual scope f cdv A outer s H E) [] σ' H' s'→RelV v u→Q v H'→CE outer P w H s Q u s':=
  fun {σ' H' v u} J rv q=>⟨v,H',J.os,J.bare,J.base,J.hok,rv,q⟩
 cases fl with
 |ret u=>
  obtain⟨v,σ',H',J,rv,q⟩:=hs
  exact fin J rv q
 |next=>
  obtain⟨σ',H',J,q⟩:=hs
  exact fin (v:=V.non) (u:=Value.none) J rfl q
 |brk=>
  obtain⟨_,_,_,q⟩:=hs
  exact False.elim q
 |cont=>
  obtain⟨_,_,_,q⟩:=hs
  exact False.elim q

section
variable{X:Cx}{CX:CXT}{k:Nat}{f C:Addr}{fd:FuncData}{ps:List Str}{sp:Sp}{dvs:List V}{ds:List Value}{E:XK}{x m:Str}{p pos apos:Pos}{e o:Expr}{es:List Expr}{ta:TE}{t:TA}
theorem V7{pins:List (Addr×Obj)}{σ:St}{H:Hp}{s:Shared}{Q:VK}{us:List Value}{vs:List V}(F:FnH X.prog X.w X.K X.mg X.base CX k f fd ps sp)(hr:RoomH k X.A)(hb:Binds X.K fd ps ds)(hd:Vals dvs ds)(hx:Cb CX X E)(I:Inv X pins σ H s)(r:Vals vs us)(h:sp (vs++dvs) H Q E):wpAny (model X.prog X.w) X.A (call (.ref f) us) (EP X pins σ Q) X.xe s:=by
 have r2:Vals (vs++dvs) (us++ds):=r.append hd
 have hl:(us++ds).length=ps.length:=by rw[←r2.length];exact F.len _ _ _ _ h
 refine wpAny_call (codeAny_mono (F.run X.A X.stack s H ⟨us,[]⟩ (us++ds) (vs++dvs) Q E hr I.env0 (hb s us I.kIn hl) r2 h) fun r s' hq=>?_)
 cases r with
 |error e=>exact hx pins σ H s e s' I hq
 |ok fl=>
  cases fl with
  |ret u=>exact I.after hq
  |next=>exact False.elim hq
  |brk=>exact False.elim hq
  |cont=>exact False.elim hq


theorem Ug(F:FnH X.prog X.w X.K X.mg X.base CX k f fd ps sp)(hr:RoomH k X.A)(hg:Gl X x)(hm:X.mg x=some (.ref f))(hk:PySem.W.keepIn X.K (.ref f)=true)(hb:Binds X.K fd ps ds)(hd:Vals dvs ds)(hx:Cb CX X E)(ha:PA X (e::es) t)(hdb:(x == ("__debug__" : Str))=false:=by decide)(he:starEach (e::es) X.env=(false,eval e X.env)::starEach es X.env:=by rfl)(hpl:(backTo pos (starEach es X.env)).any (·.1)=false:=by rfl) :
  PE X (.Call (.Name x p) (e::es) [] pos) (Xq sp dvs E t):=by
 intro pins s σ H Q I h
 refine wpAny_Call_Name_kw (D4 I hg hm ?_ hdb)
 refine PySem.W.callWith_K (h₀:=X.base) I.ok.mod.kin hk (thn (ha pos pins s σ H _ I h) fun us s1 ⟨vs,H1,I1,r,q⟩=>⟨I1.kIn,?_⟩) he hpl
 exact V7 F hr hb hd hx I1 r q

end
end L2
set_option maxRecDepth 100000
set_option maxHeartbeats 1000000
namespace D3
open PySem PySem.Spec
open PyProof.Rows hiding St
open L2 hiding St
structure LamAt(K:PySem.W.Frag)(outer:List Env)(s:Shared)(H:Hp)(f:Addr)(q:Str)(params:Arguments)(body:Expr)(scope:Scope)(clos:List (Str×Addr))(pm:Value)(c:Addr)(ctv:Value)(N:List Str)(σ:L2.St):Prop where
 fn:H f=some (.frz (lamO q params body scope clos pm (.ref c) ctv) topO)
 code:∃oc u,H c=some (.frz oc u)∧CodeIs oc q
 sc:LamScope scope
 bind:bindArgs (PySem.W.kla_fn "<lambda>" q params body scope clos pm (.ref c) ctv) ⟨[],[]⟩=pure []
 cl:∀x c',clos.lookup x=some c'→(∃v,s.heap.IsCell c' v)∧H c'=none∧c' ∉ frs outer
 inj:∀x y c',clos.lookup x=some c'→clos.lookup y=some c'→x=y
 has:∀x,scope.names.lookup x=some .free→∃c',clos.lookup x=some c'
 val:∀(i:Nat) (x:Str) (v:V),N[i]? = some x→σ[i]? = some (some v)→∃c' u,scope.names.lookup x=some .free∧clos.lookup x=some c'∧s.heap.IsCell c' (some u)∧RelV v u
 len:σ.length=N.length
section
variable{X:Cx}{E:XK}{f c:Addr}{q:Str}{params:Arguments}{body:Expr}{scope:Scope}{clos:List (Str×Addr)}{pm ctv:Value}{N:List Str}{σ3:L2.St}{k i:Nat}{x:Str}{p pos:Pos}{t3:TE}
theorem Uf(hex:X.ex=[])(L:LamAt X.K X.outer X.s₀ X.H₀ f q params body scope clos pm c ctv N σ3)(hr:Room k X.A)(hx:Cb (CX1 X.prog X.w) X E)(hb:∀s H,PE (Gb (CX1 X.prog X.w) X.prog X.w X.K X.mg X.base N q scope f (.ref c) clos X.A X.stack s H E) body t3)(hN:X.N[i]? = some x:=by rfl)(hv:Vis X.env.scope x:=by first|exact Or.inl rfl|exact Or.inr (Or.inl rfl)|exact Or.inr (Or.inr rfl))(hd:(x == ("__debug__" : Str))=false:=by decide)(hcd:(x == ("__classdict__" : Str))=false:=by decide) :
  PE X (.Call (.Name x p) [] [] pos) (fun σ H Q=>σ[i]? = some (some (.ref f))∧t3 σ3 H Q):=by
 intro pins s σ H Q I ⟨hσ,h⟩
 refine wpAny_Call_Name_kw (thn (Kd hN hv hd hcd pins s σ H (fun v H1=>v=.ref f∧H1=H) I ⟨_,hσ,rfl,rfl⟩) fun u s1 ⟨v,H1,I1,r,e1,e2⟩=>?_)
 subst e1 e2
 obtain rfl:u=Value.ref f:=r
 have no:∀b:Addr,b ∉ X.ex:=fun b=>by rw[hex];simp
 have fo:s1.heap.get? f=some (lamO q params body scope clos pm (.ref c) ctv):=(I1.hok f _ (I1.base.frzs _ _ _ L.fn)).1
 obtain⟨oc,uc,hcH,vs,t,hd1,hd2⟩:=L.code
 have co:s1.heap.get? c=some oc:=(I1.hok c _ (I1.base.frzs _ _ _ hcH)).1
 have cellk:∀x c',clos.lookup x=some c'→∀v,X.s₀.heap.IsCell c' v→s1.heap.IsCell c' v:=fun x c' hx v ⟨o,a1,a2⟩=>⟨o,I1.base.keep _ _ a1 (L.cl x c' hx).2.1 (L.cl x c' hx).2.2 (no _),a2⟩
 refine PySem.W.callWith_F0 ⟨_,_,_,_,fo⟩ (wpAny_call (codeAny_mono (W6 (E:=E) (t:=t3) (Q:=Q) (N:=N) (σ:=σ3) hr I1.env0 fo ⟨c,oc,vs,t,rfl,co,hd1,hd2⟩ L.sc L.bind (fun x c' hx=>?_) L.inj L.has (fun i x v h1 h2=>?_) L.len (hb s1 H1) h) fun r s' hq=>?_))
 ·obtain⟨⟨v,o,a1,a2⟩,b2,b3⟩:=L.cl x c' hx
  exact⟨⟨v,cellk x c' hx v ⟨o,a1,a2⟩⟩,I1.base.free _ _ a1 b2 (no _)⟩
 ·obtain⟨c',u,a1,a2,a3,a4⟩:=L.val i x v h1 h2
  exact⟨c',u,a1,a2,cellk x c' a2 _ a3,a4⟩
 ·cases r with
  |error e=>exact hx pins σ H1 s1 e s' I1 hq
  |ok fl=>
   cases fl with
   |ret u=>exact I1.after hq
   |next=>exact False.elim hq
   |brk=>exact False.elim hq
   |cont=>exact False.elim hq
end
section
variable{X:Cx}{CX:CXT}{k:Nat}{f:Addr}{fd:FuncData}{ps:List Str}{sp:List Env→Shared→Sp}{E:XK}{x:Str}{p pos:Pos}{e:Expr}{es:List Expr}{t:TA}
theorem Ue(F:FnS X.prog X.w X.K X.mg X.base CX k f fd ps sp)(hr:Room k X.A)(hm:X.mg x=some (.ref f))(hk:PySem.W.keepIn X.K (.ref f)=true)(hb:Binds X.K fd ps [])(hx:Cb CX X E)(ha:PA X (e::es) t)(hg:Gl X x:=by rfl)(hdb:(x == ("__debug__" : Str))=false:=by decide)(he:starEach (e::es) X.env=(false,eval e X.env)::starEach es X.env:=by rfl)(hpl:(backTo pos (starEach es X.env)).any (·.1)=false:=by rfl) :
  PE X (.Call (.Name x p) (e::es) [] pos) (fun σ H Q=>t σ H fun vs H1=>∀pins s1,Inv X pins σ H1 s1→sp X.stack s1 vs H1 Q E):=by
 intro pins s σ H Q I h
 refine wpAny_Call_Name_kw (D4 I hg hm ?_ hdb)
 refine PySem.W.callWith_K (h₀:=X.base) I.ok.mod.kin hk (thn (ha pos pins s σ H _ I h) fun us s1 ⟨vs,H1,I1,r,q⟩=>⟨I1.kIn,?_⟩) he hpl
 have q:=q pins s1 I1
 have hl:us.length=ps.length:=by rw[←r.length];exact F.len _ _ _ _ _ _ q
 have bd:=hb s1 us I1.kIn (by rw[List.append_nil];exact hl)
 rw[List.append_nil] at bd
 refine wpAny_call (codeAny_mono (F.run X.A X.stack s1 H1 ⟨us,[]⟩ us vs Q E hr I1.env0 bd r q) fun r s' hq=>?_)
 cases r with
 |error e=>exact hx pins σ H1 s1 e s' I1 hq
 |ok fl=>
  cases fl with
  |ret u=>exact I1.after hq
  |next=>exact False.elim hq
  |brk=>exact False.elim hq
  |cont=>exact False.elim hq
end
section
variable{P:Program}{w:World}{K:W.Frag}{mg:Str→Option Value}{base:Heap}
def Nm(P:Program)(w:World)(K:PySem.W.Frag)(mg:Str→Option Value)(base:Heap)(kr:Nat)(M:Addr)(spW:Sp):List Env→Shared→Sp:=fun outer s vs H Q _=>∃f q params body scope clos pm c ctv N σ3 t3 E1,vs=[V.ref f]∧LamAt K outer s H f q params body scope clos pm c ctv N σ3∧
 (∀A outer s H,Room kr A→PE (Gb (CX1 P w) P w K mg base N q scope f (.ref c) clos A outer s H E1) body t3)∧t3 σ3 H (fun v H'=>1≤sizeLine∧∀p,H' p=none→Q (.ref p) (upd H' p (.lst [v])))∧
 ∀C H' a o,Ext H H'→E1 (.ref C) none H'→H' a=none→Sj o C→∃x tl,ExcK K x C∧mroK K C=some (.ref C::tl)∧(Value.ref C::tl).contains (.ref M)=true∧spW [.ref a] (upd H' a (.frz o topO)) Q E0
abbrev L1(cn mn en wn:Str)(p1 p2 p3 p4 p5 p6 p7 p8 p9 p10 p11:Pos):List Stmt:=
 [.Try [.Return (some (.List [.Call (.Name cn p1) [] [] p2] p3)) p4] [.ExceptHandler (some (.Name mn p5)) (some en) [.Return (some (.Call (.Name wn p6) [.Name en p7] [] p8)) p9] p10] [] [] p11]
theorem Uk{k kw:Nat}{f fw M:Addr}{fdw:FuncData}{name qual cn mn en wn:Str}{params:Arguments}{scope:Scope}{dV kV doc pm cdv ct oc:Value}{an od:Option Addr}{osl:Array (Option Value)}{spW:Sp}{tm:List Value}{p1 p2 p3 p4 p5 p6 p7 p8 p9 p10 p11:Pos}(lk:K.lookup f=some ⟨oc,od,.func (PySem.W.fnOf name qual params (L1 cn mn en wn p1 p2 p3 p4 p5 p6 p7 p8 p9 p10 p11) scope dV kV doc pm an cdv ct),osl⟩)(hcd:PySem.W.codeIn K cdv qual=true)(S:FnScope [cn,en] [cn] scope)(hM:ExcK K mn M)(hmg:mg mn=some (.ref M))(hmM:mroK K M=some (.ref M::tm))(hB:tm.contains (.type "BaseException")=true)(FW:FnH P w K mg base CX0 kw fw fdw [en] spW)(hmw:mg wn=some (.ref fw))(hkw:PySem.W.keepIn K (.ref fw)=true)(hbw:Binds K fdw [en] [])(hk1:kw+2≤k){kr:Nat}(hk2:kr≤k)(hc1:scope.names.lookup cn=some .local)(hc2:scope.names.lookup en=some .local)(hgm:∀L cd,(envOfC qual scope L f cd).kindOf mn=some .globalImplicit)(hgw:∀L cd,(envOfC qual scope L f cd).kindOf wn=some .globalImplicit)(d1:(cn == ("__debug__" : Str))=false)(d2:(cn == ("__classdict__" : Str))=false)(d3:(mn == ("__debug__" : Str))=false)(d4:(wn == ("__debug__" : Str))=false)(d5:(en == ("__debug__" : Str))=false)(d6:(en == ("__classdict__" : Str))=false) :
  FnS P w K mg base (CX1 P w) (k+1) f (PySem.W.fnOf name qual params (L1 cn mn en wn p1 p2 p3 p4 p5 p6 p7 p8 p9 p10 p11) scope dV kV doc pm an cdv ct) [cn] (Nm P w K mg base kr M spW):=by
 refine Z7 lk hcd S (fun outer s vs H Q E ⟨_,_,_,_,_,_,_,_,_,_,_,_,_,e,_⟩=>by rw[e];rfl) fun A outer s H vs Q E hr ⟨fl,q,ps,body,sc,clos,pm',c,ctv,N,σ3,t3,E1,e,L,hb,ht,hE⟩=>?_
 subst e
 have try_:=Y1 (X:=Cl (CX1 P w) P w K mg base [cn,en] qual scope f cdv A outer s H E) (E:=E1) (M:=M) (mn:=mn) (n:=en) (i:=1) (np:=p5) (hpos:=p10) (pos:=p11) (b0:=.Return (some (.Call (.Name wn p6) [.Name en p7] [] p8)) p9) (suite:=[])
  (body:=[.Return (some (.List [.Call (.Name cn p1) [] [] p2] p3)) p4]) (tm:=tm) rfl rfl rfl rfl S.nd rfl hc2 hmg hM hmM hB (fun xe' pn' hx=>Gr (Nn (Sx (Da (Uf (i:=0) (x:=cn) (E:=E1) (t3:=t3) rfl L hr hx (fun s' H'=>hb _ _ s' H' (hr.mono hk2)) rfl (.inl hc1) d1 d2) pa_nil))))
  (fun e xe' pn'=>Gr (Nn (Ug (dvs:=[]) (ds:=[]) FW (RoomH.of (hr.mono (by omega)) _) (hgw _ _) hmw hkw hbw .nil (E:=E0) (fun _ _ _ _ _ _ _ h=>h.elim) (Da (Kd (i:=1) rfl (.inl hc2) d5 d6) pa_nil) d4))) (hgm _ _) d3
 refine⟨_,Gr try_,⟨rfl,ht⟩,fun C H' a o z0 z1 z2 z3=>?_⟩
 obtain⟨x,tl,h1,h2,h3,h4⟩:=hE C H' a o z0 z1 z2 z3
 exact⟨x,tl,h1,h2,h3,.ref a,rfl,h4⟩
end
def AllP{α:Type}(f:α→Prop):List α→Prop
 |[]=>True
 |a::l=>f a∧AllP f l
theorem AllP.get{α:Type}{f:α→Prop}:∀{l:List α},AllP f l→∀a∈l,f a
 |a::l,h,b,hb=>by
  rcases List.mem_cons.mp hb with rfl|hb
  ·exact h.1
  ·exact AllP.get h.2 b hb
def excIs(C:Addr)(H:Hp)(a:Addr):Prop:=∃o u,H a=some (.frz o u)∧Sj o C
def whX(K:PySem.W.Frag)(M:Addr)(wD:DSp)(Q:DK):DX:=fun c G=>∃C x tl,c=.ref C∧ExcK K x C∧mroK K C=some (.ref C::tl)∧(Value.ref C::tl).contains (.ref M)=true∧∀a,G a=none→wD [.ref a] (Ab G a (.any (excIs C))) Q noX
structure Said(P:Program)(w:World)(K:PySem.W.Frag)(mg:Str→Option Value)(base:Heap)(k kr:Nat)(x:Str)(M:Addr)(wD:DSp):Prop where
 ex:∃f fd cn,FnS P w K mg base (CX1 P w) k f fd [cn] (Nm P w K mg base kr M (Ai K wD))∧mg x=some (.ref f)∧PySem.W.keepIn K (.ref f)=true∧Binds K fd [cn] []
def Lm(K:PySem.W.Frag)(M:Addr)(wD:DSp)(T:Addr)(q:Str)(idx:List Nat)(tb:DX→DTE):DTE:=fun σ G Q=>G T=some (.tbl q)∧
 tb (whX K M wD Q) (idx.map fun i=>(σ[i]?).join) G (fun d G'=>1≤sizeLine∧∀p,G' p=none→Q (.ref p) (Ab G' p (.lst [d])))
section
variable{X:Cx}
theorem q_said{k kr:Nat}{x:Str}{M T c0:Addr}{wD:DSp}{params:Arguments}{body:Expr}{scope:Scope}{clos:List (Str×Addr)}{N:List Str}{idx:List Nat}{tb:DX→DTE}{p lp pos:Pos}(S:Said X.prog X.w X.K X.mg X.base k kr x M wD)(hr:Room k X.A)(hcode:X.env.code=.ref c0)(hC:PySem.W.codeHdIn X.K c0 T=true)(hst:X.stack=X.env::X.outer)(hfr:X.env.frame=some X.env.locals)(hfn:∀x,X.fn x=true)(hb:∀E f c A outer s H,Room kr A→QE (Gb (CX1 X.prog X.w) X.prog X.w X.K X.mg X.base N (X.env.qual ++ "<lambda>") scope f (.ref c) clos A outer s H (Ex X.K E)) body (tb E))(hcl:closureFor scope X.env=pure clos)(hdef:defaultsOf params X.env=([],[]))(hsub:AllP (fun p:Str×Addr=>X.env.cells.lookup p.1=some p.2) clos)(hN:AllP (fun x:Str=>scope.names.lookup x=some .free∧X.env.kindOf x=some .cell∧clos.lookup x=X.env.cells.lookup x) N)(hix:idx.map (fun i=>X.N[i]?)=N.map some)(hfv:(scope.names.all fun p=>p.2 != .free||N.contains p.1)=true)(hS:LamScope scope)(hbind:∀q clos pm cv ctv,bindArgs (PySem.W.kla_fn "<lambda>" q params body scope clos pm cv ctv) ⟨[],[]⟩=pure [])(hg:Gl X x:=by rfl)(hdb:(x == ("__debug__" : Str))=false:=by decide)(he:starEach [.Lambda params body scope lp] X.env=(false,eval (.Lambda params body scope lp) X.env)::starEach [] X.env:=by rfl)(hpl:(backTo pos (starEach [] X.env)).any (·.1)=false:=by rfl) :
  QE X (.Call (.Name x p) [.Lambda params body scope lp] [] pos) (Lm X.K M wD T (X.env.qual ++ "<lambda>") idx tb):=by
 obtain⟨fs,fd,cn,F,hm,hk,hbi⟩:=S.ex
 refine(Ue (E:=Ex X.K noX) F hr hm hk hbi passF (Da (Ze hdef hcl hcode hC) pa_nil he) hg hdb he hpl).imp fun σ H Q ⟨σD,G,Q',rs,rg,⟨eT,h⟩,cl⟩=>?_
 have key:∀H1 f c oc u ctv,Ext H H1→RelG X.K H1 G→H1 f=some (.frz (lamO (X.env.qual ++ "<lambda>") params body scope clos ((X.mg "__name__").getD .none) (.ref c) ctv) topO)→H1 c=some (.frz oc u)→CodeIs oc (X.env.qual ++ "<lambda>")→∀pins s1,Inv X pins σ H1 s1→
   Nm X.prog X.w X.K X.mg X.base kr M (Ai X.K wD) X.stack s1 [.ref f] H1 Q (Ex X.K noX):=fun H1 f c oc u ctv x1 rg1 hf hc hci pins s1 I=>by
  have nl:∀(i:Nat) y,N[i]? = some y→∃j,idx[i]? = some j∧X.N[j]? = some y:=fun i y e=>by
   have z:=congrArg (fun l=>l[i]?) hix
   simp only[List.getElem?_map,e,Option.map_some] at z
   cases q:idx[i]? with
   |none=>rw[q] at z;cases z
   |some j=>rw[q] at z;exact⟨j,rfl,by simpa using z⟩
  have il:idx.length=N.length:=by have:=congrArg List.length hix;simpa using this
  refine⟨f,_,params,body,scope,clos,_,c,ctv,N,idx.map fun i=>(σ[i]?).join,Bk X.K (tb (whX X.K M wD Q')),Ex X.K (whX X.K M wD Q'),rfl,⟨hf,⟨oc,u,hc,hci⟩,hS,hbind _ _ _ _ _,fun y c' e=>?_,fun y z c' e1 e2=>?_,fun y e=>?_,fun i y v e1 e2=>?_,by rw[List.length_map,il]⟩,fun A outer s H hr=>hb _ f c A outer s H hr,?_,fun C H' a o x2 ⟨G',rg2,C',y,tl,ec,hx,hmx,hin,h2⟩ ha ho=>?_⟩
  ·have e':=hsub.get _ (PySem.mem_of_lookup e)
   obtain⟨v,o,hv1,hv2⟩:=I.cell y c' e'
   refine⟨⟨v,o,hv1,hv2⟩,I.freeC y c' e',fun m=>?_⟩
   rw[hst] at m
   rcases(Fd hfr).mp m with z|z
   ·obtain⟨m,⟨o',es,ep,n1,n2,_⟩,_⟩:=I.loc
    rw[←z,hv1] at n1;cases n1
    rw[hv2] at n2;cases n2
   ·obtain⟨_,o',e2,_⟩:=I.ok.funs.mem z
    exact absurd (Nat.lt_of_lt_of_le (Heap.lt_size e2) (I.ok.cab y c' (hfn y) e')) (Nat.lt_irrefl _)
  ·exact I.ok.inj y z c' (hsub.get _ (PySem.mem_of_lookup e1)) (hsub.get _ (PySem.mem_of_lookup e2))
  ·have z:=List.all_eq_true.mp hfv _ (PySem.mem_of_lookup e)
   have z:y∈N:=by simpa using z
   obtain⟨_,kc,el⟩:=hN.get y z
   obtain⟨c',ec⟩:=I.ok.has y (.inl kc)
   exact⟨c',by rw[el];exact ec⟩
  ·obtain⟨j,ej,en⟩:=nl i y e1
   rw[List.getElem?_map,ej] at e2
   have e2:σ[j]? = some (some v):=by
    cases q:σ[j]? with
    |none=>simp[q] at e2
    |some w=>simp[q] at e2;rw[e2]
   obtain⟨f1,kc,el⟩:=hN.get y (List.mem_of_getElem? e1)
   obtain⟨m,n1,n2⟩:=I.loc
   obtain⟨u,r,lk⟩:=n2 j y v en e2 (.inr (.inl kc))
   rcases lk with ⟨k1,_⟩|⟨_,c',k2,k3⟩
   ·rw[kc] at k1;cases k1
   ·exact⟨c',u,f1,by rw[el];exact k2,k3,r⟩
  ·refine⟨idx.map fun i=>(σD[i]?).join,G,_,⟨by simp,fun i d e=>?_⟩,rg1,h,fun d G' ⟨hl,q⟩ H2 x2 rg2 v dv=>⟨hl,fun p hp=>cl _ _ (q p (rg2.free hp)) _ (x1.trans (x2.trans (Ext.fresh hp))) (rg2.new hp ⟨[v],Ah,.cons (dv.ext (Ext.fresh hp)) .nil⟩) _ (.ref p)⟩⟩
   rw[List.getElem?_map] at e ⊢
   cases q:idx[i]? with
   |none=>rw[q] at e;cases e
   |some j=>
    rw[q] at e
    have e:σD[j]? = some (some d):=by
     cases q:σD[j]? with
     |none=>simp[q] at e
     |some w=>simp[q] at e;rw[e]
    obtain⟨v,e1,dv⟩:=rs.2 j d e
    exact⟨v,by simp[e1],dv.ext x1⟩
  ·cases ec
   have x3:Ext H' (upd H' a (.frz o topO)):=Ext.fresh ha
   refine⟨y,tl,hx,hmx,hin,[.ref a],_,Q',noX,.cons (.ref a) .nil,rg2.new (o:=.any (excIs C)) ha ⟨⟨o,topO,Ah⟩,fun H3 x4=>⟨o,topO,x4.frz _ _ _ Ah,ho⟩⟩,h2 a (rg2.free ha),fun d G1 q=>(cl d G1 q).go (x1.trans (x2.trans x3)),fun c G1 z=>z.elim⟩
 obtain⟨ps,e,ht,ok⟩:=rg T _ eT
 refine⟨ps,e,ht,fun cv ctv f hf hn=>?_,fun c o ctv f hf hc hn hne hci=>?_⟩
 ·obtain⟨c,oc,u,rfl,hcH,hci⟩:=ok _ _ hf
  exact key _ f c oc u ctv (Ext.fresh hn) (rg.tup hn) Ah ((Ext.fresh hn).frz _ _ _ hcH) hci
 ·have nT:∀{b:Addr},H b=none→b≠T:=fun {b} n z=>by rw[z,e] at n;cases n
  have x1:Ext H (upd H T (.tbl (ps ++ #[rawInt lp.line,rawInt lp.col,.ref c]))):=Ext.tbl e
  have c1:(upd H T (.tbl (ps ++ #[rawInt lp.line,rawInt lp.col,.ref c]))) c=none:=by rw[Af (nT hc)];exact hc
  have x2:Ext _ (upd (upd H T (.tbl (ps ++ #[rawInt lp.line,rawInt lp.col,.ref c]))) c (.frz o topO)):=Ext.fresh c1
  have f2:(upd (upd H T (.tbl (ps ++ #[rawInt lp.line,rawInt lp.col,.ref c]))) c (.frz o topO)) f=none:=by rw[Af hne.symm,Af (nT hn)];exact hn
  have x12:=x1.trans x2
  have rg2:RelG X.K (upd (upd H T (.tbl (ps ++ #[rawInt lp.line,rawInt lp.col,.ref c]))) c (.frz o topO)) G:=fun b u eb=>by
   by_cases hb:b=T
   ·subst hb
    rw[eT] at eb;cases eb
    refine⟨ps ++ #[rawInt lp.line,rawInt lp.col,.ref c],by rw[Af (nT hc).symm,Ah],by simpa using TriplesOk_snoc _ _ _ _ ht,fun p cv q=>?_⟩
    rcases Rs _ ht (by simpa using q) with q|q
    ·obtain⟨c',o',u',a1,a2,a3⟩:=ok p cv q
     exact⟨c',o',u',a1,x12.frz _ _ _ a2,a3⟩
    ·exact⟨c,o,topO,q,Ah,hci⟩
   ·exact((rg b u eb).upd x1 (.inr hb)).upd x2 (.inl c1)
  exact key _ f c o topO ctv (x12.trans (Ext.fresh f2)) (rg2.tup f2) Ah ((Ext.fresh f2).frz _ _ _ Ah) hci
end
structure ExcCl(K:PySem.W.Frag)(C:Addr):Prop where
 ga:PySem.W.findIn K (.ref C) "__getattribute__" = some (some (.builtin "BaseException.__getattribute__"))
 gt:PySem.W.findIn K (.ref C) "__getattr__" = some none
 cl:PySem.W.findIn K (.ref C) "__class__" = some (some (.builtin "object.__class__"))
 ob:PySem.W.mroIn K C (.type "object")=some true
 be:PySem.W.mroIn K C (.type "BaseException")=some true
theorem Ts{K:W.Frag}:PySem.W.specialIn K (.builtin "object.__class__") "__get__" = some (some (.builtin "getset_descriptor.__get__")):=by kernel_rfl
theorem Tr{K:W.Frag}:PySem.W.takesIn K (.builtin "object.__class__")=some true:=by kernel_rfl
def Jh(C a:Addr)(h:Heap):Prop:=∃o,h.get? a=some o∧o.cls=.ref C
section
variable{P:Program}{w:World}{A:Around}{E:Value→Shared→Prop}{K:W.Frag}{C a:Addr}{s:Shared}
theorem Dt{M:Model}{h:Heap}(p:Jh C a h):PySem.W.Looks M h (typeOf (.ref a)) (.ref C):=by
 obtain⟨o,e,c⟩:=p
 exact c ▸ (PySem.W.Looks.ld e).andThen .now
theorem Xa{R:Result→Shared→Prop}(X:K.In s.heap)(I:Jh C a s.heap)(O:ExcCl K C)(h:R (.ok (.ret (.ref C))) s) :
  codeAny (model P w) A (.call (.builtin "getset_descriptor.__get__") ⟨[.builtin "object.__class__",.ref a,.ref C],[]⟩) R s:=by
 obtain⟨h1,h2,h3,h4,h5⟩:=s
 have l0:=Dt (M:=model P w) I
 have l1:=PySem.W.looks_mroIn (M:=model P w) X O.ob
 have sl:=PySem.W.KF.slot_gs
 refine codeAny_call_builtin sl.plain PySem.W.KF.entry_gs (sl.check _ _ _ _ _ _ _ _ PySem.W.KF.type_class (PySem.W.KF.args_gs _ _ _) ?_)
 unfold Builtin.«getset_descriptor.__get__» Builtin.Getset_descriptor.descrGet
 rw[PySem.W.dga_obj];refine wpAny_bind (wpAny_pure ?_)
 unfold Builtin.Getset_descriptor.descrGetter Builtin.Getset_descriptor.descrCheckInstance
 unfold Builtin.Getset_descriptor.descrNameAndClass isInstance
 simp only[PySem.W.KF.owner_class]
 repeat lk
 refine⟨Code.quiet_builtin _ (by decide +kernel),codeAny_builtin PySem.W.KF.entry_class ?_⟩
 unfold Builtin.«object.__class__» shownTypeOf;repeat lk
 exact h
theorem U7{M:Model}(X:K.In s.heap)(O:ExcCl K C):PySem.W.Looks M s.heap (Builtin.ObjectAttr.find (.ref a) (.ref C) "__class__") (.bind (.builtin "getset_descriptor.__get__") (.builtin "object.__class__")):=by
 have l1:=PySem.W.looks_findIn (M:=M) X O.cl
 have l2:=PySem.W.looks_specialIn (M:=M) X (Ts (K:=K))
 have l3:=PySem.W.looks_takesIn (M:=M) X (Tr (K:=K))
 refine l1.andThen (PySem.W.Looks.andThen (f:=_) (show PySem.W.Looks M s.heap (Builtin.ObjectAttr.getOf (some (.builtin "object.__class__"))) _ from l2) ?_)
 refine PySem.W.Looks.andThen (a:=some (.builtin "getset_descriptor.__get__",.builtin "object.__class__")) ?_ (PySem.W.Looks.tag .now)
 exact l3.andThen .now
theorem U8{tk:Tok}{Q:Fin→Shared→Prop}(X:K.In s.heap)(I:Jh C a s.heap)(O:ExcCl K C)(h:Q (.done (.ret (.ref C))) s) :
  wpAny (model P w) A (Builtin.«object.__getattribute__» ⟨[.ref a,.str "__class__" tk],[]⟩) Q E s:=by
 obtain⟨h1,h2,h3,h4,h5⟩:=s
 have l0:=Dt (M:=model P w) I
 have l1:=U7 (M:=model P w) (a:=a) (s:=⟨h1,h2,h3,h4,h5⟩) X O
 refine wpAny_bind (wpAny_pure (wpAny_bind (wpAny_pure (wpAny_bind (l0.at (wpAny_bind (l1.at ?_)))))))
 show wpAny _ _ (holding [.builtin "object.__class__"] (call (.builtin "getset_descriptor.__get__") [.builtin "object.__class__",.ref a,.ref C]) >>= ret) _ _ _
 exact wpAny_bind (wpAny_holding (wpAny_call (Xa (s:=⟨h1,h2,h3,h4,h5⟩) X I O (wpAny_pure h))))
theorem Q8{M:Model}{nm:Value}{Q:Unit→Shared→Prop}(X:K.In s.heap)(I:Jh C a s.heap)(O:ExcCl K C)(h:Q () s):wpAny M A (checkBuiltinCall "BaseException.__getattribute__" ⟨[.ref a,nm],[]⟩) Q E s:=by
 obtain⟨h1,h2,h3,h4,h5⟩:=s
 have l0:=Dt (M:=M) I
 have l1:=PySem.W.looks_mroIn (M:=M) X O.be
 have ha:=F.args_bexc_ga (.ref a) nm
 have hk:builtinKind "BaseException.__getattribute__" = some .slot:=by decide +kernel
 have hs:splitId "BaseException.__getattribute__" = some ("BaseException", "__getattribute__"):=by decide +kernel
 simp only[checkBuiltinCall,hk,hs]
 refine wpAny_bind (PySem.W.Looks.at (r:=true) (l0.andThen l1) ?_)
 rw[if_neg (by decide)]
 unfold argsOk at ha
 cases q:Manifest.signature? "BaseException.__getattribute__" with
 |none=>exact wpAny_pure h
 |some sig=>
  simp only[q] at ha ⊢
  rw[ha]
  exact wpAny_pure h
theorem Xb{Q:Option Value→Shared→Prop}(X:K.In s.heap)(I:Jh C a s.heap)(O:ExcCl K C)(h:Q (some (.ref C)) { s with toks:=s.toks+1 }):wpAny (model P w) A (getAttr? (.ref a) "__class__") Q E s:=by
 obtain⟨h1,h2,h3,h4,h5⟩:=s
 have l0:=Dt (M:=model P w) I
 have l1:=PySem.W.looks_findIn (M:=model P w) X O.ga
 have l2:=PySem.W.looks_findIn (M:=model P w) X O.gt
 unfold getAttr? getAttrBy?
 refine wpAny_bind (wpAny_mkText (wpAny_bind (wpAny_attempt (wpAny_holding (wpAny_bind (l0.at (wpAny_bind (l1.at ?_))))))))
 have n:(onTheHeap (Value.ref C)&&Value.builtin "BaseException.__getattribute__" == Value.builtin "object.__getattribute__")=false:=by
  rw[show(Value.builtin "BaseException.__getattribute__" == Value.builtin "object.__getattribute__")=false from by decide +kernel,Bool.and_false]
 show wpAny _ _ (if (onTheHeap (Value.ref C)&&Value.builtin "BaseException.__getattribute__" == Value.builtin "object.__getattribute__")=true then _ else _) _ _ _
 rw[n,if_neg (by decide)]
 unfold getAttrByItsOwn
 refine wpAny_bind (l2.at (wpAny_bind (wpAny_attempt (wpAny_holding ?_))))
 show wpAny _ _ (boundAndCalled _ _ _) _ _ _
 unfold boundAndCalled
 rw[F.excAttr_ValueError.ga.bind]
 refine wpAny_bind (wpAny_pure (wpAny_call (codeAny_call_builtin F.excAttr_ValueError.ga.plain F.entry_bexc_ga (Q8 (s:=⟨h1,h2,h3,h4+1,h5⟩) X I O (U8 (s:=⟨h1,h2,h3,h4+1,h5⟩) X I O ?_)))))
 show wpAny _ _ (handedOut (.ref C)) _ _ _
 exact PySem.W.handed_on rfl (wpAny_pure h)
theorem Ux(O:ExcCl K C):PySem.W.KitX K (.ref a) (.ref C) (Jh C a):=by
 obtain⟨cd,hc,_⟩:=Option.bind_eq_some_iff.mp O.ob
 have lk:∃b1 b2 b3,K.lookup C=some ⟨b1,b2,.cls cd,b3⟩:=by
  unfold PySem.W.clsIn at hc
  split at hc
  ·rename_i b1 b2 b3 b4 ho;cases hc;exact⟨_,_,_,ho⟩
  ·cases hc
 obtain⟨b1,b2,b3,lk⟩:=lk
 refine⟨fun M h X p=>Dt p,fun M h X p A Q E s k q=>?_,fun h tp dd its n sl X e=>Bool.eq_false_iff.mpr fun q=>?_,fun X p k=>Xb X p O k⟩
 ·unfold isType loadHead
  exact wpAny_bind (wpAny_loadPart (k _ _ (X _ _ lk)) (wpAny_pure q))
 ·cases beq_iff_eq.mp q
  rw[X _ _ lk] at e;cases e
end
structure OwnK(K:PySem.W.Frag)(D:Addr):Prop where
 ty:PySem.W.typeIn K (.ref D)=some (.type "type")
 ob:PySem.W.mroIn K D (.type "object")=some true
section
variable{X:Cx}
theorem S7{pins:List (Addr×Obj)}{σ:List (Option V)}{H:Hp}{s:Shared}{Q:Value→Shared→Prop}{E:Value→Shared→Prop}{a C:Addr}{c:Value}{b:Bool}(I:Inv X pins σ H s)(O:ExcCl X.K C)(ha:excIs C H a)(hk:PySem.W.kitOne X.K (.ref C) c=some b)(h:∀tk,Q (.bool b) { s with toks:=tk }) :
  wpAny (model X.prog X.w) X.A (call (.builtin "isinstance") [.ref a,c]) Q E s:=by
 obtain⟨o,u,e,ho⟩:=ha
 exact PySem.W.kia_one (Ux O) I.kIn ⟨o,(I.hok a _ e).1,ho.1⟩ hk (by intro z;cases z) h
def rIsE(K:PySem.W.Frag):DRC:=fun ds G Q=>∃a C D b,ds=[.ref a,.ref D]∧G a=some (.any (excIs C))∧ExcCl K C∧OwnK K D∧PySem.W.mroIn K C (.ref D)=some b∧(C=D→b=true)∧Q (.bl b) G
def rIsV(K:PySem.W.Frag):DRC:=fun ds G Q=>∃a C b,ds=[.ref a,.ty "ValueError"]∧G a=some (.any (excIs C))∧ExcCl K C∧PySem.W.mroIn K C (.type "ValueError")=some b∧Q (.bl b) G
theorem c_isexc:QC X (.builtin "isinstance") (rIsE X.K):=by
 intro pins s σ H xs us Q I r ⟨ds,G,Q',dv,rg,⟨a,C,D,b,e,hG,O,hD,hm,hs,q⟩,cl⟩
 subst e
 obtain⟨v,w,rfl,d1,d2⟩:=dv.two
 cases d1;cases d2
 obtain⟨u1,u2,rfl,r1,r2⟩:=F9 r
 cases r1;cases r2
 have hk:PySem.W.kitOne X.K (.ref C) (.ref D)=some b:=by
  unfold PySem.W.kitOne
  split
  ·rename_i z
   rw[hs (Value.ref.inj (beq_iff_eq.mp z))]
  ·obtain⟨cd,hc,_⟩:=Option.bind_eq_some_iff.mp hD.ob
   show(if _ then _ else _)=_
   rw[if_pos (by rw[hD.ty,hc];rfl)]
   exact hm
 refine S7 I O ((rg a _ hG).2 H (Ext.refl H)) hk fun tk=>?_
 exact⟨.bl b,H,I.tok _,rfl,cl _ G q H (Ext.refl H) rg _ (.bl _)⟩
theorem W3:PySem.W.kitMeta "ValueError" = true:=by decide +kernel
theorem c_isexcV:QC X (.builtin "isinstance") (rIsV X.K):=by
 intro pins s σ H xs us Q I r ⟨ds,G,Q',dv,rg,⟨a,C,b,e,hG,O,hm,q⟩,cl⟩
 subst e
 obtain⟨v,w,rfl,d1,d2⟩:=dv.two
 cases d1;cases d2
 obtain⟨u1,u2,rfl,r1,r2⟩:=F9 r
 cases r1;cases r2
 have hk:PySem.W.kitOne X.K (.ref C) (.type "ValueError")=some b:=by
  unfold PySem.W.kitOne
  rw[if_neg (fun z=>by cases beq_iff_eq.mp z)]
  show(if PySem.W.kitMeta "ValueError" = true then _ else none)=_
  rw[if_pos W3]
  exact hm
 refine S7 I O ((rg a _ hG).2 H (Ext.refl H)) hk fun tk=>?_
 exact⟨.bl b,H,I.tok _,rfl,cl _ G q H (Ext.refl H) rg _ (.bl _)⟩
end
def isT:Value→Bool
 |.bool b=>b
 |_=>false
theorem Kh:∀{bs:List Bool} {us:List Value},Vals (bs.map V.bl) us→us=bs.map Value.bool
 |[],_,.nil=>rfl
 |b::bs,_,.cons h t=>by
  have e:=Kh t
  cases h
  rw[e];rfl
theorem Kr{K:W.Frag}{H:Hp}:∀{bs:List Bool} {xs:List V},DVs K H (bs.map D.bl) xs→xs=bs.map V.bl
 |[],_,.nil=>rfl
 |b::bs,_,.cons h t=>by
  have e:=Kr t
  cases h
  rw[e];rfl
theorem cnt_t(bs:List Bool):(bs.map Value.bool).countP isT=bs.count true:=by
 induction bs with
 |nil=>rfl
 |cons b bs ih=>cases b<;>simp[List.countP_cons,isT,ih]
theorem eq_t{A:Around}{s:Shared}{bs:List Bool}(y:Value)(h:y∈(bs.map Value.bool).toArray):PySem.SeqAt.EqAt A s y (.bool true) (isT y):=by
 have h:y∈bs.map Value.bool:=by simpa using h
 obtain⟨b,_,rfl⟩:=List.mem_map.mp h
 have z:=PySem.SeqAt.EqAt.bool_bool (A:=A) (s:=s) b true
 cases b<;>exact z
section
variable{X:Cx}{e:Expr}{ta:DTE}
theorem Qu:MtM X "list.count" (fun x vs H Q=>∃(l:Addr) (bs:List Bool),x=.ref l∧vs=[.bl true]∧H l=some (.lst (bs.map V.bl))∧Q (.int (bs.count true:Nat)) H):=by
 intro pins s σ H x vs v us Q I rx rv h
 obtain⟨l,bs,rfl,rfl,hH,q⟩:=h
 cases rx
 obtain⟨u,rfl,ru⟩:=rv.one
 cases ru
 obtain⟨z,its,n,r,hl,e⟩:=I.lstM hH
 obtain rfl:=Kh r
 refine call_meets PySem.F.slot_list_count ⟨_,e,rfl⟩ PySem.F.entry_list_count (PySem.F.args_list_count_2 _ _) (PySem.SeqAt.list_countAt l _ n _ _ (.bool true) isT) ⟨e,fun y hy=>eq_t y hy,?_⟩
 rw[cnt_t]
 exact⟨.int _,H,I.tok _,⟨_,rfl⟩,q⟩
theorem Qt:MtM X "list.index" (fun x vs H Q=>∃(l:Addr) (bs:List Bool) (j:Nat),x=.ref l∧vs=[.bl true]∧H l=some (.lst (bs.map V.bl))∧bs[j]? = some true∧(∀m,m<j→bs[m]? = some false)∧Q (.int (j:Nat)) H):=by
 intro pins s σ H x vs v us Q I rx rv h
 obtain⟨l,bs,j,rfl,rfl,hH,hj,hno,q⟩:=h
 cases rx
 obtain⟨u,rfl,ru⟩:=rv.one
 cases ru
 obtain⟨z,its,n,r,hl,e⟩:=I.lstM hH
 obtain rfl:=Kh r
 have jl:j<bs.length:=by
  rcases Nat.lt_or_ge j bs.length with q|q
  ·exact q
  ·rw[List.getElem?_eq_none q] at hj;cases hj
 have sz:bs.length≤sizeLine:=by simpa using z
 rw[sizeLine_eq] at sz
 refine call_meets PySem.F.slot_list_index ⟨_,e,rfl⟩ PySem.F.entry_list_index (PySem.F.args_list_index_2 _ _) (PySem.SeqAt.list_indexAt l _ n _ _ (.bool true) isT j (by simpa using jl) (by omega) ?_ fun m hm hlt=>?_) ⟨e,fun y hy=>eq_t y hy,?_⟩
 ·have:bs[j]=true:=by rw[List.getElem?_eq_getElem jl] at hj;exact Option.some.inj hj
  simp[isT,this]
 ·have ml:m<bs.length:=by omega
  have:=hno m hlt
  rw[List.getElem?_eq_getElem ml] at this
  have:bs[m]=false:=Option.some.inj this
  simp[isT,this]
 ·exact⟨.int _,H,I.tok _,⟨_,rfl⟩,q⟩
def nCnt(to ta:DTE):DTE:=fun σ G Q=>to σ G fun x G1=>∃p,x=.ref p∧(∃ds,G1 p=some (.lst ds))∧ta σ G1 fun y G2=>y=.bl true∧∃bs:List Bool,G2 p=some (.lst (bs.map D.bl))∧Q (.int (bs.count true:Nat)) G2
def nIdx(to ta:DTE):DTE:=fun σ G Q=>to σ G fun x G1=>∃p,x=.ref p∧(∃ds,G1 p=some (.lst ds))∧ta σ G1 fun y G2=>y=.bl true∧∃(bs:List Bool) (j:Nat),G2 p=some (.lst (bs.map D.bl))∧bs[j]? = some true∧(∀m,m<j→bs[m]? = some false)∧Q (.int j) G2
theorem Yw{o:Expr}{to:DTE}{apos cpos:Pos}(ho:QE X o to)(ha:QE X e ta)(hbase:attributeBase o "count" X.env (eval o X.env)=eval o X.env:=by rfl)(hfew:((backTo cpos (starEach [e] X.env)).all (fun x=>!x.1)&&(backToKw cpos (keywordEach [] X.env)).all (fun x=>x.1.isSome)
   && decide (([e]:List Expr).length+([]:List Keyword).length+(if ([]:List Keyword).isEmpty then 0 else 1)<30))=true:=by rfl)(hline:(apos.endLine == cpos.line)=true:=by rfl)(hs:starEach [e] X.env=(false,eval e X.env)::starEach [] X.env:=by rfl)(hplain:(backTo cpos (starEach [] X.env)).any (·.1)=false:=by rfl) :
  QE X (.Call (.Attribute o "count" apos) [e] [] cpos) (nCnt to ta):=
 (R9 PySem.F.plainAttrs_list PySem.F.slot_list_count PySem.F.type_list_count Qu ho (Gq ha qa_nil hs) hbase hfew hline hs hplain).imp fun σ H Q ⟨σD,G,Q',rs,rg,h,cl⟩=>by
 refine⟨σD,G,_,rs,rg,h,fun d G1 ⟨p,ep,⟨ds,eg⟩,h1⟩ H1 x1 rg1 v dv=>?_⟩
 subst ep;cases dv
 obtain⟨xs,ex,r⟩:=rg1 p _ eg
 refine⟨.inl ⟨rfl,xs,.inl (.inl ex)⟩,σD,G1,fun ds' G2=>∃y,ds'=[y]∧y=.bl true∧∃bs:List Bool,G2 p=some (.lst (bs.map D.bl))∧Q' (.int (bs.count true:Nat)) G2,rs.ext x1,rg1,?_,?_⟩
 ·show ta σD G1 fun x G1=>Aq σD G1 fun xs G2=>_
  exact cast (by congr 1;funext y G2;simp[Aq]) h1
 ·rintro ds' G2 ⟨y,rfl,rfl,bs,eg2,q⟩ H2 x2 rg2 vs dvs
  obtain⟨v,rfl,dv⟩:=dvs.one
  cases dv
  obtain⟨xs2,ex2,r2⟩:=rg2 p _ eg2
  rw[Kr r2] at ex2
  exact⟨p,bs,rfl,rfl,ex2,cl _ _ q _ (x1.trans x2) rg2 _ (.int _)⟩
theorem Yt{o:Expr}{to:DTE}{apos cpos:Pos}(ho:QE X o to)(ha:QE X e ta)(hbase:attributeBase o "index" X.env (eval o X.env)=eval o X.env:=by rfl)(hfew:((backTo cpos (starEach [e] X.env)).all (fun x=>!x.1)&&(backToKw cpos (keywordEach [] X.env)).all (fun x=>x.1.isSome)
   && decide (([e]:List Expr).length+([]:List Keyword).length+(if ([]:List Keyword).isEmpty then 0 else 1)<30))=true:=by rfl)(hline:(apos.endLine == cpos.line)=true:=by rfl)(hs:starEach [e] X.env=(false,eval e X.env)::starEach [] X.env:=by rfl)(hplain:(backTo cpos (starEach [] X.env)).any (·.1)=false:=by rfl) :
  QE X (.Call (.Attribute o "index" apos) [e] [] cpos) (nIdx to ta):=
 (R9 PySem.F.plainAttrs_list PySem.F.slot_list_index PySem.F.type_list_index Qt ho (Gq ha qa_nil hs) hbase hfew hline hs hplain).imp fun σ H Q ⟨σD,G,Q',rs,rg,h,cl⟩=>by
 refine⟨σD,G,_,rs,rg,h,fun d G1 ⟨p,ep,⟨ds,eg⟩,h1⟩ H1 x1 rg1 v dv=>?_⟩
 subst ep;cases dv
 obtain⟨xs,ex,r⟩:=rg1 p _ eg
 refine⟨.inl ⟨rfl,xs,.inl (.inl ex)⟩,σD,G1,fun ds' G2=>∃y,ds'=[y]∧y=.bl true∧∃(bs:List Bool) (j:Nat),G2 p=some (.lst (bs.map D.bl))∧bs[j]? = some true∧(∀m,m<j→bs[m]? = some false)∧Q' (.int j) G2,rs.ext x1,rg1,?_,?_⟩
 ·show ta σD G1 fun x G1=>Aq σD G1 fun xs G2=>_
  exact cast (by congr 1;funext y G2;simp[Aq]) h1
 ·rintro ds' G2 ⟨y,rfl,rfl,bs,j,eg2,hj,hno,q⟩ H2 x2 rg2 vs dvs
  obtain⟨v,rfl,dv⟩:=dvs.one
  cases dv
  obtain⟨xs2,ex2,r2⟩:=rg2 p _ eg2
  rw[Kr r2] at ex2
  exact⟨p,bs,j,rfl,rfl,ex2,hj,hno,cl _ _ q _ (x1.trans x2) rg2 _ (.int _)⟩
end
section
variable{P:Program}{w:World}{K:W.Frag}{mg:Str→Option Value}{base:Heap}
theorem okH{x qual:Str}{st:Stmt}{f:Addr}{fd:FuncData}{N ps:List Str}{k:Nat}{sp:DSp}(F:Fun K x qual st f fd)(S:FnScope N ps (Ac st))(len:∀ds G Q E,sp ds G Q E→ds.length=ps.length)(hbody:∀(cdv:Value) (A:Around) (outer:List Env) (s:Shared) (H:Hp) (XE:XK) (ds:List D) (G:Gp) (Q:DK) (E:DX),RoomH k (A.deeper (envOfC qual (Ac st) s.heap.objs.size f cdv))→sp ds G Q E→
   ∃t,QSs (Jg CX0 P w K mg base N qual (Ac st) f cdv A outer s H XE).nox (Bx st) t∧t { nx:=fun _ G'=>Fq Q .non G',rt:=Fq Q } (Aj N ds) G):FnH P w K mg base CX0 (k+1) f fd ps (Ai K sp):=by
 obtain⟨oc,od,kV,doc,pm,an,cdv,ct,osl,rfl,lk,hcd⟩:=F.ex
 refine Z8 lk hcd S (fun vs H Q E ⟨ds,G,Q',E',dv,rg,h,_⟩=>by rw[←dv.length];exact len ds G Q' E' h) fun A outer s H vs Q E hr ⟨ds,G,Q',E',dv,rg,h,cl,_⟩=>?_
 obtain⟨t,ht,hq⟩:=hbody cdv A outer s H E ds G Q' E' hr h
 exact⟨_,PSs.nox ht,Aj N ds,G,_,D7 dv,rg,hq,⟨fun σD G1 ⟨G2,sb,q⟩ H1 x1 rg1 σ rs=>cl _ G2 q H1 x1 (rg1.ext' sb) _ .non,fun d G1 ⟨G2,sb,q⟩ H1 x1 rg1 v dv=>cl _ G2 q H1 x1 (rg1.ext' sb) _ dv,fun _ _ z=>z.elim,fun _ _ z=>z.elim⟩⟩
end
theorem V5:Slot "reversed" "__init__" "object.__init__":=.of (owner:="object") (n:="__init__") (by rw[typeLookup_type,builtinLookup_eq_fast];kernel_rfl) (by decide +kernel) (by decide +kernel) (by decide +kernel)
 (by first|exact .inl (by decide +kernel)|exact .inr (by decide +kernel)) (by rw[isSubtype_type];kernel_rfl)
theorem Qf:TypeCalled "reversed" "reversed.__new__" "object.__init__":=⟨by decide +kernel,F.create_reversed,⟨_,_,F.mro_reversed⟩,F.made_reversed,by decide +kernel,F.sub_reversed_self,V5⟩
theorem V3:typeLookup (.type "tuple") "__reversed__" = pure none:=by rw[typeLookup_type,builtinLookup_eq_fast];kernel_rfl
def rvO(t:Addr)(i:Int):Obj:={ cls:=.type "reversed",data:=.fields #[.ref t,rawInt i] }
section
variable{P:Program}{w:World}{A:Around}{E:Value→Shared→Prop}{s:Shared}{t:Addr}{items:Array Value}
theorem Ym{Q:Value→Shared→Prop}(ht:IsTup s.heap t items)(hz:(items.size:Int)<2 ^ 63)(h:∀tk,Q (.ref s.heap.objs.size) { s with heap:=s.heap.push (rvO t ((items.size:Int)-1)),toks:=tk }) :
  wpAny (model P w) A (Builtin.«reversed.__new__» ⟨[.type "reversed",.ref t],[]⟩) (fun fin s'=>∃v,fin=.done (.ret v)∧Q v s') E s:=by
 unfold Builtin.«reversed.__new__»
 refine wpAny_bind (wpAny_of_eq (newClass_reversed _) (wpAny_bind (wpAny_of_eq (a:=()) (by first|rfl|kernel_rfl) (wpAny_bind (wpAny_of_eq (a:=()) (by first|rfl|kernel_rfl) ?_)))))
 refine wpAny_bind (wpAny_specialOf ht.typeIs V3 ?_)
 show wpAny _ _ (_ >>= _) _ _ _
 k_delta "hasItemSlot"
 refine wpAny_bind (wpAny_bind (wpAny_isInstance (T:="tuple") (b:=false) ht.typeIs (by rw[isSubtype_type];kernel_rfl) ?_))
 show wpAny _ _ (specialOf _ _ >>= _) _ _ _
 refine wpAny_bind (wpAny_specialOf ht.typeIs PySem.F.slot_tuple_getitem.lookup ?_)
 refine wpAny_pure ?_
 show wpAny _ _ (call (Value.builtin "len") [Value.ref t] >>= _) _ _ _
 refine wpAny_bind (PyProof.Rows.len_tuple ht hz ?_)
 refine wpAny_bind (wpAny_of_eq (a:=some (items.size:Int)) rfl ?_)
 refine wpAny_bind ?_
 unfold Builtin.SmallTypes.newRecord
 refine wpAny_newObj_type (wpAny_pure ⟨_,rfl,h _⟩)
theorem V6{Q:Value→Shared→Prop}(ht:IsTup s.heap t items)(hz:(items.size:Int)<2 ^ 63)(h:∀tk,Q (.ref s.heap.objs.size) { s with heap:=s.heap.push (rvO t ((items.size:Int)-1)),toks:=tk }) :
  wpAny (model P w) A (call (.type "reversed") [.ref t]) Q E s:=by
 refine callType_new Qf (by decide +kernel) (F.typeCall_reversed_1 _) (F.newCall_reversed_1 _) (fun obj=>PySem.F.args_object_init_2 _ _) F.entry_reversed_new (S:=fun _ R s=>IsTup s.heap t items∧∀tk,R (.ok (.ret (.ref s.heap.objs.size))) { s with heap:=s.heap.push (rvO t ((items.size:Int)-1)),toks:=tk }) (Meets.of_wp fun prog w A R s hs=>?_) ⟨ht,fun tk=>⟨⟨_,Heap.get?_push_size _ rfl,rfl⟩,h tk⟩⟩
 exact Ym hs.1 hz hs.2
end
def IsRv(h:Heap)(a t:Addr)(i:Int):Prop:=∃o,h.get? a=some o∧o.cls=.type "reversed"∧o.data=.fields #[.ref t,rawInt i]
theorem rv_snext:Slot "reversed" "__next__" "reversed.__next__":=.of (owner:="reversed") (n:="__next__") (by rw[typeLookup_type,builtinLookup_eq_fast];kernel_rfl) (by decide +kernel) (by decide +kernel) (by decide +kernel)
 (by first|exact .inl (by decide +kernel)|exact .inr (by decide +kernel)) (by rw[isSubtype_type];kernel_rfl)
theorem L3:Slot "reversed" "__iter__" "reversed.__iter__":=.of (owner:="reversed") (n:="__iter__") (by rw[typeLookup_type,builtinLookup_eq_fast];kernel_rfl) (by decide +kernel) (by decide +kernel) (by decide +kernel)
 (by first|exact .inl (by decide +kernel)|exact .inr (by decide +kernel)) (by rw[isSubtype_type];kernel_rfl)
theorem L4:entryFor table "reversed.__next__" = some Builtin.«reversed.__next__»:=entryFor_of_tree (by kernel_rfl)
theorem Ty:entryFor table "reversed.__iter__" = some Builtin.«dict_keyiterator.__iter__»:=
 entryFor_alias (id':="dict_keyiterator.__iter__") (by kernel_rfl) (by first|rfl|decide +kernel|(unfold String.splitOn;simp +decide [String.splitOnAux])) (by decide +kernel) (by kernel_rfl)
theorem L5(a:Value):argsOk "reversed.__next__" ⟨[a],[]⟩:=by unfold argsOk;kernel_rfl
theorem Tz(a:Value):argsOk "reversed.__iter__" ⟨[a],[]⟩:=by unfold argsOk;kernel_rfl
section
variable{P:Program}{w:World}{A:Around}{E:Value→Shared→Prop}{s:Shared}{a t:Addr}{items:Array Value}
theorem IsRv.typeIs{i:Int}(x:IsRv s.heap a t i):s.TypeIs (.ref a) "reversed":=let ⟨o,ho,hc,_⟩:=x;⟨o,ho,hc⟩
theorem IsRv.at{h h':Heap}{i:Int}(x:IsRv h a t i)(k:∀o,h.get? a=some o→h'.get? a=some o):IsRv h' a t i:=let ⟨o,ho,hc⟩:=x;⟨o,k o ho,hc⟩
theorem O2{i:Int}{Q:Value→Shared→Prop}(hit:IsRv s.heap a t i)(h:Q (.ref a) s):wpAny (model P w) A (pyIter (.ref a)) Q E s:=by
 refine wpAny_pyIter_slot hit.typeIs L3 (wpAny_call_entry L3 hit.typeIs Ty ?_ (Tz _))
 show wpAny _ _ (ret (.ref a)) _ _ s
 exact wpAny_pure ⟨_,rfl, "reversed",_,hit.typeIs,rv_snext.lookup,h⟩
theorem V4{i:Nat}{x:Value}{Q:Option Value→Shared→Prop}(hit:IsRv s.heap a t (i:Int))(ht:IsTup s.heap t items)(hz:(items.size:Int)<2 ^ 63)(hx:items[i]? = some x)(hQ:∀h' tk,IsRv h' a t ((i:Int)-1)→Heap.SameBut a s.heap h'→Q (some x) { s with heap:=h',toks:=tk }):wpAny (model P w) A (pyNext (.ref a)) Q E s:=by
 obtain⟨o,ho,hc,hd⟩:=id hit
 have hl:i<items.size:=by
  rcases Nat.lt_or_ge i items.size with z|z
  ·exact z
  ·rw[Array.getElem?_eq_none z] at hx;cases hx
 unfold pyNext
 refine wpAny_bind (wpAny_attempt (wpAny_callSpecial?_slot (name:=Str.ofString "__next__") hit.typeIs rv_snext (wpAny_call_entry rv_snext hit.typeIs L4 ?_ (L5 _))))
 unfold Builtin.«reversed.__next__»
 refine wpAny_bind (wpAny_of_eq (a:=(Value.ref a,[])) rfl (wpAny_bind (wpAny_field ho hd (x:=.ref t) rfl (wpAny_bind (wpAny_field ho hd (x:=rawInt (i:Int)) rfl ?_)))))
 show wpAny _ _ (if (i:Int)<0 then _ else _) _ _ s
 rw[if_neg (by omega)]
 show wpAny _ _ (specialOf (.ref t) "__getitem__" >>= _) _ _ s
 refine wpAny_bind (wpAny_specialOf ht.typeIs PySem.F.slot_tuple_getitem.lookup ?_)
 show wpAny _ _ (mkInt (i:Int) >>= _) _ _ s
 refine wpAny_bind (wpAny_mkInt (wpAny_bind (wpAny_attempt (PyProof.Rows.getItem_tuple (s:={ s with toks:=s.toks+1 }) ht (by omega) (by omega) (j:=i) ?_ hx ?_))))
 ·unfold seqIndex?;simp;omega
 refine wpAny_bind (wpAny_field (s:={ s with toks:=s.toks+1 }) ho hd (x:=rawInt (i:Int)) rfl ?_)
 show wpAny _ _ (setField (.ref a) 1 _ >>= _) _ _ _
 refine wpAny_bind (wpAny_setField (s:={ s with toks:=s.toks+1 }) ho hd (by simp) (wpAny_pure ⟨x,rfl,wpAny_pure (hQ _ _ ⟨_,Heap.get?_update_self _ ho (Obj.isFreed_of_fields (Obj.data_mapFields hd _)),(Obj.cls_mapFields ..).trans hc,?_⟩ (Heap.SameBut.update ..))⟩))
 rw[Obj.data_mapFields hd];simp
theorem Yn{Q:Option Value→Shared→Prop}(hh:A.handled=none)(hit:IsRv s.heap a t (-1))(hQ:∀h',Heap.ExtBut a s.heap h'→Q none { s with heap:=h' }):wpAny (model P w) A (pyNext (.ref a)) Q E s:=by
 obtain⟨o,ho,hc,hd⟩:=id hit
 unfold pyNext
 refine wpAny_bind (wpAny_attempt (wpAny_callSpecial?_slot (name:=Str.ofString "__next__") hit.typeIs rv_snext (wpAny_call_entry rv_snext hit.typeIs L4 ?_ (L5 _))))
 unfold Builtin.«reversed.__next__»
 refine wpAny_bind (wpAny_of_eq (a:=(Value.ref a,[])) rfl (wpAny_bind (wpAny_field ho hd (x:=.ref t) rfl (wpAny_bind (wpAny_field ho hd (x:=rawInt (-1)) rfl ?_)))))
 show wpAny _ _ (if (-1:Int)<0 then _ else _) _ _ s
 rw[if_pos (by decide)]
 refine wpAny_bind (wpAny_rule ?_)
 k_delta "reversedEnd"
 refine wpAny_bind (wpAny_bind (wpAny_setField ho hd (by simp) ?_))
 have h1:=Heap.get?_update_self (Obj.mapFields (·.setIfInBounds 1 (rawInt (-1)))) ho (Obj.isFreed_of_fields (Obj.data_mapFields hd _))
 refine wpAny_setField h1 (Obj.data_mapFields hd _) (by simp) ?_
 refine wpAny_bind ?_
 show wpAny _ _ (newExc (.type "StopIteration") [] >>= _) _ _ _
 refine wpAny_bind ?_
 simp only[newExc,newTuple]
 refine wpAny_bind (wpAny_newObj_type (wpAny_bind (m:=firstArgMember _ _) (wpAny_of_eq (a:=Value.none) (by first|rfl|(simp only[firstArgMember];rfl)) (wpAny_newObj_type ?_ (by size_fits)))) (by size_fits))
 simp only[raiseNew]
 refine wpAny_bind (wpAny_handled ?_)
 first|rw[show A.in1.handled=none from hh]|rw[hh]
 refine wpAny_bind (wpAny_pure (wpAny_throw ?_))
 refine wpAny_bind (wpAny_isInstance (T:="StopIteration") (b:=true) ⟨_,Heap.get?_push_size _ rfl,rfl⟩ isSubtype_stop ?_)
 have e0:Heap.ExtBut a s.heap ((s.heap.update a (Obj.mapFields (·.setIfInBounds 1 (rawInt (-1))))).update a (Obj.mapFields (·.setIfInBounds 0 Value.none))):=fun b o hb e=>(Heap.SameBut.update ..).extBut b o hb ((Heap.SameBut.update ..).extBut b o hb e)
 exact wpAny_pure (hQ _ ((e0.push _).push _))
end
def Itv(K:PySem.W.Frag)(a:Addr)(n:Nat):It:=
 ⟨fun i H=>i<n∧∃xs,SqT K H a xs∧xs.length=n,fun i H x H'=>H'=H∧∀xs,SqT K H a xs→xs[n-1-i]? = some x,fun i H=>n≤i⟩
theorem Tm{P:Program}{w:World}{K:W.Frag}{tg:Expr}(a it:Addr)(n:Nat):Turn P w K tg (Itv K a n) [it] it (fun i h=>i≤n∧IsRv h it a ((n:Int)-1-i)) where
 mem:=by simp
 obj:=fun i h st b hb=>by
  have e:b=it:=by simpa using hb
  subst e
  obtain⟨_,o,e,c,d⟩:=st
  exact⟨o,e,fun v z=>by rw[d] at z;cases z⟩
 keep:=fun i h h' st k=>⟨st.1,st.2.at fun o e=>k it (by simp) o e⟩
 item:=by
  intro X hP hw hK hc i pins s σ H E I hf st hg
  subst hP hw hK
  obtain⟨hi,xs,hq,hl⟩:=hg
  obtain⟨its,rv,p,hz⟩:=I.tuple hq
  have hx:xs[n-1-i]? = some (xs[n-1-i]'(by omega)):=List.getElem?_eq_getElem (by omega)
  obtain⟨u,hu,ru⟩:=rv.get hx
  obtain⟨f0,f1,f2,f3,f4,f5⟩:=hf it (by simp)
  have st':IsRv s.heap it a ((n-1-i:Nat):Int):=by
   have:=st.2
   rwa [show(n:Int)-1-i=((n-1-i:Nat):Int) by omega] at this
  have hz2:((its.toArray.size:Nat):Int)<2 ^ 63:=by
   have:=rv.length
   rw[sizeLine_eq] at hz
   simp only[List.size_toArray];omega
  refine V4 st' (show s.heap.IsTuple a its.toArray from p) hz2 (x:=u) (by simpa using hu) fun h' tk st2 sb=>?_
  have I1:Inv X pins σ H { s with heap:=h',toks:=tk }:=I.turned (t':=tk) (fun b o hb e=>(sb.2 b hb).trans e) f0 f1 f3 f4 f5
  have st3:IsRv h' it a ((n:Int)-1-((i+1:Nat):Int)):=by
   rwa [show((n-1-i:Nat):Int)-1=(n:Int)-1-((i+1:Nat):Int) by omega] at st2
  obtain⟨o,e,c,d⟩:=id st2
  exact⟨u,rfl,Ov (s:={ s with heap:=h',toks:=tk }) e c d (by decide) ⟨_,H,I1,ru,⟨rfl,fun ys hy=>by rw[I.tuple_inj hy hq];exact hx⟩,⟨hi,st3⟩,fun b hb=>(hf b hb).1⟩⟩
 done:=by
  intro X hP hw hK hc i pins s σ H E I hf st hg
  subst hP hw hK
  have hg:n≤i:=hg
  have e:i=n:=Nat.le_antisymm st.1 hg
  subst e
  obtain⟨f0,f1,f2,f3,f4,f5⟩:=hf it (by simp)
  have st':IsRv s.heap it a (-1):=by
   have:=st.2
   rwa [show(i:Int)-1-i = -1 by omega] at this
  exact Yn (I.ok.hd hc) st' fun h' eb=>⟨rfl,I.turned (t':=s.toks) (fun b o hb e=>eb b o hb e) f0 f1 f3 f4 f5⟩
 self:=fun _ _ _ _ _ st h=>O2 st.2 h
theorem Vg:bootBuiltins "reversed" = some (.type "reversed"):=by decide +kernel
section
variable{X:Cx}{tg e:Expr}
def iRev(K:PySem.W.Frag)(tA:TA):TI:=fun σ H R=>tA σ H fun vs H1=>∃a xs,vs=[.ref a]∧SqT K H1 a xs∧R (Itv K a xs.length) H1
theorem Y4{tA:TA}{p pos:Pos}(hg:Gl X "reversed")(hm:X.mg "reversed" = none)(ha:PA X [e] tA)(hs:starEach [e] X.env=[(false,eval e X.env)]:=by rfl):PI X tg (.Call (.Name "reversed" p) [e] [] pos) (iRev X.K tA):=by
 intro pins s σ H R I h
 refine Call_ (Ek I hg hm Vg (PyProof.Rows.callWith_type1 (thn (ha pos pins s σ H _ I h) fun us s1 ⟨vs,H1,I1,r1,q1⟩=>?_) hs rfl))
 obtain⟨a,xs,e,hq,q⟩:=q1
 subst e
 cases r1 with
 |cons r rr=>
  cases rr
  cases r
  obtain⟨its,rv,p,hz⟩:=I1.tuple hq
  have hl:=rv.length
  have hz2:((its.toArray.size:Nat):Int)<2 ^ 63:=by
   rw[sizeLine_eq] at hz
   simp only[List.size_toArray];omega
  refine V6 (show s1.heap.IsTuple a its.toArray from p) hz2 fun tk=>?_
  have hr:IsRv (s1.heap.push (rvO a ((its.toArray.size:Int)-1))) s1.heap.objs.size a ((xs.length:Int)-1-((0:Nat):Int)):=⟨_,Heap.get?_push_size _ rfl,rfl,by
   show Data.fields #[_,rawInt _]=_
   rw[show((its.toArray.size:Nat):Int)-1=(xs.length:Int)-1-((0:Nat):Int) by simp[hl]]⟩
  refine O2 (s:={ s1 with heap:=s1.heap.push (rvO a ((its.toArray.size:Int)-1)),toks:=tk }) hr ?_
  refine⟨s1.heap.objs.size,[s1.heap.objs.size],_,_,H1,rfl,I1.kept (t':=tk) fun b o e=>Heap.get?_push_of_some _ e,Tm a _ xs.length,⟨Nat.zero_le _,hr⟩,fun b hb=>?_,q⟩
  have e:b=s1.heap.objs.size:=by simpa using hb
  subst e
  exact I1.fpOk (Nat.le_refl _) (I1.hok.fresh (Nat.le_refl _))
end
section
variable{X:Cx}{a:Expr}{body:List Stmt}{pos:Pos}
def Xw(tA:DTA)(g:DTG)(tb:DTS):DTS:=fun D σ G=>tA σ G fun ds G1=>∃xs,ds=[.tup xs]∧Lh xs.reverse (fun _=>True) g tb D σ G1
theorem qs_forV{tg:Expr}{g:DTG}{tb:DTS}{tA:DTA}{p p2:Pos}(hp:PassesOwn (model X.prog X.w) X.A X.env X.xe)(hc:X.calm=true)(hm:X.mg "reversed" = none)(ha:QA X [a] tA)(hg:QG X tg g)(hb:QSs X body tb)(hgl:Gl X "reversed":=by rfl)(hst:starEach [a] X.env=[(false,eval a X.env)]:=by rfl)(hs:∀x,foldedSetIterable (.Call (.Name "reversed" p) [a] [] p2) X.env x=pure x:=by intro _;rfl) :
  QS X (.For tg (.Call (.Name "reversed" p) [a] [] p2) body [] pos) (Xw tA g tb):=(Kb hp hc (Y4 hgl hm ha hst) hg hb hs).imp fun E σ H ⟨σD,G,D,rs,rg,h,cl⟩=>by
 refine⟨σD,G,_,rs,rg,h,fun ds G1 ⟨xs,ej,L⟩ H1 x1 rg1 vs dv=>?_⟩
 subst ej
 obtain⟨v,rfl,r⟩:=dv.one
 cases r with
 |@tup _ a vs e r=>
  have hl:xs.length=vs.length:=r.length
  refine⟨a,vs,rfl,.inl (.inl e),Fy (J:=Itv X.K a vs.length) (rs.ext x1) rg1 (cl.go x1) (fun H' G' x' rg' _=>?_) L⟩
  have e':=x'.tup _ _ e
  have r':=DVs.ext x' r
  refine⟨fun i hi=>⟨by simp at hi;omega,vs,.inl (.inl e'),rfl⟩,fun i x H2 hi y=>?_,by show vs.length≤_;simp[hl]⟩
  rw[List.length_reverse] at hi
  obtain⟨e1,e2⟩:=y
  have:=e2 vs (.inl (.inl e'))
  obtain⟨d,hd,dx⟩:=r'.get' this
  refine⟨e1,d,?_,dx⟩
  rw[List.getElem?_reverse (by omega),hl]
  exact hd
end
open PySem.W (kdl_call kdl_dict)
section
variable{P:Program}{w:World}{A:Around}{E:Value→Shared→Prop}{s:Shared}
theorem To{l:Addr}{vs:List Value}{ns:List Int}{Q:Value→Shared→Prop}(hh:A.handled=none)(hl:s.heap.IsList l vs.toArray)(hi:IntsAre vs ns)(h:∀(h':Heap) (t tk:Tok),(∀b o,s.heap.get? b=some o→h'.get? b=some o)→Q (.int ns.sum t) { s with heap:=h',toks:=tk }):wpAny (model P w) A (call (.builtin "sum") [.ref l]) Q E s:=by
 obtain⟨xs,e⟩:=hi.allInts.items
 have hns:ns=xs.toList.map (·.1):=by rw[←hi.numsOf,←nums_intItems,←e]
 rw[e] at hl
 refine sum_intListG hh hl fun h' tk t' hk=>?_
 have:=h h' t' tk hk
 rw[preSum_eq,List.take_of_length_le (by simp),←hns]
 exact this
theorem Sw(ns:List Int):∀j,j≤ns.length→preSum (fun i=>ns.getD i 0) j=(ns.take j).sum
 |0,_=>by simp[preSum]
 |j+1,h=>by
  have hj:j<ns.length:=by omega
  have e:ns.take (j+1)=ns.take j++[ns[j]]:=by rw[List.take_add_one,List.getElem?_eq_getElem hj];rfl
  have e2:ns.getD j 0=ns[j]:=by simp[List.getD,List.getElem?_eq_getElem hj]
  rw[preSum,Sw ns j (by omega),e,List.sum_append,e2]
  simp
end
theorem Sy{α β:Type}{F:α→β→Prop}:∀{l:List α} {m:List β},l.length=m.length→(∀(i:Nat) a b,l[i]? = some a→m[i]? = some b→F a b)→Paired F l m
 |[],[],_,_=>.nil
 |[],_::_,h,_=>by cases h
 |_::_,[],h,_=>by cases h
 |_::_,_::_,h,k=>.cons (k 0 _ _ rfl rfl) (Sy (by simpa using h) fun i a b h1 h2=>k (i+1) a b h1 h2)
theorem Se{κ:Type}:∀{kvs:List (κ×V)} {vs:List (κ×Value)} (i:Nat) {q:κ×Value},KV kvs vs→vs[i]? = some q→∃p,kvs[i]? = some p∧p.1=q.1∧RelV p.2 q.2
 |_,_,0,_,.cons h _,e=>by cases e;exact⟨_,rfl,h⟩
 |_,_,i+1,_,.cons _ t,e=>Se i t e
 |_,_,0,_,.nil,e=>by cases e
 |_,_,_+1,_,.nil,e=>by cases e
section
variable{X:Cx}{o e:Expr}{to:DTE}{apos cpos pos p:Pos}
theorem Re(hc:X.calm=true):CallR X (.builtin "sum") (fun xs H Q=>∃(l:Addr) (ns:List Int),xs=[.ref l]∧SqL X.K H l (ns.map V.int)∧Q (.int ns.sum) H):=by
 intro pins s σ H xs us Q I r h
 obtain⟨l,ns,rfl,hl,q⟩:=h
 obtain⟨u,rfl,rx⟩:=Cs r
 cases rx
 obtain⟨its,rv,pl,_⟩:=I.list hl
 exact To (I.ok.hd hc) pl.isList (D3.Fz rv) fun h' t tk k=>⟨.int _,H,I.kept k,⟨t,rfl⟩,q⟩
theorem c_sumL(hc:X.calm=true):QC X (.builtin "sum") (fun ds G Q=>∃d,ds=[d]∧∃p,d=.ref p∧∃ns:List Int,G p=some (.lst (ns.map D.int))∧Q (.int ns.sum) G):=(Re hc).imp fun xs H Q ⟨ds,G,Q',dv,rg,⟨d,e,p,ep,ns,eg,q⟩,cl⟩=>by
 subst e ep
 obtain⟨v,rfl,h⟩:=dv.one
 cases h
 obtain⟨ys,eh,r⟩:=rg p _ eg
 rw[Fe r] at eh
 exact⟨p,ns,rfl,.inl (.inl eh),cl _ _ q _ (Ext.refl H) rg _ (.int _)⟩
theorem Rc(hc:X.calm=true):CallR X (.builtin "sum") (fun xs H Q=>∃(v a:Addr) (kvs:List (Key×V)) (ns:List Int),xs=[.ref v]∧H v=some (.frz (R6 a) topO)∧H a=some (.dK kvs)∧kvs.map (·.2)=ns.map V.int∧Q (.int ns.sum) H):=by
 intro pins s σ H xs us Q I r h
 obtain⟨v,a,kvs,ns,rfl,hv,ha,hn,q⟩:=h
 obtain⟨u,rfl,rx⟩:=Cs r
 cases rx
 obtain⟨_,hd,vs,rel,dd⟩:=Lq I.hok ha
 obtain⟨ep,hat⟩:=dd.dictAt
 have hvv:s.heap.IsValuesView v a:=⟨_,(I.hok v _ hv).1,rfl,rfl⟩
 have hh:=I.ok.hd hc
 have hlen:vs.length=ns.length:=by
  have h1:kvs.length=vs.length:=Paired.length rel
  have h2:=congrArg List.length hn
  simp only[List.length_map] at h2
  omega
 refine call_sum_walkG (wpAny_pyIter_values hvv hat ⟨_,_,_,_,_,_,fun i=>ns.getD i 0,rfl,Walks.dictValues (A:=X.A.in1) hh _ a (Nat.ne_of_lt hat.lt_size) vs ep,⟨⟨_,Heap.get?_push_size _ rfl,rfl,rfl⟩,hat.push _⟩,fun b hb=>?_,fun i z ⟨k,hz⟩=>?_,fun h' tk t' hk=>?_⟩)
 ·show b<(s.heap.push _).objs.size
  rw[Heap.size_push]
  simp only[List.mem_cons,List.not_mem_nil,or_false] at hb
  rcases hb with rfl|rfl
  ·exact Nat.lt_succ_self _
  ·exact Nat.lt_succ_of_lt hat.lt_size
 ·obtain⟨p,e1,e2,e3⟩:=Se i rel hz
  have e4:(kvs.map (·.2))[i]? = some p.2:=by rw[List.getElem?_map,e1];rfl
  rw[hn,List.getElem?_map] at e4
  obtain⟨n,e5,e6⟩:=Option.map_eq_some_iff.mp e4
  rw[←e6] at e3
  obtain⟨t,e7⟩:=e3
  exact⟨t,by have e8:z=Value.int n t:=e7;rw[e8];simp[List.getD,e5]⟩
 ·rw[hlen,Sw ns _ (Nat.le_refl _),List.take_length]
  exact⟨.int _,H,I.kept (t':=tk) fun b o e=>hk b o (by simp;exact Nat.ne_of_lt (Heap.lt_size e)) (Heap.get?_push_of_some _ e),⟨t',rfl⟩,q⟩
def Xt(to:DTE):DTE:=fun σ G Q=>to σ G fun x G1=>∃p,x=.ref p∧∃kvs,G1 p=some (.dkk kvs)∧∃ns:List Int,kvs.map (·.2)=ns.map D.int∧Q (.int ns.sum) G1
theorem Mn{K:W.Frag}{H:Hp}:∀{kvs:List (Key×D)} {ks:List (Key×V)} {ns:List Int},Paired (fun(p:Key×D) (q:Key×V)=>p.1=q.1∧DV K H p.2 q.2) kvs ks→kvs.map (·.2)=ns.map D.int→ks.map (·.2)=ns.map V.int
 |[],_,ns,.nil,e=>by
  cases ns with
  |nil=>rfl
  |cons n r=>cases e
 |(k,d)::r,_,ns,.cons (b:=q) h t,e=>by
  cases ns with
  |nil=>cases e
  |cons n ns=>
   simp only[List.map_cons,List.cons.injEq] at e ⊢
   have h2:=h.2
   rw[e.1] at h2
   cases q with
   |mk k' v=>
    dsimp only at h2 ⊢
    cases h2
    exact⟨rfl,Mn t e.2⟩
theorem Yq(hc:X.calm=true)(hm:X.mg "sum" = none)(ho:QE X o to)(hg:Gl X "sum":=by rfl)(hbase:attributeBase o "values" X.env (eval o X.env)=eval o X.env:=by rfl)(hline:(apos.endLine == cpos.line)=true:=by rfl)(he:starEach [.Call (.Attribute o "values" apos) [] [] cpos] X.env=(false,eval (.Call (.Attribute o "values" apos) [] [] cpos) X.env)::starEach [] X.env:=by rfl)(hpl:(backTo pos (starEach [] X.env)).any (·.1)=false:=by rfl) :
  QE X (.Call (.Name "sum" p) [.Call (.Attribute o "values" apos) [] [] cpos] [] pos) (Xt to):=
 (Hm (Rc hc) hg hm (by decide +kernel) (Da (Qn ho hbase hline) pa_nil he) (by decide) (by decide) he hpl).imp fun σ H Q ⟨σD,G,Q',rs,rg,h,cl⟩=>by
 refine⟨σD,G,_,rs,rg,h,fun d G1 ⟨p,ep,kvs,eg,ns,en,q⟩ H1 x1 rg1 v dv=>?_⟩
 subst ep;cases dv
 obtain⟨ks,ek,r⟩:=rg1 p _ eg
 refine⟨p,ks,rfl,ek,fun v hv=>⟨v,p,ks,ns,rfl,Ah,by rw[Af (Ap ek hv)];exact ek,Mn r en,cl _ _ q _ (x1.trans (Ext.fresh hv)) (rg1.tup hv) _ (.int _)⟩⟩
theorem Mo{K:W.Frag}{H:Hp}:∀{kvs:List (Key×D)} {ks:List (Key×V)},Paired (fun(p:Key×D) (q:Key×V)=>p.1=q.1∧DV K H p.2 q.2) kvs ks→∀{H':Hp},DVs K H' (kvs.map fun p=>kD p.1) (ks.map fun p=>kV p.1)
 |_,_,.nil,_=>.nil
 |(k,d)::_,(k',v)::_,.cons h t,_=>by
  have e:k=k':=h.1
  subst e
  refine .cons ?_ (Mo t)
  cases k with
  |inl i=>exact .int i
  |inr x=>exact .str x
theorem Oe(hc:X.calm=true):CallR X (.type "list") (fun xs H Q=>∃(a:Addr) (kvs:List (Key×V)),xs=[.ref a]∧H a=some (.dK kvs)∧∀l,H l=none→Q (.ref l) (upd H l (.lst (kvs.map fun p=>kV p.1)))):=by
 intro pins s σ H xs us Q I r h
 obtain⟨a,kvs,rfl,ha,q⟩:=h
 obtain⟨u,rfl,rx⟩:=Cs r
 cases rx
 obtain⟨hz,hd,vs,rel,dd⟩:=Lq I.hok ha
 obtain⟨ep,hat⟩:=dd.dictAt
 have hl:kvs.length=vs.length:=Paired.length rel
 refine kdl_call (kdl_dict (knd:=A5 X.prog X.w) (kvs:=vs) (ep:=ep) hd) (I.ok.hd hc) hat (by omega) fun h' tk acc c hk hS hI=>?_
 have rv:Vals (kvs.map fun p=>kV p.1) acc.toList:=by
  refine Sy (by have:=hI.1;simp only[List.length_map,Array.length_toList];omega) fun i x y e1 e2=>?_
  obtain⟨k,z,h1,h2⟩:=hI.2 i y (by rw[←Array.getElem?_toList];exact e2)
  obtain⟨p,h3,h4,_⟩:=Se i rel h1
  rw[List.getElem?_map,h3] at e1
  cases e1
  dsimp only at h4 ⊢
  rw[h4]
  rcases A4 h2 with ⟨j,t,rfl,rfl⟩|⟨j,t,rfl,rfl⟩
  ·exact⟨t,rfl⟩
  ·exact⟨t,rfl⟩
 refine⟨.ref s.heap.objs.size,_,I.laid (t':=tk) hk (Nat.le_refl _) (show ObjOk X.prog X.w _ h' _ (.lst (kvs.map fun p=>kV p.1)) from⟨by rw[List.length_map];exact hz,acc.toList,c,rv,by simpa using hS⟩),rfl,q _ (I.hok.fresh (Nat.le_refl _))⟩
theorem Xi(hc:X.calm=true):QC X (.type "list") (fun ds G Q=>∃d,ds=[d]∧∃p,d=.ref p∧∃kvs,G p=some (.dkk kvs)∧∀l,G l=none→Q (.ref l) (Ab G l (.lst (kvs.map fun q=>kD q.1)))):=(Oe hc).imp fun xs H Q ⟨ds,G,Q',dv,rg,⟨d,e,p,ep,kvs,eg,q⟩,cl⟩=>by
 subst e ep
 obtain⟨v,rfl,h⟩:=dv.one
 cases h
 obtain⟨ks,ek,r⟩:=rg p _ eg
 exact⟨p,ks,rfl,ek,fun l hl=>cl _ _ (q l (rg.free hl)) _ (Ext.fresh hl) (rg.new hl ⟨_,Ah,Mo r⟩) _ (.ref l)⟩
theorem Pj{K:W.Frag}{H:Hp}:∀{ds:List D} {vs:List V},DVs K H ds vs→DVs K H ds.reverse vs.reverse
 |_,_,.nil=>.nil
 |_,_,.cons h t=>by rw[List.reverse_cons,List.reverse_cons];exact(Pj t).append (.cons h .nil)
def Xu(to:DTE):DTE:=fun σ G Q=>to σ G fun x G1=>∃p,x=.ref p∧∃ds,G1 p=some (.lst ds)∧Q .non (Ab G1 p (.lst ds.reverse))
theorem Yr(ho:QE X o to)(hbase:attributeBase o "reverse" X.env (eval o X.env)=eval o X.env:=by rfl)(hline:(apos.endLine == cpos.line)=true:=by rfl):QE X (.Call (.Attribute o "reverse" apos) [] [] cpos) (Xu to):=
 (Zg PySem.F.plainAttrs_list PySem.F.slot_list_reverse PySem.F.type_list_reverse N4 ho hbase hline).imp fun σ H Q ⟨σD,G,Q',rs,rg,h,cl⟩=>by
 refine⟨σD,G,_,rs,rg,h,fun d G1 ⟨p,ep,ds,eg,q⟩ H1 x1 rg1 v dv=>?_⟩
 subst ep;cases dv
 obtain⟨xs,ex,r⟩:=rg1 p _ eg
 refine⟨.inl ⟨rfl,xs,.inl (.inl ex)⟩,p,xs,rfl,rfl,ex,cl _ _ q _ (x1.trans (Dd ex)) (rg1.lstw ex (Pj r)) _ .non⟩
end
end D3
set_option maxRecDepth 100000
set_option maxHeartbeats 4000000
namespace K2
open PySem L2 D3
def top(i:Nat):Stmt:=PySem.Challenge.pw_laidmarks_k31_channels_and_ways_known.main.body.getD i (.Pass ⟨0,0,0,0⟩)
abbrev Mr:List Str:=["len", "range", "abs", "divmod", "max", "min", "tuple", "int", "bool", "list", "isinstance", "all", "sorted", "repr", "dict", "zip", "set", "sum", "reversed", "ValueError"]
theorem exPow{p:Int→Int→Prop}{i j:Int}:(∃a b,D.int i=D.int a∧D.int j=D.int b∧p a b)↔p i j:=⟨fun⟨_,_,e1,e2,h⟩=>by cases e1;cases e2;exact h,fun h=>⟨i,j,rfl,rfl,h⟩⟩
theorem D6{α:Type}{xs:List α}{i:Int}(h0:0≤i)(h1:i<xs.length):∃x,atI xs i=some x∧x∈xs:=by
 obtain⟨k,rfl⟩:=Int.eq_ofNat_of_zero_le h0
 have hk:k<xs.length:=by omega
 exact⟨xs[k],Gx (List.getElem?_eq_getElem hk),List.getElem_mem hk⟩
section
variable{P:Program}{w:World}{K:W.Frag}{mg:Str→Option Value}{base:Heap}
structure Blt(mg:Str→Option Value):Prop where
 blt:∀{x:Str},x∈Mr→mg x=none
abbrev s_L_cell:Stmt:=top 54
abbrev Vp:List Str:=["_law_script", "_law_k"]
abbrev p_L_cell:List Str:=["_law_script", "_law_k"]
theorem Qd:FnScope Vp p_L_cell (Ac s_L_cell):=⟨rfl,rfl,rfl,by decide +kernel,rfl,by decide +kernel,by decide +kernel⟩
def spCell:DSp:=fun ds G Q _=>∃ns k,ds=[.lint ns,.int k]∧0≤k∧∀n,Q (.int n) G
theorem Wz{f:Addr}{fd:FuncData}(F:Fun K "_law_cell" "_law_cell" s_L_cell f fd)(T:Blt mg):FnOk P w K mg base CX0 1 f fd p_L_cell (Ai K spCell):=by
 refine okD F Qd (fun ds G Q E h=>?_) (fun cdv A outer s H XE ds G Q E hr h=>?_)
 ·obtain⟨a,c,rfl,_⟩:=h;rfl
 ·obtain⟨ns,k,rfl,k0,q⟩:=h
  refine⟨_,(@qss_cons _ _ _ _ _ (@qs_if _ _ _ _ _ _ _ _ (@qt_cmp _ _ _ _ _ _ _ _ (@o_lt _) (@q_v1 _ _ 1 _ (by exact⟨rfl,rfl,rfl,rfl⟩)) (@q_callB _ _ _ _ _ _ _ _ _ (@c_len _) (T.blt (by decide)) (by decide +kernel) (@qa_consP _ _ _ _ _ (@q_v1 _ _ 0 _ (by exact⟨rfl,rfl,rfl,rfl⟩)) (@qa_nil _) (by rfl)) (by rfl) (by decide) (by decide) (by rfl) (by rfl)) (nomark _)) (@qss_one _ _ _ (@qs_ret _ _ _ _ (@q_ix _ _ _ _ _ _ (@q_v1 _ _ 0 _ (by exact⟨rfl,rfl,rfl,rfl⟩)) (@q_v1 _ _ 1 _ (by exact⟨rfl,rfl,rfl,rfl⟩)) (by intro _ _ ;rfl)))) (@qss_nil _)) (@qss_one _ _ _ (@qs_ret _ _ _ _ (@q_int _ _ _ _)))),?_⟩
  obtain⟨k,rfl⟩:=Int.eq_ofNat_of_zero_le k0
  simp only[Bh,C5,Bj,nOp,Ao,Aj,List.map_cons,List.map_nil,List.length_cons,List.length_nil,Nat.zero_add,Nat.reduceAdd,Nat.reduceSub,List.replicate,List.cons_append,List.nil_append,List.getElem?_cons_succ,List.getElem?_cons_zero,Option.some.injEq,nCB,Ag,Aq,List.cons.injEq,and_true,dI0,D.int.injEq,D.bl.injEq,Bi,dIx,exists_eq_left',Q3,Bs,nC,decide_eq_true_eq,Md]
  by_cases h:k<ns.length
  ·refine it0 (by omega) ?_
   have e:ns[k]? = some ns[k]:=by simp[h]
   exact⟨_,Kg (by rw[List.getElem?_map,e];rfl),Fq.of (q _)⟩
  ·refine it1 (by omega) ?_
   exact Fq.of (q _)
abbrev s_L_mix:Stmt:=top 55
abbrev Xn:List Str:=["_law_cell_here", "_law_k", "_law_some", "_law_stir"]
abbrev Dy:List Str:=["_law_cell_here", "_law_k"]
theorem sc_L_mix:FnScope Xn Dy (Ac s_L_mix):=⟨rfl,rfl,rfl,by decide +kernel,rfl,by decide +kernel,by decide +kernel⟩
def Lk:DSp:=fun ds G Q _=>∃c k,ds=[.int c,.int k]∧0≤k∧k<100000∧∀n,Q (.int n) G
theorem Zr{f:Addr}{fd:FuncData}(F:Fun K "_law_mix" "_law_mix" s_L_mix f fd)(T:Blt mg):FnOk P w K mg base CX0 1 f fd Dy (Ai K Lk):=by
 refine okD F sc_L_mix (fun ds G Q E h=>?_) (fun cdv A outer s H XE ds G Q E hr h=>?_)
 ·obtain⟨a,c,rfl,_⟩:=h;rfl
 ·obtain⟨c,k,rfl,k0,k1,q⟩:=h
  refine⟨_,(@qss_cons _ _ _ _ _ (@qs_set _ _ _ _ 2 _ _ sc_L_mix.nd (@q_lst _ _ _ _ (@qa_consP _ _ _ _ _ (@q_int _ _ _ _) (@qa_consP _ _ _ _ _ (@q_int _ _ _ _) (@qa_consP _ _ _ _ _ (@q_int _ _ _ _) (@qa_consP _ _ _ _ _ (@q_int _ _ _ _) (@qa_consP _ _ _ _ _ (@q_int _ _ _ _) (@qa_consP _ _ _ _ _ (@q_int _ _ _ _) (@qa_consP _ _ _ _ _ (@q_int _ _ _ _) (@qa_consP _ _ _ _ _ (@q_int _ _ _ _) (@qa_consP _ _ _ _ _ (@q_int _ _ _ _) (@qa_consP _ _ _ _ _ (@q_int _ _ _ _) (@qa_consP _ _ _ _ _ (@q_int _ _ _ _) (@qa_consP _ _ _ _ _ (@q_int _ _ _ _) (@qa_consP _ _ _ _ _ (@q_int _ _ _ _) (@qa_nil _) (by rfl)) (by rfl)) (by rfl)) (by rfl)) (by rfl)) (by rfl)) (by rfl)) (by rfl)) (by rfl)) (by rfl)) (by rfl)) (by rfl)) (by rfl))) (by rfl) (by exact .inl rfl) (by rfl) (by exact .inl rfl)) (@qss_cons _ _ _ _ _ (@qs_set _ _ _ _ 3 _ _ sc_L_mix.nd (@q_op _ _ _ _ _ _ _ _ (@Hc _) (@q_op _ _ _ _ _ _ _ _ (@o_addD _) (@q_op _ _ _ _ _ _ _ _ (@Ll _) (@q_v1 _ _ 0 _ (by exact⟨rfl,rfl,rfl,rfl⟩)) (@q_int _ _ _ _)) (@q_int _ _ _ _)) (@q_ix _ _ _ _ _ _ (@q_v1 _ _ 2 _ (by exact⟨rfl,rfl,rfl,rfl⟩)) (@q_op _ _ _ _ _ _ _ _ (@Ll _) (@q_v1 _ _ 1 _ (by exact⟨rfl,rfl,rfl,rfl⟩)) (@q_int _ _ _ _)) (by intro _ _ ;rfl))) (by rfl) (by exact .inl rfl) (by rfl) (by exact .inl rfl)) (@qss_cons _ _ _ _ _ (@qs_set _ _ _ _ 3 _ _ sc_L_mix.nd (@q_op _ _ _ _ _ _ _ _ (@o_addD _) (@q_op _ _ _ _ _ _ _ _ (@o_addD _) (@q_v1 _ _ 3 _ (by exact⟨rfl,rfl,rfl,rfl⟩)) (@q_op _ _ _ _ _ _ _ _ (@Hc _) (@q_int _ _ _ _) (@q_v1 _ _ 1 _ (by exact⟨rfl,rfl,rfl,rfl⟩)))) (@q_op _ _ _ _ _ _ _ _ (@Hc _) (@q_int _ _ _ _) (@q_op _ _ _ _ _ _ _ _ (@Nr _) (@q_v1 _ _ 1 _ (by exact⟨rfl,rfl,rfl,rfl⟩)) (@q_int _ _ _ _)))) (by rfl) (by exact .inl rfl) (by rfl) (by exact .inl rfl)) (@qss_cons _ _ _ _ _ (@qs_set _ _ _ _ 3 _ _ sc_L_mix.nd (@q_op _ _ _ _ _ _ _ _ (@Ll _) (@q_v1 _ _ 3 _ (by exact⟨rfl,rfl,rfl,rfl⟩)) (@q_int _ _ _ _)) (by rfl) (by exact .inl rfl) (by rfl) (by exact .inl rfl)) (@qss_one _ _ _ (@qs_ret _ _ _ _ (@q_op _ _ _ _ _ _ _ _ (@Nr _) (@q_op _ _ _ _ _ _ _ _ (@Ll _) (@q_op _ _ _ _ _ _ _ _ (@o_addD _) (@q_op _ _ _ _ _ _ _ _ (@Hc _) (@q_v1 _ _ 3 _ (by exact⟨rfl,rfl,rfl,rfl⟩)) (@q_v1 _ _ 3 _ (by exact⟨rfl,rfl,rfl,rfl⟩))) (@q_op _ _ _ _ _ _ _ _ (@Hc _) (@q_int _ _ _ _) (@q_v1 _ _ 1 _ (by exact⟨rfl,rfl,rfl,rfl⟩)))) (@q_int _ _ _ _)) (@q_int _ _ _ _)))))))),?_⟩
  have sz:13≤sizeLine:=szl (by decide)
  simp only[Bh,B9,Dj,Ag,nC,Aq,List.length_cons,List.length_nil,Nat.zero_add,Nat.reduceAdd,sz,A0,nOp,Ao,Aj,List.map_cons,List.map_nil,Nat.reduceSub,List.replicate,List.cons_append,List.nil_append,List.set_cons_succ,List.set_cons_zero,List.getElem?_cons_zero,Option.some.injEq,dI,D.int.injEq,List.getElem?_cons_succ,dIx,CMul,Int.reducePow,Int.reduceNeg,Nf,Bi,and_assoc,exists_eq_left',Int.reduceLT,true_and,Dp,and_self,true_or]
  intro p hp
  have h0:0≤k % 13:=Int.emod_nonneg _ (by decide)
  have h1:k % 13<13:=Int.emod_lt_of_pos _ (by decide)
  have p1:∀x:Int,0≤x % 2147483647∧x % 2147483647<2147483647:=fun x=>⟨Int.emod_nonneg _ (by decide),Int.emod_lt_of_pos _ (by decide)⟩
  have p2:∀x:Int,0≤x % 1000000007∧x % 1000000007<1000000007:=fun x=>⟨Int.emod_nonneg _ (by decide),Int.emod_lt_of_pos _ (by decide)⟩
  obtain⟨d,hd,hm⟩:=D6 (xs:=[D.int 48271,.int 69621,.int 16807,.int 39373,.int 30269,.int 40014,.int 40692,.int 50021,.int 61687,.int 71993,.int 83869,.int 95561,.int 30307]) h0 h1
  obtain⟨m,rfl⟩:∃m,d=.int m:=by
   simp only[List.mem_cons,List.not_mem_nil,or_false] at hm
   rcases hm with rfl|rfl|rfl|rfl|rfl|rfl|rfl|rfl|rfl|rfl|rfl|rfl|rfl<;>exact⟨_,rfl⟩
  have a1:=p1 c
  simp only[A7 Aa,hd,Option.some.injEq,Int.reduceNeg,exists_eq_left',D.int.injEq]
  refine⟨.inl ⟨by omega,by omega⟩,.inl ⟨?_,?_⟩,G,Sub.new hp,q _⟩
  ·exact Int.lt_of_lt_of_le (by decide) (p2 _).1
  ·exact Int.lt_trans (p2 _).2 (by decide)
abbrev s_L_box:Stmt:=top 56
abbrev Xo:List Str:=["_law_script", "_law_k", "_law_lap", "_law_cell_here", "_law_number", "_law_j"]
abbrev p_L_box:List Str:=["_law_script", "_law_k", "_law_lap"]
theorem sc_L_box:FnScope Xo p_L_box (Ac s_L_box):=⟨rfl,rfl,rfl,by decide +kernel,rfl,by decide +kernel,by decide +kernel⟩
def spBox:DSp:=fun ds G Q _=>∃ns k lap,ds=[.lint ns,.int k,.int lap]∧(0≤k∧k<100∧0≤lap∧lap<10)∧∀p,G p=none→∀n,Q (.ref p) (Ab G p (.lst [.int n]))
theorem Zt{f:Addr}{fd:FuncData}(F:Fun K "_law_box" "_law_box" s_L_box f fd)(T:Blt mg)(Ada:Def P w K mg base CX0 1 "_law_cell" p_L_cell spCell)(Adb:Def P w K mg base CX0 1 "_law_mix" Dy Lk):FnOk P w K mg base CX0 2 f fd p_L_box (Ai K spBox):=by
 refine okD F sc_L_box (fun ds G Q E h=>?_) (fun cdv A outer s H XE ds G Q E hr h=>?_)
 ·obtain⟨a,c,l,rfl,_⟩:=h;rfl
 ·obtain⟨ns,k,lap,rfl,⟨k0,k1,l0,l1⟩,q⟩:=h
  refine⟨_,(@qss_cons _ _ _ _ _ (@qs_set _ _ _ _ 3 _ _ sc_L_box.nd (@q_call _ _ _ _ _ _ _ _ noX _ _ _ Ada (hr.mono (by decide)) (@passN _ _) (@qa_consP _ _ _ _ _ (@q_v1 _ _ 0 _ (by exact⟨rfl,rfl,rfl,rfl⟩)) (@qa_consP _ _ _ _ _ (@q_v1 _ _ 1 _ (by exact⟨rfl,rfl,rfl,rfl⟩)) (@qa_nil _) (by rfl)) (by rfl)) (by rfl) (by decide) (by rfl) (by rfl)) (by rfl) (by exact .inl rfl) (by rfl) (by exact .inl rfl)) (@qss_cons _ _ _ _ _ (@qs_if _ _ _ _ _ _ _ _ (@qt_of _ _ _ (@qw_and _ _ _ _ _ _ _ (@qt_cmp _ _ _ _ _ _ _ _ (@o_eq _) (@q_op _ _ _ _ _ _ _ _ (@Ll _) (@q_v1 _ _ 3 _ (by exact⟨rfl,rfl,rfl,rfl⟩)) (@q_int _ _ _ _)) (@q_int _ _ _ _) (nomark _)) (@qw_and1 _ _ _ _ (@qt_cmp _ _ _ _ _ _ _ _ (@o_eq _) (@q_v1 _ _ 2 _ (by exact⟨rfl,rfl,rfl,rfl⟩)) (@q_int _ _ _ _) (nomark _))))) (@qss_one _ _ _ (@qs_ret _ _ _ _ (@q_lst _ _ _ _ (@qa_consP _ _ _ _ _ (@q_op _ _ _ _ _ _ _ _ (@Nr _) (@q_callB _ _ _ _ _ _ _ _ _ (@Ls _) (T.blt (by decide)) (by decide +kernel) (@qa_consP _ _ _ _ _ (@q_v1 _ _ 3 _ (by exact⟨rfl,rfl,rfl,rfl⟩)) (@qa_nil _) (by rfl)) (by rfl) (by decide) (by decide) (by rfl) (by rfl)) (@q_int _ _ _ _)) (@qa_nil _) (by rfl))))) (@qss_nil _)) (@qss_cons _ _ _ _ _ (@qs_set _ _ _ _ 4 _ _ sc_L_box.nd (@q_int _ _ _ _) (by rfl) (by exact .inl rfl) (by rfl) (by exact .inl rfl)) (@qss_cons _ _ _ _ _ (@Go _ _ _ _ _ _ _ _ _ _ PassesOwn.never rfl (T.blt (by decide)) (@qa_consP _ _ _ _ _ (@q_int _ _ _ _) (@qa_nil _) (by rfl)) (@qg_name _ _ 5 _ sc_L_box.nd (by rfl) (by exact .inl rfl) (by exact .inl rfl)) (@qss_one _ _ _ (@qs_set _ _ _ _ 4 _ _ sc_L_box.nd (@q_op _ _ _ _ _ _ _ _ (@o_addD _) (@q_op _ _ _ _ _ _ _ _ (@Hc _) (@q_v1 _ _ 4 _ (by exact⟨rfl,rfl,rfl,rfl⟩)) (@q_int _ _ _ _)) (@q_call _ _ _ _ _ _ _ _ noX _ _ _ Adb (hr.mono (by decide)) (@passN _ _) (@qa_consP _ _ _ _ _ (@q_v1 _ _ 3 _ (by exact⟨rfl,rfl,rfl,rfl⟩)) (@qa_consP _ _ _ _ _ (@q_op _ _ _ _ _ _ _ _ (@o_addD _) (@q_op _ _ _ _ _ _ _ _ (@Hc _) (@q_int _ _ _ _) (@q_v1 _ _ 2 _ (by exact⟨rfl,rfl,rfl,rfl⟩))) (@q_v1 _ _ 5 _ (by exact⟨rfl,rfl,rfl,rfl⟩))) (@qa_nil _) (by rfl)) (by rfl)) (by rfl) (by decide) (by rfl) (by rfl))) (by rfl) (by exact .inl rfl) (by rfl) (by exact .inl rfl))) (by rfl) (by rfl) (by intro _ ;rfl)) (@qss_one _ _ _ (@qs_ret _ _ _ _ (@q_lst _ _ _ _ (@qa_consP _ _ _ _ _ (@q_v1 _ _ 4 _ (by exact⟨rfl,rfl,rfl,rfl⟩)) (@qa_nil _) (by rfl))))))))),?_⟩
  have sz:1≤sizeLine:=szl (by decide)
  simp only[Bh,B9,Ax,Ag,Ao,Aj,List.map_cons,List.map_nil,List.length_cons,List.length_nil,Nat.zero_add,Nat.reduceAdd,Nat.reduceSub,List.replicate,List.cons_append,List.nil_append,List.getElem?_cons_zero,Option.some.injEq,List.getElem?_cons_succ,Aq,spCell,List.cons.injEq,and_true,A0,C5,Rx,Bj,nOp,List.set_cons_succ,List.set_cons_zero,nC,dI,D.int.injEq,dEq,eqS,D.bl.injEq,Bi,Dj,nCB,Nf,sz,true_and,and_assoc,exists_eq_left',Int.reduceLT,Bs,Ln,Int.reducePow,Int.reduceNeg,Int.reduceLE,Int.reduceToNat,decide_eq_true_eq,reduceCtorEq,if_false,exists_and_left,k0]
  refine⟨ns,rfl,fun n=>?_⟩
  by_cases h2:n % 2=0
  ·refine it0 h2 ?_
   by_cases hl:lap=0
   ·refine it0 hl ?_;exact fun p hp=>Fq.of (q p hp _)
   ·refine it1 hl ?_
    refine Ck (fun i σ G'=>∃v v',σ=[some (.lint ns),some (.int k),some (.int lap),some (.int n),some (.int v),v']∧G=G') ⟨0,none,rfl,rfl⟩ ?_ ?_
    ·rintro i σ G' hi ⟨v,v',rfl,rfl⟩
     simp only[A0,B9,nOp,Ao,List.set_cons_succ,List.set_cons_zero,List.getElem?_cons_succ,List.getElem?_cons_zero,Option.some.injEq,nC,dI,D.int.injEq,CMul,Int.reducePow,Int.reduceNeg,Ax,Ag,Aq,Lk,List.cons.injEq,and_true,Dp,and_assoc,exists_and_left,exists_eq_left',Int.reduceLT,and_self,true_or,true_and,or_true]
     refine⟨by omega,by omega,fun m=>Fs.of ⟨_,_,rfl,rfl⟩⟩
    ·rintro σ G' ⟨v,v',rfl,rfl⟩
     simp only[Bi,Dj,Ag,Ao,List.getElem?_cons_succ,List.getElem?_cons_zero,Option.some.injEq,Aq,List.length_cons,List.length_nil,Nat.zero_add,sz,true_and,exists_eq_left']
     exact fun p hp=>Fq.of (q p hp _)
  ·refine it1 h2 ?_
   refine Ck (fun i σ G'=>∃v v',σ=[some (.lint ns),some (.int k),some (.int lap),some (.int n),some (.int v),v']∧G=G') ⟨0,none,rfl,rfl⟩ ?_ ?_
   ·rintro i σ G' hi ⟨v,v',rfl,rfl⟩
    simp only[A0,B9,nOp,Ao,List.set_cons_succ,List.set_cons_zero,List.getElem?_cons_succ,List.getElem?_cons_zero,Option.some.injEq,nC,dI,D.int.injEq,CMul,Int.reducePow,Int.reduceNeg,Ax,Ag,Aq,Lk,List.cons.injEq,and_true,Dp,and_assoc,exists_and_left,exists_eq_left',Int.reduceLT,and_self,true_or,true_and,or_true]
    refine⟨by omega,by omega,fun m=>Fs.of ⟨_,_,rfl,rfl⟩⟩
   ·rintro σ G' ⟨v,v',rfl,rfl⟩
    simp only[Bi,Dj,Ag,Ao,List.getElem?_cons_succ,List.getElem?_cons_zero,Option.some.injEq,Aq,List.length_cons,List.length_nil,Nat.zero_add,sz,true_and,exists_eq_left']
    exact fun p hp=>Fq.of (q p hp _)
abbrev s_L_take:Stmt:=top 57
abbrev Vm:List Str:=["_law_box_here", "_law_count", "_law_left", "_law_digit"]
abbrev p_L_take:List Str:=["_law_box_here", "_law_count"]
theorem sc_L_take:FnScope Vm p_L_take (Ac s_L_take):=⟨rfl,rfl,rfl,by decide +kernel,rfl,by decide +kernel,by decide +kernel⟩
def spTake:DSp:=fun ds G Q _=>∃a c,ds=[.ref a,.int c]∧(∃b,G a=some (.lst [.int b]))∧(0<c∧c<1073741824)∧∀r b',0≤r→r<c→Q (.int r) (Ab G a (.lst [.int b']))
theorem Wq{f:Addr}{fd:FuncData}(F:Fun K "_law_take" "_law_take" s_L_take f fd)(T:Blt mg):FnOk P w K mg base CX0 1 f fd p_L_take (Ai K spTake):=by
 refine okD F sc_L_take (fun ds G Q E h=>?_) (fun cdv A outer s H XE ds G Q E hr h=>?_)
 ·obtain⟨a,c,rfl,_⟩:=h;rfl
 ·obtain⟨a,c,rfl,⟨b,hG⟩,⟨c0,c1⟩,q⟩:=h
  refine⟨_,(@qss_cons _ _ _ _ _ (@qs_asg _ _ _ _ _ _ (@q_callB _ _ _ _ _ _ _ _ _ (@Vb _) (T.blt (by decide)) (by decide +kernel) (@qa_consP _ _ _ _ _ (@q_ix _ _ _ _ _ _ (@q_v1 _ _ 0 _ (by exact⟨rfl,rfl,rfl,rfl⟩)) (@q_int _ _ _ _) (by intro _ _ ;rfl)) (@qa_consP _ _ _ _ _ (@q_v1 _ _ 1 _ (by exact⟨rfl,rfl,rfl,rfl⟩)) (@qa_nil _) (by rfl)) (by rfl)) (by rfl) (by decide) (by decide) (by rfl) (by rfl)) (@qg_tup _ _ _ _ _ 2 rfl (@qgs_cons _ _ _ _ _ (@qg_name _ _ 2 _ sc_L_take.nd (by rfl) (by exact .inl rfl) (by exact .inl rfl)) (@qgs_cons _ _ _ _ _ (@qg_name _ _ 3 _ sc_L_take.nd (by rfl) (by exact .inl rfl) (by exact .inl rfl)) (@qgs_nil _) (by rfl)) (by rfl)) (by rfl) (by rfl)) (by rfl) (by rfl) (by rfl)) (@qss_cons _ _ _ _ _ (@qs_asg _ _ _ _ _ _ (@q_v1 _ _ 2 _ (by exact⟨rfl,rfl,rfl,rfl⟩)) (@qg_sub _ _ _ _ _ _ _ (@q_v1 _ _ 0 _ (by exact⟨rfl,rfl,rfl,rfl⟩)) (@q_int _ _ _ _) (@s_list _) (by intro _ ;rfl)) (by rfl) (by rfl) (by rfl)) (@qss_one _ _ _ (@qs_ret _ _ _ _ (@q_v1 _ _ 3 _ (by exact⟨rfl,rfl,rfl,rfl⟩)))))),?_⟩
  simp only[Bh,B9,nCB,Ag,nOp,Ao,Aj,List.map_cons,List.map_nil,List.length_cons,List.length_nil,Nat.zero_add,Nat.reduceAdd,Nat.reduceSub,List.replicate,List.cons_append,List.nil_append,List.getElem?_cons_zero,Option.some.injEq,nC,dIx,D.int.injEq,List.getElem?_cons_succ,Aq,List.cons.injEq,and_true,Nf,Nc,D.tup.injEq,Hd,A0,Nd,List.set_cons_succ,List.set_cons_zero,Ry,Lr,Bi,exists_eq_left',D.ref.injEq,hG,GO.lst.injEq,ix0,and_assoc,exists_and_left,true_and,c0,c1,A7 hG,atI0]
  exact Fq.of (q _ _ (Int.emod_nonneg _ (by omega)) (Int.emod_lt_of_pos _ c0))
def As(lo hi:Int):D→Bool
 |.int i=>decide (lo≤i)&&decide (i≤hi)
 |_=>false
abbrev s_L_is:Stmt:=top 58
abbrev Aai:List Str:=["_law_thing", "_law_low", "_law_high"]
abbrev Ei:List Str:=["_law_thing", "_law_low", "_law_high"]
theorem V1:FnScope Aai Ei (Ac s_L_is):=⟨rfl,rfl,rfl,by decide +kernel,rfl,by decide +kernel,by decide +kernel⟩
def Pu:DSp:=fun ds G Q _=>∃d lo hi,ds=[d,.int lo,.int hi]∧Kn G d∧Q (.bl (As lo hi d)) G
theorem ok_is{f:Addr}{fd:FuncData}(F:Fun K "_law_is" "_law_is" s_L_is f fd)(T:Blt mg):FnOk P w K mg base CX0 1 f fd Ei (Ai K Pu):=by
 refine okD F V1 (fun ds G Q E h=>?_) (fun cdv A outer s H XE ds G Q E hr h=>?_)
 ·obtain⟨d,lo,hi,rfl,_⟩:=h;rfl
 ·obtain⟨d,lo,hi,rfl,⟨t,ht⟩,k⟩:=h
  refine⟨_,(@qss_one _ _ _ (@qs_ret _ _ _ _ (@q_and _ _ _ _ _ _ _ (@q_callB _ _ _ _ _ _ _ _ _ (@c_isinst _) (T.blt (by decide)) (by decide +kernel) (@qa_consP _ _ _ _ _ (@q_v1 _ _ 0 _ (by exact⟨rfl,rfl,rfl,rfl⟩)) (@qa_consP _ _ _ _ _ (@q_globty _ _ _ "int" (T.blt (by decide)) (by decide +kernel) (by rfl) (by decide) (by decide)) (@qa_nil _) (by rfl)) (by rfl)) (by rfl) (by decide) (by decide) (by rfl) (by rfl)) (@q_and _ _ _ _ _ _ _ (@q_not _ _ _ _ (@q_callB _ _ _ _ _ _ _ _ _ (@c_isinst _) (T.blt (by decide)) (by decide +kernel) (@qa_consP _ _ _ _ _ (@q_v1 _ _ 0 _ (by exact⟨rfl,rfl,rfl,rfl⟩)) (@qa_consP _ _ _ _ _ (@q_globty _ _ _ "bool" (T.blt (by decide)) (by decide +kernel) (by rfl) (by decide) (by decide)) (@qa_nil _) (by rfl)) (by rfl)) (by rfl) (by decide) (by decide) (by rfl) (by rfl))) (@q_one _ _ _ _ _ (@O4 _ _ _ _ _ _ _ _ _ _ _ _ (@o_le _) (@o_le _) (@q_v1 _ _ 1 _ (by exact⟨rfl,rfl,rfl,rfl⟩)) (@q_v1 _ _ 0 _ (by exact⟨rfl,rfl,rfl,rfl⟩)) (@q_v1 _ _ 2 _ (by exact⟨rfl,rfl,rfl,rfl⟩)) (by with_unfolding_all rfl))))))),?_⟩
  simp only[Bi,Os,nCB,Ag,Ao,Aj,List.map_cons,List.map_nil,List.length_cons,List.length_nil,Nat.zero_add,Nat.reduceAdd,Nat.reduceSub,List.replicate,List.cons_append,List.nil_append,List.getElem?_cons_zero,Option.some.injEq,nC,Aq,List.cons.injEq,D.ty.injEq,and_true,D.bl.injEq,Sb,Ej,List.getElem?_cons_succ,dI0,exists_eq_left',D.int.injEq,decide_eq_true_eq,and_assoc,exists_and_left,Pn,true_and,ht,Kf]
  have other:(pyIs t "int" = false∨pyIs t "bool" = true)→Q (.bl false) G→if pyIs t "int" = true then if (!pyIs t "bool")=true then ∃j,d=D.int j∧if lo≤j then ∃i,d=D.int i∧Fq Q (D.bl (decide (i≤hi))) G else Fq Q (D.bl false) G else Fq Q (D.bl false) G else Fq Q (D.bl false) G:=fun h q=>by
   rcases h with h|h
   ·rw[h,if_neg Bool.false_ne_true];exact Fq.of q
   ·rw[h];split
    ·refine it1 (by decide) ?_;exact Fq.of q
    ·exact Fq.of q
  cases d with
  |int i=>
   cases ht
   rw[if_pos (by decide),if_pos (by decide)]
   refine⟨i,rfl,?_⟩
   by_cases h:lo≤i
   ·refine it0 h ?_
    refine⟨i,rfl,Fq.of ?_⟩
    simpa[As,h] using k
   ·refine it1 h ?_
    refine Fq.of ?_
    simpa[As,h] using k
  |bl b=>cases ht;exact other (.inr (by decide)) k
  |non=>cases ht;exact other (.inl (by decide)) k
  |str x=>cases ht;exact other (.inl (by decide)) k
  |tup ds=>cases ht;exact other (.inl (by decide)) k
  |ty n=>cases ht
  |lint ns=>cases ht
  |ref a=>
   refine other (.inl ?_) k
   simp only[A8] at ht
   split at ht<;>first|(cases ht;decide)|cases ht
inductive Wle:List Nat→List Nat→Prop where
 |nil {vs:List Nat}:Wle [] vs
 |cons {a b:Nat} {us vs:List Nat} (h:a≤b) (t:Wle us vs):Wle (a::us) (b::vs)
theorem Wle.succ:∀ws:List Nat,Wle ws (ws.map (· + 1))
 |[]=>.nil
 |c::r=>.cons (Nat.le_succ c) (Wle.succ r)
theorem Wle.odd{ws:List Nat}(h:∀c∈ws,2≤c∧c≤100)(hl:3≤ws.length):Wle [2,2,2] (ws.map (· + 1)):=by
 match ws,hl with
 |x::y::z::r,_=>
  have h1:=h x (by simp)
  have h2:=h y (by simp)
  have h3:=h z (by simp)
  exact .cons (show 2≤x+1 by omega) (.cons (show 2≤y+1 by omega) (.cons (show 2≤z+1 by omega) .nil))
inductive Good (G:Gp):List Nat→D→Prop where
 |non {ws}:Good G ws .non
 |bl {ws} (b:Bool):Good G ws (.bl b)
 |int {ws} (i:Int) (h:i.natAbs≤10 ^ 19+10000):Good G ws (.int i)
 |str {ws} (x:Str) (h:x∈(["", "a", "upper", "lower", "0/1", "\n", "lift"]:List Str)):Good G ws (.str x)
 |tup {c ws} {ds:List D} (h:ds.length≤c) (r:∀d∈ds,Good G ws d):Good G (c::ws) (.tup ds)
 |lst {c ws} {a:Addr} {ds:List D} (e:G a=some (.lst ds)) (h:ds.length≤c) (r:∀d∈ds,Good G ws d):Good G (c::ws) (.ref a)
 |dct {ws} {a:Addr} (e:G a=some (.dkk [])):Good G ws (.ref a)
theorem Good.wide{G:Gp}{us vs:List Nat}{d:D}(hw:Wle us vs)(h:Good G us d):Good G vs d:=by
 induction h generalizing vs with
 |non=>exact .non
 |bl b=>exact .bl b
 |int i h=>exact .int i h
 |str x h=>exact .str x h
 |tup h _ ih=>
  cases hw with
  |cons h1 h2=>exact .tup (Nat.le_trans h h1) fun d hd=>ih d hd h2
 |lst e h _ ih=>
  cases hw with
  |cons h1 h2=>exact .lst e (Nat.le_trans h h1) fun d hd=>ih d hd h2
 |dct e=>exact .dct e
theorem Good.sub{G G':Gp}(s:Sub G G'){ws:List Nat}{d:D}(h:Good G ws d):Good G' ws d:=by
 induction h with
 |non=>exact .non
 |bl b=>exact .bl b
 |int i h=>exact .int i h
 |str x h=>exact .str x h
 |tup h _ ih=>exact .tup h ih
 |lst e h _ ih=>exact .lst (s _ _ e) h ih
 |dct e=>exact .dct (s _ _ e)
theorem Good.kn{G:Gp}{ws:List Nat}{d:D}(h:Good G ws d):Kn G d:=by
 cases h with
 |non=>exact⟨_,rfl⟩
 |bl b=>exact⟨_,rfl⟩
 |int i h=>exact⟨_,rfl⟩
 |str x h=>exact⟨_,rfl⟩
 |tup h _=>exact⟨_,rfl⟩
 |lst e _ _=>exact⟨"list",by simp only[A8,e]⟩
 |dct e=>exact⟨"dict",by simp only[A8,e]⟩
def hid(G:Gp)(a:Addr):Gp:=fun b=>if b=a then none else G b
theorem Pf{G:Gp}{a:Addr}:Sub (hid G a) G:=fun b o h=>by
 unfold hid at h
 split at h
 ·cases h
 ·exact h
theorem W9{G:Gp}{a:Addr}{o:GO}:hid (Ab G a o) a=hid G a:=by
 funext b;unfold hid Ab
 by_cases e:b=a<;>simp[e]
theorem Gw{G:Gp}{a p:Addr}{o:GO}(h:a≠p):hid (Ab G p o) a=Ab (hid G a) p o:=by
 funext b;unfold hid Ab
 by_cases e:b=a
 ·subst e;simp[h]
 ·simp[e]
theorem Hs{G:Gp}{a p:Addr}(h:G p=none):hid G a p=none:=by
 unfold hid;split<;>first|rfl|exact h
structure Step(a:Addr)(G G':Gp):Prop where
 box:∃b,G' a=some (.lst [.int b])
 sub:Sub (hid G a) (hid G' a)
theorem Step.trans{a:Addr}{G G1 G2:Gp}(x:Step a G G1)(y:Step a G1 G2):Step a G G2:=⟨y.box,x.sub.trans y.sub⟩
theorem Step.refl{a:Addr}{G:Gp}(h:∃b,G a=some (.lst [.int b])):Step a G G:=⟨h,Sub.refl _⟩
theorem Step.take{a:Addr}{G G1:Gp}(x:Step a G G1)(b:Int):Step a G (Ab G1 a (.lst [.int b])):=⟨⟨b,Aa⟩,by rw[W9];exact x.sub⟩
theorem Step.ne{a p:Addr}{G:Gp}(x:∃b,G a=some (.lst [.int b]))(h:G p=none):a≠p:=fun e=>by subst e;obtain⟨b,hb⟩:=x;rw[h] at hb;cases hb
theorem Step.lay{a p:Addr}{G G1:Gp}{o:GO}(x:Step a G G1)(h:G1 p=none):Step a G (Ab G1 p o):=by
 have n:=Step.ne x.box h
 obtain⟨b,hb⟩:=x.box
 exact⟨⟨b,by rw[Am n];exact hb⟩,by rw[Gw n];exact x.sub.skip (Hs h)⟩
theorem Step.get{a p:Addr}{G G1:Gp}{o:GO}(x:Step a G G1)(n:a≠p)(h:G p=some o):G1 p=some o:=by
 have e:hid G a p=some o:=by unfold hid;rw[if_neg (Ne.symm n)];exact h
 exact Pf _ _ (x.sub p o e)
theorem Step.back{a b:Addr}{G G1:Gp}(x:Step a G G1)(h:G1 b=none):G b=none:=by
 have n:=Step.ne x.box h
 have e:=x.sub.none (Hs (a:=a) h)
 unfold hid at e
 rwa [if_neg (Ne.symm n)] at e
theorem Step.write{a p:Addr}{G G1:Gp}{o:GO}(x:Step a G G1)(h:G p=none)(n:a≠p):Step a G (Ab G1 p o):=by
 obtain⟨b,hb⟩:=x.box
 refine⟨⟨b,by rw[Am n];exact hb⟩,?_⟩
 rw[Gw n]
 intro c u e
 rw[Am (gne e (Hs h))];exact x.sub c u e
def nw(G G':Gp):Gp:=fun b=>if (G b).isNone=true then G' b else none
theorem Cr{G G':Gp}{b:Addr}{o:GO}(h:G b=none)(e:G' b=some o):nw G G' b=some o:=by unfold nw;rw[h];exact e
theorem Jd{G G':Gp}{b:Addr}{o:GO}(h:nw G G' b=some o):G b=none∧G' b=some o:=by
 unfold nw at h
 split at h
 ·rename_i e;exact⟨by simpa using e,h⟩
 ·cases h
theorem nw_sub{G G':Gp}:Sub (nw G G') G':=fun b o h=>(Jd h).2
theorem Cm{a:Addr}{G G1 G2:Gp}(hG:∃b,G a=some (.lst [.int b]))(x:Step a G1 G2):Sub (nw G G1) (nw G G2):=fun b o h=>by
 obtain⟨h1,h2⟩:=Jd h
 exact Cr h1 (x.get (Step.ne hG h1) h2)
theorem Kl{a:Addr}{G G1 G2:Gp}(x:Step a G G1):Sub (nw G1 G2) (nw G G2):=fun b o h=>by
 obtain⟨h1,h2⟩:=Jd h
 exact Cr (x.back h1) h2
theorem Ae{G:Gp}{p q:Addr}{o u:GO}(h:G p=some o)(hq:G q=none):Ab G q u p=some o:=by rw[Am (gne h hq)];exact h
abbrev s_L_odd:Stmt:=top 59
abbrev Xm:List Str:=["_law_box_here", "_law_some"]
abbrev Db:List Str:=["_law_box_here"]
theorem sc_L_odd:FnScope Xm Db (Ac s_L_odd):=⟨rfl,rfl,rfl,by decide +kernel,rfl,by decide +kernel,by decide +kernel⟩
def Jc:DSp:=fun ds G Q _=>∃a,ds=[.ref a]∧(∃b,G a=some (.lst [.int b]))∧∀d G',Step a G G'→Good (nw G G') [2,2,2] d→Q d G'
abbrev oA(p0 p1 p2:Addr):List D:=[D.non,D.bl true,D.bl false,D.int 0,D.int 1,D.int (-1),D.int 9,D.int 16,D.int 10000000000000000000,D.str "",D.str "a",D.str "upper",D.str "0/1",D.tup [],D.ref p0,D.ref p1,D.tup [D.int 0],D.ref p2,D.tup [D.tup [D.int 0]]]
abbrev oB(p4 p5:Addr):List D:=[D.tup [D.tup [],D.int 0],D.ref p4,D.tup [D.tup [D.int 0,D.int 1],D.ref p5],D.tup [D.non,D.non],D.str "\n",D.tup [D.tup [D.int 9],D.tup [D.int 9]],D.tup [D.str "lift",D.int 1]]
theorem Zq{f:Addr}{fd:FuncData}(F:Fun K "_law_odd" "_law_odd" s_L_odd f fd)(T:Blt mg)(Ac0:Def P w K mg base CX0 1 "_law_take" p_L_take spTake):FnOk P w K mg base CX0 2 f fd Db (Ai K Jc):=by
 refine okD F sc_L_odd (fun ds G Q E h=>?_) (fun cdv A outer s H XE ds G Q E hr h=>?_)
 ·obtain⟨a,rfl,_⟩:=h;rfl
 ·obtain⟨a,rfl,hG,q⟩:=h
  refine⟨_,(@qss_cons _ _ _ _ _ (@qs_set _ _ _ _ 1 _ _ sc_L_odd.nd (@q_lst _ _ _ _ (@qa_consP _ _ _ _ _ (@q_non _ _ _) (@qa_consP _ _ _ _ _ (@q_bl _ _ _ _) (@qa_consP _ _ _ _ _ (@q_bl _ _ _ _) (@qa_consP _ _ _ _ _ (@q_int _ _ _ _) (@qa_consP _ _ _ _ _ (@q_int _ _ _ _) (@qa_consP _ _ _ _ _ (@q_neg _ _ _ _ (@q_int _ _ _ _)) (@qa_consP _ _ _ _ _ (@q_int _ _ _ _) (@qa_consP _ _ _ _ _ (@q_int _ _ _ _) (@qa_consP _ _ _ _ _ (@q_op _ _ _ _ _ _ _ _ (@o_pow _) (@q_int _ _ _ _) (@q_int _ _ _ _)) (@qa_consP _ _ _ _ _ (@q_str _ _ _ _) (@qa_consP _ _ _ _ _ (@q_str _ _ _ _) (@qa_consP _ _ _ _ _ (@q_str _ _ _ _) (@qa_consP _ _ _ _ _ (@q_str _ _ _ _) (@qa_consP _ _ _ _ _ (@q_tup _ _ _ _ _ (@qa_nil _)) (@qa_consP _ _ _ _ _ (@q_lst _ _ _ _ (@qa_nil _)) (@qa_consP _ _ _ _ _ (@Yv _ _) (@qa_consP _ _ _ _ _ (@q_tup _ _ _ _ _ (@qa_consP _ _ _ _ _ (@q_int _ _ _ _) (@qa_nil _) (by rfl))) (@qa_consP _ _ _ _ _ (@q_lst _ _ _ _ (@qa_consP _ _ _ _ _ (@q_int _ _ _ _) (@qa_nil _) (by rfl))) (@qa_consP _ _ _ _ _ (@q_tup _ _ _ _ _ (@qa_consP _ _ _ _ _ (@q_tup _ _ _ _ _ (@qa_consP _ _ _ _ _ (@q_int _ _ _ _) (@qa_nil _) (by rfl))) (@qa_nil _) (by rfl))) (@qa_nil _) (by rfl)) (by rfl)) (by rfl)) (by rfl)) (by rfl)) (by rfl)) (by rfl)) (by rfl)) (by rfl)) (by rfl)) (by rfl)) (by rfl)) (by rfl)) (by rfl)) (by rfl)) (by rfl)) (by rfl)) (by rfl)) (by rfl))) (by rfl) (by exact .inl rfl) (by rfl) (by exact .inl rfl)) (@qss_cons _ _ _ _ _ (@qs_set _ _ _ _ 1 _ _ sc_L_odd.nd (@q_op _ _ _ _ _ _ _ _ (@o_addD _) (@q_v1 _ _ 1 _ (by exact⟨rfl,rfl,rfl,rfl⟩)) (@q_lst _ _ _ _ (@qa_consP _ _ _ _ _ (@q_tup _ _ _ _ _ (@qa_consP _ _ _ _ _ (@q_tup _ _ _ _ _ (@qa_nil _)) (@qa_consP _ _ _ _ _ (@q_int _ _ _ _) (@qa_nil _) (by rfl)) (by rfl))) (@qa_consP _ _ _ _ _ (@q_lst _ _ _ _ (@qa_consP _ _ _ _ _ (@q_tup _ _ _ _ _ (@qa_nil _)) (@qa_nil _) (by rfl))) (@qa_consP _ _ _ _ _ (@q_tup _ _ _ _ _ (@qa_consP _ _ _ _ _ (@q_tup _ _ _ _ _ (@qa_consP _ _ _ _ _ (@q_int _ _ _ _) (@qa_consP _ _ _ _ _ (@q_int _ _ _ _) (@qa_nil _) (by rfl)) (by rfl))) (@qa_consP _ _ _ _ _ (@q_lst _ _ _ _ (@qa_consP _ _ _ _ _ (@q_int _ _ _ _) (@qa_nil _) (by rfl))) (@qa_nil _) (by rfl)) (by rfl))) (@qa_consP _ _ _ _ _ (@q_tup _ _ _ _ _ (@qa_consP _ _ _ _ _ (@q_non _ _ _) (@qa_consP _ _ _ _ _ (@q_non _ _ _) (@qa_nil _) (by rfl)) (by rfl))) (@qa_consP _ _ _ _ _ (@q_str _ _ _ _) (@qa_consP _ _ _ _ _ (@q_tup _ _ _ _ _ (@qa_consP _ _ _ _ _ (@q_tup _ _ _ _ _ (@qa_consP _ _ _ _ _ (@q_int _ _ _ _) (@qa_nil _) (by rfl))) (@qa_consP _ _ _ _ _ (@q_tup _ _ _ _ _ (@qa_consP _ _ _ _ _ (@q_int _ _ _ _) (@qa_nil _) (by rfl))) (@qa_nil _) (by rfl)) (by rfl))) (@qa_consP _ _ _ _ _ (@q_tup _ _ _ _ _ (@qa_consP _ _ _ _ _ (@q_str _ _ _ _) (@qa_consP _ _ _ _ _ (@q_int _ _ _ _) (@qa_nil _) (by rfl)) (by rfl))) (@qa_nil _) (by rfl)) (by rfl)) (by rfl)) (by rfl)) (by rfl)) (by rfl)) (by rfl)))) (by rfl) (by exact .inl rfl) (by rfl) (by exact .inl rfl)) (@qss_one _ _ _ (@qs_ret _ _ _ _ (@q_ix _ _ _ _ _ _ (@q_v1 _ _ 1 _ (by exact⟨rfl,rfl,rfl,rfl⟩)) (@q_call _ _ _ _ _ _ _ _ noX _ _ _ Ac0 (hr.mono (by decide)) (@passN _ _) (@qa_consP _ _ _ _ _ (@q_v1 _ _ 0 _ (by exact⟨rfl,rfl,rfl,rfl⟩)) (@qa_consP _ _ _ _ _ (@q_int _ _ _ _) (@qa_nil _) (by rfl)) (by rfl)) (by rfl) (by decide) (by rfl) (by rfl)) (by intro _ _ ;rfl)))))),?_⟩
  have sz:∀n,n≤30→n≤sizeLine:=fun n h=>szl (by omega)
  have sz0:=sz 0 (by decide)
  have sz1:=sz 1 (by decide)
  have sz2:=sz 2 (by decide)
  simp only[Bh,B9,Dj,Ag,nC,J4,D.int.injEq,nOp,R4,Gz,Aq,List.length_nil,sz0,Xx,List.length_cons,Nat.zero_add,sz1,Nat.reduceAdd,A0,Ao,Aj,List.map_cons,List.map_nil,Nat.reduceSub,List.replicate,List.cons_append,List.nil_append,List.set_cons_succ,List.set_cons_zero,List.getElem?_cons_succ,List.getElem?_cons_zero,Option.some.injEq,sz2,Bi,Ax,dIx,exists_eq_left',true_and,and_assoc,exists_and_left,Int.reduceLE,Int.reduceToNat,Int.reducePow,Int.reduceNeg]
  have s:=Step.refl hG
  refine⟨by decide,fun p0 h0=>?_⟩
  have s0:=s.lay (p:=p0) (o:=.lst []) h0
  have g0_0:Ab G p0 (.lst []) p0=some (.lst []):=Aa
  generalize Ab G p0 (.lst [])=G0 at *
  intro p1 h1
  have s1:=s0.lay (p:=p1) (o:=.dkk []) h1
  have g0_1:=Ae (u:=.dkk []) g0_0 h1
  have g1_1:Ab G0 p1 (.dkk []) p1=some (.dkk []):=Aa
  generalize Ab G0 p1 (.dkk [])=G1 at *
  intro p2 h2
  have s2:=s1.lay (p:=p2) (o:=.lst [.int 0]) h2
  have g0_2:=Ae (u:=.lst [.int 0]) g0_1 h2
  have g1_2:=Ae (u:=.lst [.int 0]) g1_1 h2
  have g2_2:Ab G1 p2 (.lst [.int 0]) p2=some (.lst [.int 0]):=Aa
  generalize Ab G1 p2 (.lst [.int 0])=G2 at *
  refine⟨sz 19 (by decide),fun p3 h3=>?_⟩
  have s3:=s2.lay (p:=p3) (o:=.lst (oA p0 p1 p2)) h3
  have g0_3:=Ae (u:=.lst (oA p0 p1 p2)) g0_2 h3
  have g1_3:=Ae (u:=.lst (oA p0 p1 p2)) g1_2 h3
  have g2_3:=Ae (u:=.lst (oA p0 p1 p2)) g2_2 h3
  have g3_3:Ab G2 p3 (.lst (oA p0 p1 p2)) p3=some (.lst (oA p0 p1 p2)):=Aa
  generalize Ab G2 p3 (.lst (oA p0 p1 p2))=G3 at *
  intro p4 h4
  have s4:=s3.lay (p:=p4) (o:=.lst [.tup []]) h4
  have g0_4:=Ae (u:=.lst [.tup []]) g0_3 h4
  have g1_4:=Ae (u:=.lst [.tup []]) g1_3 h4
  have g2_4:=Ae (u:=.lst [.tup []]) g2_3 h4
  have g3_4:=Ae (u:=.lst [.tup []]) g3_3 h4
  have g4_4:Ab G3 p4 (.lst [.tup []]) p4=some (.lst [.tup []]):=Aa
  generalize Ab G3 p4 (.lst [.tup []])=G4 at *
  intro p5 h5
  have s5:=s4.lay (p:=p5) (o:=.lst [.int 0]) h5
  have g0_5:=Ae (u:=.lst [.int 0]) g0_4 h5
  have g1_5:=Ae (u:=.lst [.int 0]) g1_4 h5
  have g2_5:=Ae (u:=.lst [.int 0]) g2_4 h5
  have g3_5:=Ae (u:=.lst [.int 0]) g3_4 h5
  have g4_5:=Ae (u:=.lst [.int 0]) g4_4 h5
  have g5_5:Ab G4 p5 (.lst [.int 0]) p5=some (.lst [.int 0]):=Aa
  generalize Ab G4 p5 (.lst [.int 0])=G5 at *
  refine⟨sz 7 (by decide),fun p6 h6=>?_⟩
  have s6:=s5.lay (p:=p6) (o:=.lst (oB p4 p5)) h6
  have g0_6:=Ae (u:=.lst (oB p4 p5)) g0_5 h6
  have g1_6:=Ae (u:=.lst (oB p4 p5)) g1_5 h6
  have g2_6:=Ae (u:=.lst (oB p4 p5)) g2_5 h6
  have g3_6:=Ae (u:=.lst (oB p4 p5)) g3_5 h6
  have g4_6:=Ae (u:=.lst (oB p4 p5)) g4_5 h6
  have g5_6:=Ae (u:=.lst (oB p4 p5)) g5_5 h6
  have g6_6:Ab G5 p6 (.lst (oB p4 p5)) p6=some (.lst (oB p4 p5)):=Aa
  generalize Ab G5 p6 (.lst (oB p4 p5))=G6 at *
  rw[C6 g3_6 g6_6]
  refine⟨sz 26 (by decide),fun p7 h7=>?_⟩
  have s7:=s6.lay (p:=p7) (o:=.lst ((oA p0 p1 p2)++(oB p4 p5))) h7
  have g0_7:=Ae (u:=.lst ((oA p0 p1 p2)++(oB p4 p5))) g0_6 h7
  have g1_7:=Ae (u:=.lst ((oA p0 p1 p2)++(oB p4 p5))) g1_6 h7
  have g2_7:=Ae (u:=.lst ((oA p0 p1 p2)++(oB p4 p5))) g2_6 h7
  have g3_7:=Ae (u:=.lst ((oA p0 p1 p2)++(oB p4 p5))) g3_6 h7
  have g4_7:=Ae (u:=.lst ((oA p0 p1 p2)++(oB p4 p5))) g4_6 h7
  have g5_7:=Ae (u:=.lst ((oA p0 p1 p2)++(oB p4 p5))) g5_6 h7
  have g6_7:=Ae (u:=.lst ((oA p0 p1 p2)++(oB p4 p5))) g6_6 h7
  have g7_7:Ab G6 p7 (.lst ((oA p0 p1 p2)++(oB p4 p5))) p7=some (.lst ((oA p0 p1 p2)++(oB p4 p5))):=Aa
  generalize Ab G6 p7 (.lst ((oA p0 p1 p2)++(oB p4 p5)))=G7 at *
  refine⟨a,26,rfl,s7.box,⟨by decide,by decide⟩,fun r b' r0 r1=>⟨r,rfl,?_⟩⟩
  have n7:a≠p7:=Step.ne s6.box h7
  obtain⟨d,hd,hm⟩:=D6 (xs:=[D.non,D.bl true,D.bl false,D.int 0,D.int 1,D.int (-1),D.int 9,D.int 16,D.int 10000000000000000000,D.str "",D.str "a",D.str "upper",D.str "0/1",D.tup [],D.ref p0,D.ref p1,D.tup [D.int 0],D.ref p2,D.tup [D.tup [D.int 0]]]++[D.tup [D.tup [],D.int 0],D.ref p4,D.tup [D.tup [D.int 0,D.int 1],D.ref p5],D.tup [D.non,D.non],D.str "\n",D.tup [D.tup [D.int 9],D.tup [D.int 9]],D.tup [D.str "lift",D.int 1]]) r0 r1
  refine⟨d,by rw[A7 (by rw[Am n7.symm];exact g7_7)];exact hd,Fq.of (q d _ (s7.take b') ?_)⟩
  have hh:∀{q:Addr} {o:GO},G q=none→G7 q=some o→nw G (Ab G7 a (.lst [.int b'])) q=some o:=fun {q o} n e=>Cr n (by rw[Am (Step.ne hG n).symm];exact e)
  generalize nw G (Ab G7 a (.lst [.int b']))=GN at *
  have gi:∀{ws:List Nat} (i:Int),i.natAbs≤10 ^ 19→Good GN ws (.int i):=fun i h=>.int i (by omega)
  have e0:=hh h0 g0_7
  have e1:=hh (s0.back h1) g1_7
  have e2:=hh (s1.back h2) g2_7
  have e4:=hh (s3.back h4) g4_7
  have e5:=hh (s4.back h5) g5_7
  have i0:∀{ws:List Nat},Good GN ws (.int 0):=gi 0 (by decide)
  have t0:∀{ws:List Nat},Good GN (2::ws) (.tup []):=.tup (by decide) (fun d h=>nomatch h)
  have t1:∀{ws:List Nat} {x:D},Good GN ws x→Good GN (2::ws) (.tup [x]):=fun {ws x} h=>.tup (by simp) (fun d hd=>by rw[List.mem_singleton.mp hd];exact h)
  have t2:∀{ws:List Nat} {x y:D},Good GN ws x→Good GN ws y→Good GN (2::ws) (.tup [x,y]):=fun {ws x y} h h'=>.tup (by simp) (fun d hd=>by
   rcases List.mem_cons.mp hd with e|e
   ·rw[e];exact h
   ·rw[List.mem_singleton.mp e];exact h')
  have l1:∀{ws:List Nat} {q:Addr} {x:D},GN q=some (.lst [x])→Good GN ws x→Good GN (2::ws) (.ref q):=fun e h=>.lst e (by simp) (fun d hd=>by rw[List.mem_singleton.mp hd];exact h)
  simp only[List.mem_append,List.mem_cons,List.not_mem_nil,or_false] at hm
  rcases hm with (rfl|rfl|rfl|rfl|rfl|rfl|rfl|rfl|rfl|rfl|rfl|rfl|rfl|rfl|rfl|rfl|rfl|rfl|rfl)|(rfl|rfl|rfl|rfl|rfl|rfl|rfl)
  ·exact .non
  ·exact .bl _
  ·exact .bl _
  ·exact i0
  ·exact gi _ (by decide)
  ·exact gi _ (by decide)
  ·exact gi _ (by decide)
  ·exact gi _ (by decide)
  ·exact gi _ (by decide)
  ·exact .str _ (by simp)
  ·exact .str _ (by simp)
  ·exact .str _ (by simp)
  ·exact .str _ (by simp)
  ·exact t0
  ·exact .lst e0 (by decide) (fun d h=>nomatch h)
  ·exact .dct e1
  ·exact t1 i0
  ·exact l1 e2 i0
  ·exact t1 (t1 i0)
  ·exact t2 t0 i0
  ·exact l1 e4 t0
  ·exact t2 (t2 i0 (gi _ (by decide))) (l1 e5 i0)
  ·exact t2 .non .non
  ·exact .str _ (by simp)
  ·exact t2 (t1 (gi _ (by decide))) (t1 (gi _ (by decide)))
  ·exact t2 (.str _ (by simp)) (gi _ (by decide))
theorem Bn{a:Addr}{G:Gp}{c:Int}{Q:DK}{E:DX}(hG:∃b,G a=some (.lst [.int b]))(c0:0<c)(c1:c<1073741824)(h:∀r b',0≤r→r<c→Q (.int r) (Ab G a (.lst [.int b']))):spTake [.ref a,.int c] G Q E:=⟨a,c,rfl,hG,⟨c0,c1⟩,h⟩
theorem Nq{a:Addr}{G G1:Gp}{Q:DK}{E:DX}(s:Step a G G1)(h:∀d G',Step a G G'→Good (nw G1 G') [2,2,2] d→Q d G'):Jc [.ref a] G1 Q E:=⟨a,rfl,s.box,fun d G' s' g=>h d G' (s.trans s') g⟩
inductive Pure:List Nat→D→Prop where
 |int {ws} (i:Int) (h:i.natAbs≤1000):Pure ws (.int i)
 |tup {c ws} {ds:List D} (h:ds.length≤c) (r:∀d∈ds,Pure ws d):Pure (c::ws) (.tup ds)
theorem Pure.good{G:Gp}{ws:List Nat}{d:D}(h:Pure ws d):Good G ws d:=by
 induction h with
 |int i h=>exact .int i (by omega)
 |tup h _ ih=>exact .tup h ih
theorem Dc{ds:List D}{lo hi:Option Int}{x:D}(h:x∈Av ds lo hi):x∈ds:=List.mem_of_mem_drop (List.mem_of_mem_take h)
theorem Aab{ds:List D}{i:Int}(h:0≤i):(Av ds none (some i)).length≤i.toNat:=by
 simp only[Av,HT.sIx,if_neg (show ¬i<0 by omega),List.length_take];omega
theorem Tb{ds:List D}{i:Int}(h:0≤i):(Av ds (some i) none).length≤ds.length-i.toNat:=by
 simp only[Av,HT.sIx,if_neg (show ¬i<0 by omega),List.length_take,List.length_drop];omega
def spBent(n:Nat):DSp:=fun ds G Q _=>∃a d k,ds=[.ref a,d,.int k]∧(∃b,G a=some (.lst [.int b]))∧(0≤k∧k<n)∧(∃ws:List Nat,(∀c∈ws,2≤c∧c≤100)∧k.toNat+3≤ws.length∧Pure ws d∧∀d' G',Step a G G'→Good (nw G G') (ws.map (· + 1)) d'→Q d' G')
abbrev s_L_bent:Stmt:=top 60
abbrev Vq:List Str:=["_law_box_here", "_law_thing", "_law_deep", "_law_spot", "_law_way", "_law_row"]
abbrev p_L_bent:List Str:=["_law_box_here", "_law_thing", "_law_deep"]
theorem sc_L_bent:FnScope Vq p_L_bent (Ac s_L_bent):=⟨rfl,rfl,rfl,by decide +kernel,rfl,by decide +kernel,by decide +kernel⟩
theorem Kk{f:Addr}{fd:FuncData}{n k:Nat}(hk:3≤k)(F:Fun K "_law_bent" "_law_bent" s_L_bent f fd)(T:Blt mg)(Ac0:Def P w K mg base CX0 1 "_law_take" p_L_take spTake)(Ac3:Def P w K mg base CX0 2 "_law_odd" Db Jc)(Ac8:Def P w K mg base CX0 k "_law_bent" p_L_bent (spBent n)):FnOk P w K mg base CX0 (k+1) f fd p_L_bent (Ai K (spBent (n+1))):=by
 refine okD F sc_L_bent (fun ds G Q E h=>?_) (fun cdv A outer s H XE ds G Q E hr h=>?_)
 ·obtain⟨a,d,c,rfl,_⟩:=h;rfl
 ·obtain⟨a,d,kk,rfl,hG,⟨k0,k1⟩,ws,okw,okl,pd,q⟩:=h
  refine⟨_,(@qss_cons _ _ _ _ _ (@qs_if _ _ _ _ _ _ _ _ (@qt_of _ _ _ (@qw_and _ _ _ _ _ _ _ (@qt_tru _ _ _ (@q_callB _ _ _ _ _ _ _ _ _ (@c_isinst _) (T.blt (by decide)) (by decide +kernel) (@qa_consP _ _ _ _ _ (@q_v1 _ _ 1 _ (by exact⟨rfl,rfl,rfl,rfl⟩)) (@qa_consP _ _ _ _ _ (@q_globty _ _ _ "int" (T.blt (by decide)) (by decide +kernel) (by rfl) (by decide) (by decide)) (@qa_nil _) (by rfl)) (by rfl)) (by rfl) (by decide) (by decide) (by rfl) (by rfl)) (by intro _ ;rfl)) (@qw_and1 _ _ _ _ (@qt_cmp _ _ _ _ _ _ _ _ (@o_gt _) (@q_call _ _ _ _ _ _ _ _ noX _ _ _ Ac0 (hr.mono (by omega)) (@passN _ _) (@qa_consP _ _ _ _ _ (@q_v1 _ _ 0 _ (by exact⟨rfl,rfl,rfl,rfl⟩)) (@qa_consP _ _ _ _ _ (@q_int _ _ _ _) (@qa_nil _) (by rfl)) (by rfl)) (by rfl) (by decide) (by rfl) (by rfl)) (@q_int _ _ _ _) (nomark _))))) (@qss_one _ _ _ (@qs_ret _ _ _ _ (@q_ix _ _ _ _ _ _ (@q_lst _ _ _ _ (@qa_consP _ _ _ _ _ (@q_op _ _ _ _ _ _ _ _ (@o_addD _) (@q_v1 _ _ 1 _ (by exact⟨rfl,rfl,rfl,rfl⟩)) (@q_int _ _ _ _)) (@qa_consP _ _ _ _ _ (@q_op _ _ _ _ _ _ _ _ (@o_sub _) (@q_v1 _ _ 1 _ (by exact⟨rfl,rfl,rfl,rfl⟩)) (@q_int _ _ _ _)) (@qa_consP _ _ _ _ _ (@q_op _ _ _ _ _ _ _ _ (@o_sub _) (@q_int _ _ _ _) (@q_v1 _ _ 1 _ (by exact⟨rfl,rfl,rfl,rfl⟩))) (@qa_consP _ _ _ _ _ (@q_op _ _ _ _ _ _ _ _ (@o_addD _) (@q_v1 _ _ 1 _ (by exact⟨rfl,rfl,rfl,rfl⟩)) (@q_int _ _ _ _)) (@qa_consP _ _ _ _ _ (@q_op _ _ _ _ _ _ _ _ (@o_addD _) (@q_v1 _ _ 1 _ (by exact⟨rfl,rfl,rfl,rfl⟩)) (@q_int _ _ _ _)) (@qa_consP _ _ _ _ _ (@q_op _ _ _ _ _ _ _ _ (@o_pow _) (@q_int _ _ _ _) (@q_int _ _ _ _)) (@qa_consP _ _ _ _ _ (@q_bl _ _ _ _) (@qa_nil _) (by rfl)) (by rfl)) (by rfl)) (by rfl)) (by rfl)) (by rfl)) (by rfl))) (@q_call _ _ _ _ _ _ _ _ noX _ _ _ Ac0 (hr.mono (by omega)) (@passN _ _) (@qa_consP _ _ _ _ _ (@q_v1 _ _ 0 _ (by exact⟨rfl,rfl,rfl,rfl⟩)) (@qa_consP _ _ _ _ _ (@q_int _ _ _ _) (@qa_nil _) (by rfl)) (by rfl)) (by rfl) (by decide) (by rfl) (by rfl)) (by intro _ _ ;rfl)))) (@qss_nil _)) (@qss_cons _ _ _ _ _ (@qs_if _ _ _ _ _ _ _ _ (@qt_of _ _ _ (@qw_or _ _ _ _ _ _ _ (@qt_not _ _ _ _ (@qt_tru _ _ _ (@q_callB _ _ _ _ _ _ _ _ _ (@c_isinstT _) (T.blt (by decide)) (by decide +kernel) (@qa_consP _ _ _ _ _ (@q_v1 _ _ 1 _ (by exact⟨rfl,rfl,rfl,rfl⟩)) (@qa_consP _ _ _ _ _ (@q_tup _ _ _ _ _ (@qa_consP _ _ _ _ _ (@q_globty _ _ _ "tuple" (T.blt (by decide)) (by decide +kernel) (by rfl) (by decide) (by decide)) (@qa_consP _ _ _ _ _ (@q_globty _ _ _ "list" (T.blt (by decide)) (by decide +kernel) (by rfl) (by decide) (by decide)) (@qa_nil _) (by rfl)) (by rfl))) (@qa_nil _) (by rfl)) (by rfl)) (by rfl) (by decide) (by decide) (by rfl) (by rfl)) (by intro _ ;rfl))) (@qw_or _ _ _ _ _ _ _ (@qt_cmp _ _ _ _ _ _ _ _ (@o_eq _) (@q_callB _ _ _ _ _ _ _ _ _ (@c_len _) (T.blt (by decide)) (by decide +kernel) (@qa_consP _ _ _ _ _ (@q_v1 _ _ 1 _ (by exact⟨rfl,rfl,rfl,rfl⟩)) (@qa_nil _) (by rfl)) (by rfl) (by decide) (by decide) (by rfl) (by rfl)) (@q_int _ _ _ _) (nomark _)) (@qw_or1 _ _ _ _ (@qt_cmp _ _ _ _ _ _ _ _ (@o_eq _) (@q_v1 _ _ 2 _ (by exact⟨rfl,rfl,rfl,rfl⟩)) (@q_int _ _ _ _) (nomark _)))))) (@qss_one _ _ _ (@qs_ret _ _ _ _ (@q_call _ _ _ _ _ _ _ _ noX _ _ _ Ac3 (hr.mono (by omega)) (@passN _ _) (@qa_consP _ _ _ _ _ (@q_v1 _ _ 0 _ (by exact⟨rfl,rfl,rfl,rfl⟩)) (@qa_nil _) (by rfl)) (by rfl) (by decide) (by rfl) (by rfl)))) (@qss_nil _)) (@qss_cons _ _ _ _ _ (@qs_par3 _ _ 3 4 5 _ _ _ _ _ _ _ _ _ _ _ _ _ _ rfl sc_L_bent.nd (@qa_consP _ _ _ _ _ (@q_call _ _ _ _ _ _ _ _ noX _ _ _ Ac0 (hr.mono (by omega)) (@passN _ _) (@qa_consP _ _ _ _ _ (@q_v1 _ _ 0 _ (by exact⟨rfl,rfl,rfl,rfl⟩)) (@qa_consP _ _ _ _ _ (@q_callB _ _ _ _ _ _ _ _ _ (@c_len _) (T.blt (by decide)) (by decide +kernel) (@qa_consP _ _ _ _ _ (@q_v1 _ _ 1 _ (by exact⟨rfl,rfl,rfl,rfl⟩)) (@qa_nil _) (by rfl)) (by rfl) (by decide) (by decide) (by rfl) (by rfl)) (@qa_nil _) (by rfl)) (by rfl)) (by rfl) (by decide) (by rfl) (by rfl)) (@qa_consP _ _ _ _ _ (@q_call _ _ _ _ _ _ _ _ noX _ _ _ Ac0 (hr.mono (by omega)) (@passN _ _) (@qa_consP _ _ _ _ _ (@q_v1 _ _ 0 _ (by exact⟨rfl,rfl,rfl,rfl⟩)) (@qa_consP _ _ _ _ _ (@q_int _ _ _ _) (@qa_nil _) (by rfl)) (by rfl)) (by rfl) (by decide) (by rfl) (by rfl)) (@qa_consP _ _ _ _ _ (@q_callTy _ _ _ _ _ _ _ _ _ (@c_list _) (T.blt (by decide)) (by decide +kernel) (@qa_consP _ _ _ _ _ (@q_v1 _ _ 1 _ (by exact⟨rfl,rfl,rfl,rfl⟩)) (@qa_nil _) (by rfl)) (by rfl) (by decide) (by decide) (by rfl) (by rfl)) (@qa_nil _) (by rfl)) (by rfl)) (by rfl)) (by rfl) (by rfl) (by rfl) (by decide) (by decide) (by decide) (by rfl) (by rfl) (by rfl) (by rfl) (by rfl)) (@qss_cons _ _ _ _ _ (@qs_ifM _ _ _ _ _ _ _ _ (@qt_cmp _ _ _ _ _ _ _ _ (@o_eq _) (@q_v1 _ _ 4 _ (by exact⟨rfl,rfl,rfl,rfl⟩)) (@q_int _ _ _ _) (nomark _)) (@qss_one _ _ _ (@qs_set _ _ _ _ 5 _ _ sc_L_bent.nd (@q_op _ _ _ _ _ _ _ _ (@o_addD _) (@q_slice _ _ _ _ _ _ _ _ _ (@q_v1 _ _ 5 _ (by exact⟨rfl,rfl,rfl,rfl⟩)) (@qo_none _) (@qo_some _ _ _ (@q_v1 _ _ 3 _ (by exact⟨rfl,rfl,rfl,rfl⟩)))) (@q_slice _ _ _ _ _ _ _ _ _ (@q_v1 _ _ 5 _ (by exact⟨rfl,rfl,rfl,rfl⟩)) (@qo_some _ _ _ (@q_op _ _ _ _ _ _ _ _ (@o_addD _) (@q_v1 _ _ 3 _ (by exact⟨rfl,rfl,rfl,rfl⟩)) (@q_int _ _ _ _))) (@qo_none _))) (by rfl) (by exact .inl rfl) (by rfl) (by exact .inl rfl))) (@qss_one _ _ _ (@qs_if _ _ _ _ _ _ _ _ (@qt_cmp _ _ _ _ _ _ _ _ (@o_eq _) (@q_v1 _ _ 4 _ (by exact⟨rfl,rfl,rfl,rfl⟩)) (@q_int _ _ _ _) (nomark _)) (@qss_one _ _ _ (@qs_set _ _ _ _ 5 _ _ sc_L_bent.nd (@q_op _ _ _ _ _ _ _ _ (@o_addD _) (@q_op _ _ _ _ _ _ _ _ (@o_addD _) (@q_slice _ _ _ _ _ _ _ _ _ (@q_v1 _ _ 5 _ (by exact⟨rfl,rfl,rfl,rfl⟩)) (@qo_none _) (@qo_some _ _ _ (@q_v1 _ _ 3 _ (by exact⟨rfl,rfl,rfl,rfl⟩)))) (@q_lst _ _ _ _ (@qa_consP _ _ _ _ _ (@q_ix _ _ _ _ _ _ (@q_v1 _ _ 5 _ (by exact⟨rfl,rfl,rfl,rfl⟩)) (@q_v1 _ _ 3 _ (by exact⟨rfl,rfl,rfl,rfl⟩)) (by intro _ _ ;rfl)) (@qa_nil _) (by rfl)))) (@q_slice _ _ _ _ _ _ _ _ _ (@q_v1 _ _ 5 _ (by exact⟨rfl,rfl,rfl,rfl⟩)) (@qo_some _ _ _ (@q_v1 _ _ 3 _ (by exact⟨rfl,rfl,rfl,rfl⟩))) (@qo_none _))) (by rfl) (by exact .inl rfl) (by rfl) (by exact .inl rfl))) (@qss_one _ _ _ (@qs_if _ _ _ _ _ _ _ _ (@qt_cmp _ _ _ _ _ _ _ _ (@o_eq _) (@q_v1 _ _ 4 _ (by exact⟨rfl,rfl,rfl,rfl⟩)) (@q_int _ _ _ _) (nomark _)) (@qss_one _ _ _ (@qs_set _ _ _ _ 5 _ _ sc_L_bent.nd (@q_op _ _ _ _ _ _ _ _ (@o_addD _) (@q_op _ _ _ _ _ _ _ _ (@o_addD _) (@q_slice _ _ _ _ _ _ _ _ _ (@q_v1 _ _ 5 _ (by exact⟨rfl,rfl,rfl,rfl⟩)) (@qo_none _) (@qo_some _ _ _ (@q_v1 _ _ 3 _ (by exact⟨rfl,rfl,rfl,rfl⟩)))) (@q_lst _ _ _ _ (@qa_consP _ _ _ _ _ (@q_call _ _ _ _ _ _ _ _ noX _ _ _ Ac3 (hr.mono (by omega)) (@passN _ _) (@qa_consP _ _ _ _ _ (@q_v1 _ _ 0 _ (by exact⟨rfl,rfl,rfl,rfl⟩)) (@qa_nil _) (by rfl)) (by rfl) (by decide) (by rfl) (by rfl)) (@qa_nil _) (by rfl)))) (@q_slice _ _ _ _ _ _ _ _ _ (@q_v1 _ _ 5 _ (by exact⟨rfl,rfl,rfl,rfl⟩)) (@qo_some _ _ _ (@q_v1 _ _ 3 _ (by exact⟨rfl,rfl,rfl,rfl⟩))) (@qo_none _))) (by rfl) (by exact .inl rfl) (by rfl) (by exact .inl rfl))) (@qss_one _ _ _ (@qs_if _ _ _ _ _ _ _ _ (@qt_cmp _ _ _ _ _ _ _ _ (@o_eq _) (@q_v1 _ _ 4 _ (by exact⟨rfl,rfl,rfl,rfl⟩)) (@q_int _ _ _ _) (nomark _)) (@qss_one _ _ _ (@qs_set _ _ _ _ 5 _ _ sc_L_bent.nd (@q_rev _ _ _ _ _ _ _ (@q_v1 _ _ 5 _ (by exact⟨rfl,rfl,rfl,rfl⟩)) (@q_neg _ _ _ _ (@q_int _ _ _ _))) (by rfl) (by exact .inl rfl) (by rfl) (by exact .inl rfl))) (@qss_one _ _ _ (@qs_asg _ _ _ _ _ _ (@q_call _ _ _ _ _ _ _ _ noX _ _ _ Ac8 (hr.mono (by omega)) (@passN _ _) (@qa_consP _ _ _ _ _ (@q_v1 _ _ 0 _ (by exact⟨rfl,rfl,rfl,rfl⟩)) (@qa_consP _ _ _ _ _ (@q_ix _ _ _ _ _ _ (@q_v1 _ _ 5 _ (by exact⟨rfl,rfl,rfl,rfl⟩)) (@q_v1 _ _ 3 _ (by exact⟨rfl,rfl,rfl,rfl⟩)) (by intro _ _ ;rfl)) (@qa_consP _ _ _ _ _ (@q_op _ _ _ _ _ _ _ _ (@o_sub _) (@q_v1 _ _ 2 _ (by exact⟨rfl,rfl,rfl,rfl⟩)) (@q_int _ _ _ _)) (@qa_nil _) (by rfl)) (by rfl)) (by rfl)) (by rfl) (by decide) (by rfl) (by rfl)) (@qg_sub _ _ _ _ _ _ _ (@q_v1 _ _ 5 _ (by exact⟨rfl,rfl,rfl,rfl⟩)) (@q_v1 _ _ 3 _ (by exact⟨rfl,rfl,rfl,rfl⟩)) (@s_list _) (by intro _ ;rfl)) (by rfl) (by rfl) (by rfl)))))))))) (@qss_cons _ _ _ _ _ (@qs_if _ _ _ _ _ _ _ _ (@qt_cmp _ _ _ _ _ _ _ _ (@o_eq _) (@q_call _ _ _ _ _ _ _ _ noX _ _ _ Ac0 (hr.mono (by omega)) (@passN _ _) (@qa_consP _ _ _ _ _ (@q_v1 _ _ 0 _ (by exact⟨rfl,rfl,rfl,rfl⟩)) (@qa_consP _ _ _ _ _ (@q_int _ _ _ _) (@qa_nil _) (by rfl)) (by rfl)) (by rfl) (by decide) (by rfl) (by rfl)) (@q_int _ _ _ _) (nomark _)) (@qss_one _ _ _ (@qs_ret _ _ _ _ (@q_ix _ _ _ _ _ _ (@q_lst _ _ _ _ (@qa_consP _ _ _ _ _ (@q_callTy _ _ _ _ _ _ _ _ _ (@c_tuple _) (T.blt (by decide)) (by decide +kernel) (@qa_consP _ _ _ _ _ (@q_v1 _ _ 5 _ (by exact⟨rfl,rfl,rfl,rfl⟩)) (@qa_nil _) (by rfl)) (by rfl) (by decide) (by decide) (by rfl) (by rfl)) (@qa_consP _ _ _ _ _ (@q_v1 _ _ 5 _ (by exact⟨rfl,rfl,rfl,rfl⟩)) (@qa_nil _) (by rfl)) (by rfl))) (@q_callTy _ _ _ _ _ _ _ _ _ (@c_int _) (T.blt (by decide)) (by decide +kernel) (@qa_consP _ _ _ _ _ (@q_callB _ _ _ _ _ _ _ _ _ (@c_isinst _) (T.blt (by decide)) (by decide +kernel) (@qa_consP _ _ _ _ _ (@q_v1 _ _ 1 _ (by exact⟨rfl,rfl,rfl,rfl⟩)) (@qa_consP _ _ _ _ _ (@q_globty _ _ _ "tuple" (T.blt (by decide)) (by decide +kernel) (by rfl) (by decide) (by decide)) (@qa_nil _) (by rfl)) (by rfl)) (by rfl) (by decide) (by decide) (by rfl) (by rfl)) (@qa_nil _) (by rfl)) (by rfl) (by decide) (by decide) (by rfl) (by rfl)) (by intro _ _ ;rfl)))) (@qss_nil _)) (@qss_one _ _ _ (@qs_ret _ _ _ _ (@q_ix _ _ _ _ _ _ (@q_lst _ _ _ _ (@qa_consP _ _ _ _ _ (@q_v1 _ _ 5 _ (by exact⟨rfl,rfl,rfl,rfl⟩)) (@qa_consP _ _ _ _ _ (@q_callTy _ _ _ _ _ _ _ _ _ (@c_tuple _) (T.blt (by decide)) (by decide +kernel) (@qa_consP _ _ _ _ _ (@q_v1 _ _ 5 _ (by exact⟨rfl,rfl,rfl,rfl⟩)) (@qa_nil _) (by rfl)) (by rfl) (by decide) (by decide) (by rfl) (by rfl)) (@qa_nil _) (by rfl)) (by rfl))) (@q_callTy _ _ _ _ _ _ _ _ _ (@c_int _) (T.blt (by decide)) (by decide +kernel) (@qa_consP _ _ _ _ _ (@q_callB _ _ _ _ _ _ _ _ _ (@c_isinst _) (T.blt (by decide)) (by decide +kernel) (@qa_consP _ _ _ _ _ (@q_v1 _ _ 1 _ (by exact⟨rfl,rfl,rfl,rfl⟩)) (@qa_consP _ _ _ _ _ (@q_globty _ _ _ "tuple" (T.blt (by decide)) (by decide +kernel) (by rfl) (by decide) (by decide)) (@qa_nil _) (by rfl)) (by rfl)) (by rfl) (by decide) (by decide) (by rfl) (by rfl)) (@qa_nil _) (by rfl)) (by rfl) (by decide) (by decide) (by rfl) (by rfl)) (by intro _ _ ;rfl))))))))),?_⟩
  have sz1:1≤sizeLine:=szl (by decide)
  have sz2:2≤sizeLine:=szl (by decide)
  have sz7:7≤sizeLine:=szl (by decide)
  have qo:∀{G1:Gp},Step a G G1→∀d' G',Step a G G'→Good (nw G1 G') [2,2,2] d'→Fq Q d' G':=fun s1 d' G' s' g=>Fq.of (q d' G' s' ((g.sub (Kl s1)).wide (Wle.odd okw (by omega))))
  have any_i:∃x,[D.ty "tuple",D.ty "list"]=List.map D.ty x∧x=["tuple", "list"]:=⟨_,rfl,rfl⟩
  cases pd with
  |int i hi=>
   simp only[Bh,C5,Rx,Eb,nCB,Ag,Ao,Aj,List.map_cons,List.map_nil,List.length_cons,List.length_nil,Nat.zero_add,Nat.reduceAdd,Nat.reduceSub,List.replicate,List.cons_append,List.nil_append,List.getElem?_cons_succ,List.getElem?_cons_zero,Option.some.injEq,nC,Aq,List.cons.injEq,D.ty.injEq,and_true,Pt,Bj,nOp,Ax,dI0,D.int.injEq,D.bl.injEq,Bi,Dj,R4,sz7,dIx,exists_eq_left',true_and,and_assoc,exists_and_left,Int.reduceLE,Int.reduceToNat,Int.reducePow,Dp,Bs,nOr,Ec,Gz,sz2,D.tup.injEq,Oq,Ru,List.set_cons_succ,List.set_cons_zero,dEq,eqS,B9,nSl,Cn,Ga,A0,sz1,X6,J4,Int.reduceNeg,Ry,Lr,B7,D.ref.injEq,if_true,decide_eq_true_eq,Yd,reduceCtorEq,if_false,Kf]
   refine it0 (by decide) ?_
   refine Bn hG (by decide) (by decide) fun r b' r0 r1=>?_
   have s1:=(Step.refl hG).take b'
   generalize Ab G a (.lst [.int b'])=G1 at *
   refine⟨r,rfl,?_⟩
   by_cases hr:0<r
   ·refine it0 hr ?_
    refine⟨by decide,fun p hp=>Bn (s1.lay hp).box (by decide) (by decide) fun j b2 j0 j1=>⟨j,rfl,?_⟩⟩
    have n1:=Step.ne s1.box hp
    have s2:=(s1.lay (o:=.lst [D.int (i+1),D.int (i-1),D.int (0-i),D.int (i+9),D.int (i+400),D.int 10000000000000000000,D.bl true]) hp).take b2
    obtain⟨e,he,hm⟩:=D6 (xs:=[D.int (i+1),D.int (i-1),D.int (0-i),D.int (i+9),D.int (i+400),D.int 10000000000000000000,D.bl true]) j0 j1
    refine⟨e,by rw[A7 (by rw[Am n1.symm];exact Aa)];exact he,Fq.of (q e _ s2 ?_)⟩
    simp only[List.mem_cons,List.not_mem_nil,or_false] at hm
    rcases hm with rfl|rfl|rfl|rfl|rfl|rfl|rfl
    ·exact .int _ (by omega)
    ·exact .int _ (by omega)
    ·exact .int _ (by omega)
    ·exact .int _ (by omega)
    ·exact .int _ (by omega)
    ·exact .int _ (by omega)
    ·exact .bl _
   ·refine it1 hr ?_
    refine⟨["tuple", "list"],rfl,by decide,?_⟩
    refine it0 (by decide) ?_
    exact Nq s1 (qo s1)
  |@tup c ws ds hl pr=>
   have okc:=okw c (by simp)
   have okw':∀c∈ws,2≤c∧c≤100:=fun x hx=>okw x (by simp[hx])
   have okl':kk.toNat+2≤ws.length:=by simpa using okl
   simp only[Bh,C5,Rx,Eb,nCB,Ag,Ao,Aj,List.map_cons,List.map_nil,List.length_cons,List.length_nil,Nat.zero_add,Nat.reduceAdd,Nat.reduceSub,List.replicate,List.cons_append,List.nil_append,List.getElem?_cons_succ,List.getElem?_cons_zero,Option.some.injEq,nC,Aq,List.cons.injEq,D.ty.injEq,and_true,Pt,Bj,nOp,Ax,dI0,D.int.injEq,D.bl.injEq,Bi,Dj,R4,sz7,dIx,exists_eq_left',true_and,and_assoc,exists_and_left,Int.reduceLE,Int.reduceToNat,Int.reducePow,reduceCtorEq,Bs,nOr,Ec,Gz,sz2,D.tup.injEq,Oq,Ru,List.set_cons_succ,List.set_cons_zero,dEq,eqS,B9,nSl,Cn,Ga,A0,sz1,X6,J4,Int.reduceNeg,Ry,Lr,B7,D.ref.injEq,Uz,Gv,if_true,decide_eq_true_eq,Sr,if_false,Kf]
   refine it1 (by decide) ?_
   refine⟨["tuple", "list"],rfl,by decide,?_⟩
   refine it1 (by decide) ?_
   by_cases hz:(ds.length:Int)=0
   ·refine it0 hz ?_;exact Nq (Step.refl hG) (qo (Step.refl hG))
   refine it1 hz ?_
   by_cases hkk:kk=0
   ·refine it0 hkk ?_;exact Nq (Step.refl hG) (qo (Step.refl hG))
   refine it1 hkk ?_
   refine Bn hG (by omega) (by omega) fun spot b1 sp0 sp1=>?_
   have s1:=(Step.refl hG).take b1
   generalize Ab G a (.lst [.int b1])=G1 at *
   refine Bn s1.box (by decide) (by decide) fun way b2 w0 w1=>?_
   have s2:=s1.take b2
   generalize Ab G1 a (.lst [.int b2])=G2 at *
   intro p hp
   have np:=Step.ne s2.box hp
   have s3:=s2.lay (o:=.lst ds) hp
   have g3:Ab G2 p (.lst ds) p=some (.lst ds):=Aa
   generalize Ab G2 p (.lst ds)=G3 at *
   simp only[Option.some.injEq,D.int.injEq,Dp,exists_eq_left',Gn g3,decide_eq_true_eq]
   have gp:∀{G':Gp} {x:D},x∈ds→Good G' (ws.map (· + 1)) x:=fun hx=>(pr _ hx).good.wide (Wle.succ ws)
   have szz:∀{n:Nat},n≤300→n≤sizeLine:=fun h=>szl (by omega)
   have cl:=Aab (ds:=ds) sp0
   have ch:=Tb (ds:=ds) sp0
   have ch1:=Tb (ds:=ds) (show 0≤spot+1 by omega)
   refine⟨fun σ' G'=>∃x row,σ'=[some (.ref a),some (.tup ds),some (.int kk),some (.int spot),some (.int way),some (.ref x)]∧G' x=some (.lst row)∧G x=none∧Step a G G'∧row.length≤c+1∧∀y∈row,Good (nw G G') (ws.map (· + 1)) y,?_,?_⟩
   ·by_cases e0:way=0
    ·refine it0 e0 ?_
     intro p1 h1
     have s4:=s3.lay (o:=.lst (Av ds none (some spot))) h1
     have g4:=Ae (u:=.lst (Av ds none (some spot))) g3 h1
     have g5:Ab G3 p1 (.lst (Av ds none (some spot))) p1=some (.lst (Av ds none (some spot))):=Aa
     generalize Ab G3 p1 (.lst (Av ds none (some spot)))=G4 at *
     rw[Gn g4]
     intro p2 h2
     have s5:=s4.lay (o:=.lst (Av ds (some (spot+1)) none)) h2
     have g6:=Ae (u:=.lst (Av ds (some (spot+1)) none)) g5 h2
     rw[C6 g6 Aa]
     refine⟨szz (by omega),fun p3 h3=>Fs.of ⟨p3,_,rfl,Aa,s5.back h3,s5.lay h3,by rw[List.length_append];omega,fun y hy=>gp ?_⟩⟩
     rcases List.mem_append.mp hy with z|z<;>exact Dc z
    ·refine it1 e0 ?_
     by_cases e1:way=1
     ·refine it0 e1 ?_
      intro p1 h1
      have s4:=s3.lay (o:=.lst (Av ds none (some spot))) h1
      have g4:=Ae (u:=.lst (Av ds none (some spot))) g3 h1
      have g5:Ab G3 p1 (.lst (Av ds none (some spot))) p1=some (.lst (Av ds none (some spot))):=Aa
      generalize Ab G3 p1 (.lst (Av ds none (some spot)))=G4 at *
      obtain⟨d,hd,hm⟩:=D6 sp0 sp1
      refine⟨d,by rw[A7 g4];exact hd,fun p2 h2=>?_⟩
      have s5:=s4.lay (o:=.lst [d]) h2
      have g6:=Ae (u:=.lst [d]) g5 h2
      have g7:=Ae (u:=.lst [d]) g4 h2
      rw[C6 g6 Aa]
      generalize Ab G4 p2 (.lst [d])=G5 at *
      refine⟨szz (by simp;omega),fun p3 h3=>?_⟩
      have s6:=s5.lay (o:=.lst (Av ds none (some spot)++[d])) h3
      have g8:=Ae (u:=.lst (Av ds none (some spot)++[d])) g7 h3
      have g9:Ab G5 p3 (.lst (Av ds none (some spot)++[d])) p3=some (.lst (Av ds none (some spot)++[d])):=Aa
      generalize Ab G5 p3 (.lst (Av ds none (some spot)++[d]))=G6 at *
      rw[Gn g8]
      intro p4 h4
      have s7:=s6.lay (o:=.lst (Av ds (some spot) none)) h4
      rw[C6 (Ae g9 h4) Aa]
      refine⟨szz (by simp;omega),fun p5 h5=>Fs.of ⟨p5,_,rfl,Aa,s7.back h5,s7.lay h5,by simp;omega,fun y hy=>gp ?_⟩⟩
      rcases List.mem_append.mp hy with z|z
      ·rcases List.mem_append.mp z with z|z
       ·exact Dc z
       ·rw[List.mem_singleton.mp z];exact hm
      ·exact Dc z
     ·refine it1 e1 ?_
      by_cases e2:way=2
      ·refine it0 e2 ?_
       intro p1 h1
       have s4:=s3.lay (o:=.lst (Av ds none (some spot))) h1
       have g4:=Ae (u:=.lst (Av ds none (some spot))) g3 h1
       have g5:Ab G3 p1 (.lst (Av ds none (some spot))) p1=some (.lst (Av ds none (some spot))):=Aa
       have n1:=Step.ne s3.box h1
       generalize Ab G3 p1 (.lst (Av ds none (some spot)))=G4 at *
       refine⟨a,rfl,s4.box,fun d G5 t5 gd=>fun p2 h2=>?_⟩
       have s5:=s4.trans t5
       have g6:=t5.get np g4
       have g7:=t5.get n1 g5
       have s6:=s5.lay (o:=.lst [d]) h2
       have g8:=Ae (u:=.lst [d]) g6 h2
       have gd6:Good (nw G (Ab G5 p2 (.lst [d]))) [2,2,2] d:=gd.sub ((Kl s4).trans (Cm hG ((Step.refl s5.box).lay h2)))
       rw[C6 (Ae g7 h2) Aa]
       generalize Ab G5 p2 (.lst [d])=G6 at *
       refine⟨szz (by simp;omega),fun p3 h3=>?_⟩
       have s7:=s6.lay (o:=.lst (Av ds none (some spot)++[d])) h3
       have t7:Step a G6 (Ab G6 p3 (.lst (Av ds none (some spot)++[d]))):=(Step.refl s6.box).lay h3
       have g9:=Ae (u:=.lst (Av ds none (some spot)++[d])) g8 h3
       have g10:Ab G6 p3 (.lst (Av ds none (some spot)++[d])) p3=some (.lst (Av ds none (some spot)++[d])):=Aa
       generalize Ab G6 p3 (.lst (Av ds none (some spot)++[d]))=G7 at *
       rw[Gn g9]
       intro p4 h4
       have s8:=s7.lay (o:=.lst (Av ds (some spot) none)) h4
       rw[C6 (Ae g10 h4) Aa]
       refine⟨szz (by simp;omega),fun p5 h5=>Fs.of ⟨p5,_,rfl,Aa,s8.back h5,s8.lay h5,by simp;omega,fun y hy=>?_⟩⟩
       have t9:=(t7.lay (o:=.lst (Av ds (some spot) none)) h4).lay (o:=.lst (Av ds none (some spot)++[d]++Av ds (some spot) none)) h5
       rcases List.mem_append.mp hy with z|z
       ·rcases List.mem_append.mp z with z|z
        ·exact gp (Dc z)
        ·rw[List.mem_singleton.mp z];exact(gd6.sub (Cm hG t9)).wide (Wle.odd okw' (by omega))
       ·exact gp (Dc z)
      ·refine it1 e2 ?_
       by_cases e3:way=3
       ·rw[if_pos e3,rev_l g3]
        exact fun p1 h1=>Fs.of ⟨p1,_,rfl,Aa,s3.back h1,s3.lay h1,by simp;omega,fun y hy=>gp (List.mem_reverse.mp hy)⟩
       ·refine it1 e3 ?_
        obtain⟨d,hd,hm⟩:=D6 sp0 sp1
        refine⟨d,by rw[A7 g3];exact hd,a,d,kk-1,rfl,s3.box,⟨by omega,by omega⟩,ws,okw',by omega,pr d hm,fun d' G4 t4 gd=>?_⟩
        ·have g4:=t4.get np g3
         obtain⟨j,rfl⟩:=Int.eq_ofNat_of_zero_le sp0
         refine⟨ds,g4,j,by unfold ixN;rw[if_pos (by omega),if_pos (by omega)];simp,?_⟩
         have s4:=s3.trans t4
         refine Fs.of ⟨p,_,rfl,Aa,s2.back hp,s4.write (s2.back hp) np,by rw[List.length_set];omega,fun y hy=>?_⟩
         rcases List.mem_or_eq_of_mem_set hy with z|z
         ·exact gp z
         ·rw[z]
          refine gd.sub fun b o h=>?_
          obtain⟨h1,h2⟩:=Jd h
          exact Cr (s3.back h1) (by rw[Am (gne g3 h1).symm];exact h2)
   ·rintro σ' G4 ⟨x,row,rfl,gx,hx5,s4,hlr,hr4⟩
    have nx:=Step.ne hG hx5
    simp only[List.getElem?_cons_zero,Option.some.injEq,List.getElem?_cons_succ,exists_eq_left',Sr]
    refine Bn s4.box (by decide) (by decide) fun r b' r0 r1=>?_
    have s5:=s4.take b'
    have gx5:Ab G4 a (.lst [.int b']) x=some (.lst row):=by rw[Am nx.symm];exact gx
    have hr5:∀y∈row,Good (nw G (Ab G4 a (.lst [.int b']))) (ws.map (· + 1)) y:=fun y hy=>(hr4 y hy).sub (Cm hG ((Step.refl s4.box).take b'))
    generalize Ab G4 a (.lst [.int b'])=G5 at *
    have both:∀(l:List D),(l=[D.tup row,D.ref x]∨l=[D.ref x,D.tup row])→∀p,G5 p=none→∃d,Ey (Ab G5 p (.lst l)) (D.ref p) (if pyIs "tuple" "tuple" = true then 1 else 0)=some d∧Fq Q d (Ab G5 p (.lst l)):=fun l hl p hp=>by
     have s6:=s5.lay (o:=.lst l) hp
     have hr6:∀y∈row,Good (nw G (Ab G5 p (.lst l))) (ws.map (· + 1)) y:=fun y hy=>(hr5 y hy).sub (Cm hG ((Step.refl s5.box).lay hp))
     have gt:Good (nw G (Ab G5 p (.lst l))) ((c::ws).map (· + 1)) (.tup row):=.tup hlr hr6
     have gr:Good (nw G (Ab G5 p (.lst l))) ((c::ws).map (· + 1)) (.ref x):=.lst (Cr hx5 (Ae gx5 hp)) hlr hr6
     rw[if_pos (by decide),A7 Aa]
     rcases hl with rfl|rfl
     ·exact⟨_,atI1,Fq.of (q _ _ s6 gr)⟩
     ·exact⟨_,atI1,Fq.of (q _ _ s6 gt)⟩
    simp only[Option.some.injEq,A9 gx5,exists_eq_left',decide_eq_true_eq]
    by_cases h11:r=11
    ·refine it0 h11 ?_;exact both _ (.inl rfl)
    ·refine it1 h11 ?_;exact both _ (.inr rfl)
end
set_option maxRecDepth 100000
set_option maxHeartbeats 4000000
section
variable{P:Program}{w:World}{K:W.Frag}{mg:Str→Option Value}{base:Heap}
structure Nums(mg:Str→Option Value):Prop extends Blt mg where
 LEAST_COLUMNS:∃t,mg "LEAST_COLUMNS" = some (.int 2 t)
 MOST_COLUMNS:∃t,mg "MOST_COLUMNS" = some (.int 16 t)
 LAST_ROW:∃t,mg "LAST_ROW" = some (.int 8 t)
abbrev s_is_whole_within:Stmt:=top 21
abbrev Fn:List Str:=["thing", "low", "high"]
abbrev Au:List Str:=["thing", "low", "high"]
theorem Eo:FnScope Fn Au (Ac s_is_whole_within):=⟨rfl,rfl,rfl,by decide +kernel,rfl,by decide +kernel,by decide +kernel⟩
def C8:DSp:=fun ds G Q _=>∃d lo hi,ds=[d,.int lo,.int hi]∧Kn G d∧Q (.bl (As lo hi d)) G
theorem Ui{f:Addr}{fd:FuncData}(F:Fun K "is_whole_within" "is_whole_within" s_is_whole_within f fd)(T:Nums mg):FnOk P w K mg base CX0 1 f fd Au (Ai K C8):=by
 refine okD F Eo (fun ds G Q E h=>?_) (fun cdv A outer s H XE ds G Q E hr h=>?_)
 ·obtain⟨d,lo,hi,rfl,_⟩:=h;rfl
 ·obtain⟨d,lo,hi,rfl,⟨t,ht⟩,k⟩:=h
  refine⟨_,(@qss_one _ _ _ (@qs_ret _ _ _ _ (@q_and _ _ _ _ _ _ _ (@q_callB _ _ _ _ _ _ _ _ _ (@c_isinst _) (T.blt (by decide)) (by decide +kernel) (@qa_consP _ _ _ _ _ (@q_v1 _ _ 0 _ (by exact⟨rfl,rfl,rfl,rfl⟩)) (@qa_consP _ _ _ _ _ (@q_globty _ _ _ "int" (T.blt (by decide)) (by decide +kernel) (by rfl) (by decide) (by decide)) (@qa_nil _) (by rfl)) (by rfl)) (by rfl) (by decide) (by decide) (by rfl) (by rfl)) (@q_and _ _ _ _ _ _ _ (@q_not _ _ _ _ (@q_callB _ _ _ _ _ _ _ _ _ (@c_isinst _) (T.blt (by decide)) (by decide +kernel) (@qa_consP _ _ _ _ _ (@q_v1 _ _ 0 _ (by exact⟨rfl,rfl,rfl,rfl⟩)) (@qa_consP _ _ _ _ _ (@q_globty _ _ _ "bool" (T.blt (by decide)) (by decide +kernel) (by rfl) (by decide) (by decide)) (@qa_nil _) (by rfl)) (by rfl)) (by rfl) (by decide) (by decide) (by rfl) (by rfl))) (@q_one _ _ _ _ _ (@O4 _ _ _ _ _ _ _ _ _ _ _ _ (@o_le _) (@o_le _) (@q_v1 _ _ 1 _ (by exact⟨rfl,rfl,rfl,rfl⟩)) (@q_v1 _ _ 0 _ (by exact⟨rfl,rfl,rfl,rfl⟩)) (@q_v1 _ _ 2 _ (by exact⟨rfl,rfl,rfl,rfl⟩)) (by with_unfolding_all rfl))))))),?_⟩
  simp only[Bi,Os,nCB,Ag,Ao,Aj,List.map_cons,List.map_nil,List.length_cons,List.length_nil,Nat.zero_add,Nat.reduceAdd,Nat.reduceSub,List.replicate,List.cons_append,List.nil_append,List.getElem?_cons_zero,Option.some.injEq,nC,Aq,List.cons.injEq,D.ty.injEq,and_true,D.bl.injEq,Sb,Ej,List.getElem?_cons_succ,dI0,exists_eq_left',D.int.injEq,decide_eq_true_eq,and_assoc,exists_and_left,Pn,true_and,ht,Kf]
  have other:(pyIs t "int" = false∨pyIs t "bool" = true)→Q (.bl false) G→if pyIs t "int" = true then if (!pyIs t "bool")=true then ∃j,d=D.int j∧if lo≤j then ∃i,d=D.int i∧Fq Q (D.bl (decide (i≤hi))) G else Fq Q (D.bl false) G else Fq Q (D.bl false) G else Fq Q (D.bl false) G:=fun h q=>by
   rcases h with h|h
   ·rw[h,if_neg Bool.false_ne_true];exact Fq.of q
   ·rw[h];split
    ·rw[if_neg (by decide)];exact Fq.of q
    ·exact Fq.of q
  cases d with
  |int i=>
   cases ht
   rw[if_pos (by decide),if_pos (by decide)]
   refine⟨i,rfl,?_⟩
   by_cases h:lo≤i
   ·rw[if_pos h]
    refine⟨i,rfl,Fq.of ?_⟩
    simpa[As,h] using k
   ·rw[if_neg h]
    refine Fq.of ?_
    simpa[As,h] using k
  |bl b=>cases ht;exact other (.inr (by decide)) k
  |non=>cases ht;exact other (.inl (by decide)) k
  |str x=>cases ht;exact other (.inl (by decide)) k
  |tup ds=>cases ht;exact other (.inl (by decide)) k
  |ty n=>cases ht
  |lint ns=>cases ht
  |ref a=>
   refine other (.inl ?_) k
   simp only[A8] at ht
   split at ht<;>first|(cases ht;decide)|cases ht
def Al:D→Int
 |.int i=>i
 |_=>0
def Bu:List D→Bool
 |x::y::r=>decide (Al x<Al y)&&Bu (y::r)
 |_=>true
def ltD:D→Bool
 |.tup [u,v]=>decide (Al u<Al v)
 |_=>false
def Pw(lo hi:Int):D→Bool
 |.tup ds=>ds.all (As lo hi)&&Bu ds
 |_=>false
abbrev B6:D→Bool:=Pw 0 8
theorem S9{xs:List D}:Av xs (some 1) none=xs.drop 1:=by
 simp only[Av,HT.sIx,if_neg (show ¬(1:Int)<0 by decide)]
 cases xs with
 |nil=>rfl
 |cons x r=>simp
theorem Tg{x y:D}{xs ys:List D}:Bb [x::xs,y::ys]=.tup [x,y]::Bb [xs,ys]:=by
 have e:Cc [x::xs,y::ys]=Cc [xs,ys]+1:=by simp only[Cc,List.length_cons];omega
 unfold Bb
 rw[e,List.range_succ_eq_map,List.map_cons,List.map_map]
 rfl
theorem Hv:∀xs:List D,(Bb [xs,xs.drop 1]).all ltD=Bu xs
 |[]=>rfl
 |[x]=>by simp[Bb,Cc,Bu]
 |x::y::r=>by
  show(Bb [x::y::r,y::r]).all ltD=_
  rw[Tg,List.all_cons]
  have:=Hv (y::r)
  simp only[List.drop_succ_cons,List.drop_zero] at this
  rw[this];rfl
theorem C7{xs ys:List D}{z:D}(h:z∈Bb [xs,ys]):∃u v,z=.tup [u,v]∧u∈xs∧v∈ys:=by
 obtain⟨i,hi,e⟩:=List.getElem_of_mem h
 have hl:i<Cc [xs,ys]:=by rw[←Ci];exact hi
 have:=E7 hl
 rw[List.getElem?_eq_getElem hi,e] at this
 cases this
 have h1:=E5 hl xs (by simp)
 have h2:=E5 hl ys (by simp)
 exact⟨_,_,rfl,by simp[List.getD,h1],by simp[List.getD,h2]⟩
theorem Cj{α:Type}{xs:List α}:xs.filter (fun _=>true)=xs:=List.filter_eq_self.mpr fun _ _=>rfl
theorem Dz{G:Gp}{d:D}{t:String}(ht:A8 G d=some t)(h:t≠"tuple"):pyIs t "tuple" = false∧∀xs,d≠.tup xs:=by
 refine⟨?_,fun xs e=>by subst e;cases ht;exact h rfl⟩
 have:=Em ht
 simp only[List.mem_cons,List.not_mem_nil,or_false] at this
 rcases this with rfl|rfl|rfl|rfl|rfl|rfl|rfl<;>first|rfl|exact absurd rfl h
abbrev s_are_rising_within:Stmt:=top 22
abbrev Ee:List Str:=["thing", "low", "high"]
abbrev Az:List Str:=["thing", "low", "high"]
theorem Dv:FnScope Ee Az (Ac s_are_rising_within):=⟨rfl,rfl,rfl,by decide +kernel,rfl,by decide +kernel,by decide +kernel⟩
theorem nd_are_rising_within_1:((["number"]:List Str)++(["thing", "low", "high"]:List Str)).Nodup:=by decide +kernel
theorem B0:((["ahead", "number"]:List Str)++(["thing", "low", "high"]:List Str)).Nodup:=by decide +kernel
def E8:DSp:=fun ds G Q _=>∃d lo hi,ds=[d,.int lo,.int hi]∧KnT G 1 d∧(∀xs,d=.tup xs→xs.length<sizeLine)∧Q (.bl (Pw lo hi d)) G
theorem Qp{f:Addr}{fd:FuncData}(F:Fun K "are_rising_within" "are_rising_within" s_are_rising_within f fd)(T:Nums mg)(Ac4:Def P w K mg base CX0 1 "is_whole_within" Au C8):FnOk P w K mg base CX0 2 f fd Az (Ai K E8):=by
 refine okD F Dv (fun ds G Q E h=>?_) (fun cdv A outer s H XE ds G Q E hr h=>?_)
 ·obtain⟨d,lo,hi,rfl,_⟩:=h;rfl
 ·obtain⟨d,lo,hi,rfl,kn,hz,k⟩:=h
  refine⟨_,(@qss_cons _ _ _ _ _ (@qs_if _ _ _ _ _ _ _ _ (@qt_of _ _ _ (@qw_or _ _ _ _ _ _ _ (@qt_not _ _ _ _ (@qt_tru _ _ _ (@q_callB _ _ _ _ _ _ _ _ _ (@c_isinst _) (T.blt (by decide)) (by decide +kernel) (@qa_consP _ _ _ _ _ (@q_v1 _ _ 0 _ (by exact⟨rfl,rfl,rfl,rfl⟩)) (@qa_consP _ _ _ _ _ (@q_globty _ _ _ "tuple" (T.blt (by decide)) (by decide +kernel) (by rfl) (by decide) (by decide)) (@qa_nil _) (by rfl)) (by rfl)) (by rfl) (by decide) (by decide) (by rfl) (by rfl)) (by intro _ ;rfl))) (@qw_or1 _ _ _ _ (@qt_not _ _ _ _ (@qt_tru _ _ _ (@q_callB _ _ _ _ _ _ _ _ _ (@c_all _ rfl) (T.blt (by decide)) (by decide +kernel) (@qa_consP _ _ _ _ _ (@q_compz _ _ _ _ _ _ _ _ _ _ _ ["number"] ["thing", "low", "high"] rfl (@compOz _ _ _ _ (by rfl) (by rfl) (by rfl) (by rfl) (by rfl)) (@q_v1 _ _ 0 _ (by exact⟨rfl,rfl,rfl,rfl⟩)) (fun _ _ _=>(@qg_name _ _ 0 _ nd_are_rising_within_1 (by rfl) (by exact .inl rfl) (by exact .inr rfl))) (fun _ _ _=>(@qf_nil _)) (fun _ _ _=>(@q_call _ _ _ _ _ _ _ _ noX _ _ _ Ac4 (hr.mono (by decide)) (@passN _ _) (@qa_consP _ _ _ _ _ (@q_v1 _ _ 0 _ (by exact⟨rfl,rfl,rfl,rfl⟩)) (@qa_consP _ _ _ _ _ (@q_v2 _ _ 2 _ (by exact⟨rfl,rfl,rfl,rfl⟩)) (@qa_consP _ _ _ _ _ (@q_v2 _ _ 3 _ (by exact⟨rfl,rfl,rfl,rfl⟩)) (@qa_nil _) (by rfl)) (by rfl)) (by rfl)) (by rfl) (by decide) (by rfl) (by rfl))) (by intro _ ;rfl)) (@qa_nil _) (by rfl)) (by rfl) (by decide) (by decide) (by rfl) (by rfl)) (by intro _ ;rfl)))))) (@qss_one _ _ _ (@qs_ret _ _ _ _ (@q_bl _ _ _ _))) (@qss_nil _)) (@qss_one _ _ _ (@qs_ret _ _ _ _ (@q_callB _ _ _ _ _ _ _ _ _ (@c_all _ rfl) (T.blt (by decide)) (by decide +kernel) (@qa_consP _ _ _ _ _ (@q_compzZ2 _ _ _ _ _ _ _ _ ["ahead", "number"] ["thing", "low", "high"] _ _ _ _ _ _ _ _ rfl (@compOz _ _ _ _ (by rfl) (by rfl) (by rfl) (by rfl) (by rfl)) (T.blt (by decide)) (@qa_consP _ _ _ _ _ (@q_v1 _ _ 0 _ (by exact⟨rfl,rfl,rfl,rfl⟩)) (@qa_consP _ _ _ _ _ (@q_slice _ _ _ _ _ _ _ _ _ (@q_v1 _ _ 0 _ (by exact⟨rfl,rfl,rfl,rfl⟩)) (@qo_some _ _ _ (@q_int _ _ _ _)) (@qo_none _)) (@qa_nil _) (by rfl)) (by rfl)) (fun _ _ _=>(@qg_tup _ _ _ _ _ 2 rfl (@qgs_cons _ _ _ _ _ (@qg_name _ _ 0 _ B0 (by rfl) (by exact .inl rfl) (by exact .inr rfl)) (@qgs_cons _ _ _ _ _ (@qg_name _ _ 1 _ B0 (by rfl) (by exact .inl rfl) (by exact .inr rfl)) (@qgs_nil _) (by rfl)) (by rfl)) (by rfl) (by rfl))) (fun _ _ _=>(@qf_nil _)) (fun _ _ _=>(@q_cmp _ _ _ _ _ _ _ _ (@o_lt _) (@q_v1 _ _ 0 _ (by exact⟨rfl,rfl,rfl,rfl⟩)) (@q_v1 _ _ 1 _ (by exact⟨rfl,rfl,rfl,rfl⟩)) (nomark _))) (by rfl) (by rfl) (by rfl) (by intro _ ;rfl)) (@qa_nil _) (by rfl)) (by rfl) (by decide) (by decide) (by rfl) (by rfl))))),?_⟩
  obtain⟨t,ht⟩:=kn.kn
  simp only[Bh,C5,nOr,Ec,Eb,nCB,Ag,Ao,Aj,List.map_cons,List.map_nil,List.length_cons,List.length_nil,Nat.zero_add,Nat.reduceAdd,Nat.reduceSub,List.replicate,List.cons_append,List.nil_append,List.getElem?_cons_zero,Option.some.injEq,nC,Aq,List.cons.injEq,D.ty.injEq,and_true,Bi,Bs,Km,nSl,Ga,D.int.injEq,Cn,true_and,exists_eq_left',if_true,Do,and_assoc,exists_and_left,B7,ht]
  refine⟨pyIs t "tuple",rfl,?_⟩
  by_cases htt:t = "tuple"
  ·subst htt
   obtain⟨xs,rfl⟩:=Fp ht
   rw[if_neg (by decide)]
   have k2:Q (.bl (xs.all (As lo hi)&&Bu xs)) G:=k
   have hz1:=hz xs rfl
   refine⟨xs,rfl,fun p hp=>?_⟩
   refine Bv (fun x=>.bl (As lo hi x)) (fun _=>true) hz1 (fun _=>rfl) (by decide) (fun x ys hx hl R1 R2 g1 _=>?_) ?_
   ·have kx:Kn (Ab G p (.lst ys)) x:=Kn.new (kn.2 xs rfl x hx) hp
    simp only[Dg,Ax,Ag,Ao,List.replicate,List.cons_append,List.nil_append,List.set_cons_zero,List.getElem?_cons_zero,Option.some.injEq,List.getElem?_cons_succ,Aq,C8,List.cons.injEq,and_true,Aa,hl,Bl,true_and,and_assoc,exists_and_left,exists_eq_left',D.int.injEq,kx,if_true]
    exact Fg.of (g1 rfl)
   ·refine⟨p,rfl,xs.map (As lo hi),by rw[Aa,Cj,List.map_map];rfl,?_⟩
    have ea:(xs.map (As lo hi)).all id=xs.all (As lo hi):=by simp[List.all_map]
    refine⟨_,rfl,?_⟩
    rw[ea]
    cases hc:xs.all (As lo hi) with
    |false=>
     rw[if_pos (by decide)]
     rw[hc] at k2
     exact⟨G,Sub.new hp,by simpa using k2⟩
    |true=>
     rw[if_neg (by decide)]
     rw[hc] at k2
     have allI:∀x∈xs,∃i,x=.int i:=fun x hx=>by
      have:=List.all_eq_true.mp hc x hx
      cases x with
      |int i=>exact⟨i,rfl⟩
      |_=>exact absurd (show false=true from this) Bool.false_ne_true
     rw[E4,S9]
     have sg:Sub G (Ab G p (.lst ((xs.filter fun _=>true).map fun x=>.bl (As lo hi x)))):=Sub.new hp
     generalize Ab G p (.lst ((xs.filter fun _=>true).map fun x=>.bl (As lo hi x)))=G1 at *
     refine⟨[xs,xs.drop 1],rfl,fun p2 hp2=>?_⟩
     have hzl:(Bb [xs,xs.drop 1]).length<sizeLine:=by
      rw[Ci]
      refine Nat.lt_of_le_of_lt ?_ hz1
      simp only[Cc];omega
     refine Ht (fun z=>match z with|.tup [u,v]=>[some u,some v,some (.tup xs),some (.int lo),some (.int hi)]|_=>[none,none,some (.tup xs),some (.int lo),some (.int hi)]) (fun z=>.bl (ltD z)) (fun _=>true) hzl (fun _=>rfl) (fun z hz=>?_) (fun z ys hzm hl R1 R2 g1 _=>?_) ?_
     ·obtain⟨u,v,rfl,_,_⟩:=C7 hz
      refine⟨⟨[some u,some v],rfl,rfl⟩,fun G' R h=>?_⟩
      simp only[Nc,D.tup.injEq,Hd,A0,Nd,List.replicate,List.cons_append,List.nil_append,List.set_cons_zero,List.set_cons_succ,exists_eq_left',List.length_cons,List.length_nil,Nat.zero_add,Nat.reduceAdd,List.cons.injEq,and_assoc,exists_and_left,true_and]
      exact h
     ·obtain⟨u,v,rfl,hu,hv⟩:=C7 hzm
      obtain⟨i,rfl⟩:=allI u hu
      obtain⟨j,rfl⟩:=allI v (List.mem_of_mem_drop hv)
      simp only[Dg,nOp,Ao,List.getElem?_cons_zero,Option.some.injEq,List.getElem?_cons_succ,dI0,Aa,hl,Bl,true_and,exists_eq_left',D.int.injEq,if_true]
      exact Fg.of (g1 rfl)
     ·refine⟨p2,rfl,(Bb [xs,xs.drop 1]).map ltD,by rw[Aa,Cj,List.map_map];rfl,?_⟩
      have e2:((Bb [xs,xs.drop 1]).map ltD).all id=Bu xs:=by rw[List.all_map];exact Hv xs
      rw[e2]
      exact⟨G,sg.skip hp2,by simpa using k2⟩
  ·obtain⟨e,nt⟩:=Dz ht htt
   rw[e,if_pos (by decide)]
   refine Fq.of ?_
   cases d with
   |tup xs=>exact absurd rfl (nt xs)
   |_=>exact k
abbrev s_are_rows:Stmt:=top 28
abbrev Om:List Str:=["thing"]
abbrev B2:List Str:=["thing"]
theorem Mw:FnScope Om B2 (Ac s_are_rows):=⟨rfl,rfl,rfl,by decide +kernel,rfl,by decide +kernel,by decide +kernel⟩
def J6:DSp:=fun ds G Q _=>∃d,ds=[d]∧KnT G 1 d∧(∀xs,d=.tup xs→xs.length<sizeLine)∧Q (.bl (B6 d)) G
theorem Wu{f:Addr}{fd:FuncData}(F:Fun K "are_rows" "are_rows" s_are_rows f fd)(T:Nums mg)(Adc:Def P w K mg base CX0 2 "are_rising_within" Az E8):FnOk P w K mg base CX0 3 f fd B2 (Ai K J6):=by
 refine okD F Mw (fun ds G Q E h=>?_) (fun cdv A outer s H XE ds G Q E hr h=>?_)
 ·obtain⟨d,rfl,_⟩:=h;rfl
 ·obtain⟨d,rfl,kn,hz,k⟩:=h
  refine⟨_,(@qss_one _ _ _ (@qs_ret _ _ _ _ (@q_call _ _ _ _ _ _ _ _ noX _ _ _ Adc (hr.mono (by decide)) (@passN _ _) (@qa_consP _ _ _ _ _ (@q_v1 _ _ 0 _ (by exact⟨rfl,rfl,rfl,rfl⟩)) (@qa_consP _ _ _ _ _ (@q_int _ _ _ _) (@qa_consP _ _ _ _ _ (@q_globx _ _ _ _ T.LAST_ROW (by rfl) (by decide)) (@qa_nil _) (by rfl)) (by rfl)) (by rfl)) (by rfl) (by decide) (by rfl) (by rfl)))),?_⟩
  simp only[Bi,Ax,Ag,Ao,Aj,List.map_cons,List.map_nil,List.length_cons,List.length_nil,Nat.zero_add,Nat.reduceSub,List.replicate,List.cons_append,List.nil_append,List.getElem?_cons_zero,Option.some.injEq,nC,Aq,E8,List.cons.injEq,D.int.injEq,and_true,and_assoc,exists_and_left,exists_eq_left',kn,true_and]
  exact⟨hz,Fq.of k⟩
def B1:D→Bool
 |.tup cs=>decide (2≤cs.length)&&decide (cs.length≤16)&&cs.all B6
 |_=>false
def SzT(d:D):Prop:=∀xs,d=.tup xs→xs.length<sizeLine∧∀y∈xs,∀ys,y=.tup ys→ys.length<sizeLine
abbrev s_is_channel:Stmt:=top 29
abbrev Lb:List Str:=["thing"]
abbrev Bp:List Str:=["thing"]
theorem Iu:FnScope Lb Bp (Ac s_is_channel):=⟨rfl,rfl,rfl,by decide +kernel,rfl,by decide +kernel,by decide +kernel⟩
theorem Gh:((["rows"]:List Str)++(["thing"]:List Str)).Nodup:=by decide +kernel
def J8:DSp:=fun ds G Q _=>∃d,ds=[d]∧KnT G 2 d∧SzT d∧Q (.bl (B1 d)) G
theorem Wy{f:Addr}{fd:FuncData}(F:Fun K "is_channel" "is_channel" s_is_channel f fd)(T:Nums mg)(Ade:Def P w K mg base CX0 3 "are_rows" B2 J6):FnOk P w K mg base CX0 4 f fd Bp (Ai K J8):=by
 refine okD F Iu (fun ds G Q E h=>?_) (fun cdv A outer s H XE ds G Q E hr h=>?_)
 ·obtain⟨d,rfl,_⟩:=h;rfl
 ·obtain⟨d,rfl,kn,hz,k⟩:=h
  refine⟨_,(@qss_cons _ _ _ _ _ (@qs_if _ _ _ _ _ _ _ _ (@qt_of _ _ _ (@qw_or _ _ _ _ _ _ _ (@qt_not _ _ _ _ (@qt_tru _ _ _ (@q_callB _ _ _ _ _ _ _ _ _ (@c_isinst _) (T.blt (by decide)) (by decide +kernel) (@qa_consP _ _ _ _ _ (@q_v1 _ _ 0 _ (by exact⟨rfl,rfl,rfl,rfl⟩)) (@qa_consP _ _ _ _ _ (@q_globty _ _ _ "tuple" (T.blt (by decide)) (by decide +kernel) (by rfl) (by decide) (by decide)) (@qa_nil _) (by rfl)) (by rfl)) (by rfl) (by decide) (by decide) (by rfl) (by rfl)) (by intro _ ;rfl))) (@qw_or1 _ _ _ _ (@qt_not _ _ _ _ (@qt_chain _ _ _ _ _ _ _ _ _ _ _ _ (@o_le _) (@o_le _) (@q_globx _ _ _ _ T.LEAST_COLUMNS (by rfl) (by decide)) (@q_callB _ _ _ _ _ _ _ _ _ (@c_len _) (T.blt (by decide)) (by decide +kernel) (@qa_consP _ _ _ _ _ (@q_v1 _ _ 0 _ (by exact⟨rfl,rfl,rfl,rfl⟩)) (@qa_nil _) (by rfl)) (by rfl) (by decide) (by decide) (by rfl) (by rfl)) (@q_globx _ _ _ _ T.MOST_COLUMNS (by rfl) (by decide)) (by with_unfolding_all rfl)))))) (@qss_one _ _ _ (@qs_ret _ _ _ _ (@q_bl _ _ _ _))) (@qss_nil _)) (@qss_one _ _ _ (@qs_ret _ _ _ _ (@q_callB _ _ _ _ _ _ _ _ _ (@c_all _ rfl) (T.blt (by decide)) (by decide +kernel) (@qa_consP _ _ _ _ _ (@q_compz _ _ _ _ _ _ _ _ _ _ _ ["rows"] ["thing"] rfl (@compOz _ _ _ _ (by rfl) (by rfl) (by rfl) (by rfl) (by rfl)) (@q_v1 _ _ 0 _ (by exact⟨rfl,rfl,rfl,rfl⟩)) (fun _ _ _=>(@qg_name _ _ 0 _ Gh (by rfl) (by exact .inl rfl) (by exact .inr rfl))) (fun _ _ _=>(@qf_nil _)) (fun _ _ _=>(@q_call _ _ _ _ _ _ _ _ noX _ _ _ Ade (hr.mono (by decide)) (@passN _ _) (@qa_consP _ _ _ _ _ (@q_v1 _ _ 0 _ (by exact⟨rfl,rfl,rfl,rfl⟩)) (@qa_nil _) (by rfl)) (by rfl) (by decide) (by rfl) (by rfl))) (by intro _ ;rfl)) (@qa_nil _) (by rfl)) (by rfl) (by decide) (by decide) (by rfl) (by rfl))))),?_⟩
  obtain⟨t,ht⟩:=kn.kn
  simp only[Bh,C5,nOr,Ec,Eb,nCB,Ag,Ao,Aj,List.map_cons,List.map_nil,List.length_cons,List.length_nil,Nat.zero_add,Nat.reduceSub,List.replicate,List.cons_append,List.nil_append,List.getElem?_cons_zero,Option.some.injEq,nC,Aq,List.cons.injEq,D.ty.injEq,and_true,Bi,Bs,Do,exists_eq_left',if_true,Bj,Ej,dI0,D.int.injEq,D.bl.injEq,Bool.not_false,decide_eq_true_eq,and_assoc,exists_and_left,B7,true_and,ht]
  refine⟨pyIs t "tuple",rfl,?_⟩
  by_cases htt:t = "tuple"
  ·subst htt
   obtain⟨xs,rfl⟩:=Fp ht
   rw[if_neg (by decide)]
   refine⟨xs.length,rfl,?_⟩
   have k2:Q (.bl (decide (2≤xs.length)&&decide (xs.length≤16)&&xs.all B6)) G:=k
   obtain⟨hz1,hz2⟩:=hz xs rfl
   by_cases h1:2≤xs.length
   ·rw[if_pos (by omega)]
    by_cases h9:xs.length≤16
    ·rw[if_neg (by simp;omega)]
     rw[decide_eq_true h1,decide_eq_true h9] at k2
     refine⟨xs,rfl,fun p hp=>?_⟩
     refine Bv (fun x=>.bl (B6 x)) (fun _=>true) hz1 (fun _=>rfl) (by decide) (fun x ys hx hl R1 R2 g1 _=>?_) ?_
     ·have kx:KnT (Ab G p (.lst ys)) 1 x:=KnT.new hp (kn.2 xs rfl x hx)
      have zx:=hz2 x hx
      simp only[Dg,Ax,Ag,Ao,List.replicate,List.cons_append,List.nil_append,List.set_cons_zero,List.getElem?_cons_zero,Option.some.injEq,Aq,J6,List.cons.injEq,and_true,Aa,hl,Bl,true_and,exists_eq_left',kx,if_true]
      exact⟨zx,Fg.of (g1 rfl)⟩
     ·refine⟨p,rfl,xs.map B6,by rw[Aa,Cj,List.map_map];rfl,?_⟩
      refine⟨G,Sub.new hp,?_⟩
      simpa[List.all_map] using k2
    ·rw[if_pos (by simp;omega)]
     refine Fq.of ?_
     simpa[h9] using k2
   ·rw[if_neg (by omega)]
    refine Fq.of ?_
    simpa[h1] using k2
  ·obtain⟨e,nt⟩:=Dz ht htt
   rw[e,if_pos (by decide)]
   refine Fq.of ?_
   cases d with
   |tup xs=>exact absurd rfl (nt xs)
   |_=>exact k
abbrev s_check_channel:Stmt:=top 30
abbrev Gm:List Str:=["thing"]
abbrev p_check_channel:List Str:=["thing"]
theorem F4:FnScope Gm p_check_channel (Ac s_check_channel):=⟨rfl,rfl,rfl,by decide +kernel,rfl,by decide +kernel,by decide +kernel⟩
def spCheckX(CN:Addr):DSp:=fun ds G Q E=>∃d,ds=[d]∧KnT G 2 d∧SzT d∧(B1 d=true→Q .non G)∧(B1 d=false→E (.ref CN) G)
theorem Qr{f CN:Addr}{fd:FuncData}(F:Fun K "check_channel" "check_channel" s_check_channel f fd)(T:Nums mg)(O_NoChannel:ExcK K "NoChannel" CN)(Adf:Def P w K mg base CX0 4 "is_channel" Bp J8):FnOk P w K mg base (CX1 P w) 5 f fd p_check_channel (Ai K (spCheckX CN)):=by
 refine okX F F4 (fun ds G Q E h=>?_) (fun cdv A outer s H XE ds G Q E hr h hE=>?_)
 ·obtain⟨d,rfl,_⟩:=h;rfl
 ·obtain⟨d,rfl,kn,hz,k1,k2⟩:=h
  refine⟨_,(@qss_one _ _ _ (@qs_if _ _ _ _ _ _ _ _ (@qt_not _ _ _ _ (@qt_tru _ _ _ (@q_call _ _ _ _ _ _ _ _ noX _ _ _ Adf (hr.mono (by decide)) (@passN _ _) (@qa_consP _ _ _ _ _ (@q_v1 _ _ 0 _ (by exact⟨rfl,rfl,rfl,rfl⟩)) (@qa_nil _) (by rfl)) (by rfl) (by decide) (by rfl) (by rfl)) (by intro _ ;rfl))) (@qss_one _ _ _ (@T3 _ _ _ _ _ _ _ _ _ _ _ _ _ _ _ _ _ _ _ _ _ _ _ hE O_NoChannel (@qa_consP _ _ _ _ _ (@q_str _ _ _ _) (@qa_nil _) (by rfl)) (by rfl) (by decide) (by rfl) (by rfl))) (@qss_nil _))),?_⟩
  simp only[C5,Ec,Eb,Ax,Ag,Ao,Aj,List.map_cons,List.map_nil,List.length_cons,List.length_nil,Nat.zero_add,Nat.reduceSub,List.replicate,List.cons_append,List.nil_append,List.getElem?_cons_zero,Option.some.injEq,Aq,J8,List.cons.injEq,and_true,S2,nC,Bs,exists_eq_left',kn,true_and]
  refine⟨hz,_,rfl,?_⟩
  cases hc:B1 d with
  |true=>refine it1 (by decide) ?_;exact Fq.of (k1 hc)
  |false=>refine it0 (by decide) ?_;exact⟨szl (by decide),Fx.of (k2 hc)⟩
def spNo(CN:Addr)(n:Nat):DSp:=fun ds G Q E=>∃d r,ds=d::r∧r.length=n∧KnT G 2 d∧SzT d∧B1 d=false∧E (.ref CN) G
abbrev s_straightest:Stmt:=top 43
abbrev Iz:List Str:=["channel", "onward", "fewest", "start", "way", "inward"]
abbrev Bg:List Str:=["channel"]
theorem Ig:FnScope Iz Bg (Ac s_straightest):=⟨rfl,rfl,rfl,by decide +kernel,rfl,by decide +kernel,by decide +kernel⟩
theorem Fj{f CN:Addr}{fd:FuncData}(F:Fun K "straightest" "straightest" s_straightest f fd)(T:Nums mg)(Ac1:Def P w K mg base (CX1 P w) 5 "check_channel" p_check_channel (spCheckX CN)):FnOk P w K mg base (CX1 P w) 6 f fd Bg (Ai K (spNo CN 0)):=by
 refine okX F Ig (fun ds G Q E h=>?_) (fun cdv A outer s H XE ds G Q E hr h hE=>?_)
 ·obtain⟨d,r,rfl,hl,_⟩:=h;simp[hl]
 ·obtain⟨d,r,rfl,hl,kn,hz,hc,k⟩:=h
  obtain rfl:=List.eq_nil_of_length_eq_zero hl
  refine⟨_,(@qss_cons _ _ _ _ _ (@qs_expr _ _ _ _ (@q_call _ _ _ _ _ _ _ _ (Fx E) _ _ _ Ac1 (hr.mono (by decide)) (Ev hE) (@qa_consP _ _ _ _ _ (@q_v1 _ _ 0 _ (by exact⟨rfl,rfl,rfl,rfl⟩)) (@qa_nil _) (by rfl)) (by rfl) (by decide) (by rfl) (by rfl)) (by rfl)) (@Ca _ _)),?_⟩
  simp only[Bh,Ct,Ax,Ag,Ao,Aj,List.map_cons,List.map_nil,List.length_cons,List.length_nil,Nat.zero_add,Nat.reduceAdd,Nat.reduceSub,List.replicate,List.cons_append,List.nil_append,List.getElem?_cons_zero,Option.some.injEq,Aq,exists_eq_left']
  exact⟨d,rfl,kn,hz,fun z=>(by rw[hc] at z;cases z),fun _=>Fx.of k⟩
abbrev s_bar_of:Stmt:=top 47
abbrev Vl:List Str:=["channel", "reached"]
abbrev p_bar_of:List Str:=["channel"]
theorem Qa:FnScope Vl p_bar_of (Ac s_bar_of):=⟨rfl,rfl,rfl,by decide +kernel,rfl,by decide +kernel,by decide +kernel⟩
theorem K3{f CN:Addr}{fd:FuncData}(F:Fun K "bar_of" "bar_of" s_bar_of f fd)(T:Nums mg)(Ac1:Def P w K mg base (CX1 P w) 5 "check_channel" p_check_channel (spCheckX CN)):FnOk P w K mg base (CX1 P w) 6 f fd p_bar_of (Ai K (spNo CN 0)):=by
 refine okX F Qa (fun ds G Q E h=>?_) (fun cdv A outer s H XE ds G Q E hr h hE=>?_)
 ·obtain⟨d,r,rfl,hl,_⟩:=h;simp[hl]
 ·obtain⟨d,r,rfl,hl,kn,hz,hc,k⟩:=h
  obtain rfl:=List.eq_nil_of_length_eq_zero hl
  refine⟨_,(@qss_cons _ _ _ _ _ (@qs_expr _ _ _ _ (@q_call _ _ _ _ _ _ _ _ (Fx E) _ _ _ Ac1 (hr.mono (by decide)) (Ev hE) (@qa_consP _ _ _ _ _ (@q_v1 _ _ 0 _ (by exact⟨rfl,rfl,rfl,rfl⟩)) (@qa_nil _) (by rfl)) (by rfl) (by decide) (by rfl) (by rfl)) (by rfl)) (@Ca _ _)),?_⟩
  simp only[Bh,Ct,Ax,Ag,Ao,Aj,List.map_cons,List.map_nil,List.length_cons,List.length_nil,Nat.zero_add,Nat.reduceAdd,Nat.reduceSub,List.replicate,List.cons_append,List.nil_append,List.getElem?_cons_zero,Option.some.injEq,Aq,exists_eq_left']
  exact⟨d,rfl,kn,hz,fun z=>(by rw[hc] at z;cases z),fun _=>Fx.of k⟩
abbrev s_gates:Stmt:=top 48
abbrev Xl:List Str:=["channel", "reached", "told", "rows", "onward", "passed"]
abbrev p_gates:List Str:=["channel"]
theorem Tw:FnScope Xl p_gates (Ac s_gates):=⟨rfl,rfl,rfl,by decide +kernel,rfl,by decide +kernel,by decide +kernel⟩
theorem Mz{f CN:Addr}{fd:FuncData}(F:Fun K "gates" "gates" s_gates f fd)(T:Nums mg)(Ac1:Def P w K mg base (CX1 P w) 5 "check_channel" p_check_channel (spCheckX CN)):FnOk P w K mg base (CX1 P w) 6 f fd p_gates (Ai K (spNo CN 0)):=by
 refine okX F Tw (fun ds G Q E h=>?_) (fun cdv A outer s H XE ds G Q E hr h hE=>?_)
 ·obtain⟨d,r,rfl,hl,_⟩:=h;simp[hl]
 ·obtain⟨d,r,rfl,hl,kn,hz,hc,k⟩:=h
  obtain rfl:=List.eq_nil_of_length_eq_zero hl
  refine⟨_,(@qss_cons _ _ _ _ _ (@qs_expr _ _ _ _ (@q_call _ _ _ _ _ _ _ _ (Fx E) _ _ _ Ac1 (hr.mono (by decide)) (Ev hE) (@qa_consP _ _ _ _ _ (@q_v1 _ _ 0 _ (by exact⟨rfl,rfl,rfl,rfl⟩)) (@qa_nil _) (by rfl)) (by rfl) (by decide) (by rfl) (by rfl)) (by rfl)) (@Ca _ _)),?_⟩
  simp only[Bh,Ct,Ax,Ag,Ao,Aj,List.map_cons,List.map_nil,List.length_cons,List.length_nil,Nat.zero_add,Nat.reduceAdd,Nat.reduceSub,List.replicate,List.cons_append,List.nil_append,List.getElem?_cons_zero,Option.some.injEq,Aq,exists_eq_left']
  exact⟨d,rfl,kn,hz,fun z=>(by rw[hc] at z;cases z),fun _=>Fx.of k⟩
abbrev s_channel_text:Stmt:=top 52
abbrev Ip:List Str:=["channel"]
abbrev Ba:List Str:=["channel"]
theorem Gg:FnScope Ip Ba (Ac s_channel_text):=⟨rfl,rfl,rfl,by decide +kernel,rfl,by decide +kernel,by decide +kernel⟩
theorem Ep{f CN:Addr}{fd:FuncData}(F:Fun K "channel_text" "channel_text" s_channel_text f fd)(T:Nums mg)(Ac1:Def P w K mg base (CX1 P w) 5 "check_channel" p_check_channel (spCheckX CN)):FnOk P w K mg base (CX1 P w) 6 f fd Ba (Ai K (spNo CN 0)):=by
 refine okX F Gg (fun ds G Q E h=>?_) (fun cdv A outer s H XE ds G Q E hr h hE=>?_)
 ·obtain⟨d,r,rfl,hl,_⟩:=h;simp[hl]
 ·obtain⟨d,r,rfl,hl,kn,hz,hc,k⟩:=h
  obtain rfl:=List.eq_nil_of_length_eq_zero hl
  refine⟨_,(@qss_cons _ _ _ _ _ (@qs_expr _ _ _ _ (@q_call _ _ _ _ _ _ _ _ (Fx E) _ _ _ Ac1 (hr.mono (by decide)) (Ev hE) (@qa_consP _ _ _ _ _ (@q_v1 _ _ 0 _ (by exact⟨rfl,rfl,rfl,rfl⟩)) (@qa_nil _) (by rfl)) (by rfl) (by decide) (by rfl) (by rfl)) (by rfl)) (@Ca _ _)),?_⟩
  simp only[Bh,Ct,Ax,Ag,Ao,Aj,List.map_cons,List.map_nil,List.length_cons,List.length_nil,Nat.zero_add,Nat.reduceSub,List.replicate,List.cons_append,List.nil_append,List.getElem?_cons_zero,Option.some.injEq,Aq,exists_eq_left']
  exact⟨d,rfl,kn,hz,fun z=>(by rw[hc] at z;cases z),fun _=>Fx.of k⟩
abbrev s_is_bar:Stmt:=top 46
abbrev Vk:List Str:=["channel", "thing", "ahead", "rows", "column"]
abbrev p_is_bar:List Str:=["channel", "thing"]
theorem P9:FnScope Vk p_is_bar (Ac s_is_bar):=⟨rfl,rfl,rfl,by decide +kernel,rfl,by decide +kernel,by decide +kernel⟩
theorem K1{f CN:Addr}{fd:FuncData}(F:Fun K "is_bar" "is_bar" s_is_bar f fd)(T:Nums mg)(Ac1:Def P w K mg base (CX1 P w) 5 "check_channel" p_check_channel (spCheckX CN)):FnOk P w K mg base (CX1 P w) 6 f fd p_is_bar (Ai K (spNo CN 1)):=by
 refine okX F P9 (fun ds G Q E h=>?_) (fun cdv A outer s H XE ds G Q E hr h hE=>?_)
 ·obtain⟨d,r,rfl,hl,_⟩:=h;simp[hl]
 ·obtain⟨d,r,rfl,hl,kn,hz,hc,k⟩:=h
  obtain⟨d2,rfl⟩:=List.length_eq_one_iff.mp hl
  refine⟨_,(@qss_cons _ _ _ _ _ (@qs_expr _ _ _ _ (@q_call _ _ _ _ _ _ _ _ (Fx E) _ _ _ Ac1 (hr.mono (by decide)) (Ev hE) (@qa_consP _ _ _ _ _ (@q_v1 _ _ 0 _ (by exact⟨rfl,rfl,rfl,rfl⟩)) (@qa_nil _) (by rfl)) (by rfl) (by decide) (by rfl) (by rfl)) (by rfl)) (@Ca _ _)),?_⟩
  simp only[Bh,Ct,Ax,Ag,Ao,Aj,List.map_cons,List.map_nil,List.length_cons,List.length_nil,Nat.zero_add,Nat.reduceAdd,Nat.reduceSub,List.replicate,List.cons_append,List.nil_append,List.getElem?_cons_zero,Option.some.injEq,Aq,exists_eq_left']
  exact⟨d,rfl,kn,hz,fun z=>(by rw[hc] at z;cases z),fun _=>Fx.of k⟩
end
section
variable{P:Program}{w:World}{K:W.Frag}{mg:Str→Option Value}{base:Heap}
def Ad(c:List Int):D:=.tup (c.map D.int)
def chD(cs:List (List Int)):D:=.tup (cs.map Ad)
theorem Co:∀ns:List Int,Bu (ns.map D.int)=decide (ns.Pairwise (· < ·))
 |[]=>by simp[Bu]
 |[x]=>by simp[Bu]
 |x::y::r=>by
  have ih:=Co (y::r)
  simp only[List.map_cons] at ih
  show(decide (x<y)&&Bu (D.int y::r.map D.int))=_
  rw[ih]
  by_cases h:x<y
  ·rw[decide_eq_true h,Bool.true_and]
   congr 1
   rw[List.pairwise_cons (a:=x)]
   refine propext ⟨fun hp=>⟨fun z hz=>?_,hp⟩,fun hp=>hp.2⟩
   rcases List.mem_cons.mp hz with rfl|hz
   ·exact h
   ·exact Int.lt_trans h ((List.pairwise_cons.mp hp).1 z hz)
  ·rw[decide_eq_false h,Bool.false_and]
   symm
   exact decide_eq_false fun hp=>h ((List.pairwise_cons.mp hp).1 y (by simp))
theorem L7:∀{c:List Int} {lo hi:Int},(∀i∈c,lo≤i∧i≤hi)→c.Pairwise (· < ·)→(c.length:Int)≤max 0 (hi-lo+1)
 |[],lo,hi,_,_=>by simp;omega
 |x::r,lo,hi,h,hp=>by
  obtain⟨h1,h2⟩:=List.pairwise_cons.mp hp
  have hx:=h x (by simp)
  have ih:=L7 (c:=r) (lo:=lo+1) (hi:=hi) (fun i hi'=>⟨by have:=h1 i hi';omega,(h i (by simp[hi'])).2⟩) h2
  rw[List.length_cons];push_cast;omega
def RowOk(c:List Int):Prop:=(∀i∈c,0≤i∧i≤8)∧c.Pairwise (· < ·)
theorem RowOk.len{c:List Int}(h:RowOk c):c.length≤9:=by have:=L7 h.1 h.2;omega
theorem RowOk.nil:RowOk []:=⟨by simp,.nil⟩
theorem RowOk.rows{c:List Int}(h:RowOk c):B6 (Ad c)=true:=by
 show(Pw 0 8 (.tup (c.map D.int)))=true
 simp only[Pw,Bool.and_eq_true]
 refine⟨?_,by rw[Co];exact decide_eq_true h.2⟩
 rw[List.all_map,List.all_eq_true]
 intro i hi
 have:=h.1 i hi
 simp[As,this.1,this.2]
structure ChOk(cs:List (List Int)):Prop where
 lo:2≤cs.length
 hi:cs.length≤16
 rw:∀c∈cs,RowOk c
theorem ChOk.chan{cs:List (List Int)}(h:ChOk cs):B1 (chD cs)=true:=by
 show(decide (2≤(cs.map Ad).length)&&decide ((cs.map Ad).length≤16)&&(cs.map Ad).all B6)=true
 rw[List.length_map,decide_eq_true h.lo,decide_eq_true h.hi,List.all_map]
 simp only[Bool.true_and,List.all_eq_true]
 exact fun c hc=>(h.rw c hc).rows

def nearI(r i:Int):Bool:=decide ((if i-r<0 then -(i-r) else i-r)≤1)
theorem Qg{d:D}(h:B6 d=true):∃c,d=Ad c∧RowOk c:=by
 cases d with
 |tup xs=>
  have h:(xs.all (As 0 8)&&Bu xs)=true:=h
  rw[Bool.and_eq_true] at h
  have e:xs=(xs.map Al).map D.int:=by
   rw[List.map_map]
   refine(List.map_id xs).symm.trans (List.map_congr_left fun x hx=>?_)
   have:=List.all_eq_true.mp h.1 x hx
   cases x with
   |int i=>rfl
   |_=>cases this
  refine⟨xs.map Al,congrArg D.tup e,fun i hi=>?_,?_⟩
  ·obtain⟨x,hx,rfl⟩:=List.mem_map.mp hi
   have:=List.all_eq_true.mp h.1 x hx
   cases x with
   |int i=>
    have:(decide (0≤i)&&decide (i≤8))=true:=this
    simpa[Al] using this
   |_=>cases this
  ·have:=h.2
   rw[e,Co] at this
   exact of_decide_eq_true this
 |_=>cases h
theorem Pp{d:D}(h:B1 d=true):∃cs,d=chD cs∧ChOk cs:=by
 cases d with
 |tup xs=>
  have h:(decide (2≤xs.length)&&decide (xs.length≤16)&&xs.all B6)=true:=h
  simp only[Bool.and_eq_true,decide_eq_true_eq] at h
  have all:∀ys:List D,(∀x∈ys,B6 x=true)→∃cs:List (List Int),ys=cs.map Ad∧∀c∈cs,RowOk c:=fun ys=>by
   induction ys with
   |nil=>exact fun _=>⟨[],rfl,by simp⟩
   |cons y r ih=>
    intro hy
    obtain⟨cs,e,hc⟩:=ih fun x hx=>hy x (List.mem_cons_of_mem _ hx)
    obtain⟨c,e2,ok⟩:=Qg (hy y List.mem_cons_self)
    exact⟨c::cs,by rw[e,e2];rfl,fun z hz=>(List.mem_cons.mp hz).elim (fun q=>q ▸ ok) (hc z)⟩
  obtain⟨cs,rfl,hc⟩:=all xs (List.all_eq_true.mp h.2)
  simp only[List.length_map] at h
  exact⟨cs,rfl,h.1.1,h.1.2,hc⟩
 |_=>cases h
theorem N8{G:Gp}{d:D}{ds:List D}{p:Addr}{o:GO}(h:Aw G d=some ds)(hp:G p=none):Aw (Ab G p o) d=some ds:=by
 cases d<;>first|exact h|skip
 rename_i a
 simp only[Aw] at h ⊢
 split at h
 ·rename_i xs e
  rw[Ae e hp];exact h
 ·cases h
abbrev s_rows_near:Stmt:=top 31
abbrev M7:List Str:=["rows", "row"]
abbrev Bw:List Str:=["rows", "row"]
theorem Kx:FnScope M7 Bw (Ac s_rows_near):=⟨rfl,rfl,rfl,by decide +kernel,rfl,by decide +kernel,by decide +kernel⟩
theorem Ii:((["other"]:List Str)++(["rows", "row"]:List Str)).Nodup:=by decide +kernel
def Nl:DSp:=fun ds G Q _=>∃(d:D) (ns:List Int) (r:Int),ds=[d,.int r]∧Aw G d=some (ns.map D.int)∧ns.length<sizeLine∧∀p,G p=none→Q (.ref p) (Ab G p (.lst ((ns.filter (nearI r)).map D.int)))
theorem Wv{f:Addr}{fd:FuncData}(F:Fun K "rows_near" "rows_near" s_rows_near f fd)(T:Nums mg):FnOk P w K mg base CX0 1 f fd Bw (Ai K Nl):=by
 refine okD F Kx (fun ds G Q E h=>?_) (fun cdv A outer s H XE ds G Q E hr h=>?_)
 ·obtain⟨d,ns,r,rfl,_⟩:=h;rfl
 ·obtain⟨d,ns,r,rfl,hi,hz,k⟩:=h
  refine⟨_,(@qss_one _ _ _ (@qs_ret _ _ _ _ (@q_compz _ _ _ _ _ _ _ _ _ _ _ ["other"] ["rows", "row"] rfl (@compOz _ _ _ _ (by rfl) (by rfl) (by rfl) (by rfl) (by rfl)) (@q_v1 _ _ 0 _ (by exact⟨rfl,rfl,rfl,rfl⟩)) (fun _ _ _=>(@qg_name _ _ 0 _ Ii (by rfl) (by exact .inl rfl) (by exact .inr rfl))) (fun _ _ _=>(@J9 _ _ _ (@qt_cmp _ _ _ _ _ _ _ _ (@o_le _) (@q_callB _ _ _ _ _ _ _ _ _ (@Ls _) (T.blt (by decide)) (by decide +kernel) (@qa_consP _ _ _ _ _ (@q_op _ _ _ _ _ _ _ _ (@o_sub _) (@q_v1 _ _ 0 _ (by exact⟨rfl,rfl,rfl,rfl⟩)) (@q_v2 _ _ 2 _ (by exact⟨rfl,rfl,rfl,rfl⟩))) (@qa_nil _) (by rfl)) (by rfl) (by decide) (by decide) (by rfl) (by rfl)) (@q_int _ _ _ _) (nomark _)))) (fun _ _ _=>(@q_v1 _ _ 0 _ (by exact⟨rfl,rfl,rfl,rfl⟩))) (by intro _ ;rfl)))),?_⟩
  simp only[Bi,Do,Ao,Aj,List.map_cons,List.map_nil,List.length_cons,List.length_nil,Nat.zero_add,Nat.reduceAdd,Nat.reduceSub,List.replicate,List.cons_append,List.nil_append,List.getElem?_cons_zero,Option.some.injEq,exists_eq_left',hi]
  intro p hp
  refine Bv (fun x=>x) (fun x=>nearI r (Al x)) (by simpa using hz) (fun ys=>N8 hi hp) (by decide) (fun x ys hx hl R1 R2 g1 g2=>?_) ?_
  ·obtain⟨i,_,rfl⟩:=List.mem_map.mp hx
   simp only[Bj,nOp,nCB,Ag,Ao,List.replicate,List.cons_append,List.nil_append,List.set_cons_zero,List.getElem?_cons_zero,Option.some.injEq,List.getElem?_cons_succ,dI0,Aq,List.cons.injEq,D.int.injEq,and_true,nC,D.bl.injEq,Aa,hl,Bl,true_and,exists_eq_left',decide_eq_true_eq]
   by_cases h:(if i-r<0 then -(i-r) else i-r)≤1
   ·rw[if_pos h];exact Fg.of (g1 (decide_eq_true h))
   ·rw[if_neg h];exact Fg.of (g2 (decide_eq_false h))
  ·refine Fq.of ?_
   have e:List.map (fun x=>x) (List.filter (fun x=>nearI r (Al x)) (List.map D.int ns))=(ns.filter (nearI r)).map D.int:=by
    rw[List.map_id',List.filter_map];rfl
   rw[e];exact k p hp
def Cp(ps:List (Int×Int)):List (Key×D):=ps.map fun p=>(.inl p.1,.int p.2)
theorem Mq{xs:List D}:Av xs none (some (-1))=xs.dropLast:=by
 unfold Av HT.sIx
 simp only[List.drop_zero,Nat.sub_zero]
 rw[List.dropLast_eq_take]
 congr 1
 simp only[show(-1:Int)<0 by decide,if_true]
 omega
theorem Yz(i z:Int)(ps:List (Int×Int)):∃qs,Py (Cp ps) (.inl i) (.int z)=Cp qs∧qs.length≤ps.length+1:=by
 unfold Py
 split
 ·refine⟨ps.map fun p=>if p.1=i then (p.1,z) else p,?_,by simp⟩
  unfold Cp
  rw[List.map_map,List.map_map]
  refine List.map_congr_left fun p _=>?_
  show(if (Sum.inl p.1:Key)=Sum.inl i then ((Sum.inl p.1:Key),D.int z) else (Sum.inl p.1,D.int p.2))=(Sum.inl (if p.1=i then (p.1,z) else p).1,D.int (if p.1=i then (p.1,z) else p).2)
  by_cases h:p.1=i
  ·rw[if_pos (congrArg Sum.inl h),if_pos h]
  ·rw[if_neg (fun e=>h (Sum.inl.inj e)),if_neg h]
 ·exact⟨ps++[(i,z)],by simp[Cp],by simp⟩
theorem Sn{i:Int}:∀{ps:List (Int×Int)},i∈ps.map (·.1)→∃z,Es (Cp ps) (.inl i:Key)=some (.int z)
 |[],h=>by cases h
 |p::r,h=>by
  by_cases e:p.1=i
  ·exact⟨p.2,by simp[Cp,Es,e]⟩
  ·obtain⟨z,hz⟩:=Sn (ps:=r) ((List.mem_cons.mp h).elim (fun q=>absurd q.symm e) id)
   refine⟨z,?_⟩
   have:Es (Cp (p::r)) (.inl i:Key)=Es (Cp r) (.inl i:Key):=by
    unfold Es Cp
    rw[List.map_cons,List.find?_cons,show decide ((Sum.inl p.1:Key)=Sum.inl i)=false from decide_eq_false fun q=>e (Sum.inl.inj q)]
   rw[this];exact hz
def vI(ps:List (Int×Int))(i:Int):Int:=match Es (Cp ps) (.inl i:Key) with
 |some (.int z)=>z
 |_=>0
theorem vI_is{i:Int}{ps:List (Int×Int)}(h:i∈ps.map (·.1)):Es (Cp ps) (.inl i:Key)=some (.int (vI ps i)):=by
 obtain⟨z,e⟩:=Sn h
 rw[e];simp[vI,e]
theorem Ra(ps:List (Int×Int)):(Cp ps).map (fun q=>kD q.1)=(ps.map (·.1)).map D.int:=by
 unfold Cp;rw[List.map_map,List.map_map];rfl
theorem Jw{p:Addr}{c:List Int}{same:Gp→Prop}{tv:DTE}{σ:DSt}{G:Gp}{Q:DK}(hp:G p=none)(hl:c.length<sizeLine)(hs:∀G',Sub G G'→same G')(hv:∀i∈c,∀G',Sub G G'→∀R:DK,(∀z G2,Sub G' G2→R (.int z) G2)→tv (some (.int i)::σ) G' R)(k:∀ps G',ps.length≤c.length→Sub G G'→G' p=some (.dkk (Cp ps))→Q (.ref p) G') :
  Sk 1 p (c.map D.int) same (A0 0) Dg (Ao 0) tv σ (Ab G p (.dkk [])) Q:=by
 refine⟨fun i kvs G'=>∃ps,kvs=Cp ps∧ps.length≤i∧Sub G G'∧G' p=some (.dkk kvs),⟨[],rfl,Nat.le_refl _,Sub.new hp,Aa⟩,fun i kvs G' _ ⟨ps,_,_,sb,e⟩=>⟨hs G' sb,e⟩,?_,?_⟩
 ·rintro i x kvs G' hx ⟨ps,rfl,hi,sb,e⟩
  rw[List.getElem?_map] at hx
  obtain⟨n,hn,rfl⟩:=Option.map_eq_some_iff.mp hx
  have hil:i<c.length:=by
   rcases Nat.lt_or_ge i c.length with q|q
   ·exact q
   ·rw[List.getElem?_eq_none q] at hn;cases hn
  refine⟨⟨[some (.int n)],rfl,rfl⟩,?_⟩
  unfold Dg
  refine it0 rfl ?_
  refine⟨.int n,rfl,hv n (List.mem_of_getElem? hn) G' sb _ fun z G2 sb2=>⟨.inl n,rfl,sb2 _ _ e,by simp only[Cp,List.length_map];omega,?_⟩⟩
  obtain⟨qs,eq,hq⟩:=Yz n z ps
  rw[eq]
  refine Fg.of ⟨qs,rfl,by omega,fun b o eb=>?_,Aa⟩
  have nb:b≠p:=fun z=>by rw[z,hp] at eb;cases eb
  rw[Am nb];exact sb2 _ _ (sb b o eb)
 ·rintro kvs G' ⟨ps,rfl,hi,sb,e⟩
  exact k ps G' (by simpa using hi) sb e
theorem Jm{α:Type}:∀{xs:List α},xs≠[]→∃i l,xs=i++[l]
 |[],h=>absurd rfl h
 |[x],_=>⟨[],x,rfl⟩
 |x::y::r,_=>by
  obtain⟨i,l,e⟩:=Jm (xs:=y::r) (by simp)
  exact⟨x::i,l,by rw[e];rfl⟩
def OnP(G:Gp)(t:D)(pf:Addr)(i:Nat)(σ:DSt)(G':Gp):Prop:=∃v2 v3 es a ps,σ=[some t,some (.ref pf),v2,v3]∧Sub G G'∧G' pf=some (.lst (es++[.ref a]))∧G' a=some (.dkk (Cp ps))∧ps.length≤9∧es.length≤i
abbrev s_ways_onward:Stmt:=top 34
abbrev Iy:List Str:=["channel", "onward", "rows", "inward"]
abbrev Bf:List Str:=["channel"]
theorem sc_ways_onward:FnScope Iy Bf (Ac s_ways_onward):=⟨rfl,rfl,rfl,by decide +kernel,rfl,by decide +kernel,by decide +kernel⟩
theorem nd_ways_onward_1:((["row"]:List Str)++(["channel", "onward", "rows", "inward"]:List Str)).Nodup:=by decide +kernel
theorem nd_ways_onward_2:((["row"]:List Str)++(["channel", "onward", "rows", "inward"]:List Str)).Nodup:=by decide +kernel
theorem F6:((["other"]:List Str)++(["row", "channel", "onward", "rows", "inward"]:List Str)).Nodup:=by decide +kernel
def Hk:DSp:=fun ds G Q _=>∃cs,ds=[chD cs]∧ChOk cs∧∀p a ps r G',Sub G G'→G' p=some (.lst (.ref a::r))→G' a=some (.dkk (Cp ps))→Q (.ref p) G'
theorem Qq{f:Addr}{fd:FuncData}(F:Fun K "ways_onward" "ways_onward" s_ways_onward f fd)(T:Nums mg)(Adg:Def P w K mg base CX0 1 "rows_near" Bw Nl):FnOk P w K mg base CX0 2 f fd Bf (Ai K Hk):=by
 refine okD F sc_ways_onward (fun ds G Q E h=>?_) (fun cdv A outer s H XE ds G Q E hr h=>?_)
 ·obtain⟨cs,rfl,_⟩:=h;rfl
 ·obtain⟨cs,rfl,ok,k⟩:=h
  refine⟨_,(@qss_cons _ _ _ _ _ (@qs_set _ _ _ _ 1 _ _ sc_ways_onward.nd (@q_lst _ _ _ _ (@qa_consP _ _ _ _ _ (@q_dcomp _ _ _ _ _ _ _ _ _ _ _ _ _ ["row"] ["channel", "onward", "rows", "inward"] rfl (@compOz _ _ _ _ (by rfl) (by rfl) (by rfl) (by rfl) (by rfl)) (@q_ix _ _ _ _ _ _ (@q_v1 _ _ 0 _ (by exact⟨rfl,rfl,rfl,rfl⟩)) (@q_neg _ _ _ _ (@q_int _ _ _ _)) (by intro _ _ ;rfl)) (fun _ _ _=>(@qg_name _ _ 0 _ nd_ways_onward_1 (by rfl) (by exact .inl rfl) (by exact .inr rfl))) (fun _ _ _=>(@qf_nil _)) (fun _ _ _=>(@q_v1 _ _ 0 _ (by exact⟨rfl,rfl,rfl,rfl⟩))) (fun _ _ _=>(@q_int _ _ _ _)) (by intro _ ;rfl)) (@qa_nil _) (by rfl))) (by rfl) (by exact .inl rfl) (by rfl) (by exact .inl rfl)) (@qss_cons _ _ _ _ _ (@qs_forV _ _ _ _ _ _ _ _ _ _ PassesOwn.never rfl (T.blt (by decide)) (@qa_consP _ _ _ _ _ (@q_slice _ _ _ _ _ _ _ _ _ (@q_v1 _ _ 0 _ (by exact⟨rfl,rfl,rfl,rfl⟩)) (@qo_none _) (@qo_some _ _ _ (@q_neg _ _ _ _ (@q_int _ _ _ _)))) (@qa_nil _) (by rfl)) (@qg_name _ _ 2 _ sc_ways_onward.nd (by rfl) (by exact .inl rfl) (by exact .inl rfl)) (@qss_cons _ _ _ _ _ (@qs_set _ _ _ _ 3 _ _ sc_ways_onward.nd (@q_ix _ _ _ _ _ _ (@q_v1 _ _ 1 _ (by exact⟨rfl,rfl,rfl,rfl⟩)) (@q_neg _ _ _ _ (@q_int _ _ _ _)) (by intro _ _ ;rfl)) (by rfl) (by exact .inr rfl) (by rfl) (by exact .inl rfl)) (@qss_one _ _ _ (@qs_expr _ _ _ _ (@q_app _ _ _ _ _ _ _ (@q_v1 _ _ 1 _ (by exact⟨rfl,rfl,rfl,rfl⟩)) (@q_dcomp _ _ _ _ _ _ _ _ _ _ _ _ _ ["row"] ["channel", "onward", "rows", "inward"] rfl (@compOz _ _ _ _ (by rfl) (by rfl) (by rfl) (by rfl) (by rfl)) (@q_v1 _ _ 2 _ (by exact⟨rfl,rfl,rfl,rfl⟩)) (fun _ _ _=>(@qg_name _ _ 0 _ nd_ways_onward_2 (by rfl) (by exact .inl rfl) (by exact .inr rfl))) (fun _ _ _=>(@qf_nil _)) (fun _ _ _=>(@q_v1 _ _ 0 _ (by exact⟨rfl,rfl,rfl,rfl⟩))) (fun _ _ _=>(@q_callB _ _ _ _ _ _ _ _ _ (@c_sumL _ rfl) (T.blt (by decide)) (by decide +kernel) (@qa_consP _ _ _ _ _ (@q_compz _ _ _ _ _ _ _ _ _ _ _ ["other"] ["row", "channel", "onward", "rows", "inward"] rfl (@compOz _ _ _ _ (by rfl) (by rfl) (by rfl) (by rfl) (by rfl)) (@q_call _ _ _ _ _ _ _ _ noX _ _ _ Adg (hr.mono (by decide)) (@passN _ _) (@qa_consP _ _ _ _ _ (@q_callTy _ _ _ _ _ _ _ _ _ (@Xi _ rfl) (T.blt (by decide)) (by decide +kernel) (@qa_consP _ _ _ _ _ (@q_v2 _ _ 4 _ (by exact⟨rfl,rfl,rfl,rfl⟩)) (@qa_nil _) (by rfl)) (by rfl) (by decide) (by decide) (by rfl) (by rfl)) (@qa_consP _ _ _ _ _ (@q_v1 _ _ 0 _ (by exact⟨rfl,rfl,rfl,rfl⟩)) (@qa_nil _) (by rfl)) (by rfl)) (by rfl) (by decide) (by rfl) (by rfl)) (fun _ _ _=>(@qg_name _ _ 0 _ F6 (by rfl) (by exact .inl rfl) (by exact .inr rfl))) (fun _ _ _=>(@qf_nil _)) (fun _ _ _=>(@Ys _ _ _ _ _ _ (@q_v2 _ _ 5 _ (by exact⟨rfl,rfl,rfl,rfl⟩)) (@q_v1 _ _ 0 _ (by exact⟨rfl,rfl,rfl,rfl⟩)) (by intro _ _ ;rfl))) (by intro _ ;rfl)) (@qa_nil _) (by rfl)) (by rfl) (by decide) (by decide) (by rfl) (by rfl))) (by intro _ ;rfl)) (by rfl) (by rfl) (by rfl) (by rfl) (by rfl)) (by rfl)))) (by rfl) (by rfl) (by intro _ ;rfl)) (@qss_cons _ _ _ _ _ (@qs_expr _ _ _ _ (@Yr _ _ _ _ _ (@q_v1 _ _ 1 _ (by exact⟨rfl,rfl,rfl,rfl⟩)) (by rfl) (by rfl)) (by rfl)) (@qss_one _ _ _ (@qs_ret _ _ _ _ (@q_v1 _ _ 1 _ (by exact⟨rfl,rfl,rfl,rfl⟩))))))),?_⟩
  have ne:cs≠[]:=fun e=>by have:=ok.lo;rw[e] at this;simp at this
  obtain⟨init,c,rfl⟩:=Jm ne
  have ci:=ok.rw c (by simp)
  have e1:Ey G (chD (init++[c])) (-1)=some (Ad c):=by
   show atI ((init++[c]).map Ad) (-1)=_
   rw[List.map_append];exact Mt _ _
  have e2:Av ((init++[c]).map Ad) none (some (-1))=init.map Ad:=by rw[Mq];simp
  have sml:∀{n:Nat},n≤100→n<sizeLine:=fun h=>Nat.lt_of_le_of_lt h (Bo (by decide))
  simp only[Bh,B9,Dj,Ag,Nt,nOp,Ao,Aj,List.map_cons,List.map_nil,List.length_cons,List.length_nil,Nat.zero_add,Nat.reduceAdd,Nat.reduceSub,List.replicate,List.cons_append,List.nil_append,List.getElem?_cons_zero,Option.some.injEq,J4,nC,D.int.injEq,dIx,Aq,A0,Xw,nSl,List.set_cons_succ,List.set_cons_zero,Cn,Ga,List.cons.injEq,and_true,exists_eq_left',Int.reduceNeg,e1]
  refine⟨c.map D.int,rfl,fun p hp=>Jw hp (sml (by have:=ci.len;omega)) (fun _ _=>rfl) (fun i _ G' sb R h=>h 1 G' (Sub.refl _)) fun ps G1 hl sb e=>?_⟩
  refine⟨szl (by decide),fun pf hf=>?_⟩
  have f1:Ab G1 pf (.lst [.ref p]) pf=some (.lst ([]++[.ref p])):=Aa
  have g1:=Ae (u:=.lst [.ref p]) e hf
  have fz:=sb.none hf
  have sb1:Sub G (Ab G1 pf (.lst [.ref p])):=sb.skip hf
  generalize Ab G1 pf (.lst [.ref p])=G2 at *
  unfold chD
  rw[E4,e2]
  refine⟨init.map Ad,rfl,?_⟩
  have hil:init.length≤16:=by have:=ok.hi;simp at this;omega
  refine Cf (OnP G (.tup ((init++[c]).map Ad)) pf) ⟨none,none,[],p,ps,rfl,sb1,f1,g1,by have:=ci.len;omega,Nat.le_refl _⟩ (fun _ _ _ _ _=>trivial) ?_ ?_
  ·rintro i x σ G3 hx ⟨v2,v3,es,a,qs,rfl,s3,f3,g3,hq,he⟩
   have hi:i<init.length:=by
    rcases Nat.lt_or_ge i init.length with z|z
    ·exact z
    ·rw[List.getElem?_eq_none (by simpa using z)] at hx;cases hx
   obtain⟨b,hb,rfl⟩:=List.mem_map.mp (List.mem_reverse.mp (List.mem_of_getElem? hx))
   have bi:=ok.rw b (by simp[hb])
   have e3:Ey G3 (.ref pf) (-1)=some (.ref a):=by rw[A7 f3];exact Mt _ _
   simp only[A0,Bh,B9,nOp,Ao,List.set_cons_succ,List.set_cons_zero,List.getElem?_cons_succ,List.getElem?_cons_zero,Option.some.injEq,J4,nC,D.int.injEq,dIx,Ct,Rw,Nt,exists_eq_left',D.ref.injEq,f3,GO.lst.injEq,Int.reduceNeg,e3]
   refine⟨⟨_,rfl⟩,b.map D.int,rfl,fun p2 hp2=>Jw hp2 (sml (by have:=bi.len;omega)) (fun _ _=>rfl) (fun j hj G4 s4 R h=>?_) fun rs G4 hl4 s4 e4=>?_⟩
   ·have g4:=s4 _ _ g3
    simp only[nCB,Ag,Do,Ax,Ao,List.getElem?_cons_succ,List.getElem?_cons_zero,Option.some.injEq,Aq,List.cons.injEq,and_true,exists_eq_left',D.ref.injEq,g4]
    refine⟨_,rfl,fun l hl=>?_⟩
    rw[Ra]
    have f5:Ab G4 l (.lst ((qs.map (·.1)).map D.int)) l=some (.lst ((qs.map (·.1)).map D.int)):=Aa
    have s5:Sub G4 (Ab G4 l (.lst ((qs.map (·.1)).map D.int))):=Sub.new hl
    generalize Ab G4 l (.lst ((qs.map (·.1)).map D.int))=G5 at *
    refine⟨.ref l,qs.map (·.1),j,rfl,A9 f5,sml (by simp;omega),fun m hm=>?_⟩
    have f6:Ab G5 m (.lst (((qs.map (·.1)).filter (nearI j)).map D.int)) m=some (.lst (((qs.map (·.1)).filter (nearI j)).map D.int)):=Aa
    have s6:Sub G4 (Ab G5 m (.lst (((qs.map (·.1)).filter (nearI j)).map D.int))):=s5.skip hm
    generalize Ab G5 m (.lst (((qs.map (·.1)).filter (nearI j)).map D.int))=G6 at *
    have mem:∀i∈(qs.map (·.1)).filter (nearI j),i∈qs.map (·.1):=fun i hi=>(List.mem_filter.mp hi).1
    have lq:((qs.map (·.1)).filter (nearI j)).length≤100:=Nat.le_trans (List.length_filter_le _ _) (by simp;omega)
    generalize (qs.map (·.1)).filter (nearI j)=ks at *
    refine⟨ks.map D.int,A9 f6,fun p3 hp3=>?_⟩
    have g6:=s6 _ _ g4
    refine Bv (fun x=>.int (vI qs (Al x))) (fun _=>true) (by simpa using sml lq) (fun ys=>A9 (Ae f6 hp3)) (by decide) (fun x ys hx hl R1 R2 g1 _=>?_) ?_
    ·obtain⟨i,hi,rfl⟩:=List.mem_map.mp hx
     have ga:Ab G6 p3 (.lst ys) a=some (.dkk (Cp qs)):=Ae g6 hp3
     simp only[Dg,Xv,Ao,List.replicate,List.cons_append,List.nil_append,List.set_cons_zero,List.getElem?_cons_succ,List.getElem?_cons_zero,Option.some.injEq,Rz,Aa,hl,Bl,true_and,exists_eq_left',D.ref.injEq,ga,if_true]
     refine⟨_,rfl,_,vI_is (mem i hi),Fg.of (g1 rfl)⟩
    ·refine⟨p3,rfl,ks.map (vI qs),by rw[Aa,Cj,List.map_map,List.map_map];rfl,h _ _ (s6.skip hp3)⟩
   ·have f4:=s4 _ _ f3
    refine⟨es++[.ref a],f4,by simp;exact sml (by omega),Fs.of ⟨_,_,es++[.ref a],p2,rs,rfl,fun b o eb=>?_,Aa,?_,by have:=bi.len;omega,by simp;omega⟩⟩
    ·have nb:b≠pf:=fun z=>by rw[z,fz] at eb;cases eb
     rw[Am nb];exact s4 _ _ (s3 b o eb)
    ·have n2:p2≠pf:=fun z=>by rw[z] at hp2;rw[f3] at hp2;cases hp2
     rw[Am n2];exact e4
  ·rintro σ G3 ⟨v2,v3,es,a,qs,rfl,s3,f3,g3,hq,he⟩
   simp only[Bh,Ct,Xu,Ao,List.getElem?_cons_succ,List.getElem?_cons_zero,Option.some.injEq,Bi,exists_eq_left',D.ref.injEq,f3,GO.lst.injEq]
   have na:a≠pf:=fun z=>by rw[z,f3] at g3;cases g3
   refine Fq.of (k pf a qs es.reverse _ (fun b o eb=>?_) (by rw[Aa];simp) (by rw[Am na];exact g3))
   have nb:b≠pf:=fun z=>by rw[z,fz] at eb;cases eb
   rw[Am nb];exact s3 b o eb
end
section
variable{P:Program}{w:World}{K:W.Frag}{mg:Str→Option Value}{base:Heap}
abbrev s_many_ways:Stmt:=top 36
abbrev M8:List Str:=["channel"]
abbrev p_many_ways:List Str:=["channel"]
theorem Ky:FnScope M8 p_many_ways (Ac s_many_ways):=⟨rfl,rfl,rfl,by decide +kernel,rfl,by decide +kernel,by decide +kernel⟩
def spMany(CN:Addr):DSp:=fun ds G Q E=>∃d,ds=[d]∧KnT G 2 d∧SzT d∧(B1 d=true→∀n G',Sub G G'→Q (.int n) G')∧(B1 d=false→E (.ref CN) G)
theorem Ww{f CN:Addr}{fd:FuncData}(F:Fun K "many_ways" "many_ways" s_many_ways f fd)(T:Nums mg)(Ac1:Def P w K mg base (CX1 P w) 5 "check_channel" p_check_channel (spCheckX CN))(Adh:Def P w K mg base CX0 2 "ways_onward" Bf Hk):FnOk P w K mg base (CX1 P w) 6 f fd p_many_ways (Ai K (spMany CN)):=by
 refine okX F Ky (fun ds G Q E h=>?_) (fun cdv A outer s H XE ds G Q E hr h hE=>?_)
 ·obtain⟨d,rfl,_⟩:=h;rfl
 ·obtain⟨d,rfl,kn,hz,k1,k2⟩:=h
  refine⟨_,(@qss_cons _ _ _ _ _ (@qs_expr _ _ _ _ (@q_call _ _ _ _ _ _ _ _ (Fx E) _ _ _ Ac1 (hr.mono (by decide)) (Ev hE) (@qa_consP _ _ _ _ _ (@q_v1 _ _ 0 _ (by exact⟨rfl,rfl,rfl,rfl⟩)) (@qa_nil _) (by rfl)) (by rfl) (by decide) (by rfl) (by rfl)) (by rfl)) (@qss_one _ _ _ (@qs_ret _ _ _ _ (@Yq _ _ _ _ _ _ _ rfl (T.blt (by decide)) (@q_ix _ _ _ _ _ _ (@q_call _ _ _ _ _ _ _ _ noX _ _ _ Adh (hr.mono (by decide)) (@passN _ _) (@qa_consP _ _ _ _ _ (@q_v1 _ _ 0 _ (by exact⟨rfl,rfl,rfl,rfl⟩)) (@qa_nil _) (by rfl)) (by rfl) (by decide) (by rfl) (by rfl)) (@q_int _ _ _ _) (by intro _ _ ;rfl)) (by rfl) (by rfl) (by rfl) (by rfl) (by rfl))))),?_⟩
  simp only[Bh,Ct,Ax,Ag,Ao,Aj,List.map_cons,List.map_nil,List.length_cons,List.length_nil,Nat.zero_add,Nat.reduceSub,List.replicate,List.cons_append,List.nil_append,List.getElem?_cons_zero,Option.some.injEq,Aq,Bi,Xt,nOp,nC,dIx,D.int.injEq,exists_eq_left']
  refine⟨d,rfl,kn,hz,fun hc=>?_,fun hc=>Fx.of (k2 hc)⟩
  obtain⟨cs,rfl,ok⟩:=Pp hc
  refine⟨cs,rfl,ok,fun p a ps r G' sb f g=>⟨.ref a,by rw[A7 f];exact atI0,a,rfl,Cp ps,g,ps.map (·.2),by simp[Cp],Fq.of (k1 hc _ G' sb)⟩⟩
abbrev s_least_way:Stmt:=top 40
abbrev M9:List Str:=["channel"]
abbrev p_least_way:List Str:=["channel"]
theorem Kz:FnScope M9 p_least_way (Ac s_least_way):=⟨rfl,rfl,rfl,by decide +kernel,rfl,by decide +kernel,by decide +kernel⟩
theorem My{f CN:Addr}{fd:FuncData}(F:Fun K "least_way" "least_way" s_least_way f fd)(T:Nums mg)(Ac2:Def P w K mg base (CX1 P w) 6 "many_ways" p_many_ways (spMany CN)):FnOk P w K mg base (CX1 P w) 7 f fd p_least_way (Ai K (spNo CN 0)):=by
 refine okX F Kz (fun ds G Q E h=>?_) (fun cdv A outer s H XE ds G Q E hr h hE=>?_)
 ·obtain⟨d,r,rfl,hl,_⟩:=h;simp[hl]
 ·obtain⟨d,r,rfl,hl,kn,hz,hc,k⟩:=h
  obtain rfl:=List.eq_nil_of_length_eq_zero hl
  refine⟨_,(@qss_cons _ _ _ _ _ (@qs_if _ _ _ _ _ _ _ _ (@qt_cmp _ _ _ _ _ _ _ _ (@o_eq _) (@q_call _ _ _ _ _ _ _ _ (Fx E) _ _ _ Ac2 (hr.mono (by decide)) (Ev hE) (@qa_consP _ _ _ _ _ (@q_v1 _ _ 0 _ (by exact⟨rfl,rfl,rfl,rfl⟩)) (@qa_nil _) (by rfl)) (by rfl) (by decide) (by rfl) (by rfl)) (@q_int _ _ _ _) (nomark _)) (@Ca _ _) (@qss_nil _)) (@Ca _ _)),?_⟩
  simp only[Bh,C5,Bj,nOp,Ax,Ag,Ao,Aj,List.map_cons,List.map_nil,List.length_cons,List.length_nil,Nat.zero_add,Nat.reduceSub,List.replicate,List.cons_append,List.nil_append,List.getElem?_cons_zero,Option.some.injEq,Aq,nC,dEq,eqS,D.bl.injEq,Bs,exists_eq_left']
  exact⟨d,rfl,kn,hz,fun z=>(by rw[hc] at z;cases z),fun _=>Fx.of k⟩
abbrev s_way_at:Stmt:=top 39
abbrev Vh:List Str:=["channel", "place"]
abbrev p_way_at:List Str:=["channel", "place"]
theorem P6:FnScope Vh p_way_at (Ac s_way_at):=⟨rfl,rfl,rfl,by decide +kernel,rfl,by decide +kernel,by decide +kernel⟩
theorem Um{f CN:Addr}{fd:FuncData}(F:Fun K "way_at" "way_at" s_way_at f fd)(T:Nums mg)(Ac2:Def P w K mg base (CX1 P w) 6 "many_ways" p_many_ways (spMany CN))(Ac4:Def P w K mg base CX0 1 "is_whole_within" Au C8):FnOk P w K mg base (CX1 P w) 7 f fd p_way_at (Ai K (spNo CN 1)):=by
 refine okX F P6 (fun ds G Q E h=>?_) (fun cdv A outer s H XE ds G Q E hr h hE=>?_)
 ·obtain⟨d,r,rfl,hl,_⟩:=h;simp[hl]
 ·obtain⟨d,r,rfl,hl,kn,hz,hc,k⟩:=h
  obtain⟨d2,rfl⟩:=List.length_eq_one_iff.mp hl
  refine⟨_,(@qss_cons _ _ _ _ _ (@qs_if _ _ _ _ _ _ _ _ (@qt_not _ _ _ _ (@qt_tru _ _ _ (@q_call _ _ _ _ _ _ _ _ noX _ _ _ Ac4 (hr.mono (by decide)) (@passN _ _) (@qa_consP _ _ _ _ _ (@q_v1 _ _ 1 _ (by exact⟨rfl,rfl,rfl,rfl⟩)) (@qa_consP _ _ _ _ _ (@q_int _ _ _ _) (@qa_consP _ _ _ _ _ (@q_op _ _ _ _ _ _ _ _ (@o_sub _) (@q_call _ _ _ _ _ _ _ _ (Fx E) _ _ _ Ac2 (hr.mono (by decide)) (Ev hE) (@qa_consP _ _ _ _ _ (@q_v1 _ _ 0 _ (by exact⟨rfl,rfl,rfl,rfl⟩)) (@qa_nil _) (by rfl)) (by rfl) (by decide) (by rfl) (by rfl)) (@q_int _ _ _ _)) (@qa_nil _) (by rfl)) (by rfl)) (by rfl)) (by rfl) (by decide) (by rfl) (by rfl)) (by intro _ ;rfl))) (@Ca _ _) (@qss_nil _)) (@Ca _ _)),?_⟩
  simp only[Bh,C5,Ec,Eb,Ax,Ag,Ao,Aj,List.map_cons,List.map_nil,List.length_cons,List.length_nil,Nat.zero_add,Nat.reduceAdd,Nat.reduceSub,List.replicate,List.cons_append,List.nil_append,List.getElem?_cons_succ,List.getElem?_cons_zero,Option.some.injEq,nC,nOp,Aq,dI0,D.int.injEq,Bs,exists_eq_left']
  exact⟨d,rfl,kn,hz,fun z=>(by rw[hc] at z;cases z),fun _=>Fx.of k⟩
abbrev s_is_row:Stmt:=top 27
abbrev Vj:List Str:=["thing"]
abbrev Cy:List Str:=["thing"]
theorem P8:FnScope Vj Cy (Ac s_is_row):=⟨rfl,rfl,rfl,by decide +kernel,rfl,by decide +kernel,by decide +kernel⟩
def Op:DSp:=fun ds G Q _=>∃d,ds=[d]∧Kn G d∧Q (.bl (As 0 8 d)) G
theorem Zp{f:Addr}{fd:FuncData}(F:Fun K "is_row" "is_row" s_is_row f fd)(T:Nums mg)(Ac4:Def P w K mg base CX0 1 "is_whole_within" Au C8):FnOk P w K mg base CX0 2 f fd Cy (Ai K Op):=by
 refine okD F P8 (fun ds G Q E h=>?_) (fun cdv A outer s H XE ds G Q E hr h=>?_)
 ·obtain⟨d,rfl,_⟩:=h;rfl
 ·obtain⟨d,rfl,kn,k⟩:=h
  refine⟨_,(@qss_one _ _ _ (@qs_ret _ _ _ _ (@q_call _ _ _ _ _ _ _ _ noX _ _ _ Ac4 (hr.mono (by decide)) (@passN _ _) (@qa_consP _ _ _ _ _ (@q_v1 _ _ 0 _ (by exact⟨rfl,rfl,rfl,rfl⟩)) (@qa_consP _ _ _ _ _ (@q_int _ _ _ _) (@qa_consP _ _ _ _ _ (@q_globx _ _ _ _ T.LAST_ROW (by rfl) (by decide)) (@qa_nil _) (by rfl)) (by rfl)) (by rfl)) (by rfl) (by decide) (by rfl) (by rfl)))),?_⟩
  simp only[Bi,Ax,Ag,Ao,Aj,List.map_cons,List.map_nil,List.length_cons,List.length_nil,Nat.zero_add,Nat.reduceSub,List.replicate,List.cons_append,List.nil_append,List.getElem?_cons_zero,Option.some.injEq,nC,Aq,C8,List.cons.injEq,D.int.injEq,and_true,and_assoc,exists_and_left,exists_eq_left',kn,true_and]
  exact Fq.of k
end
section
variable{P:Program}{w:World}{K:W.Frag}{mg:Str→Option Value}{base:Heap}
def inB:D→Bool
 |.tup [u,.tup vs]=>As 0 8 u&&decide (Al u∈vs.map Al)
 |_=>false
def Ew:D→Bool
 |.tup [u,v]=>nearI (Al u) (Al v)
 |_=>false
def X2(cs:List (List Int)):D→Bool
 |.tup ys=>decide (ys.length=cs.length)&&((Bb [ys,cs.map Ad]).all inB&&(Bb [ys,ys.drop 1]).all Ew)
 |_=>false
theorem Cw{G:Gp}:∀{ns:List Int},RepDs G (ns.map D.int) (ns.map PyData.int)
 |[]=>.nil
 |n::r=>.cons (.int n) Cw
theorem C0:∀ns:List Int,PyData.canLayAll0 (ns.map PyData.int)=true
 |[]=>rfl
 |n::r=>by rw[List.map_cons,PyData.canLayAll0,C0 r];rfl
theorem C2:∀ns:List Int,PyData.depthAll (ns.map PyData.int)=0
 |[]=>rfl
 |n::r=>by rw[List.map_cons,PyData.depthAll,C2 r];rfl
theorem Mu(i:Int):∀ns:List Int,((ns.map PyData.int).any fun y=>PyData.eqv y (.int i))=decide (i∈ns)
 |[]=>by simp
 |n::r=>by
  rw[List.map_cons,List.any_cons,Mu i r]
  show((n == i)||decide (i∈r))=_
  by_cases h:n=i
  ·subst h;simp
  ·have h':¬i=n:=fun e=>h e.symm
   simp[h,h']
theorem S5{G:Gp}{i:Int}{ns:List Int}{neg:Bool}{Q:DK}(h:Q (.bl (if neg then !decide (i∈ns) else decide (i∈ns))) G):X7 neg (.int i) (.tup (ns.map D.int)) G Q:=
 ⟨.int i,ns.map PyData.int,.int i,.inr (.tup Cw),rfl,C0 ns,by rw[C2];exact Nat.le_trans (show 1+min 0 _≤1 by omega) (by decide),by rw[Mu];exact h⟩
theorem Jt(c:List Int):(c.map D.int).map Al=c:=by rw[List.map_map];exact List.map_id c
abbrev s_is_way:Stmt:=top 35
abbrev Vi:List Str:=["channel", "thing"]
abbrev p_is_way:List Str:=["channel", "thing"]
theorem P7:FnScope Vi p_is_way (Ac s_is_way):=⟨rfl,rfl,rfl,by decide +kernel,rfl,by decide +kernel,by decide +kernel⟩
theorem nd_is_way_1:((["row", "rows"]:List Str)++(["channel", "thing"]:List Str)).Nodup:=by decide +kernel
theorem Gd:((["ahead", "row"]:List Str)++(["channel", "thing"]:List Str)).Nodup:=by decide +kernel
def spWayX(CN:Addr):DSp:=fun ds G Q E=>∃c d,ds=[c,d]∧KnT G 2 c∧SzT c∧(B1 c=false→E (.ref CN) G)∧∀cs,c=chD cs→ChOk cs→KnT G 1 d∧(∀xs,d=.tup xs→xs.length<sizeLine)∧Q (.bl (X2 cs d)) G
theorem Wp{f CN:Addr}{fd:FuncData}(F:Fun K "is_way" "is_way" s_is_way f fd)(T:Nums mg)(Ac1:Def P w K mg base (CX1 P w) 5 "check_channel" p_check_channel (spCheckX CN))(Adi:Def P w K mg base CX0 2 "is_row" Cy Op):FnOk P w K mg base (CX1 P w) 6 f fd p_is_way (Ai K (spWayX CN)):=by
 refine okX F P7 (fun ds G Q E h=>?_) (fun cdv A outer s H XE ds G Q E hr h hE=>?_)
 ·obtain⟨c,d,rfl,_⟩:=h;rfl
 ·obtain⟨c,d,rfl,kn,hz,k2,k1⟩:=h
  refine⟨_,(@qss_cons _ _ _ _ _ (@qs_expr _ _ _ _ (@q_call _ _ _ _ _ _ _ _ (Fx E) _ _ _ Ac1 (hr.mono (by decide)) (Ev hE) (@qa_consP _ _ _ _ _ (@q_v1 _ _ 0 _ (by exact⟨rfl,rfl,rfl,rfl⟩)) (@qa_nil _) (by rfl)) (by rfl) (by decide) (by rfl) (by rfl)) (by rfl)) (@qss_cons _ _ _ _ _ (@qs_if _ _ _ _ _ _ _ _ (@qt_of _ _ _ (@qw_or _ _ _ _ _ _ _ (@qt_not _ _ _ _ (@qt_tru _ _ _ (@q_callB _ _ _ _ _ _ _ _ _ (@c_isinst _) (T.blt (by decide)) (by decide +kernel) (@qa_consP _ _ _ _ _ (@q_v1 _ _ 1 _ (by exact⟨rfl,rfl,rfl,rfl⟩)) (@qa_consP _ _ _ _ _ (@q_globty _ _ _ "tuple" (T.blt (by decide)) (by decide +kernel) (by rfl) (by decide) (by decide)) (@qa_nil _) (by rfl)) (by rfl)) (by rfl) (by decide) (by decide) (by rfl) (by rfl)) (by intro _ ;rfl))) (@qw_or1 _ _ _ _ (@qt_cmp _ _ _ _ _ _ _ _ (@o_ne _) (@q_callB _ _ _ _ _ _ _ _ _ (@c_len _) (T.blt (by decide)) (by decide +kernel) (@qa_consP _ _ _ _ _ (@q_v1 _ _ 1 _ (by exact⟨rfl,rfl,rfl,rfl⟩)) (@qa_nil _) (by rfl)) (by rfl) (by decide) (by decide) (by rfl) (by rfl)) (@q_callB _ _ _ _ _ _ _ _ _ (@c_len _) (T.blt (by decide)) (by decide +kernel) (@qa_consP _ _ _ _ _ (@q_v1 _ _ 0 _ (by exact⟨rfl,rfl,rfl,rfl⟩)) (@qa_nil _) (by rfl)) (by rfl) (by decide) (by decide) (by rfl) (by rfl)) (nomark _))))) (@qss_one _ _ _ (@qs_ret _ _ _ _ (@q_bl _ _ _ _))) (@qss_nil _)) (@qss_cons _ _ _ _ _ (@qs_if _ _ _ _ _ _ _ _ (@qt_not _ _ _ _ (@qt_tru _ _ _ (@q_callB _ _ _ _ _ _ _ _ _ (@c_all _ rfl) (T.blt (by decide)) (by decide +kernel) (@qa_consP _ _ _ _ _ (@q_compzZ2 _ _ _ _ _ _ _ _ ["row", "rows"] ["channel", "thing"] _ _ _ _ _ _ _ _ rfl (@compOz _ _ _ _ (by rfl) (by rfl) (by rfl) (by rfl) (by rfl)) (T.blt (by decide)) (@qa_consP _ _ _ _ _ (@q_v1 _ _ 1 _ (by exact⟨rfl,rfl,rfl,rfl⟩)) (@qa_consP _ _ _ _ _ (@q_v1 _ _ 0 _ (by exact⟨rfl,rfl,rfl,rfl⟩)) (@qa_nil _) (by rfl)) (by rfl)) (fun _ _ _=>(@qg_tup _ _ _ _ _ 2 rfl (@qgs_cons _ _ _ _ _ (@qg_name _ _ 0 _ nd_is_way_1 (by rfl) (by exact .inl rfl) (by exact .inr rfl)) (@qgs_cons _ _ _ _ _ (@qg_name _ _ 1 _ nd_is_way_1 (by rfl) (by exact .inl rfl) (by exact .inr rfl)) (@qgs_nil _) (by rfl)) (by rfl)) (by rfl) (by rfl))) (fun _ _ _=>(@qf_nil _)) (fun _ _ _=>(@q_and _ _ _ _ _ _ _ (@q_call _ _ _ _ _ _ _ _ noX _ _ _ Adi (hr.mono (by decide)) (@passN _ _) (@qa_consP _ _ _ _ _ (@q_v1 _ _ 0 _ (by exact⟨rfl,rfl,rfl,rfl⟩)) (@qa_nil _) (by rfl)) (by rfl) (by decide) (by rfl) (by rfl)) (@q_one _ _ _ _ _ (@q_cmp _ _ _ _ _ _ _ _ (@o_inD _ _ hr) (@q_v1 _ _ 0 _ (by exact⟨rfl,rfl,rfl,rfl⟩)) (@q_v1 _ _ 1 _ (by exact⟨rfl,rfl,rfl,rfl⟩)) (by with_unfolding_all rfl))))) (by rfl) (by rfl) (by rfl) (by intro _ ;rfl)) (@qa_nil _) (by rfl)) (by rfl) (by decide) (by decide) (by rfl) (by rfl)) (by intro _ ;rfl))) (@qss_one _ _ _ (@qs_ret _ _ _ _ (@q_bl _ _ _ _))) (@qss_nil _)) (@qss_one _ _ _ (@qs_ret _ _ _ _ (@q_callB _ _ _ _ _ _ _ _ _ (@c_all _ rfl) (T.blt (by decide)) (by decide +kernel) (@qa_consP _ _ _ _ _ (@q_compzZ2 _ _ _ _ _ _ _ _ ["ahead", "row"] ["channel", "thing"] _ _ _ _ _ _ _ _ rfl (@compOz _ _ _ _ (by rfl) (by rfl) (by rfl) (by rfl) (by rfl)) (T.blt (by decide)) (@qa_consP _ _ _ _ _ (@q_v1 _ _ 1 _ (by exact⟨rfl,rfl,rfl,rfl⟩)) (@qa_consP _ _ _ _ _ (@q_slice _ _ _ _ _ _ _ _ _ (@q_v1 _ _ 1 _ (by exact⟨rfl,rfl,rfl,rfl⟩)) (@qo_some _ _ _ (@q_int _ _ _ _)) (@qo_none _)) (@qa_nil _) (by rfl)) (by rfl)) (fun _ _ _=>(@qg_tup _ _ _ _ _ 2 rfl (@qgs_cons _ _ _ _ _ (@qg_name _ _ 0 _ Gd (by rfl) (by exact .inl rfl) (by exact .inr rfl)) (@qgs_cons _ _ _ _ _ (@qg_name _ _ 1 _ Gd (by rfl) (by exact .inl rfl) (by exact .inr rfl)) (@qgs_nil _) (by rfl)) (by rfl)) (by rfl) (by rfl))) (fun _ _ _=>(@qf_nil _)) (fun _ _ _=>(@q_cmp _ _ _ _ _ _ _ _ (@o_le _) (@q_callB _ _ _ _ _ _ _ _ _ (@Ls _) (T.blt (by decide)) (by decide +kernel) (@qa_consP _ _ _ _ _ (@q_op _ _ _ _ _ _ _ _ (@o_sub _) (@q_v1 _ _ 1 _ (by exact⟨rfl,rfl,rfl,rfl⟩)) (@q_v1 _ _ 0 _ (by exact⟨rfl,rfl,rfl,rfl⟩))) (@qa_nil _) (by rfl)) (by rfl) (by decide) (by decide) (by rfl) (by rfl)) (@q_int _ _ _ _) (nomark _))) (by rfl) (by rfl) (by rfl) (by intro _ ;rfl)) (@qa_nil _) (by rfl)) (by rfl) (by decide) (by decide) (by rfl) (by rfl))))))),?_⟩
  simp only[Bh,Ct,Ax,Ag,Ao,Aj,List.map_cons,List.map_nil,List.length_cons,List.length_nil,Nat.zero_add,Nat.reduceAdd,Nat.reduceSub,List.replicate,List.cons_append,List.nil_append,List.getElem?_cons_zero,Option.some.injEq,Aq,C5,nOr,Ec,Eb,nCB,List.getElem?_cons_succ,nC,List.cons.injEq,D.ty.injEq,and_true,Bi,Bs,Km,nSl,Ga,D.int.injEq,Cn,true_and,exists_eq_left',if_true,Bj,nOp,dNe,eqS,D.bl.injEq,and_assoc,exists_and_left,B7]
  refine⟨c,rfl,kn,hz,fun hc=>?_,fun hc=>Fx.of (k2 hc)⟩
  obtain⟨cs,rfl,ok⟩:=Pp hc
  obtain⟨kd,sd,k⟩:=k1 cs rfl ok
  obtain⟨t,ht⟩:=kd.kn
  refine⟨t,ht,pyIs t "tuple",rfl,?_⟩
  by_cases htt:t = "tuple"
  ·subst htt
   obtain⟨xs,rfl⟩:=Fp ht
   refine it1 (by decide) ?_
   have lch:Fo G (chD cs)=some cs.length:=by simp[chD,Fo]
   simp only[Gv,Option.some.injEq,lch,E4,exists_eq_left']
   have k2:Q (.bl (decide (xs.length=cs.length)&&((Bb [xs,cs.map Ad]).all inB&&(Bb [xs,xs.drop 1]).all Ew))) G:=k
   by_cases hlen:xs.length=cs.length
   ·refine it1 (by simp[hlen]) ⟨[xs,cs.map Ad],rfl,fun p hp=>?_⟩
    rw[decide_eq_true hlen,Bool.true_and] at k2
    have hs:=sd xs rfl
    have h16:=ok.hi
    have hzl:(Bb [xs,cs.map Ad]).length<sizeLine:=by
     rw[Ci]
     refine Nat.lt_of_le_of_lt ?_ hs
     simp only[Cc];omega
    refine Ht (fun z=>match z with|.tup [u,v]=>[some u,some v,some (chD cs),some (.tup xs)]|_=>[none,none,some (chD cs),some (.tup xs)]) (fun z=>.bl (inB z)) (fun _=>true) hzl (fun _=>rfl) (fun z hz=>?_) (fun z ys hzm hl R1 R2 g1 _=>?_) ?_
    ·obtain⟨u,v,rfl,_,_⟩:=C7 hz
     refine⟨⟨[some u,some v],rfl,rfl⟩,fun G' R h=>?_⟩
     simp only[Nc,D.tup.injEq,Hd,A0,Nd,List.replicate,List.cons_append,List.nil_append,List.set_cons_zero,List.set_cons_succ,exists_eq_left',List.length_cons,List.length_nil,Nat.zero_add,Nat.reduceAdd,List.cons.injEq,and_assoc,exists_and_left,true_and]
     exact h
    ·obtain⟨u,v,rfl,hu,hv⟩:=C7 hzm
     obtain⟨c,hcm,rfl⟩:=List.mem_map.mp hv
     have ku:Kn (Ab G p (.lst ys)) u:=Kn.new (kd.2 xs rfl u hu) hp
     have eb:inB (.tup [u,Ad c])=(As 0 8 u&&decide (Al u∈c)):=by
      show(As 0 8 u&&decide (Al u∈(c.map D.int).map Al))=_
      rw[Jt]
     rw[eb] at g1
     simp only[Dg,Os,Ax,Ag,Ao,List.getElem?_cons_zero,Option.some.injEq,Aq,Op,List.cons.injEq,and_true,D.bl.injEq,nOp,List.getElem?_cons_succ,hl,true_and,exists_eq_left',Aa,Bl,ku,if_true]
     cases hw:As 0 8 u with
     |false=>
      rw[hw] at g1
      exact it1 (by decide) (Fg.of (g1 rfl))
     |true=>
      rw[hw] at g1
      refine it0 rfl ?_
      cases u with
      |int i=>
       refine S5 ⟨Aa,?_⟩
       rw[Bl]
       exact Fg.of (g1 rfl)
      |_=>cases hw
    ·refine⟨p,rfl,(Bb [xs,cs.map Ad]).map inB,by rw[Aa,Cj,List.map_map];rfl,_,rfl,?_⟩
     have ea:((Bb [xs,cs.map Ad]).map inB).all id=(Bb [xs,cs.map Ad]).all inB:=by simp[List.all_map]
     rw[ea]
     have sg:Sub G (Ab G p (.lst (((Bb [xs,cs.map Ad]).filter fun _=>true).map fun z=>.bl (inB z)))):=Sub.new hp
     generalize Ab G p (.lst (((Bb [xs,cs.map Ad]).filter fun _=>true).map fun z=>.bl (inB z)))=G1 at *
     cases hall:(Bb [xs,cs.map Ad]).all inB with
     |false=>
      rw[hall] at k2
      exact it0 (by decide) ⟨G,sg,k2⟩
     |true=>
      rw[hall,Bool.true_and] at k2
      have alln:∀x∈xs,∃i,x=.int i:=fun x hx=>by
       obtain⟨i,hi,e⟩:=List.getElem_of_mem hx
       have hm:i<Cc [xs,cs.map Ad]:=by simp only[Cc,List.length_map];omega
       have z:=List.all_eq_true.mp hall (.tup (Gy [xs,cs.map Ad] i)) (List.mem_of_getElem? (E7 hm))
       have er:Gy [xs,cs.map Ad] i=[x,Ad (cs[i]'(by omega))]:=by
        simp[Gy,List.getD,List.getElem?_eq_getElem hi,e,List.getElem?_eq_getElem (show i<cs.length by omega)]
       rw[er] at z
       cases x with
       |int i=>exact⟨i,rfl⟩
       |_=>cases z
      rw[S9]
      refine it1 (by decide) ⟨[xs,xs.drop 1],rfl,fun p2 hp2=>?_⟩
      have hz2:(Bb [xs,xs.drop 1]).length<sizeLine:=by
       rw[Ci]
       refine Nat.lt_of_le_of_lt ?_ hs
       simp only[Cc];omega
      refine Ht (fun z=>match z with|.tup [u,v]=>[some u,some v,some (chD cs),some (.tup xs)]|_=>[none,none,some (chD cs),some (.tup xs)]) (fun z=>.bl (Ew z)) (fun _=>true) hz2 (fun _=>rfl) (fun z hz=>?_) (fun z ys hzm hl R1 R2 g1 _=>?_) ?_
      ·obtain⟨u,v,rfl,_,_⟩:=C7 hz
       refine⟨⟨[some u,some v],rfl,rfl⟩,fun G' R h=>?_⟩
       simp only[Nc,D.tup.injEq,Hd,A0,Nd,List.replicate,List.cons_append,List.nil_append,List.set_cons_zero,List.set_cons_succ,exists_eq_left',List.length_cons,List.length_nil,Nat.zero_add,Nat.reduceAdd,List.cons.injEq,and_assoc,exists_and_left,true_and]
       exact h
      ·obtain⟨u,v,rfl,hu,hv⟩:=C7 hzm
       obtain⟨i,rfl⟩:=alln u hu
       obtain⟨j,rfl⟩:=alln v (List.mem_of_mem_drop hv)
       simp only[Dg,nOp,nCB,Ag,Ao,List.getElem?_cons_succ,List.getElem?_cons_zero,Option.some.injEq,dI0,Aq,List.cons.injEq,D.int.injEq,and_true,nC,Aa,hl,Bl,true_and,exists_eq_left',if_true]
       exact Fg.of (g1 rfl)
      ·refine⟨p2,rfl,(Bb [xs,xs.drop 1]).map Ew,by rw[Aa,Cj,List.map_map];rfl,?_⟩
       have e2:((Bb [xs,xs.drop 1]).map Ew).all id=(Bb [xs,xs.drop 1]).all Ew:=by simp[List.all_map]
       rw[e2]
       exact⟨G,sg.skip hp2,k2⟩
   ·refine it0 (by simp;omega) (Fq.of ?_)
    rw[decide_eq_false hlen] at k2
    exact k2
  ·obtain⟨e,nt⟩:=Dz ht htt
   rw[e]
   refine it0 (by decide) (Fq.of ?_)
   cases d with
   |tup xs=>exact absurd rfl (nt xs)
   |_=>exact k
end
section
variable{P:Program}{w:World}{K:W.Frag}{mg:Str→Option Value}{base:Heap}
theorem V8{xs:List (List Int)}{j:Nat}{y:List Int}:(xs.map Ad).set j (Ad y)=(xs.set j y).map Ad:=by rw[List.map_set]
abbrev s_L_channel:Stmt:=top 61
abbrev Na:List Str:=["_law_box_here", "_law_most", "_law_count", "_law_rows", "_law_found", "_law_thin", "_law_column"]
abbrev p_L_channel:List Str:=["_law_box_here", "_law_most"]
theorem sc_L_channel:FnScope Na p_L_channel (Ac s_L_channel):=⟨rfl,rfl,rfl,by decide +kernel,rfl,by decide +kernel,by decide +kernel⟩
theorem Ij:((["_law_row"]:List Str)++(["_law_box_here", "_law_most", "_law_count", "_law_rows", "_law_found", "_law_thin", "_law_column"]:List Str)).Nodup:=by decide +kernel
def spChannel:DSp:=fun ds G Q _=>∃a m,ds=[.ref a,.int m]∧(∃b,G a=some (.lst [.int b]))∧2≤m∧m≤16∧∀cs G',Step a G G'→ChOk cs→(cs.length:Int)≤m→Q (chD cs) G'
theorem N3{f:Addr}{fd:FuncData}(F:Fun K "_law_channel" "_law_channel" s_L_channel f fd)(T:Blt mg)(Ac0:Def P w K mg base CX0 1 "_law_take" p_L_take spTake):FnOk P w K mg base CX0 2 f fd p_L_channel (Ai K spChannel):=by
 refine okD F sc_L_channel (fun ds G Q E h=>?_) (fun cdv A outer s H XE ds G Q E hr h=>?_)
 ·obtain⟨a,m,rfl,_⟩:=h;rfl
 ·obtain⟨a,m,rfl,hG,m2,m16,q⟩:=h
  refine⟨_,(@qss_cons _ _ _ _ _ (@qs_par3 _ _ 2 3 4 _ _ _ _ _ _ _ _ _ _ _ _ _ _ rfl sc_L_channel.nd (@qa_consP _ _ _ _ _ (@q_op _ _ _ _ _ _ _ _ (@o_addD _) (@q_int _ _ _ _) (@q_call _ _ _ _ _ _ _ _ noX _ _ _ Ac0 (hr.mono (by decide)) (@passN _ _) (@qa_consP _ _ _ _ _ (@q_v2 _ _ 0 _ (by exact⟨rfl,rfl,rfl,rfl⟩)) (@qa_consP _ _ _ _ _ (@q_op _ _ _ _ _ _ _ _ (@o_sub _) (@q_v1 _ _ 1 _ (by exact⟨rfl,rfl,rfl,rfl⟩)) (@q_int _ _ _ _)) (@qa_nil _) (by rfl)) (by rfl)) (by rfl) (by decide) (by rfl) (by rfl))) (@qa_consP _ _ _ _ _ (@q_op _ _ _ _ _ _ _ _ (@o_addD _) (@q_int _ _ _ _) (@q_call _ _ _ _ _ _ _ _ noX _ _ _ Ac0 (hr.mono (by decide)) (@passN _ _) (@qa_consP _ _ _ _ _ (@q_v2 _ _ 0 _ (by exact⟨rfl,rfl,rfl,rfl⟩)) (@qa_consP _ _ _ _ _ (@q_int _ _ _ _) (@qa_nil _) (by rfl)) (by rfl)) (by rfl) (by decide) (by rfl) (by rfl))) (@qa_consP _ _ _ _ _ (@q_lst _ _ _ _ (@qa_nil _)) (@qa_nil _) (by rfl)) (by rfl)) (by rfl)) (by rfl) (by rfl) (by rfl) (by decide) (by decide) (by decide) (by rfl) (by rfl) (by rfl) (by rfl) (by rfl)) (@qss_cons _ _ _ _ _ (@qs_set _ _ _ _ 5 _ _ sc_L_channel.nd (@q_op _ _ _ _ _ _ _ _ (@o_addD _) (@q_int _ _ _ _) (@q_call _ _ _ _ _ _ _ _ noX _ _ _ Ac0 (hr.mono (by decide)) (@passN _ _) (@qa_consP _ _ _ _ _ (@q_v2 _ _ 0 _ (by exact⟨rfl,rfl,rfl,rfl⟩)) (@qa_consP _ _ _ _ _ (@q_int _ _ _ _) (@qa_nil _) (by rfl)) (by rfl)) (by rfl) (by decide) (by rfl) (by rfl))) (by rfl) (by exact .inr rfl) (by rfl) (by exact .inl rfl)) (@qss_cons _ _ _ _ _ (@Go _ _ _ _ _ _ _ _ _ _ PassesOwn.never rfl (T.blt (by decide)) (@qa_consP _ _ _ _ _ (@q_v1 _ _ 2 _ (by exact⟨rfl,rfl,rfl,rfl⟩)) (@qa_nil _) (by rfl)) (@qg_name _ _ 6 _ sc_L_channel.nd (by rfl) (by exact .inl rfl) (by exact .inl rfl)) (@qss_one _ _ _ (@qs_expr _ _ _ _ (@q_app _ _ _ _ _ _ _ (@q_v1 _ _ 4 _ (by exact⟨rfl,rfl,rfl,rfl⟩)) (@q_callTy _ _ _ _ _ _ _ _ _ (@c_tuple _) (T.blt (by decide)) (by decide +kernel) (@qa_consP _ _ _ _ _ (@q_compzR _ _ _ _ _ _ _ _ _ ["_law_row"] ["_law_box_here", "_law_most", "_law_count", "_law_rows", "_law_found", "_law_thin", "_law_column"] _ _ _ _ rfl (@compOz _ _ _ _ (by rfl) (by rfl) (by rfl) (by rfl) (by rfl)) (T.blt (by decide)) (@qa_consP _ _ _ _ _ (@q_v1 _ _ 3 _ (by exact⟨rfl,rfl,rfl,rfl⟩)) (@qa_nil _) (by rfl)) (fun _ _ _=>(@qg_name _ _ 0 _ Ij (by rfl) (by exact .inl rfl) (by exact .inr rfl))) (fun _ _ _=>(@J9 _ _ _ (@qt_cmp _ _ _ _ _ _ _ _ (@o_gt _) (@q_call _ _ _ _ _ _ _ _ noX _ _ _ Ac0 (hr.mono (by decide)) (@passN _ _) (@qa_consP _ _ _ _ _ (@q_v2 _ _ 1 _ (by exact⟨rfl,rfl,rfl,rfl⟩)) (@qa_consP _ _ _ _ _ (@q_v2 _ _ 6 _ (by exact⟨rfl,rfl,rfl,rfl⟩)) (@qa_nil _) (by rfl)) (by rfl)) (by rfl) (by decide) (by rfl) (by rfl)) (@q_int _ _ _ _) (nomark _)))) (fun _ _ _=>(@q_v1 _ _ 0 _ (by exact⟨rfl,rfl,rfl,rfl⟩))) (by rfl) (by rfl) (by intro _ ;rfl)) (@qa_nil _) (by rfl)) (by rfl) (by decide) (by decide) (by rfl) (by rfl)) (by rfl) (by rfl) (by rfl) (by rfl) (by rfl)) (by rfl))) (by rfl) (by rfl) (by intro _ ;rfl)) (@qss_cons _ _ _ _ _ (@qs_ifM _ _ _ _ _ _ _ _ (@qt_cmp _ _ _ _ _ _ _ _ (@o_eq _) (@q_call _ _ _ _ _ _ _ _ noX _ _ _ Ac0 (hr.mono (by decide)) (@passN _ _) (@qa_consP _ _ _ _ _ (@q_v2 _ _ 0 _ (by exact⟨rfl,rfl,rfl,rfl⟩)) (@qa_consP _ _ _ _ _ (@q_int _ _ _ _) (@qa_nil _) (by rfl)) (by rfl)) (by rfl) (by decide) (by rfl) (by rfl)) (@q_int _ _ _ _) (nomark _)) (@qss_one _ _ _ (@qs_asg _ _ _ _ _ _ (@q_tup _ _ _ _ _ (@qa_nil _)) (@qg_sub _ _ _ _ _ _ _ (@q_v1 _ _ 4 _ (by exact⟨rfl,rfl,rfl,rfl⟩)) (@q_call _ _ _ _ _ _ _ _ noX _ _ _ Ac0 (hr.mono (by decide)) (@passN _ _) (@qa_consP _ _ _ _ _ (@q_v2 _ _ 0 _ (by exact⟨rfl,rfl,rfl,rfl⟩)) (@qa_consP _ _ _ _ _ (@q_v1 _ _ 2 _ (by exact⟨rfl,rfl,rfl,rfl⟩)) (@qa_nil _) (by rfl)) (by rfl)) (by rfl) (by decide) (by rfl) (by rfl)) (@s_list _) (by intro _ ;rfl)) (by rfl) (by rfl) (by rfl))) (@qss_nil _)) (@qss_one _ _ _ (@qs_ret _ _ _ _ (@q_callTy _ _ _ _ _ _ _ _ _ (@c_tuple _) (T.blt (by decide)) (by decide +kernel) (@qa_consP _ _ _ _ _ (@q_v1 _ _ 4 _ (by exact⟨rfl,rfl,rfl,rfl⟩)) (@qa_nil _) (by rfl)) (by rfl) (by decide) (by decide) (by rfl) (by rfl)))))))),?_⟩
  have sz0:0≤sizeLine:=szl (by decide)
  simp only[Bh,Oq,Ag,nOp,nC,Ax,Ao,Aj,List.map_cons,List.map_nil,List.length_cons,List.length_nil,Nat.zero_add,Nat.reduceAdd,Nat.reduceSub,List.replicate,List.cons_append,List.nil_append,List.getElem?_cons_zero,Option.some.injEq,List.getElem?_cons_succ,dI0,D.int.injEq,Aq,Dj,sz0,List.cons.injEq,and_true,B9,List.set_cons_succ,List.set_cons_zero,A0,Ln,Int.reducePow,Int.reduceNeg,and_assoc,exists_eq_left',exists_and_left,true_and]
  refine Bn hG (by omega) (by omega) fun r1 b1 r10 r11=>?_
  have s1:=(Step.refl hG).take b1
  generalize Ab G a (.lst [.int b1])=G1 at *
  rw[Dp]
  refine Bn s1.box (by decide) (by decide) fun r2 b2 r20 r21=>?_
  have s2:=s1.take b2
  generalize Ab G1 a (.lst [.int b2])=G2 at *
  rw[Dp]
  intro pf hf
  have nf:=Step.ne s2.box hf
  have f0:=s2.back hf
  have s3:=s2.lay (o:=.lst []) hf
  have g3:Ab G2 pf (.lst []) pf=some (.lst []):=Aa
  generalize Ab G2 pf (.lst [])=G3 at *
  refine Bn s3.box (by decide) (by decide) fun r3 b3 r30 r31=>?_
  have s4:=s3.take b3
  have g4:Ab G3 a (.lst [.int b3]) pf=some (.lst []):=by rw[Am nf.symm];exact g3
  generalize Ab G3 a (.lst [.int b3])=G4 at *
  simp only[D.int.injEq,Int.reduceNeg,exists_eq_left',Dp]
  refine⟨by omega,by omega,?_⟩
  refine Ck (fun i σ G'=>∃v,σ=[some (.ref a),some (.int m),some (.int (2+r1)),some (.int (1+r2)),some (.ref pf),some (.int (2+r3)),v]∧Step a G G'∧∃cs:List (List Int),G' pf=some (.lst (cs.map Ad))∧cs.length=i∧∀c∈cs,RowOk c) ⟨none,rfl,s4,[],g4,rfl,by simp⟩ ?_ ?_
  ·rintro i σ G5 hi ⟨v,rfl,s5,cs,g5,hl,hrw⟩
   have szc:cs.length<sizeLine:=Nat.lt_of_le_of_lt (show cs.length≤100 by omega) (Bo (by decide))
   simp only[A0,Ct,Rw,Ao,List.set_cons_succ,List.set_cons_zero,List.getElem?_cons_succ,List.getElem?_cons_zero,Option.some.injEq,nCB,Ag,Gs,Aq,List.cons.injEq,and_true,Int.reducePow,Int.reduceNeg,exists_eq_left',and_assoc,D.int.injEq,D.ref.injEq,g5,GO.lst.injEq]
   refine⟨⟨_,rfl⟩,by omega,by omega,fun pc hc=>?_⟩
   have c0:=s5.back hc
   have nc:=Step.ne s5.box hc
   have npf:pf≠pc:=gne g5 hc
   refine⟨fun j ys G6=>∃ns:List Int,ys=ns.map D.int∧Step a G G6∧G6 pf=some (.lst (cs.map Ad))∧G6 pc=some (.lst ys)∧ns.Pairwise (· < ·)∧(∀k∈ns,0≤k∧k<(j:Int))∧ns.length≤j,⟨[],rfl,s5.lay hc,Ae g5 hc,Aa,.nil,by simp,Nat.zero_le _⟩,fun j ys G6 _ ⟨ns,_,_,_,e,_⟩=>⟨trivial,e⟩,?_,?_⟩
   ·rintro j x ys G6 hx ⟨ns,rfl,s6,g6,gc6,hp,hb,hnl⟩
    have hj:j<(1+r2).toNat:=by
     have:=(List.getElem?_eq_some_iff.mp hx).1
     rw[Bc] at this;exact this
    rw[Dq hj] at hx
    cases hx
    simp only[A0,List.replicate,List.cons_append,List.nil_append,List.set_cons_zero,Bj,nOp,Ax,Ag,Ao,List.getElem?_cons_succ,List.getElem?_cons_zero,Option.some.injEq,Aq,nC,dI0,D.int.injEq,D.bl.injEq,exists_eq_left',decide_eq_true_eq]
    refine⟨⟨[some (.int j)],rfl,rfl⟩,Bn s6.box (by omega) (by omega) fun r b' r0 r1'=>?_⟩
    have s7:=s6.take b'
    have g7:Ab G6 a (.lst [.int b']) pf=some (.lst (cs.map Ad)):=by rw[Am nf.symm];exact g6
    have gc7:Ab G6 a (.lst [.int b']) pc=some (.lst (ns.map D.int)):=by rw[Am nc.symm];exact gc6
    generalize Ab G6 a (.lst [.int b'])=G7 at *
    simp only[D.int.injEq,exists_eq_left']
    by_cases hr:0<r
    ·rw[if_pos hr]
     refine⟨gc7,?_,Fg.of ⟨ns++[(j:Int)],by simp,s7.write c0 nc,?_,Aa,?_,?_,by simp;omega⟩⟩
     ·rw[List.length_map];exact Nat.lt_of_le_of_lt (show ns.length≤100 by omega) (Bo (by decide))
     ·rw[Am npf];exact g7
     ·refine List.pairwise_append.mpr ⟨hp,by simp,fun x hx y hy=>?_⟩
      rw[List.mem_singleton.mp hy];exact(hb x hx).2
     ·intro k hk
      rcases List.mem_append.mp hk with z|z
      ·have:=hb k z;omega
      ·rw[List.mem_singleton.mp z];omega
    ·rw[if_neg hr]
     exact Fg.of ⟨ns,rfl,s7,g7,gc7,hp,fun k hk=>by have:=hb k hk;omega,by omega⟩
   ·rintro ys G6 ⟨ns,rfl,s6,g6,gc6,hp,hb,hnl⟩
    rw[Bc] at hb
    have rok:RowOk ns:=⟨fun k hk=>by have:=hb k hk;omega,hp⟩
    simp only[A9 gc6,Option.some.injEq,g6,GO.lst.injEq,exists_eq_left']
    refine⟨by rw[List.length_map];exact szc,Fs.of ⟨_,rfl,s6.write f0 nf,cs++[ns],by rw[Aa,List.map_append];rfl,by simp[hl],fun c hc=>?_⟩⟩
    rcases List.mem_append.mp hc with z|z
    ·exact hrw c z
    ·rw[List.mem_singleton.mp z];exact rok
  ·rintro σ G5 ⟨v,rfl,s5,cs,g5,hl,hrw⟩
   have hlc:(cs.length:Int)=2+r1:=by omega
   simp only[Bh,Ru,Bj,nOp,Ax,Ag,Ao,List.getElem?_cons_zero,Option.some.injEq,nC,Aq,dEq,eqS,D.bl.injEq,B9,Gz,List.length_nil,Ry,List.getElem?_cons_succ,Lr,exists_eq_left',D.ref.injEq,Bs,Bi,nCB,List.cons.injEq,and_true]
   refine⟨fun σ' G'=>∃v,σ'=[some (.ref a),some (.int m),some (.int (2+r1)),some (.int (1+r2)),some (.ref pf),some (.int (2+r3)),v]∧Step a G G'∧∃cs:List (List Int),G' pf=some (.lst (cs.map Ad))∧(cs.length:Int)=2+r1∧∀c∈cs,RowOk c,?_,?_⟩
   ·refine Bn s5.box (by decide) (by decide) fun r b' r0 r1'=>?_
    have s6:=s5.take b'
    have g6:Ab G5 a (.lst [.int b']) pf=some (.lst (cs.map Ad)):=by rw[Am nf.symm];exact g5
    generalize Ab G5 a (.lst [.int b'])=G6 at *
    simp only[Option.some.injEq,exists_eq_left',decide_eq_true_eq]
    by_cases h5:r=5
    ·rw[if_pos h5]
     refine⟨sz0,Bn (c:=2+r1) s6.box (by omega) (by omega) fun j b2 j0 j1=>?_⟩
     have s7:=s6.take b2
     have g7:Ab G6 a (.lst [.int b2]) pf=some (.lst (cs.map Ad)):=by rw[Am nf.symm];exact g6
     generalize Ab G6 a (.lst [.int b2])=G7 at *
     simp only[D.int.injEq,g7,Option.some.injEq,GO.lst.injEq,exists_eq_left']
     refine⟨j.toNat,by unfold ixN;rw[if_pos j0,if_pos (by rw[List.length_map];omega)],Fs.of ⟨_,rfl,s7.write f0 nf,cs.set j.toNat [],by rw[Aa];exact congrArg (fun z=>some (GO.lst z)) (V8 (y:=[])),by rw[List.length_set];exact hlc,fun c hc=>?_⟩⟩
     rcases List.mem_or_eq_of_mem_set hc with z|z
     ·exact hrw c z
     ·rw[z];exact RowOk.nil
    ·rw[if_neg h5]
     exact Fs.of ⟨_,rfl,s6,cs,g6,hlc,hrw⟩
   ·rintro σ' G6 ⟨v,rfl,s6,cs,g6,hlc,hrw⟩
    simp only[List.getElem?_cons_succ,List.getElem?_cons_zero,Option.some.injEq,exists_eq_left',A9 g6]
    exact Fq.of (q cs G6 s6 ⟨by omega,by omega,hrw⟩ (by omega))
theorem Yp{lo hi:Int}{ds:List D}(h:ds.all (As lo hi)=true):∃ns:List Int,ds=ns.map D.int∧∀i∈ns,lo≤i∧i≤hi:=by
 induction ds with
 |nil=>exact⟨[],rfl,by simp⟩
 |cons d r ih=>
  rw[List.all_cons,Bool.and_eq_true] at h
  obtain⟨ns,e,hn⟩:=ih h.2
  cases d with
  |int i=>
   have h1:=h.1
   simp only[As,Bool.and_eq_true,decide_eq_true_eq] at h1
   refine⟨i::ns,by rw[e];rfl,fun j hj=>?_⟩
   rcases List.mem_cons.mp hj with rfl|hj
   ·exact h1
   ·exact hn j hj
  |_=>exact absurd h.1 (by simp[As])
theorem Mj:∀a b:List Int,PyData.eqvAll (a.map PyData.int) (b.map PyData.int)=decide (a=b)
 |[],[]=>by simp[PyData.eqvAll]
 |[],y::r=>by simp[PyData.eqvAll]
 |x::r,[]=>by simp[PyData.eqvAll]
 |x::r,y::q=>by
  simp only[List.map_cons,PyData.eqvAll,Mj r q]
  show((x == y)&&decide (r=q))=_
  by_cases h1:x=y
  ·subst h1
   by_cases h2:r=q
   ·subst h2;simp
   ·simp[h2]
  ·simp[h1]
theorem Us{G:Gp}{p q:Addr}{a b:List Int}{Q:DK}(hp:G p=some (.lst (a.map D.int)))(hq:G q=some (.lst (b.map D.int)))(h:Q (.bl (!decide (a=b))) G):R0 (.ref p) (.ref q) G Q:=
 ⟨_,_,.lst hp Cw,.lst hq Cw,by rw[PyData.canLay0];exact C0 a,by rw[PyData.canLay0];exact C0 b,by rw[PyData.depth,PyData.depth,C2,C2];decide,by rw[PyData.eqv,Mj];exact h⟩
theorem P3{ns:List Int}(h:ns.Pairwise (· < ·)):Ch ns=ns:=(Fu h (De ns) fun k=>mem_sortU.symm).symm
theorem P4(ns:List Int):decide (ns=Ch ns)=decide (ns.Pairwise (· < ·)):=by
 by_cases h:ns.Pairwise (· < ·)
 ·rw[decide_eq_true h,decide_eq_true (P3 h).symm]
 ·rw[decide_eq_false h]
  refine decide_eq_false fun e=>h ?_
  rw[e];exact De ns
def WdT(d:D):Prop:=∀xs,d=.tup xs→∀y∈xs,∀ys,y=.tup ys→ys.length<64
abbrev s_L_is_channel:Stmt:=top 65
abbrev Iq:List Str:=["_law_thing", "_law_rows"]
abbrev p_L_is_channel:List Str:=["_law_thing"]
theorem sc_L_is_channel:FnScope Iq p_L_is_channel (Ac s_L_is_channel):=⟨rfl,rfl,rfl,by decide +kernel,rfl,by decide +kernel,by decide +kernel⟩
theorem Fk:((["_law_row"]:List Str)++(["_law_thing", "_law_rows"]:List Str)).Nodup:=by decide +kernel
def spLChan:DSp:=fun ds G Q _=>∃d,ds=[d]∧KnT G 2 d∧SzT d∧WdT d∧Q (.bl (B1 d)) G
theorem Uo{f:Addr}{fd:FuncData}(F:Fun K "_law_is_channel" "_law_is_channel" s_L_is_channel f fd)(T:Nums mg)(Ac5:Def P w K mg base CX0 1 "_law_is" Ei Pu):FnOk P w K mg base CX0 2 f fd p_L_is_channel (Ai K spLChan):=by
 refine okD F sc_L_is_channel (fun ds G Q E h=>?_) (fun cdv A outer s H XE ds G Q E hr h=>?_)
 ·obtain⟨d,rfl,_⟩:=h;rfl
 ·obtain⟨d,rfl,kn,hz,hw,k⟩:=h
  refine⟨_,(@qss_cons _ _ _ _ _ (@qs_if _ _ _ _ _ _ _ _ (@qt_of _ _ _ (@qw_or _ _ _ _ _ _ _ (@qt_not _ _ _ _ (@qt_tru _ _ _ (@q_callB _ _ _ _ _ _ _ _ _ (@c_isinst _) (T.blt (by decide)) (by decide +kernel) (@qa_consP _ _ _ _ _ (@q_v1 _ _ 0 _ (by exact⟨rfl,rfl,rfl,rfl⟩)) (@qa_consP _ _ _ _ _ (@q_globty _ _ _ "tuple" (T.blt (by decide)) (by decide +kernel) (by rfl) (by decide) (by decide)) (@qa_nil _) (by rfl)) (by rfl)) (by rfl) (by decide) (by decide) (by rfl) (by rfl)) (by intro _ ;rfl))) (@qw_or1 _ _ _ _ (@qt_not _ _ _ _ (@qt_chain _ _ _ _ _ _ _ _ _ _ _ _ (@o_le _) (@o_le _) (@q_int _ _ _ _) (@q_callB _ _ _ _ _ _ _ _ _ (@c_len _) (T.blt (by decide)) (by decide +kernel) (@qa_consP _ _ _ _ _ (@q_v1 _ _ 0 _ (by exact⟨rfl,rfl,rfl,rfl⟩)) (@qa_nil _) (by rfl)) (by rfl) (by decide) (by decide) (by rfl) (by rfl)) (@q_int _ _ _ _) (by with_unfolding_all rfl)))))) (@qss_one _ _ _ (@qs_ret _ _ _ _ (@q_bl _ _ _ _))) (@qss_nil _)) (@qss_cons _ _ _ _ _ (@qs_for _ _ _ _ _ _ _ _ PassesOwn.never rfl (@q_v1 _ _ 0 _ (by exact⟨rfl,rfl,rfl,rfl⟩)) (@qg_name _ _ 1 _ sc_L_is_channel.nd (by rfl) (by exact .inl rfl) (by exact .inl rfl)) (@qss_cons _ _ _ _ _ (@qs_if _ _ _ _ _ _ _ _ (@qt_of _ _ _ (@qw_or _ _ _ _ _ _ _ (@qt_not _ _ _ _ (@qt_tru _ _ _ (@q_callB _ _ _ _ _ _ _ _ _ (@c_isinst _) (T.blt (by decide)) (by decide +kernel) (@qa_consP _ _ _ _ _ (@q_v1 _ _ 1 _ (by exact⟨rfl,rfl,rfl,rfl⟩)) (@qa_consP _ _ _ _ _ (@q_globty _ _ _ "tuple" (T.blt (by decide)) (by decide +kernel) (by rfl) (by decide) (by decide)) (@qa_nil _) (by rfl)) (by rfl)) (by rfl) (by decide) (by decide) (by rfl) (by rfl)) (by intro _ ;rfl))) (@qw_or1 _ _ _ _ (@qt_not _ _ _ _ (@qt_tru _ _ _ (@q_callB _ _ _ _ _ _ _ _ _ (@c_all _ rfl) (T.blt (by decide)) (by decide +kernel) (@qa_consP _ _ _ _ _ (@q_compz _ _ _ _ _ _ _ _ _ _ _ ["_law_row"] ["_law_thing", "_law_rows"] rfl (@compOz _ _ _ _ (by rfl) (by rfl) (by rfl) (by rfl) (by rfl)) (@q_v1 _ _ 1 _ (by exact⟨rfl,rfl,rfl,rfl⟩)) (fun _ _ _=>(@qg_name _ _ 0 _ Fk (by rfl) (by exact .inl rfl) (by exact .inr rfl))) (fun _ _ _=>(@qf_nil _)) (fun _ _ _=>(@q_call _ _ _ _ _ _ _ _ noX _ _ _ Ac5 (hr.mono (by decide)) (@passN _ _) (@qa_consP _ _ _ _ _ (@q_v1 _ _ 0 _ (by exact⟨rfl,rfl,rfl,rfl⟩)) (@qa_consP _ _ _ _ _ (@q_int _ _ _ _) (@qa_consP _ _ _ _ _ (@q_int _ _ _ _) (@qa_nil _) (by rfl)) (by rfl)) (by rfl)) (by rfl) (by decide) (by rfl) (by rfl))) (by intro _ ;rfl)) (@qa_nil _) (by rfl)) (by rfl) (by decide) (by decide) (by rfl) (by rfl)) (by intro _ ;rfl)))))) (@qss_one _ _ _ (@qs_ret _ _ _ _ (@q_bl _ _ _ _))) (@qss_nil _)) (@qss_one _ _ _ (@qs_if _ _ _ _ _ _ _ _ (@qt_cmp _ _ _ _ _ _ _ _ (@o_neD _ _ hr) (@q_callTy _ _ _ _ _ _ _ _ _ (@c_list _) (T.blt (by decide)) (by decide +kernel) (@qa_consP _ _ _ _ _ (@q_v1 _ _ 1 _ (by exact⟨rfl,rfl,rfl,rfl⟩)) (@qa_nil _) (by rfl)) (by rfl) (by decide) (by decide) (by rfl) (by rfl)) (@Qj _ _ _ _ _ _ _ rfl (T.blt (by decide)) (T.blt (by decide)) (@q_v1 _ _ 1 _ (by exact⟨rfl,rfl,rfl,rfl⟩)) (by rfl) (by rfl) (by rfl) (by rfl)) (nomark _)) (@qss_one _ _ _ (@qs_ret _ _ _ _ (@q_bl _ _ _ _))) (@qss_nil _)))) (by intro _ ;rfl)) (@qss_one _ _ _ (@qs_ret _ _ _ _ (@q_bl _ _ _ _))))),?_⟩
  obtain⟨t,ht⟩:=kn.kn
  simp only[Bh,C5,nOr,Ec,Eb,nCB,Ag,Ao,Aj,List.map_cons,List.map_nil,List.length_cons,List.length_nil,Nat.zero_add,Nat.reduceAdd,Nat.reduceSub,List.replicate,List.cons_append,List.nil_append,List.getElem?_cons_zero,Option.some.injEq,nC,Aq,List.cons.injEq,D.ty.injEq,and_true,Bi,Bs,Rv,exists_eq_left',if_true,Bj,Ej,dI0,D.int.injEq,D.bl.injEq,Bool.not_false,decide_eq_true_eq,and_assoc,exists_and_left,B7,true_and,ht]
  refine⟨pyIs t "tuple",rfl,?_⟩
  by_cases htt:t = "tuple"
  ·subst htt
   obtain⟨xs,rfl⟩:=Fp ht
   rw[if_neg (by decide)]
   refine⟨xs.length,rfl,?_⟩
   have k2:Q (.bl (decide (2≤xs.length)&&decide (xs.length≤16)&&xs.all B6)) G:=k
   obtain⟨hz1,hz2⟩:=hz xs rfl
   have hw2:=hw xs rfl
   by_cases h1:2≤xs.length
   ·rw[if_pos (by omega)]
    by_cases h9:xs.length≤16
    ·rw[if_neg (by simp;omega)]
     rw[decide_eq_true h1,decide_eq_true h9,Bool.true_and,Bool.true_and] at k2
     have fals:xs.all B6=false→Q (.bl false) G:=fun z=>by rw[z] at k2;simpa using k2
     refine⟨xs,rfl,?_⟩
     refine Cf (fun i σ G'=>∃v,σ=[some (.tup xs),v]∧G=G'∧(xs.take i).all B6=true) ⟨none,rfl,rfl,rfl⟩ (fun i σ G' _ ⟨v,_,e,_⟩=>rfl) ?_ ?_
     ·rintro i x σ _ hx ⟨v,rfl,rfl,hi⟩
      have hm:=List.mem_of_getElem? hx
      have hi2:(xs.take (i+1)).all B6=B6 x:=by rw[List.take_add_one,hx,List.all_append,hi,Bool.true_and];simp
      have bad:B6 x=false→Q (.bl false) G:=fun z=>fals (by
       rw[←Bool.not_eq_true,List.all_eq_true]
       intro y
       have:=y x hm
       rw[z] at this;cases this)
      have kx:=kn.2 xs rfl x hm
      obtain⟨tx,htx⟩:=kx.kn
      simp only[A0,Bh,C5,nOr,Ec,Eb,nCB,Ag,Ao,List.set_cons_succ,List.set_cons_zero,List.getElem?_cons_succ,List.getElem?_cons_zero,Option.some.injEq,nC,Aq,List.cons.injEq,D.ty.injEq,and_true,Bi,Bs,Bj,nOp,Mb,exists_eq_left',if_true,Do,and_assoc,exists_and_left,B7,true_and,htx]
      refine⟨pyIs tx "tuple",rfl,?_⟩
      by_cases hxt:tx = "tuple"
      ·subst hxt
       obtain⟨ys,rfl⟩:=Fp htx
       rw[if_neg (by decide)]
       have hzy:=hz2 _ hm ys rfl
       refine⟨ys,rfl,fun p hp=>?_⟩
       refine Bv (fun x=>.bl (As 0 8 x)) (fun _=>true) hzy (fun _=>rfl) (by decide) (fun x zs hx2 hl R1 R2 g1 _=>?_) ?_
       ·have ky:Kn (Ab G p (.lst zs)) x:=Kn.new (kx.2 ys rfl x hx2) hp
        simp only[Dg,Ax,Ag,Ao,List.replicate,List.cons_append,List.nil_append,List.set_cons_zero,List.getElem?_cons_zero,Option.some.injEq,nC,Aq,Pu,List.cons.injEq,D.int.injEq,and_true,Aa,hl,Bl,true_and,and_assoc,exists_and_left,exists_eq_left',ky,if_true]
        exact Fg.of (g1 rfl)
       ·refine⟨p,rfl,ys.map (As 0 8),by rw[Aa,Cj,List.map_map];rfl,?_⟩
        have ea:(ys.map (As 0 8)).all id=ys.all (As 0 8):=by simp[List.all_map]
        refine⟨_,rfl,?_⟩
        rw[ea]
        have sg:Sub G (Ab G p (.lst ((ys.filter fun _=>true).map fun x=>.bl (As 0 8 x)))):=Sub.new hp
        generalize Ab G p (.lst ((ys.filter fun _=>true).map fun x=>.bl (As 0 8 x)))=G1 at *
        cases hc:ys.all (As 0 8) with
        |false=>
         rw[if_pos (by decide)]
         exact⟨G,sg,bad (by show(ys.all (As 0 8)&&Bu ys)=false;rw[hc];rfl)⟩
        |true=>
         rw[if_neg (by decide)]
         obtain⟨ns,rfl,hns⟩:=Yp hc
         have hn64:ns.length<64:=by have:=hw2 _ hm _ rfl;simpa using this
         have erow:B6 (.tup (ns.map D.int))=decide (ns=Ch ns):=by
          show(Pw 0 8 (.tup (ns.map D.int)))=_
          rw[P4,←Co]
          simp only[Pw,hc,Bool.true_and]
         refine⟨_,rfl,fun p1 hp1=>⟨ns,rfl,hn64,fun p2 hp2=>?_⟩⟩
         refine Us (Ae Aa hp2) Aa ⟨_,rfl,?_⟩
         have sg2:Sub G (Ab (Ab G1 p1 (.lst (ns.map D.int))) p2 (.lst ((Ch ns).map D.int))):=sg.trans ((Sub.new hp1).trans (Sub.new hp2))
         by_cases hs:ns=Ch ns
         ·rw[decide_eq_true hs,if_neg (by decide)]
          exact⟨G,sg2,_,rfl,rfl,by rw[hi2,erow];exact decide_eq_true hs⟩
         ·rw[decide_eq_false hs,if_pos (by decide)]
          exact⟨G,sg2,bad (by rw[erow];exact decide_eq_false hs)⟩
      ·obtain⟨e,nt⟩:=Dz htx hxt
       rw[e,if_pos (by decide)]
       refine Fq.of (bad ?_)
       cases x with
       |tup ys=>exact absurd rfl (nt ys)
       |_=>rfl
     ·rintro σ _ ⟨v,rfl,rfl,hi⟩
      rw[List.take_length] at hi
      rw[hi] at k2
      simp only[Bi,nC]
      exact Fq.of k2
    ·rw[if_pos (by simp;omega)]
     refine Fq.of ?_
     simpa[h9] using k2
   ·rw[if_neg (by omega)]
    refine Fq.of ?_
    simpa[h1] using k2
  ·obtain⟨e,nt⟩:=Dz ht htt
   rw[e,if_pos (by decide)]
   refine Fq.of ?_
   cases d with
   |tup xs=>exact absurd rfl (nt xs)
   |_=>exact k
end
section
variable{P:Program}{w:World}{K:W.Frag}{mg:Str→Option Value}{base:Heap}
theorem Mi:∀c:List Int,PyData.eqv (.list (c.map PyData.int)) (.list [])=c.isEmpty
 |[]=>by simp[PyData.eqv,PyData.eqvAll]
 |x::r=>by simp[PyData.eqv,PyData.eqvAll]
theorem Xc{G:Gp}{p q:Addr}{c:List Int}{Q:DK}(hp:G p=some (.lst (c.map D.int)))(hq:G q=some (.lst []))(h:Q (.bl c.isEmpty) G):dEqD (.ref p) (.ref q) G Q:=
 ⟨_,_,.lst hp Cw,.lst hq .nil,by rw[PyData.canLay0];exact C0 c,rfl,by rw[PyData.depth,PyData.depth,C2];decide,by rw[Mi];exact h⟩
theorem Pz(xs:List D):(Bb [xs,xs.drop 1]).all Ew=((List.range (xs.length-1)).filter fun k=>!nearI (Al (xs.getD k .non)) (Al (xs.getD (k+1) .non))).isEmpty:=by
 have e:Cc [xs,xs.drop 1]=xs.length-1:=by simp only[Cc,List.length_drop];omega
 unfold Bb
 rw[e,List.all_map]
 have f:∀k,k∈List.range (xs.length-1)→(Ew ∘ fun i=>D.tup (Gy [xs,xs.drop 1] i)) k=nearI (Al (xs.getD k .non)) (Al (xs.getD (k+1) .non)):=fun k _=>by
  show nearI (Al (xs.getD k .non)) (Al ((xs.drop 1).getD k .non))=_
  rw[show(xs.drop 1).getD k .non=xs.getD (k+1) .non by simp[List.getD,List.getElem?_drop,Nat.add_comm]]
 generalize hr:List.range (xs.length-1)=r at *
 clear hr e
 induction r with
 |nil=>rfl
 |cons k r ih=>
  rw[List.all_cons,f k List.mem_cons_self,ih fun j hj=>f j (List.mem_cons_of_mem _ hj),List.filter_cons]
  cases nearI (Al (xs.getD k .non)) (Al (xs.getD (k+1) .non))<;>simp
abbrev s_L_is_way:Stmt:=top 66
abbrev Oo:List Str:=["_law_channel_here", "_law_thing", "_law_row", "_law_rows"]
abbrev p_L_is_way:List Str:=["_law_channel_here", "_law_thing"]
theorem sc_L_is_way:FnScope Oo p_L_is_way (Ac s_L_is_way):=⟨rfl,rfl,rfl,by decide +kernel,rfl,by decide +kernel,by decide +kernel⟩
theorem Iv:((["_law_spot"]:List Str)++(["_law_channel_here", "_law_thing", "_law_row", "_law_rows"]:List Str)).Nodup:=by decide +kernel
def spLWay:DSp:=fun ds G Q _=>∃cs d,ds=[chD cs,d]∧ChOk cs∧KnT G 1 d∧(∀xs,d=.tup xs→xs.length<sizeLine)∧Q (.bl (X2 cs d)) G
theorem Wx{f:Addr}{fd:FuncData}(F:Fun K "_law_is_way" "_law_is_way" s_L_is_way f fd)(T:Nums mg)(Ac5:Def P w K mg base CX0 1 "_law_is" Ei Pu):FnOk P w K mg base CX0 2 f fd p_L_is_way (Ai K spLWay):=by
 refine okD F sc_L_is_way (fun ds G Q E h=>?_) (fun cdv A outer s H XE ds G Q E hr h=>?_)
 ·obtain⟨cs,d,rfl,_⟩:=h;rfl
 ·obtain⟨cs,d,rfl,ok,kd,sd,k⟩:=h
  refine⟨_,(@qss_cons _ _ _ _ _ (@qs_if _ _ _ _ _ _ _ _ (@qt_of _ _ _ (@qw_or _ _ _ _ _ _ _ (@qt_not _ _ _ _ (@qt_tru _ _ _ (@q_callB _ _ _ _ _ _ _ _ _ (@c_isinst _) (T.blt (by decide)) (by decide +kernel) (@qa_consP _ _ _ _ _ (@q_v2 _ _ 1 _ (by exact⟨rfl,rfl,rfl,rfl⟩)) (@qa_consP _ _ _ _ _ (@q_globty _ _ _ "tuple" (T.blt (by decide)) (by decide +kernel) (by rfl) (by decide) (by decide)) (@qa_nil _) (by rfl)) (by rfl)) (by rfl) (by decide) (by decide) (by rfl) (by rfl)) (by intro _ ;rfl))) (@qw_or1 _ _ _ _ (@qt_cmp _ _ _ _ _ _ _ _ (@o_ne _) (@q_callB _ _ _ _ _ _ _ _ _ (@c_len _) (T.blt (by decide)) (by decide +kernel) (@qa_consP _ _ _ _ _ (@q_v2 _ _ 1 _ (by exact⟨rfl,rfl,rfl,rfl⟩)) (@qa_nil _) (by rfl)) (by rfl) (by decide) (by decide) (by rfl) (by rfl)) (@q_callB _ _ _ _ _ _ _ _ _ (@c_len _) (T.blt (by decide)) (by decide +kernel) (@qa_consP _ _ _ _ _ (@q_v1 _ _ 0 _ (by exact⟨rfl,rfl,rfl,rfl⟩)) (@qa_nil _) (by rfl)) (by rfl) (by decide) (by decide) (by rfl) (by rfl)) (nomark _))))) (@qss_one _ _ _ (@qs_ret _ _ _ _ (@q_bl _ _ _ _))) (@qss_nil _)) (@qss_cons _ _ _ _ _ (@qs_forZ2 _ _ _ _ _ _ _ _ _ _ _ _ PassesOwn.never rfl (T.blt (by decide)) (@qa_consP _ _ _ _ _ (@q_v2 _ _ 1 _ (by exact⟨rfl,rfl,rfl,rfl⟩)) (@qa_consP _ _ _ _ _ (@q_v1 _ _ 0 _ (by exact⟨rfl,rfl,rfl,rfl⟩)) (@qa_nil _) (by rfl)) (by rfl)) (@qg_tup _ _ _ _ _ 2 rfl (@qgs_cons _ _ _ _ _ (@qg_name _ _ 2 _ sc_L_is_way.nd (by rfl) (by exact .inl rfl) (by exact .inl rfl)) (@qgs_cons _ _ _ _ _ (@qg_name _ _ 3 _ sc_L_is_way.nd (by rfl) (by exact .inl rfl) (by exact .inl rfl)) (@qgs_nil _) (by rfl)) (by rfl)) (by rfl) (by rfl)) (@qss_one _ _ _ (@qs_if _ _ _ _ _ _ _ _ (@qt_of _ _ _ (@qw_or _ _ _ _ _ _ _ (@qt_not _ _ _ _ (@qt_tru _ _ _ (@q_call _ _ _ _ _ _ _ _ noX _ _ _ Ac5 (hr.mono (by decide)) (@passN _ _) (@qa_consP _ _ _ _ _ (@q_v1 _ _ 2 _ (by exact⟨rfl,rfl,rfl,rfl⟩)) (@qa_consP _ _ _ _ _ (@q_int _ _ _ _) (@qa_consP _ _ _ _ _ (@q_int _ _ _ _) (@qa_nil _) (by rfl)) (by rfl)) (by rfl)) (by rfl) (by decide) (by rfl) (by rfl)) (by intro _ ;rfl))) (@qw_or1 _ _ _ _ (@qt_cmp _ _ _ _ _ _ _ _ (@o_notinD _ _ hr) (@q_v1 _ _ 2 _ (by exact⟨rfl,rfl,rfl,rfl⟩)) (@q_v1 _ _ 3 _ (by exact⟨rfl,rfl,rfl,rfl⟩)) (by with_unfolding_all rfl))))) (@qss_one _ _ _ (@qs_ret _ _ _ _ (@q_bl _ _ _ _))) (@qss_nil _))) (by rfl) (by rfl) (by rfl) (by intro _ ;rfl) _) (@qss_one _ _ _ (@qs_ret _ _ _ _ (@q_cmp _ _ _ _ _ _ _ _ (@o_eqD _ _ hr) (@q_compzR2 _ _ _ _ _ _ _ _ _ ["_law_spot"] ["_law_channel_here", "_law_thing", "_law_row", "_law_rows"] _ _ _ _ _ rfl (@compOz _ _ _ _ (by rfl) (by rfl) (by rfl) (by rfl) (by rfl)) (T.blt (by decide)) (@qa_consP _ _ _ _ _ (@q_int _ _ _ _) (@qa_consP _ _ _ _ _ (@q_callB _ _ _ _ _ _ _ _ _ (@c_len _) (T.blt (by decide)) (by decide +kernel) (@qa_consP _ _ _ _ _ (@q_v2 _ _ 1 _ (by exact⟨rfl,rfl,rfl,rfl⟩)) (@qa_nil _) (by rfl)) (by rfl) (by decide) (by decide) (by rfl) (by rfl)) (@qa_nil _) (by rfl)) (by rfl)) (fun _ _ _=>(@qg_name _ _ 0 _ Iv (by rfl) (by exact .inl rfl) (by exact .inr rfl))) (fun _ _ _=>(@J9 _ _ _ (@qt_cmp _ _ _ _ _ _ _ _ (@o_gt _) (@q_callB _ _ _ _ _ _ _ _ _ (@Ls _) (T.blt (by decide)) (by decide +kernel) (@qa_consP _ _ _ _ _ (@q_op _ _ _ _ _ _ _ _ (@o_sub _) (@q_ix _ _ _ _ _ _ (@q_v2 _ _ 2 _ (by exact⟨rfl,rfl,rfl,rfl⟩)) (@q_v1 _ _ 0 _ (by exact⟨rfl,rfl,rfl,rfl⟩)) (by intro _ _ ;rfl)) (@q_ix _ _ _ _ _ _ (@q_v2 _ _ 2 _ (by exact⟨rfl,rfl,rfl,rfl⟩)) (@q_op _ _ _ _ _ _ _ _ (@o_sub _) (@q_v1 _ _ 0 _ (by exact⟨rfl,rfl,rfl,rfl⟩)) (@q_int _ _ _ _)) (by intro _ _ ;rfl))) (@qa_nil _) (by rfl)) (by rfl) (by decide) (by decide) (by rfl) (by rfl)) (@q_int _ _ _ _) (nomark _)))) (fun _ _ _=>(@q_v1 _ _ 0 _ (by exact⟨rfl,rfl,rfl,rfl⟩))) (by rfl) (by rfl) (by rfl) (by intro _ ;rfl)) (@q_lst _ _ _ _ (@qa_nil _)) (nomark _)))))),?_⟩
  obtain⟨t,ht⟩:=kd.kn
  simp only[Bh,C5,nOr,Ec,Eb,nCB,Ag,Ao,Aj,List.map_cons,List.map_nil,List.length_cons,List.length_nil,Nat.zero_add,Nat.reduceAdd,Nat.reduceSub,List.replicate,List.cons_append,List.nil_append,List.getElem?_cons_succ,List.getElem?_cons_zero,Option.some.injEq,nC,Aq,List.cons.injEq,D.ty.injEq,and_true,Bi,Bs,Sc,true_and,exists_eq_left',if_true,Bj,nOp,dNe,eqS,D.bl.injEq,and_assoc,exists_and_left,B7,ht]
  refine⟨pyIs t "tuple",rfl,?_⟩
  by_cases htt:t = "tuple"
  ·subst htt
   obtain⟨xs,rfl⟩:=Fp ht
   refine it1 (by decide) ?_
   have lch:Fo G (chD cs)=some cs.length:=by simp[chD,Fo]
   simp only[Gv,Option.some.injEq,lch,exists_eq_left']
   have k2:Q (.bl (decide (xs.length=cs.length)&&((Bb [xs,cs.map Ad]).all inB&&(Bb [xs,xs.drop 1]).all Ew))) G:=k
   by_cases hlen:xs.length=cs.length
   ·refine it1 (by simp[hlen]) ?_
    rw[decide_eq_true hlen,Bool.true_and] at k2
    have hs:=sd xs rfl
    have h16:=ok.hi
    refine⟨[xs,cs.map Ad],rfl,?_⟩
    refine Cf (fun i σ G'=>∃v1 v2,σ=[some (chD cs),some (.tup xs),v1,v2]∧G=G'∧((Bb [xs,cs.map Ad]).take i).all inB=true) ⟨none,none,rfl,rfl,rfl⟩ (fun i σ G' _ ⟨_,_,_,e,_⟩=>rfl) ?_ ?_
    ·rintro i x σ _ hx ⟨v1,v2,rfl,rfl,hi⟩
     have hm:=List.mem_of_getElem? hx
     have hi2:((Bb [xs,cs.map Ad]).take (i+1)).all inB=inB x:=by rw[List.take_add_one,hx,List.all_append,hi,Bool.true_and];simp
     have bad:inB x=false→Q (.bl false) G:=fun z=>by
      have:(Bb [xs,cs.map Ad]).all inB=false:=by
       rw[←Bool.not_eq_true,List.all_eq_true]
       intro y
       have:=y x hm
       rw[z] at this;cases this
      rw[this] at k2;exact k2
     obtain⟨u,v,rfl,hu,hv⟩:=C7 hm
     obtain⟨c,hcm,rfl⟩:=List.mem_map.mp hv
     have ku:Kn G u:=kd.2 xs rfl u hu
     have eb:inB (.tup [u,Ad c])=(As 0 8 u&&decide (Al u∈c)):=by
      show(As 0 8 u&&decide (Al u∈(c.map D.int).map Al))=_
      rw[Jt]
     rw[eb] at hi2 bad
     simp only[Nc,D.tup.injEq,Hd,A0,Nd,C5,nOr,Ec,Eb,Ax,Ag,Ao,List.set_cons_succ,List.set_cons_zero,List.getElem?_cons_succ,List.getElem?_cons_zero,Option.some.injEq,nC,Aq,Pu,List.cons.injEq,D.int.injEq,and_true,Bi,Bs,if_true,Bj,nOp,exists_eq_left',and_assoc,exists_and_left,List.length_cons,List.length_nil,Nat.zero_add,Nat.reduceAdd,true_and,ku]
     refine⟨_,rfl,?_⟩
     cases hw:As 0 8 u with
     |false=>exact it0 (by decide) (Fq.of (bad (by rw[hw];rfl)))
     |true=>
      refine it1 (by decide) ?_
      cases u with
      |int i=>
       refine S5 ⟨_,rfl,?_⟩
       by_cases hm2:i∈c
       ·exact it1 (by simp[hm2]) (Fs.of ⟨_,_,rfl,rfl,by rw[hi2,hw];exact decide_eq_true hm2⟩)
       ·exact it0 (by simp[hm2]) (Fq.of (bad (by rw[hw];exact decide_eq_false hm2)))
      |_=>cases hw
    ·rintro σ _ ⟨v1,v2,rfl,rfl,hi⟩
     rw[List.take_length] at hi
     rw[hi,Bool.true_and,Pz] at k2
     have alln:∀j (hj:j<xs.length),xs[j]? = some (.int (Al (xs.getD j .non))):=fun j hj=>by
      have hm:j<Cc [xs,cs.map Ad]:=by simp only[Cc,List.length_map];omega
      have z:=List.all_eq_true.mp hi (.tup (Gy [xs,cs.map Ad] j)) (List.mem_of_getElem? (E7 hm))
      have er:Gy [xs,cs.map Ad] j=[xs[j],Ad (cs[j]'(by omega))]:=by
       simp[Gy,List.getD,List.getElem?_eq_getElem hj,List.getElem?_eq_getElem (show j<cs.length by omega)]
      rw[er] at z
      have eg:xs.getD j .non=xs[j]:=by simp[List.getD,List.getElem?_eq_getElem hj]
      rw[eg,List.getElem?_eq_getElem hj]
      generalize xs[j]=x at z
      cases x with
      |int i=>rfl
      |_=>cases z
     have sz0:0≤sizeLine:=szl (by decide)
     have sml:∀{n:Nat},n≤100→n<sizeLine:=fun h=>Nat.lt_of_le_of_lt h (Bo (by decide))
     simp only[Bi,nOp,Mc,Ag,nC,nCB,Ao,List.getElem?_cons_succ,List.getElem?_cons_zero,Option.some.injEq,Aq,List.cons.injEq,and_true,D.int.injEq,Int.reducePow,Int.reduceNeg,Dj,List.length_nil,sz0,true_and,and_assoc,exists_and_left,exists_eq_left',Int.reduceLE,Int.reduceLT,Gv]
     refine⟨by omega,by omega,fun p hp=>?_⟩
     refine Bv (fun x=>x) (fun x=>!nearI (Al (xs.getD ((Al x).toNat-1) .non)) (Al (xs.getD ((Al x).toNat-1+1) .non))) (by rw[Df];exact sml (by omega)) (fun _=>trivial) (by decide) (fun x ys hx hl R1 R2 g1 g2=>?_) ?_
     ·obtain⟨k,hk,rfl⟩:=List.mem_map.mp hx
      have hk:=List.mem_range.mp hk
      have e1:(1:Int)+(k:Int)=((k+1:Nat):Int):=by omega
      have e2:((k+1:Nat):Int)-1=(k:Int):=by omega
      rw[e1] at g1 g2 ⊢
      have e3:(Al (.int ((k+1:Nat):Int))).toNat-1=k:=by simp[Al]
      rw[e3] at g1 g2
      have a1:=Kg (alln (k+1) (by omega))
      have a2:=Kg (alln k (by omega))
      simp only[Bj,nOp,nCB,Ag,Ao,List.replicate,List.cons_append,List.nil_append,List.set_cons_zero,List.getElem?_cons_succ,List.getElem?_cons_zero,Option.some.injEq,dIx,nC,dI0,D.int.injEq,Aq,List.cons.injEq,and_true,D.bl.injEq,Aa,hl,Bl,true_and,exists_eq_left',decide_eq_true_eq,e2,U0,a2,a1]
      by_cases h:1<(if Al (xs.getD (k+1) .non)-Al (xs.getD k .non)<0 then -(Al (xs.getD (k+1) .non)-Al (xs.getD k .non)) else Al (xs.getD (k+1) .non)-Al (xs.getD k .non))
      ·rw[if_pos h];exact Fg.of (g1 (by simp only[nearI];rw[decide_eq_false (by omega)];rfl))
      ·rw[if_neg h];exact Fg.of (g2 (by simp only[nearI];rw[decide_eq_true (by omega)];rfl))
     ·intro p2 hp2
      have el:List.map (fun x=>x) ((D3.El 1 ((xs.length:Nat):Int)).filter fun x=>!nearI (Al (xs.getD ((Al x).toNat-1) .non)) (Al (xs.getD ((Al x).toNat-1+1) .non)))=(((List.range (xs.length-1)).filter fun k=>!nearI (Al (xs.getD k .non)) (Al (xs.getD (k+1) .non))).map fun(k:Nat)=>(1:Int)+k).map D.int:=by
       rw[List.map_id',List.map_map]
       unfold D3.El
       rw[List.filter_map,show(((xs.length:Nat):Int)-1).toNat=xs.length-1 by omega]
       refine congrArg (List.map _) (List.filter_congr fun k _=>?_)
       show(!nearI (Al (xs.getD ((1+(k:Int)).toNat-1) .non)) (Al (xs.getD ((1+(k:Int)).toNat-1+1) .non)))=_
       rw[show(1+(k:Int)).toNat-1=k by omega]
      rw[el] at hp2 ⊢
      refine Xc (Ae Aa hp2) Aa ⟨G,(Sub.new hp).trans (Sub.new hp2),?_⟩
      rw[show(((List.range (xs.length-1)).filter fun k=>!nearI (Al (xs.getD k .non)) (Al (xs.getD (k+1) .non))).map fun(k:Nat)=>(1:Int)+k).isEmpty=((List.range (xs.length-1)).filter fun k=>!nearI (Al (xs.getD k .non)) (Al (xs.getD (k+1) .non))).isEmpty by simp]
      exact k2
   ·refine it0 (by simp;omega) (Fq.of ?_)
    rw[decide_eq_false hlen] at k2
    exact k2
  ·obtain⟨e,nt⟩:=Dz ht htt
   rw[e]
   refine it0 (by decide) (Fq.of ?_)
   cases d with
   |tup xs=>exact absurd rfl (nt xs)
   |_=>exact k
end
section
variable{P:Program}{w:World}{K:W.Frag}{mg:Str→Option Value}{base:Heap}
theorem W2{G:Gp}{p q:Addr}{c:List Int}{Q:DK}(hp:G p=some (.lst (c.map D.int)))(hq:G q=some (.lst []))(h:Q (.bl (!c.isEmpty)) G):R0 (.ref p) (.ref q) G Q:=
 ⟨_,_,.lst hp Cw,.lst hq .nil,by rw[PyData.canLay0];exact C0 c,rfl,by rw[PyData.depth,PyData.depth,C2];decide,by rw[Mi];exact h⟩
def DrP(G:Gp)(a pf:Addr)(t:D)(i:Nat)(σ:DSt)(G':Gp):Prop:=∃r v4 v5,σ=[some (.ref a),some t,some (.int r),some (.ref pf),v4,v5]∧(0≤r∧r≤8)∧Step a G G'∧∃ns:List Int,G' pf=some (.lst (ns.map D.int))∧ns.length=i∧∀n∈ns,0≤n∧n≤8
abbrev s_L_drawn_way:Stmt:=top 67
abbrev Ja:List Str:=["_law_box_here", "_law_channel_here", "_law_row", "_law_found", "_law_rows", "_law_some"]
abbrev p_L_drawn_way:List Str:=["_law_box_here", "_law_channel_here"]
theorem sc_L_drawn_way:FnScope Ja p_L_drawn_way (Ac s_L_drawn_way):=⟨rfl,rfl,rfl,by decide +kernel,rfl,by decide +kernel,by decide +kernel⟩
theorem F7:((["_law_one"]:List Str)++(["_law_box_here", "_law_channel_here", "_law_row", "_law_found", "_law_rows", "_law_some"]:List Str)).Nodup:=by decide +kernel
def spDrawn:DSp:=fun ds G Q _=>∃a cs,ds=[.ref a,chD cs]∧(∃b,G a=some (.lst [.int b]))∧ChOk cs∧∀ws G',Step a G G'→ws.length=cs.length→(∀n∈ws,0≤n∧n≤8)→Q (Ad ws) G'
theorem Up{f:Addr}{fd:FuncData}(F:Fun K "_law_drawn_way" "_law_drawn_way" s_L_drawn_way f fd)(T:Blt mg)(Ac0:Def P w K mg base CX0 1 "_law_take" p_L_take spTake):FnOk P w K mg base CX0 2 f fd p_L_drawn_way (Ai K spDrawn):=by
 refine okD F sc_L_drawn_way (fun ds G Q E h=>?_) (fun cdv A outer s H XE ds G Q E hr h=>?_)
 ·obtain⟨a,cs,rfl,_⟩:=h;rfl
 ·obtain⟨a,cs,rfl,hG,ok,q⟩:=h
  refine⟨_,(@qss_cons _ _ _ _ _ (@qs_asg _ _ _ _ _ _ (@q_tup _ _ _ _ _ (@qa_consP _ _ _ _ _ (@q_call _ _ _ _ _ _ _ _ noX _ _ _ Ac0 (hr.mono (by decide)) (@passN _ _) (@qa_consP _ _ _ _ _ (@q_v1 _ _ 0 _ (by exact⟨rfl,rfl,rfl,rfl⟩)) (@qa_consP _ _ _ _ _ (@q_int _ _ _ _) (@qa_nil _) (by rfl)) (by rfl)) (by rfl) (by decide) (by rfl) (by rfl)) (@qa_consP _ _ _ _ _ (@q_lst _ _ _ _ (@qa_nil _)) (@qa_nil _) (by rfl)) (by rfl))) (@qg_tup _ _ _ _ _ 2 rfl (@qgs_cons _ _ _ _ _ (@qg_name _ _ 2 _ sc_L_drawn_way.nd (by rfl) (by exact .inr rfl) (by exact .inl rfl)) (@qgs_cons _ _ _ _ _ (@qg_name _ _ 3 _ sc_L_drawn_way.nd (by rfl) (by exact .inl rfl) (by exact .inl rfl)) (@qgs_nil _) (by rfl)) (by rfl)) (by rfl) (by rfl)) (by rfl) (by rfl) (by rfl)) (@qss_cons _ _ _ _ _ (@qs_for _ _ _ _ _ _ _ _ PassesOwn.never rfl (@q_v1 _ _ 1 _ (by exact⟨rfl,rfl,rfl,rfl⟩)) (@qg_name _ _ 4 _ sc_L_drawn_way.nd (by rfl) (by exact .inl rfl) (by exact .inl rfl)) (@qss_cons _ _ _ _ _ (@T4 _ _ _ _ _ _ _ _ _ _ _ ["_law_one"] ["_law_box_here", "_law_channel_here", "_law_row", "_law_found", "_law_rows", "_law_some"] 5 _ _ _ rfl (@compOz _ _ _ _ (by rfl) (by rfl) (by rfl) (by rfl) (by rfl)) (@q_v1 _ _ 4 _ (by exact⟨rfl,rfl,rfl,rfl⟩)) (fun _ _ _=>(@qg_name _ _ 0 _ F7 (by rfl) (by exact .inl rfl) (by exact .inr rfl))) (fun _ _ _=>(@J9 _ _ _ (@qt_cmp _ _ _ _ _ _ _ _ (@o_le _) (@q_callB _ _ _ _ _ _ _ _ _ (@Ls _) (T.blt (by decide)) (by decide +kernel) (@qa_consP _ _ _ _ _ (@q_op _ _ _ _ _ _ _ _ (@o_sub _) (@q_v1 _ _ 0 _ (by exact⟨rfl,rfl,rfl,rfl⟩)) (@q_v2 _ _ 3 _ (by exact⟨rfl,rfl,rfl,rfl⟩))) (@qa_nil _) (by rfl)) (by rfl) (by decide) (by decide) (by rfl) (by rfl)) (@q_int _ _ _ _) (nomark _)))) (fun _ _ _=>(@q_v1 _ _ 0 _ (by exact⟨rfl,rfl,rfl,rfl⟩))) sc_L_drawn_way.nd rfl (by rfl) (by first|exact .inl rfl|exact .inr rfl) (by first|exact .inl rfl|exact .inr rfl) (by intro _ ;rfl)) (@qss_cons _ _ _ _ _ (@qs_ifM _ _ _ _ _ _ _ _ (@qt_cmp _ _ _ _ _ _ _ _ (@o_neD _ _ hr) (@q_v1 _ _ 5 _ (by exact⟨rfl,rfl,rfl,rfl⟩)) (@q_lst _ _ _ _ (@qa_nil _)) (nomark _)) (@qss_one _ _ _ (@qs_set _ _ _ _ 2 _ _ sc_L_drawn_way.nd (@q_ix _ _ _ _ _ _ (@q_v1 _ _ 5 _ (by exact⟨rfl,rfl,rfl,rfl⟩)) (@q_call _ _ _ _ _ _ _ _ noX _ _ _ Ac0 (hr.mono (by decide)) (@passN _ _) (@qa_consP _ _ _ _ _ (@q_v1 _ _ 0 _ (by exact⟨rfl,rfl,rfl,rfl⟩)) (@qa_consP _ _ _ _ _ (@q_callB _ _ _ _ _ _ _ _ _ (@c_len _) (T.blt (by decide)) (by decide +kernel) (@qa_consP _ _ _ _ _ (@q_v1 _ _ 5 _ (by exact⟨rfl,rfl,rfl,rfl⟩)) (@qa_nil _) (by rfl)) (by rfl) (by decide) (by decide) (by rfl) (by rfl)) (@qa_nil _) (by rfl)) (by rfl)) (by rfl) (by decide) (by rfl) (by rfl)) (by intro _ _ ;rfl)) (by rfl) (by exact .inr rfl) (by rfl) (by exact .inl rfl))) (@qss_nil _)) (@qss_one _ _ _ (@qs_expr _ _ _ _ (@q_app _ _ _ _ _ _ _ (@q_v1 _ _ 3 _ (by exact⟨rfl,rfl,rfl,rfl⟩)) (@q_v2 _ _ 2 _ (by exact⟨rfl,rfl,rfl,rfl⟩)) (by rfl) (by rfl) (by rfl) (by rfl) (by rfl)) (by rfl))))) (by intro _ ;rfl)) (@qss_one _ _ _ (@qs_ret _ _ _ _ (@q_callTy _ _ _ _ _ _ _ _ _ (@c_tuple _) (T.blt (by decide)) (by decide +kernel) (@qa_consP _ _ _ _ _ (@q_v1 _ _ 3 _ (by exact⟨rfl,rfl,rfl,rfl⟩)) (@qa_nil _) (by rfl)) (by rfl) (by decide) (by decide) (by rfl) (by rfl)))))),?_⟩
  have sz0:0≤sizeLine:=szl (by decide)
  have sml:∀{n:Nat},n≤100→n<sizeLine:=fun h=>Nat.lt_of_le_of_lt h (Bo (by decide))
  simp only[Bh,B9,Gz,Ag,Ax,Ao,Aj,List.map_cons,List.map_nil,List.length_cons,List.length_nil,Nat.zero_add,Nat.reduceAdd,Nat.reduceSub,List.replicate,List.cons_append,List.nil_append,List.getElem?_cons_zero,Option.some.injEq,nC,Aq,Dj,sz0,Nc,D.tup.injEq,Hd,A0,Nd,Rv,List.set_cons_succ,List.set_cons_zero,List.getElem?_cons_succ,exists_eq_left',List.cons.injEq,and_assoc,exists_and_left,true_and]
  refine Bn hG (by decide) (by decide) fun r b r0 r1=>?_
  have s1:=(Step.refl hG).take b
  generalize Ab G a (.lst [.int b])=G1 at *
  intro pf hf
  have nf:=Step.ne s1.box hf
  have f0:=s1.back hf
  have s2:=s1.lay (o:=.lst []) hf
  have g2:Ab G1 pf (.lst []) pf=some (.lst []):=Aa
  generalize Ab G1 pf (.lst [])=G2 at *
  refine⟨szl (by decide),cs.map Ad,rfl,?_⟩
  have h16:=ok.hi
  refine Cf (DrP G a pf (chD cs)) ⟨r,none,none,rfl,⟨r0,by omega⟩,s2,[],g2,rfl,by simp⟩ (fun _ _ _ _ _=>rfl) ?_ ?_
  ·rintro i x σ G3 hx ⟨r,v4,v5,rfl,⟨r0,r8⟩,s3,ns,g3,hl,hb⟩
   have hi:i<cs.length:=by
    rcases Nat.lt_or_ge i cs.length with z|z
    ·exact z
    ·rw[List.getElem?_eq_none (by simpa using z)] at hx;cases hx
   obtain⟨c,hc,rfl⟩:=List.mem_map.mp (List.mem_of_getElem? hx)
   have ci:=ok.rw c hc
   have cl:=ci.len
   simp only[A0,Bh,B9,Do,Ao,List.set_cons_succ,List.set_cons_zero,List.getElem?_cons_succ,List.getElem?_cons_zero,Option.some.injEq,Ru,Bj,nOp,Dj,Aq,List.length_nil,sz0,Ax,Ag,nCB,List.cons.injEq,and_true,dIx,exists_eq_left',Bs,true_and,Ct,Rw]
   refine⟨c.map D.int,rfl,fun p hp=>?_⟩
   refine Bv (fun x=>x) (fun x=>nearI r (Al x)) (by simpa using sml (by omega)) (fun _=>rfl) (by decide) (fun x ys hx hl R1 R2 g1 g2=>?_) ?_
   ·obtain⟨i,_,rfl⟩:=List.mem_map.mp hx
    simp only[Bj,nOp,nCB,Ag,Ao,List.replicate,List.cons_append,List.nil_append,List.set_cons_zero,List.getElem?_cons_zero,Option.some.injEq,List.getElem?_cons_succ,dI0,Aq,List.cons.injEq,D.int.injEq,and_true,nC,D.bl.injEq,Aa,hl,Bl,true_and,exists_eq_left',decide_eq_true_eq]
    by_cases h:(if i-r<0 then -(i-r) else i-r)≤1
    ·rw[if_pos h];exact Fg.of (g1 (decide_eq_true h))
    ·rw[if_neg h];exact Fg.of (g2 (decide_eq_false h))
   ·have e:List.map (fun x=>x) (List.filter (fun x=>nearI r (Al x)) (List.map D.int c))=(c.filter (nearI r)).map D.int:=by
     rw[List.map_id',List.filter_map];rfl
    rw[e]
    have p0:=s3.back hp
    have np:=Step.ne s3.box hp
    have s4:=s3.lay (o:=.lst ((c.filter (nearI r)).map D.int)) hp
    have g4:=Ae (u:=.lst ((c.filter (nearI r)).map D.int)) g3 hp
    have e4:Ab G3 p (.lst ((c.filter (nearI r)).map D.int)) p=some (.lst ((c.filter (nearI r)).map D.int)):=Aa
    generalize Ab G3 p (.lst ((c.filter (nearI r)).map D.int))=G4 at *
    have mem:∀n∈c.filter (nearI r),0≤n∧n≤8:=fun n hn=>ci.1 n (List.mem_filter.mp hn).1
    have lk:(c.filter (nearI r)).length≤9:=Nat.le_trans (List.length_filter_le _ _) (by omega)
    generalize c.filter (nearI r)=ks at *
    refine⟨fun σ' G'=>∃r',σ'=[some (.ref a),some (chD cs),some (.int r'),some (.ref pf),some (Ad c),some (.ref p)]∧(0≤r'∧r'≤8)∧Step a G G'∧G' pf=some (.lst (ns.map D.int)),?_,?_⟩
    ·intro p2 hp2
     have s5:=s4.lay (o:=.lst []) hp2
     have g5:=Ae (u:=.lst []) g4 hp2
     have e5:=Ae (u:=.lst []) e4 hp2
     have f5:Ab G4 p2 (.lst []) p2=some (.lst []):=Aa
     generalize Ab G4 p2 (.lst [])=G5 at *
     refine W2 e5 f5 ⟨_,rfl,?_⟩
     cases hk:ks with
     |nil=>
      rw[hk] at *
      exact it1 (by decide) (Fs.of ⟨r,rfl,⟨r0,r8⟩,s5,g5⟩)
     |cons k0 kr=>
      rw[←hk]
      refine it0 (by rw[hk];rfl) ?_
      have lpos:0<ks.length:=by rw[hk];simp
      have ln:Fo G5 (.ref p)=some ks.length:=by simp[Fo,e5]
      simp only[ln,Option.some.injEq,and_assoc,exists_eq_left']
      refine Bn s5.box (by omega) (by omega) fun j b2 j0 j1=>?_
      have s6:=s5.take b2
      have g6:Ab G5 a (.lst [.int b2]) pf=some (.lst (ns.map D.int)):=by rw[Am nf.symm];exact g5
      have e6:Ab G5 a (.lst [.int b2]) p=some (.lst (ks.map D.int)):=by rw[Am np.symm];exact e5
      generalize Ab G5 a (.lst [.int b2])=G6 at *
      obtain⟨d,hd,hm⟩:=D6 (xs:=ks.map D.int) j0 (by simpa using j1)
      obtain⟨n,hn,rfl⟩:=List.mem_map.mp hm
      refine⟨j,rfl,.int n,by rw[A7 e6];exact hd,Fs.of ⟨n,rfl,(mem n hn).1,(mem n hn).2,s6,g6⟩⟩
    ·rintro σ' G5 ⟨r',rfl,hr',s5,g5⟩
     simp only[List.getElem?_cons_succ,List.getElem?_cons_zero,Option.some.injEq,exists_eq_left',D.ref.injEq,g5,GO.lst.injEq]
     refine⟨⟨_,rfl⟩,by rw[List.length_map];exact sml (by omega),Fs.of ⟨r',_,_,rfl,hr',s5.write f0 nf,ns++[r'],by rw[Aa];simp,by simp[hl],fun n hn=>?_⟩⟩
     rcases List.mem_append.mp hn with z|z
     ·exact hb n z
     ·rw[List.mem_singleton.mp z];exact hr'
  ·rintro σ G3 ⟨r,v4,v5,rfl,_,s3,ns,g3,hl,hb⟩
   simp only[Bi,nCB,Ag,Ao,List.getElem?_cons_succ,List.getElem?_cons_zero,Option.some.injEq,Aq,List.cons.injEq,and_true,exists_eq_left',A9 g3]
   exact Fq.of (q ns G3 s3 (by simpa using hl) hb)
end
def fW:List Nat→Nat
 |[]=>100
 |c::ws=>c*(fW ws+2)+103
theorem Lp:∀ws,100≤fW ws
 |[]=>Nat.le_refl _
 |c::ws=>by rw[fW];omega
mutual
theorem O3{G G':Gp}(s:Sub G G'):∀{d:D} {p:PyData},RepD G d p→RepD G' d p
 |_,_,.non=>.non
 |_,_,.bl b=>.bl b
 |_,_,.int i=>.int i
 |_,_,.str x=>.str x
 |_,_,.tup r=>.tup (Hl s r)
 |_,_,.lst e r=>.lst (s _ _ e) (Hl s r)
 |_,_,.dct0 e=>.dct0 (s _ _ e)
theorem Hl{G G':Gp}(s:Sub G G'):∀{ds:List D} {ps:List PyData},RepDs G ds ps→RepDs G' ds ps
 |_,_,.nil=>.nil
 |_,_,.cons h t=>.cons (O3 s h) (Hl s t)
end
structure Sh(G:Gp)(b n:Nat)(d:D)(p:PyData):Prop where
 rep:RepD G d p
 ok:p.showable=true
 len:p.shown.length≤b
 dep:p.depth≤n
theorem Ni:∀{ts:List Str} {b:Nat},(∀t∈ts,t.length≤b)→(ts.map (·.length)).sum≤ts.length*b
 |[],b,h=>Nat.zero_le _
 |x::r,b,h=>by
  have ih:=Ni (ts:=r) (b:=b) fun t ht=>h t (by simp[ht])
  have hx:=h x (by simp)
  rw[List.map_cons,List.sum_cons,List.length_cons,Nat.succ_mul];omega
theorem shs{G:Gp}{b n:Nat}:∀{ds:List D},(∀d∈ds,∃p,Sh G b n d p)→∃ps,RepDs G ds ps∧PyData.showableAll ps=true∧(∀t∈PyData.shownAll ps,t.length≤b)∧PyData.depthAll ps≤n∧(PyData.shownAll ps).length=ds.length
 |[],_=>⟨[],.nil,rfl,(fun t h=>by simp[PyData.shownAll] at h),Nat.zero_le _,rfl⟩
 |d::ds,h=>by
  obtain⟨p,hp⟩:=h d (by simp)
  obtain⟨ps,h1,h2,h3,h4,h5⟩:=shs (ds:=ds) fun x hx=>h x (by simp[hx])
  refine⟨p::ps,.cons hp.rep h1,?_,fun t ht=>?_,?_,?_⟩
  ·rw[PyData.showableAll,hp.ok,h2];rfl
  ·rw[PyData.shownAll] at ht
   rcases List.mem_cons.mp ht with e|e
   ·rw[e];exact hp.len
   ·exact h3 t e
  ·rw[PyData.depthAll];exact Nat.max_le.mpr ⟨hp.dep,h4⟩
  ·rw[PyData.shownAll,List.length_cons,h5];rfl
theorem Su{G:Gp}{b n c:Nat}{ds:List D}(h:∀d∈ds,∃p,Sh G b n d p)(hc:ds.length≤c):∃p,Sh G (c*(b+2)+103) (n+1) (.tup ds) p:=by
 obtain⟨ps,h1,h2,h3,h4,h5⟩:=shs h
 refine⟨.tuple ps,.tup h1,by rw[PyData.showable];exact h2,?_,by rw[PyData.depth];omega⟩
 rw[PyData.shown]
 have hl:=tupleText_len_le (PyData.shownAll ps)
 have hs:=Ni h3
 rw[h5] at hs hl
 have hm:ds.length*(b+2)≤c*(b+2):=Nat.mul_le_mul_right _ hc
 have:ds.length*(b+2)=ds.length*b+2*ds.length:=by rw[Nat.mul_add];omega
 omega
theorem Yj{G:Gp}{b n c:Nat}{a:Addr}{ds:List D}(e:G a=some (.lst ds))(h:∀d∈ds,∃p,Sh G b n d p)(hc:ds.length≤c):∃p,Sh G (c*(b+2)+103) (n+1) (.ref a) p:=by
 obtain⟨ps,h1,h2,h3,h4,h5⟩:=shs h
 refine⟨.list ps,.lst e h1,by rw[PyData.showable];exact h2,?_,by rw[PyData.depth];omega⟩
 rw[PyData.shown]
 have hl:=listText_len_le (PyData.shownAll ps)
 have hs:=Ni h3
 rw[h5] at hs hl
 have hm:ds.length*(b+2)≤c*(b+2):=Nat.mul_le_mul_right _ hc
 have:ds.length*(b+2)=ds.length*b+2*ds.length:=by rw[Nat.mul_add];omega
 omega
theorem Zw{i:Int}(h:i.natAbs<10 ^ 25):i.natAbs.log2<1920:=by
 by_cases h0:i.natAbs=0
 ·rw[h0];decide
 ·exact Nat.lt_of_lt_of_le ((Nat.log2_lt h0).mpr (Nat.lt_trans h (show 10 ^ 25<2 ^ 100 by decide))) (by decide)
theorem Good.sh{G:Gp}{ws:List Nat}{d:D}(h:Good G ws d):∃p,Sh G (fW ws) (ws.length+1) d p:=by
 induction h with
 |@non ws=>exact⟨.none,.non,rfl,Nat.le_trans (by decide) (Lp ws),Nat.zero_le _⟩
 |@bl ws b=>exact⟨.bool b,.bl b,rfl,Nat.le_trans (by cases b<;>decide) (Lp ws),Nat.zero_le _⟩
 |@int ws i h=>
  refine⟨.int i,.int i,decide_eq_true (Zw (Nat.lt_of_le_of_lt h (by decide))),Nat.le_trans ?_ (Lp ws),Nat.zero_le _⟩
  have:=int_text_length_le10 (a:=i) (k:=25) (by decide) (Nat.lt_of_le_of_lt h (by decide))
  show(Str.ofString (toString i)).length≤100
  rw[ofString_length];omega
 |@str ws x h=>
  refine⟨.str x,.str x,rfl,Nat.le_trans ?_ (Lp ws),Nat.zero_le _⟩
  show(reprText x).length≤100
  simp only[List.mem_cons,List.not_mem_nil,or_false] at h
  rcases h with rfl|rfl|rfl|rfl|rfl|rfl|rfl<;>decide +kernel
 |tup h _ ih=>exact Su ih h
 |lst e h _ ih=>exact Yj e ih h
 |@dct ws a e=>exact⟨.dict [],.dct0 e,rfl,Nat.le_trans (by decide +kernel) (Lp ws),by show 0+1≤_;omega⟩
theorem Jb{n:Nat}(h:n≤16000000):n≤sizeLine:=by rw[sizeLine_eq];omega
section
variable{P:Program}{w:World}{K:W.Frag}{mg:Str→Option Value}{base:Heap}
abbrev s_L_same:Stmt:=top 62
abbrev Vn:List Str:=["_law_found", "_law_due"]
abbrev Cz:List Str:=["_law_found", "_law_due"]
theorem Qb:FnScope Vn Cz (Ac s_L_same):=⟨rfl,rfl,rfl,by decide +kernel,rfl,by decide +kernel,by decide +kernel⟩
def Nk:DSp:=fun ds G Q _=>∃x y b p,ds=[x,y]∧Sh G b 90 x p∧Sh G b 90 y p∧b≤16000000∧Q (.bl true) G
theorem Wr{f:Addr}{fd:FuncData}(F:Fun K "_law_same" "_law_same" s_L_same f fd)(T:Blt mg):FnOk P w K mg base CX0 1 f fd Cz (Ai K Nk):=by
 refine okD F Qb (fun ds G Q E h=>?_) (fun cdv A outer s H XE ds G Q E hr h=>?_)
 ·obtain⟨x,y,b,p,rfl,_⟩:=h;rfl
 ·obtain⟨x,y,b,p,rfl,hx,hy,hb,k⟩:=h
  refine⟨_,(@qss_one _ _ _ (@qs_ret _ _ _ _ (@q_cmp _ _ _ _ _ _ _ _ (@o_eq _) (@q_callB _ _ _ _ _ _ _ _ _ (@c_repr _ _ hr) (T.blt (by decide)) (by decide +kernel) (@qa_consP _ _ _ _ _ (@q_v1 _ _ 0 _ (by exact⟨rfl,rfl,rfl,rfl⟩)) (@qa_nil _) (by rfl)) (by rfl) (by decide) (by decide) (by rfl) (by rfl)) (@q_callB _ _ _ _ _ _ _ _ _ (@c_repr _ _ hr) (T.blt (by decide)) (by decide +kernel) (@qa_consP _ _ _ _ _ (@q_v1 _ _ 1 _ (by exact⟨rfl,rfl,rfl,rfl⟩)) (@qa_nil _) (by rfl)) (by rfl) (by decide) (by decide) (by rfl) (by rfl)) (nomark _)))),?_⟩
  simp only[Bi,nOp,nCB,Ag,Ao,Aj,List.map_cons,List.map_nil,List.length_cons,List.length_nil,Nat.zero_add,Nat.reduceAdd,Nat.reduceSub,List.replicate,List.cons_append,List.nil_append,List.getElem?_cons_zero,Option.some.injEq,Aq,List.cons.injEq,and_true,List.getElem?_cons_succ,dEq,eqS,exists_eq_left']
  refine⟨p,hx.rep,hx.ok,Jb (Nat.le_trans hx.len hb),Nat.le_trans hx.dep (by decide),p,hy.rep,hy.ok,Jb (Nat.le_trans hy.len hb),Nat.le_trans hy.dep (by decide),Fq.of ?_⟩
  rw[decide_eq_true rfl];exact k
end
section
variable{P:Program}{w:World}{K:W.Frag}{mg:Str→Option Value}{base:Heap}
abbrev C3:List Str:=["NoSea", "NoCell", "NoDraught", "NoDay", "NoNotices", "NoNumber", "NoMark", "NoChannel", "NoSightings", "NoFairway", "NoSide", "NoColumns", "NoLine", "There", "Nothing", "Unlike", "NoText", "TooMany"]
abbrev kindNames:List Str:=["sea", "cell", "draught", "day", "notices", "number", "mark", "channel", "sightings", "fairway", "side", "columns", "line", "there", "nothing"]
def Ez(tbl:List (Str×Addr))(x:Str):Addr:=(tbl.lookup x).getD 0
structure Cls(K:PySem.W.Frag)(mg:Str→Option Value)(tbl:List (Str×Addr)):Prop where
 mg:∀x:Str,x∈C3→mg x=some (.ref (Ez tbl x))
 own:∀x:Str,x∈C3→OwnK K (Ez tbl x)
structure ExKind(K:PySem.W.Frag)(tbl:List (Str×Addr))(C:Addr)(i:Nat):Prop where
 ec:ExcCl K C
 ve:PySem.W.mroIn K C (.type "ValueError")=some true
 lt:i<15
 ms:∀(j:Nat) (x:Str),C3[j]? = some x→PySem.W.mroIn K C (.ref (Ez tbl x))=some (j == i)∧(C=Ez tbl x→(j == i)=true)
theorem isx{tbl:List (Str×Addr)}{G:Gp}{a C:Addr}{i:Nat}{Q:DK}(Z:Cls K mg tbl)(hG:G a=some (.any (excIs C)))(k:ExKind K tbl C i)(j:Nat){x:Str}(hj:C3[j]? = some x)(q:Q (.bl (j == i)) G):rIsE K [.ref a,.ref (Ez tbl x)] G Q:=
 ⟨a,C,_,_,rfl,hG,k.ec,Z.own x (List.mem_of_getElem? hj),(k.ms j x hj).1,(k.ms j x hj).2,q⟩
def fl(i:Nat):List Bool:=[0 == i,1 == i,2 == i,3 == i,4 == i,5 == i,6 == i,7 == i,8 == i,9 == i,10 == i,11 == i,12 == i,13 == i,14 == i,15 == i,16 == i,17 == i]
theorem Z9:∀i,i<15→(fl i).count true=1:=by decide
theorem X0:∀i,i<15→(fl i)[i]? = some true∧∀m,m<i→(fl i)[m]? = some false:=by decide
theorem Lu{G:Gp}{p q:Addr}{xs ys zs:List D}{Q:DK}(hp:G p=some (.lst xs))(hq:G q=some (.lst ys))(hz:xs++ys=zs)(hl:xs.length+ys.length≤sizeLine)(k:∀r,G r=none→Q (.ref r) (Ab G r (.lst zs))):Eh (.ref p) (.ref q) G Q:=by
 subst hz
 simp only[Eh,hp,hq]
 exact⟨hl,k⟩
abbrev s_L_which:Stmt:=top 63
abbrev Rt:List Str:=["_law_e", "_law_marks", "_law_names"]
abbrev p_L_which:List Str:=["_law_e"]
theorem sc_L_which:FnScope Rt p_L_which (Ac s_L_which):=⟨rfl,rfl,rfl,by decide +kernel,rfl,by decide +kernel,by decide +kernel⟩
def Bt(K:PySem.W.Frag)(tbl:List (Str×Addr)):DSp:=fun ds G Q _=>∃a C i,ds=[.ref a]∧G a=some (.any (excIs C))∧ExKind K tbl C i∧Q (.tup [.str (kindNames.getD i "")]) G
theorem Uj{tbl:List (Str×Addr)}{f:Addr}{fd:FuncData}(F:Fun K "_law_which" "_law_which" s_L_which f fd)(T:Blt mg)(Z:Cls K mg tbl):FnH P w K mg base CX0 1 f fd p_L_which (Ai K (Bt K tbl)):=by
 refine okH F sc_L_which (fun ds G Q E h=>?_) (fun cdv A outer s H XE ds G Q E hr h=>?_)
 ·obtain⟨a,C,i,rfl,_⟩:=h;rfl
 ·obtain⟨a,C,i,rfl,hG,hk,q⟩:=h
  refine⟨_,(@qss_cons _ _ _ _ _ (@qs_set _ _ _ _ 1 _ _ sc_L_which.nd (@q_lst _ _ _ _ (@qa_consP _ _ _ _ _ (@q_callB _ _ _ _ _ _ _ _ _ (@c_isexc _) (T.blt (by decide)) (by decide +kernel) (@qa_consP _ _ _ _ _ (@q_v1 _ _ 0 _ (by exact⟨rfl,rfl,rfl,rfl⟩)) (@qa_consP _ _ _ _ _ (@q_globr _ _ _ _ (Z.mg "NoSea" (by decide)) (by rfl) (by decide)) (@qa_nil _) (by rfl)) (by rfl)) (by rfl) (by decide) (by decide) (by rfl) (by rfl)) (@qa_consP _ _ _ _ _ (@q_callB _ _ _ _ _ _ _ _ _ (@c_isexc _) (T.blt (by decide)) (by decide +kernel) (@qa_consP _ _ _ _ _ (@q_v1 _ _ 0 _ (by exact⟨rfl,rfl,rfl,rfl⟩)) (@qa_consP _ _ _ _ _ (@q_globr _ _ _ _ (Z.mg "NoCell" (by decide)) (by rfl) (by decide)) (@qa_nil _) (by rfl)) (by rfl)) (by rfl) (by decide) (by decide) (by rfl) (by rfl)) (@qa_consP _ _ _ _ _ (@q_callB _ _ _ _ _ _ _ _ _ (@c_isexc _) (T.blt (by decide)) (by decide +kernel) (@qa_consP _ _ _ _ _ (@q_v1 _ _ 0 _ (by exact⟨rfl,rfl,rfl,rfl⟩)) (@qa_consP _ _ _ _ _ (@q_globr _ _ _ _ (Z.mg "NoDraught" (by decide)) (by rfl) (by decide)) (@qa_nil _) (by rfl)) (by rfl)) (by rfl) (by decide) (by decide) (by rfl) (by rfl)) (@qa_consP _ _ _ _ _ (@q_callB _ _ _ _ _ _ _ _ _ (@c_isexc _) (T.blt (by decide)) (by decide +kernel) (@qa_consP _ _ _ _ _ (@q_v1 _ _ 0 _ (by exact⟨rfl,rfl,rfl,rfl⟩)) (@qa_consP _ _ _ _ _ (@q_globr _ _ _ _ (Z.mg "NoDay" (by decide)) (by rfl) (by decide)) (@qa_nil _) (by rfl)) (by rfl)) (by rfl) (by decide) (by decide) (by rfl) (by rfl)) (@qa_nil _) (by rfl)) (by rfl)) (by rfl)) (by rfl))) (by rfl) (by exact .inl rfl) (by rfl) (by exact .inl rfl)) (@qss_cons _ _ _ _ _ (@qs_set _ _ _ _ 1 _ _ sc_L_which.nd (@q_op _ _ _ _ _ _ _ _ (@o_addD _) (@q_v1 _ _ 1 _ (by exact⟨rfl,rfl,rfl,rfl⟩)) (@q_lst _ _ _ _ (@qa_consP _ _ _ _ _ (@q_callB _ _ _ _ _ _ _ _ _ (@c_isexc _) (T.blt (by decide)) (by decide +kernel) (@qa_consP _ _ _ _ _ (@q_v1 _ _ 0 _ (by exact⟨rfl,rfl,rfl,rfl⟩)) (@qa_consP _ _ _ _ _ (@q_globr _ _ _ _ (Z.mg "NoNotices" (by decide)) (by rfl) (by decide)) (@qa_nil _) (by rfl)) (by rfl)) (by rfl) (by decide) (by decide) (by rfl) (by rfl)) (@qa_consP _ _ _ _ _ (@q_callB _ _ _ _ _ _ _ _ _ (@c_isexc _) (T.blt (by decide)) (by decide +kernel) (@qa_consP _ _ _ _ _ (@q_v1 _ _ 0 _ (by exact⟨rfl,rfl,rfl,rfl⟩)) (@qa_consP _ _ _ _ _ (@q_globr _ _ _ _ (Z.mg "NoNumber" (by decide)) (by rfl) (by decide)) (@qa_nil _) (by rfl)) (by rfl)) (by rfl) (by decide) (by decide) (by rfl) (by rfl)) (@qa_consP _ _ _ _ _ (@q_callB _ _ _ _ _ _ _ _ _ (@c_isexc _) (T.blt (by decide)) (by decide +kernel) (@qa_consP _ _ _ _ _ (@q_v1 _ _ 0 _ (by exact⟨rfl,rfl,rfl,rfl⟩)) (@qa_consP _ _ _ _ _ (@q_globr _ _ _ _ (Z.mg "NoMark" (by decide)) (by rfl) (by decide)) (@qa_nil _) (by rfl)) (by rfl)) (by rfl) (by decide) (by decide) (by rfl) (by rfl)) (@qa_nil _) (by rfl)) (by rfl)) (by rfl)))) (by rfl) (by exact .inl rfl) (by rfl) (by exact .inl rfl)) (@qss_cons _ _ _ _ _ (@qs_set _ _ _ _ 1 _ _ sc_L_which.nd (@q_op _ _ _ _ _ _ _ _ (@o_addD _) (@q_v1 _ _ 1 _ (by exact⟨rfl,rfl,rfl,rfl⟩)) (@q_lst _ _ _ _ (@qa_consP _ _ _ _ _ (@q_callB _ _ _ _ _ _ _ _ _ (@c_isexc _) (T.blt (by decide)) (by decide +kernel) (@qa_consP _ _ _ _ _ (@q_v1 _ _ 0 _ (by exact⟨rfl,rfl,rfl,rfl⟩)) (@qa_consP _ _ _ _ _ (@q_globr _ _ _ _ (Z.mg "NoChannel" (by decide)) (by rfl) (by decide)) (@qa_nil _) (by rfl)) (by rfl)) (by rfl) (by decide) (by decide) (by rfl) (by rfl)) (@qa_consP _ _ _ _ _ (@q_callB _ _ _ _ _ _ _ _ _ (@c_isexc _) (T.blt (by decide)) (by decide +kernel) (@qa_consP _ _ _ _ _ (@q_v1 _ _ 0 _ (by exact⟨rfl,rfl,rfl,rfl⟩)) (@qa_consP _ _ _ _ _ (@q_globr _ _ _ _ (Z.mg "NoSightings" (by decide)) (by rfl) (by decide)) (@qa_nil _) (by rfl)) (by rfl)) (by rfl) (by decide) (by decide) (by rfl) (by rfl)) (@qa_consP _ _ _ _ _ (@q_callB _ _ _ _ _ _ _ _ _ (@c_isexc _) (T.blt (by decide)) (by decide +kernel) (@qa_consP _ _ _ _ _ (@q_v1 _ _ 0 _ (by exact⟨rfl,rfl,rfl,rfl⟩)) (@qa_consP _ _ _ _ _ (@q_globr _ _ _ _ (Z.mg "NoFairway" (by decide)) (by rfl) (by decide)) (@qa_nil _) (by rfl)) (by rfl)) (by rfl) (by decide) (by decide) (by rfl) (by rfl)) (@qa_nil _) (by rfl)) (by rfl)) (by rfl)))) (by rfl) (by exact .inl rfl) (by rfl) (by exact .inl rfl)) (@qss_cons _ _ _ _ _ (@qs_set _ _ _ _ 1 _ _ sc_L_which.nd (@q_op _ _ _ _ _ _ _ _ (@o_addD _) (@q_v1 _ _ 1 _ (by exact⟨rfl,rfl,rfl,rfl⟩)) (@q_lst _ _ _ _ (@qa_consP _ _ _ _ _ (@q_callB _ _ _ _ _ _ _ _ _ (@c_isexc _) (T.blt (by decide)) (by decide +kernel) (@qa_consP _ _ _ _ _ (@q_v1 _ _ 0 _ (by exact⟨rfl,rfl,rfl,rfl⟩)) (@qa_consP _ _ _ _ _ (@q_globr _ _ _ _ (Z.mg "NoSide" (by decide)) (by rfl) (by decide)) (@qa_nil _) (by rfl)) (by rfl)) (by rfl) (by decide) (by decide) (by rfl) (by rfl)) (@qa_consP _ _ _ _ _ (@q_callB _ _ _ _ _ _ _ _ _ (@c_isexc _) (T.blt (by decide)) (by decide +kernel) (@qa_consP _ _ _ _ _ (@q_v1 _ _ 0 _ (by exact⟨rfl,rfl,rfl,rfl⟩)) (@qa_consP _ _ _ _ _ (@q_globr _ _ _ _ (Z.mg "NoColumns" (by decide)) (by rfl) (by decide)) (@qa_nil _) (by rfl)) (by rfl)) (by rfl) (by decide) (by decide) (by rfl) (by rfl)) (@qa_consP _ _ _ _ _ (@q_callB _ _ _ _ _ _ _ _ _ (@c_isexc _) (T.blt (by decide)) (by decide +kernel) (@qa_consP _ _ _ _ _ (@q_v1 _ _ 0 _ (by exact⟨rfl,rfl,rfl,rfl⟩)) (@qa_consP _ _ _ _ _ (@q_globr _ _ _ _ (Z.mg "NoLine" (by decide)) (by rfl) (by decide)) (@qa_nil _) (by rfl)) (by rfl)) (by rfl) (by decide) (by decide) (by rfl) (by rfl)) (@qa_consP _ _ _ _ _ (@q_callB _ _ _ _ _ _ _ _ _ (@c_isexc _) (T.blt (by decide)) (by decide +kernel) (@qa_consP _ _ _ _ _ (@q_v1 _ _ 0 _ (by exact⟨rfl,rfl,rfl,rfl⟩)) (@qa_consP _ _ _ _ _ (@q_globr _ _ _ _ (Z.mg "There" (by decide)) (by rfl) (by decide)) (@qa_nil _) (by rfl)) (by rfl)) (by rfl) (by decide) (by decide) (by rfl) (by rfl)) (@qa_nil _) (by rfl)) (by rfl)) (by rfl)) (by rfl)))) (by rfl) (by exact .inl rfl) (by rfl) (by exact .inl rfl)) (@qss_cons _ _ _ _ _ (@qs_set _ _ _ _ 1 _ _ sc_L_which.nd (@q_op _ _ _ _ _ _ _ _ (@o_addD _) (@q_v1 _ _ 1 _ (by exact⟨rfl,rfl,rfl,rfl⟩)) (@q_lst _ _ _ _ (@qa_consP _ _ _ _ _ (@q_callB _ _ _ _ _ _ _ _ _ (@c_isexc _) (T.blt (by decide)) (by decide +kernel) (@qa_consP _ _ _ _ _ (@q_v1 _ _ 0 _ (by exact⟨rfl,rfl,rfl,rfl⟩)) (@qa_consP _ _ _ _ _ (@q_globr _ _ _ _ (Z.mg "Nothing" (by decide)) (by rfl) (by decide)) (@qa_nil _) (by rfl)) (by rfl)) (by rfl) (by decide) (by decide) (by rfl) (by rfl)) (@qa_consP _ _ _ _ _ (@q_callB _ _ _ _ _ _ _ _ _ (@c_isexc _) (T.blt (by decide)) (by decide +kernel) (@qa_consP _ _ _ _ _ (@q_v1 _ _ 0 _ (by exact⟨rfl,rfl,rfl,rfl⟩)) (@qa_consP _ _ _ _ _ (@q_globr _ _ _ _ (Z.mg "Unlike" (by decide)) (by rfl) (by decide)) (@qa_nil _) (by rfl)) (by rfl)) (by rfl) (by decide) (by decide) (by rfl) (by rfl)) (@qa_consP _ _ _ _ _ (@q_callB _ _ _ _ _ _ _ _ _ (@c_isexc _) (T.blt (by decide)) (by decide +kernel) (@qa_consP _ _ _ _ _ (@q_v1 _ _ 0 _ (by exact⟨rfl,rfl,rfl,rfl⟩)) (@qa_consP _ _ _ _ _ (@q_globr _ _ _ _ (Z.mg "NoText" (by decide)) (by rfl) (by decide)) (@qa_nil _) (by rfl)) (by rfl)) (by rfl) (by decide) (by decide) (by rfl) (by rfl)) (@qa_consP _ _ _ _ _ (@q_callB _ _ _ _ _ _ _ _ _ (@c_isexc _) (T.blt (by decide)) (by decide +kernel) (@qa_consP _ _ _ _ _ (@q_v1 _ _ 0 _ (by exact⟨rfl,rfl,rfl,rfl⟩)) (@qa_consP _ _ _ _ _ (@q_globr _ _ _ _ (Z.mg "TooMany" (by decide)) (by rfl) (by decide)) (@qa_nil _) (by rfl)) (by rfl)) (by rfl) (by decide) (by decide) (by rfl) (by rfl)) (@qa_nil _) (by rfl)) (by rfl)) (by rfl)) (by rfl)))) (by rfl) (by exact .inl rfl) (by rfl) (by exact .inl rfl)) (@qss_cons _ _ _ _ _ (@qs_if _ _ _ _ _ _ _ _ (@qt_of _ _ _ (@qw_or _ _ _ _ _ _ _ (@qt_not _ _ _ _ (@qt_tru _ _ _ (@q_callB _ _ _ _ _ _ _ _ _ (@c_isexcV _) (T.blt (by decide)) (by decide +kernel) (@qa_consP _ _ _ _ _ (@q_v1 _ _ 0 _ (by exact⟨rfl,rfl,rfl,rfl⟩)) (@qa_consP _ _ _ _ _ (@q_globty _ _ _ "ValueError" (T.blt (by decide)) (by decide +kernel) (by rfl) (by decide) (by decide)) (@qa_nil _) (by rfl)) (by rfl)) (by rfl) (by decide) (by decide) (by rfl) (by rfl)) (by intro _ ;rfl))) (@qw_or1 _ _ _ _ (@qt_cmp _ _ _ _ _ _ _ _ (@o_ne _) (@Yw _ _ _ _ _ _ _ (@q_v1 _ _ 1 _ (by exact⟨rfl,rfl,rfl,rfl⟩)) (@q_bl _ _ _ _) (by rfl) (by rfl) (by rfl) (by rfl) (by rfl)) (@q_int _ _ _ _) (nomark _))))) (@qss_one _ _ _ (@qs_ret _ _ _ _ (@q_tup _ _ _ _ _ (@qa_consP _ _ _ _ _ (@q_str _ _ _ _) (@qa_nil _) (by rfl))))) (@qss_nil _)) (@qss_cons _ _ _ _ _ (@qs_if _ _ _ _ _ _ _ _ (@qt_tru _ _ _ (@q_ix _ _ _ _ _ _ (@q_v1 _ _ 1 _ (by exact⟨rfl,rfl,rfl,rfl⟩)) (@q_int _ _ _ _) (by intro _ _ ;rfl)) (by intro _ ;rfl)) (@Ca _ _) (@qss_nil _)) (@qss_cons _ _ _ _ _ (@qs_if _ _ _ _ _ _ _ _ (@qt_tru _ _ _ (@q_ix _ _ _ _ _ _ (@q_v1 _ _ 1 _ (by exact⟨rfl,rfl,rfl,rfl⟩)) (@q_int _ _ _ _) (by intro _ _ ;rfl)) (by intro _ ;rfl)) (@Ca _ _) (@qss_nil _)) (@qss_cons _ _ _ _ _ (@qs_if _ _ _ _ _ _ _ _ (@qt_tru _ _ _ (@q_ix _ _ _ _ _ _ (@q_v1 _ _ 1 _ (by exact⟨rfl,rfl,rfl,rfl⟩)) (@q_int _ _ _ _) (by intro _ _ ;rfl)) (by intro _ ;rfl)) (@Ca _ _) (@qss_nil _)) (@qss_cons _ _ _ _ _ (@qs_set _ _ _ _ 2 _ _ sc_L_which.nd (@q_lst _ _ _ _ (@qa_consP _ _ _ _ _ (@q_str _ _ _ _) (@qa_consP _ _ _ _ _ (@q_str _ _ _ _) (@qa_consP _ _ _ _ _ (@q_str _ _ _ _) (@qa_consP _ _ _ _ _ (@q_str _ _ _ _) (@qa_consP _ _ _ _ _ (@q_str _ _ _ _) (@qa_consP _ _ _ _ _ (@q_str _ _ _ _) (@qa_consP _ _ _ _ _ (@q_str _ _ _ _) (@qa_consP _ _ _ _ _ (@q_str _ _ _ _) (@qa_consP _ _ _ _ _ (@q_str _ _ _ _) (@qa_consP _ _ _ _ _ (@q_str _ _ _ _) (@qa_nil _) (by rfl)) (by rfl)) (by rfl)) (by rfl)) (by rfl)) (by rfl)) (by rfl)) (by rfl)) (by rfl)) (by rfl))) (by rfl) (by exact .inl rfl) (by rfl) (by exact .inl rfl)) (@qss_one _ _ _ (@qs_ret _ _ _ _ (@q_tup _ _ _ _ _ (@qa_consP _ _ _ _ _ (@q_ix _ _ _ _ _ _ (@q_op _ _ _ _ _ _ _ _ (@o_addD _) (@q_v1 _ _ 2 _ (by exact⟨rfl,rfl,rfl,rfl⟩)) (@q_lst _ _ _ _ (@qa_consP _ _ _ _ _ (@q_str _ _ _ _) (@qa_consP _ _ _ _ _ (@q_str _ _ _ _) (@qa_consP _ _ _ _ _ (@q_str _ _ _ _) (@qa_consP _ _ _ _ _ (@q_str _ _ _ _) (@qa_consP _ _ _ _ _ (@q_str _ _ _ _) (@qa_nil _) (by rfl)) (by rfl)) (by rfl)) (by rfl)) (by rfl)))) (@Yt _ _ _ _ _ _ _ (@q_v1 _ _ 1 _ (by exact⟨rfl,rfl,rfl,rfl⟩)) (@q_bl _ _ _ _) (by rfl) (by rfl) (by rfl) (by rfl) (by rfl)) (by intro _ _ ;rfl)) (@qa_nil _) (by rfl))))))))))))))),?_⟩
  simp only[Bh,B9,Dj,Ag,nCB,Ao,Aj,List.map_cons,List.map_nil,List.length_cons,List.length_nil,Nat.zero_add,Nat.reduceAdd,Nat.reduceSub,List.replicate,List.cons_append,List.nil_append,List.getElem?_cons_zero,Option.some.injEq,nC,Aq,A0,nOp,List.set_cons_succ,List.set_cons_zero,List.getElem?_cons_succ,C5,nOr,Ec,Eb,Bi,Gz,Bs,dIx,D.int.injEq,nIdx,exists_eq_left',exists_and_left,true_and,if_true,Bj,nCnt,dNe,eqS,D.bl.injEq]
  have z4:4≤sizeLine:=szl (by decide)
  have z3:3≤sizeLine:=szl (by decide)
  refine isx Z hG hk 0 rfl ?_
  refine isx Z hG hk 1 rfl ?_
  refine isx Z hG hk 2 rfl ?_
  refine isx Z hG hk 3 rfl ?_
  refine⟨z4,fun p1 h1=>?_⟩
  have b1:Ab G p1 (.lst [D.bl (0 == i),D.bl (1 == i),D.bl (2 == i),D.bl (3 == i)]) p1=some (.lst [D.bl (0 == i),D.bl (1 == i),D.bl (2 == i),D.bl (3 == i)]):=Aa
  have e1:=Ae (u:=.lst [D.bl (0 == i),D.bl (1 == i),D.bl (2 == i),D.bl (3 == i)]) hG h1
  have s1:Sub G (Ab G p1 (.lst [D.bl (0 == i),D.bl (1 == i),D.bl (2 == i),D.bl (3 == i)])):=(Sub.refl G).skip h1
  generalize Ab G p1 (.lst [D.bl (0 == i),D.bl (1 == i),D.bl (2 == i),D.bl (3 == i)])=G1 at *
  have t1:=s1
  refine isx Z e1 hk 4 rfl ?_
  refine isx Z e1 hk 5 rfl ?_
  refine isx Z e1 hk 6 rfl ?_
  refine⟨z3,fun p2 h2=>?_⟩
  have b2:Ab G1 p2 (.lst [D.bl (4 == i),D.bl (5 == i),D.bl (6 == i)]) p2=some (.lst [D.bl (4 == i),D.bl (5 == i),D.bl (6 == i)]):=Aa
  have e2:=Ae (u:=.lst [D.bl (4 == i),D.bl (5 == i),D.bl (6 == i)]) e1 h2
  have a2:=Ae (u:=.lst [D.bl (4 == i),D.bl (5 == i),D.bl (6 == i)]) b1 h2
  have s2:Sub G (Ab G1 p2 (.lst [D.bl (4 == i),D.bl (5 == i),D.bl (6 == i)])):=t1.skip h2
  generalize Ab G1 p2 (.lst [D.bl (4 == i),D.bl (5 == i),D.bl (6 == i)])=G2 at *
  refine Lu (zs:=[D.bl (0 == i),D.bl (1 == i),D.bl (2 == i),D.bl (3 == i),D.bl (4 == i),D.bl (5 == i),D.bl (6 == i)]) a2 b2 rfl (by simpa using szl (n:=7) (by decide)) fun r2 k2=>?_
  have c2:Ab G2 r2 (.lst [D.bl (0 == i),D.bl (1 == i),D.bl (2 == i),D.bl (3 == i),D.bl (4 == i),D.bl (5 == i),D.bl (6 == i)]) r2=some (.lst [D.bl (0 == i),D.bl (1 == i),D.bl (2 == i),D.bl (3 == i),D.bl (4 == i),D.bl (5 == i),D.bl (6 == i)]):=Aa
  have d2:=Ae (u:=.lst [D.bl (0 == i),D.bl (1 == i),D.bl (2 == i),D.bl (3 == i),D.bl (4 == i),D.bl (5 == i),D.bl (6 == i)]) e2 k2
  have t2:Sub G (Ab G2 r2 (.lst [D.bl (0 == i),D.bl (1 == i),D.bl (2 == i),D.bl (3 == i),D.bl (4 == i),D.bl (5 == i),D.bl (6 == i)])):=s2.skip k2
  generalize Ab G2 r2 (.lst [D.bl (0 == i),D.bl (1 == i),D.bl (2 == i),D.bl (3 == i),D.bl (4 == i),D.bl (5 == i),D.bl (6 == i)])=H2 at *
  refine isx Z d2 hk 7 rfl ?_
  refine isx Z d2 hk 8 rfl ?_
  refine isx Z d2 hk 9 rfl ?_
  refine⟨z3,fun p3 h3=>?_⟩
  have b3:Ab H2 p3 (.lst [D.bl (7 == i),D.bl (8 == i),D.bl (9 == i)]) p3=some (.lst [D.bl (7 == i),D.bl (8 == i),D.bl (9 == i)]):=Aa
  have e3:=Ae (u:=.lst [D.bl (7 == i),D.bl (8 == i),D.bl (9 == i)]) d2 h3
  have a3:=Ae (u:=.lst [D.bl (7 == i),D.bl (8 == i),D.bl (9 == i)]) c2 h3
  have s3:Sub G (Ab H2 p3 (.lst [D.bl (7 == i),D.bl (8 == i),D.bl (9 == i)])):=t2.skip h3
  generalize Ab H2 p3 (.lst [D.bl (7 == i),D.bl (8 == i),D.bl (9 == i)])=G3 at *
  refine Lu (zs:=[D.bl (0 == i),D.bl (1 == i),D.bl (2 == i),D.bl (3 == i),D.bl (4 == i),D.bl (5 == i),D.bl (6 == i),D.bl (7 == i),D.bl (8 == i),D.bl (9 == i)]) a3 b3 rfl (by simpa using szl (n:=10) (by decide)) fun r3 k3=>?_
  have c3:Ab G3 r3 (.lst [D.bl (0 == i),D.bl (1 == i),D.bl (2 == i),D.bl (3 == i),D.bl (4 == i),D.bl (5 == i),D.bl (6 == i),D.bl (7 == i),D.bl (8 == i),D.bl (9 == i)]) r3=some (.lst [D.bl (0 == i),D.bl (1 == i),D.bl (2 == i),D.bl (3 == i),D.bl (4 == i),D.bl (5 == i),D.bl (6 == i),D.bl (7 == i),D.bl (8 == i),D.bl (9 == i)]):=Aa
  have d3:=Ae (u:=.lst [D.bl (0 == i),D.bl (1 == i),D.bl (2 == i),D.bl (3 == i),D.bl (4 == i),D.bl (5 == i),D.bl (6 == i),D.bl (7 == i),D.bl (8 == i),D.bl (9 == i)]) e3 k3
  have t3:Sub G (Ab G3 r3 (.lst [D.bl (0 == i),D.bl (1 == i),D.bl (2 == i),D.bl (3 == i),D.bl (4 == i),D.bl (5 == i),D.bl (6 == i),D.bl (7 == i),D.bl (8 == i),D.bl (9 == i)])):=s3.skip k3
  generalize Ab G3 r3 (.lst [D.bl (0 == i),D.bl (1 == i),D.bl (2 == i),D.bl (3 == i),D.bl (4 == i),D.bl (5 == i),D.bl (6 == i),D.bl (7 == i),D.bl (8 == i),D.bl (9 == i)])=H3 at *
  refine isx Z d3 hk 10 rfl ?_
  refine isx Z d3 hk 11 rfl ?_
  refine isx Z d3 hk 12 rfl ?_
  refine isx Z d3 hk 13 rfl ?_
  refine⟨z4,fun p4 h4=>?_⟩
  have b4:Ab H3 p4 (.lst [D.bl (10 == i),D.bl (11 == i),D.bl (12 == i),D.bl (13 == i)]) p4=some (.lst [D.bl (10 == i),D.bl (11 == i),D.bl (12 == i),D.bl (13 == i)]):=Aa
  have e4:=Ae (u:=.lst [D.bl (10 == i),D.bl (11 == i),D.bl (12 == i),D.bl (13 == i)]) d3 h4
  have a4:=Ae (u:=.lst [D.bl (10 == i),D.bl (11 == i),D.bl (12 == i),D.bl (13 == i)]) c3 h4
  have s4:Sub G (Ab H3 p4 (.lst [D.bl (10 == i),D.bl (11 == i),D.bl (12 == i),D.bl (13 == i)])):=t3.skip h4
  generalize Ab H3 p4 (.lst [D.bl (10 == i),D.bl (11 == i),D.bl (12 == i),D.bl (13 == i)])=G4 at *
  refine Lu (zs:=[D.bl (0 == i),D.bl (1 == i),D.bl (2 == i),D.bl (3 == i),D.bl (4 == i),D.bl (5 == i),D.bl (6 == i),D.bl (7 == i),D.bl (8 == i),D.bl (9 == i),D.bl (10 == i),D.bl (11 == i),D.bl (12 == i),D.bl (13 == i)]) a4 b4 rfl (by simpa using szl (n:=14) (by decide)) fun r4 k4=>?_
  have c4:Ab G4 r4 (.lst [D.bl (0 == i),D.bl (1 == i),D.bl (2 == i),D.bl (3 == i),D.bl (4 == i),D.bl (5 == i),D.bl (6 == i),D.bl (7 == i),D.bl (8 == i),D.bl (9 == i),D.bl (10 == i),D.bl (11 == i),D.bl (12 == i),D.bl (13 == i)]) r4=some (.lst [D.bl (0 == i),D.bl (1 == i),D.bl (2 == i),D.bl (3 == i),D.bl (4 == i),D.bl (5 == i),D.bl (6 == i),D.bl (7 == i),D.bl (8 == i),D.bl (9 == i),D.bl (10 == i),D.bl (11 == i),D.bl (12 == i),D.bl (13 == i)]):=Aa
  have d4:=Ae (u:=.lst [D.bl (0 == i),D.bl (1 == i),D.bl (2 == i),D.bl (3 == i),D.bl (4 == i),D.bl (5 == i),D.bl (6 == i),D.bl (7 == i),D.bl (8 == i),D.bl (9 == i),D.bl (10 == i),D.bl (11 == i),D.bl (12 == i),D.bl (13 == i)]) e4 k4
  have t4:Sub G (Ab G4 r4 (.lst [D.bl (0 == i),D.bl (1 == i),D.bl (2 == i),D.bl (3 == i),D.bl (4 == i),D.bl (5 == i),D.bl (6 == i),D.bl (7 == i),D.bl (8 == i),D.bl (9 == i),D.bl (10 == i),D.bl (11 == i),D.bl (12 == i),D.bl (13 == i)])):=s4.skip k4
  generalize Ab G4 r4 (.lst [D.bl (0 == i),D.bl (1 == i),D.bl (2 == i),D.bl (3 == i),D.bl (4 == i),D.bl (5 == i),D.bl (6 == i),D.bl (7 == i),D.bl (8 == i),D.bl (9 == i),D.bl (10 == i),D.bl (11 == i),D.bl (12 == i),D.bl (13 == i)])=H4 at *
  refine isx Z d4 hk 14 rfl ?_
  refine isx Z d4 hk 15 rfl ?_
  refine isx Z d4 hk 16 rfl ?_
  refine isx Z d4 hk 17 rfl ?_
  refine⟨z4,fun p5 h5=>?_⟩
  have b5:Ab H4 p5 (.lst [D.bl (14 == i),D.bl (15 == i),D.bl (16 == i),D.bl (17 == i)]) p5=some (.lst [D.bl (14 == i),D.bl (15 == i),D.bl (16 == i),D.bl (17 == i)]):=Aa
  have e5:=Ae (u:=.lst [D.bl (14 == i),D.bl (15 == i),D.bl (16 == i),D.bl (17 == i)]) d4 h5
  have a5:=Ae (u:=.lst [D.bl (14 == i),D.bl (15 == i),D.bl (16 == i),D.bl (17 == i)]) c4 h5
  have s5:Sub G (Ab H4 p5 (.lst [D.bl (14 == i),D.bl (15 == i),D.bl (16 == i),D.bl (17 == i)])):=t4.skip h5
  generalize Ab H4 p5 (.lst [D.bl (14 == i),D.bl (15 == i),D.bl (16 == i),D.bl (17 == i)])=G5 at *
  refine Lu (zs:=[D.bl (0 == i),D.bl (1 == i),D.bl (2 == i),D.bl (3 == i),D.bl (4 == i),D.bl (5 == i),D.bl (6 == i),D.bl (7 == i),D.bl (8 == i),D.bl (9 == i),D.bl (10 == i),D.bl (11 == i),D.bl (12 == i),D.bl (13 == i),D.bl (14 == i),D.bl (15 == i),D.bl (16 == i),D.bl (17 == i)]) a5 b5 rfl (by simpa using szl (n:=18) (by decide)) fun r5 k5=>?_
  have c5:Ab G5 r5 (.lst [D.bl (0 == i),D.bl (1 == i),D.bl (2 == i),D.bl (3 == i),D.bl (4 == i),D.bl (5 == i),D.bl (6 == i),D.bl (7 == i),D.bl (8 == i),D.bl (9 == i),D.bl (10 == i),D.bl (11 == i),D.bl (12 == i),D.bl (13 == i),D.bl (14 == i),D.bl (15 == i),D.bl (16 == i),D.bl (17 == i)]) r5=some (.lst [D.bl (0 == i),D.bl (1 == i),D.bl (2 == i),D.bl (3 == i),D.bl (4 == i),D.bl (5 == i),D.bl (6 == i),D.bl (7 == i),D.bl (8 == i),D.bl (9 == i),D.bl (10 == i),D.bl (11 == i),D.bl (12 == i),D.bl (13 == i),D.bl (14 == i),D.bl (15 == i),D.bl (16 == i),D.bl (17 == i)]):=Aa
  have d5:=Ae (u:=.lst [D.bl (0 == i),D.bl (1 == i),D.bl (2 == i),D.bl (3 == i),D.bl (4 == i),D.bl (5 == i),D.bl (6 == i),D.bl (7 == i),D.bl (8 == i),D.bl (9 == i),D.bl (10 == i),D.bl (11 == i),D.bl (12 == i),D.bl (13 == i),D.bl (14 == i),D.bl (15 == i),D.bl (16 == i),D.bl (17 == i)]) e5 k5
  have t5:Sub G (Ab G5 r5 (.lst [D.bl (0 == i),D.bl (1 == i),D.bl (2 == i),D.bl (3 == i),D.bl (4 == i),D.bl (5 == i),D.bl (6 == i),D.bl (7 == i),D.bl (8 == i),D.bl (9 == i),D.bl (10 == i),D.bl (11 == i),D.bl (12 == i),D.bl (13 == i),D.bl (14 == i),D.bl (15 == i),D.bl (16 == i),D.bl (17 == i)])):=s5.skip k5
  generalize Ab G5 r5 (.lst [D.bl (0 == i),D.bl (1 == i),D.bl (2 == i),D.bl (3 == i),D.bl (4 == i),D.bl (5 == i),D.bl (6 == i),D.bl (7 == i),D.bl (8 == i),D.bl (9 == i),D.bl (10 == i),D.bl (11 == i),D.bl (12 == i),D.bl (13 == i),D.bl (14 == i),D.bl (15 == i),D.bl (16 == i),D.bl (17 == i)])=H5 at *
  have c6:H5 r5=some (.lst ((fl i).map D.bl)):=c5
  refine⟨a,C,true,rfl,d5,hk.ec,hk.ve,true,rfl,it1 (by decide) ⟨r5,rfl,⟨_,c5⟩,fl i,c6,?_⟩⟩
  rw[Z9 i hk.lt]
  have lt:=hk.lt
  have f15:(15 == i)=false:=beq_eq_false_iff_ne.mpr (by omega)
  have f16:(16 == i)=false:=beq_eq_false_iff_ne.mpr (by omega)
  have f17:(17 == i)=false:=beq_eq_false_iff_ne.mpr (by omega)
  refine it1 (by decide) ⟨.bl (15 == i),by rw[A7 c5];rfl,false,by rw[f15];rfl,it1 (by decide) ⟨.bl (16 == i),by rw[A7 c5];rfl,false,by rw[f16];rfl,it1 (by decide) ⟨.bl (17 == i),by rw[A7 c5];rfl,false,by rw[f17];rfl,it1 (by decide) ?_⟩⟩⟩
  refine⟨szl (by decide),fun p6 h6=>?_⟩
  have b6:Ab H5 p6 (.lst [D.str "sea",D.str "cell",D.str "draught",D.str "day",D.str "notices",D.str "number",D.str "mark",D.str "channel",D.str "sightings",D.str "fairway"]) p6=some (.lst [D.str "sea",D.str "cell",D.str "draught",D.str "day",D.str "notices",D.str "number",D.str "mark",D.str "channel",D.str "sightings",D.str "fairway"]):=Aa
  have a6:=Ae (u:=.lst [D.str "sea",D.str "cell",D.str "draught",D.str "day",D.str "notices",D.str "number",D.str "mark",D.str "channel",D.str "sightings",D.str "fairway"]) c6 h6
  have s6:Sub G (Ab H5 p6 (.lst [D.str "sea",D.str "cell",D.str "draught",D.str "day",D.str "notices",D.str "number",D.str "mark",D.str "channel",D.str "sightings",D.str "fairway"])):=t5.skip h6
  generalize Ab H5 p6 (.lst [D.str "sea",D.str "cell",D.str "draught",D.str "day",D.str "notices",D.str "number",D.str "mark",D.str "channel",D.str "sightings",D.str "fairway"])=G6 at *
  refine⟨szl (by decide),fun p7 h7=>?_⟩
  have b7:Ab G6 p7 (.lst [D.str "side",D.str "columns",D.str "line",D.str "there",D.str "nothing"]) p7=some (.lst [D.str "side",D.str "columns",D.str "line",D.str "there",D.str "nothing"]):=Aa
  have d7:=Ae (u:=.lst [D.str "side",D.str "columns",D.str "line",D.str "there",D.str "nothing"]) b6 h7
  have a7:=Ae (u:=.lst [D.str "side",D.str "columns",D.str "line",D.str "there",D.str "nothing"]) a6 h7
  have s7:Sub G (Ab G6 p7 (.lst [D.str "side",D.str "columns",D.str "line",D.str "there",D.str "nothing"])):=s6.skip h7
  generalize Ab G6 p7 (.lst [D.str "side",D.str "columns",D.str "line",D.str "there",D.str "nothing"])=G7 at *
  refine Lu (zs:=[D.str "sea",D.str "cell",D.str "draught",D.str "day",D.str "notices",D.str "number",D.str "mark",D.str "channel",D.str "sightings",D.str "fairway",D.str "side",D.str "columns",D.str "line",D.str "there",D.str "nothing"]) d7 b7 rfl (by simpa using szl (n:=15) (by decide)) fun r8 k8=>?_
  have c8:Ab G7 r8 (.lst [D.str "sea",D.str "cell",D.str "draught",D.str "day",D.str "notices",D.str "number",D.str "mark",D.str "channel",D.str "sightings",D.str "fairway",D.str "side",D.str "columns",D.str "line",D.str "there",D.str "nothing"]) r8=some (.lst [D.str "sea",D.str "cell",D.str "draught",D.str "day",D.str "notices",D.str "number",D.str "mark",D.str "channel",D.str "sightings",D.str "fairway",D.str "side",D.str "columns",D.str "line",D.str "there",D.str "nothing"]):=Aa
  have a8:=Ae (u:=.lst [D.str "sea",D.str "cell",D.str "draught",D.str "day",D.str "notices",D.str "number",D.str "mark",D.str "channel",D.str "sightings",D.str "fairway",D.str "side",D.str "columns",D.str "line",D.str "there",D.str "nothing"]) a7 k8
  have s8:Sub G (Ab G7 r8 (.lst [D.str "sea",D.str "cell",D.str "draught",D.str "day",D.str "notices",D.str "number",D.str "mark",D.str "channel",D.str "sightings",D.str "fairway",D.str "side",D.str "columns",D.str "line",D.str "there",D.str "nothing"])):=s7.skip k8
  generalize Ab G7 r8 (.lst [D.str "sea",D.str "cell",D.str "draught",D.str "day",D.str "notices",D.str "number",D.str "mark",D.str "channel",D.str "sightings",D.str "fairway",D.str "side",D.str "columns",D.str "line",D.str "there",D.str "nothing"])=G8 at *
  have nm:∀i,i<15→(kindNames.map D.str)[i]? = some (D.str (kindNames.getD i "")):=fun i hi=>by
   rw[List.getElem?_map,List.getD,List.getElem?_eq_getElem (show i<kindNames.length from hi)];rfl
  exact⟨r5,rfl,⟨_,a8⟩,fl i,a8,i,(X0 i lt).1,(X0 i lt).2,_,by rw[A7 c8];exact Kg (nm i lt),szl (by decide),G,s8,q⟩
abbrev s_L_said:Stmt:=top 64
abbrev Vo:List Str:=["_law_call", "_law_e"]
abbrev Fa:List Str:=["_law_call"]
theorem Qc:FnScope Vo Fa (Ac s_L_said):=⟨rfl,rfl,rfl,by decide +kernel,rfl,by decide +kernel,by decide +kernel⟩
theorem Ws{tbl:List (Str×Addr)}{f M:Addr}{fd:FuncData}{tm:List Value}{k kr:Nat}(F:Fun K "_law_said" "_law_said" s_L_said f fd)(hM:ExcK K "MarkError" M)(hmg:mg "MarkError" = some (.ref M))(hmM:mroK K M=some (.ref M::tm))(hB:tm.contains (.type "BaseException")=true){fw:Addr}{fdw:FuncData}(FW:FnH P w K mg base CX0 1 fw fdw p_L_which (Ai K (Bt K tbl)))(hmw:mg "_law_which" = some (.ref fw))(hkw:PySem.W.keepIn K (.ref fw)=true)(hbw:Binds K fdw p_L_which [])(hk1:3≤k)(hk2:kr≤k)(hms:mg "_law_said" = some (.ref f))(hbs:Binds K fd Fa []) :
  Said P w K mg base (k+1) kr "_law_said" M (Bt K tbl):=by
 have kp:=F.kp
 obtain⟨oc,od,kV,doc,pm,an,cdv,ct,osl,rfl,lk,hcd⟩:=F.ex
 exact⟨f,_,_,Uk (cn:="_law_call") (mn:="MarkError") (en:="_law_e") (wn:="_law_which") lk hcd Qc hM hmg hmM hB FW hmw hkw hbw hk1 hk2 rfl rfl (fun _ _=>rfl) (fun _ _=>rfl) (by decide) (by decide) (by decide) (by decide) (by decide) (by decide),hms,kp,hbs⟩
end
section
variable{P:Program}{w:World}{K:W.Frag}{mg:Str→Option Value}{base:Heap}{T0 T1 M CN:Addr}{tbl:List (Str×Addr)}
structure Chn(K:PySem.W.Frag)(tbl:List (Str×Addr))(M CN:Addr):Prop where
 exk:ExcK K "NoChannel" CN
 mro:∃tl,mroK K CN=some (.ref CN::tl)∧(Value.ref CN::tl).contains (.ref M)=true
 kind:ExKind K tbl CN 7
theorem R5{G:Gp}{Q:DK}(B:Chn K tbl M CN)(k:∀a,G a=none→Q (.tup [.str "channel"]) (Ab G a (.any (excIs CN)))):whX K M (Bt K tbl) Q (.ref CN) G:=by
 obtain⟨tl,h1,h2⟩:=B.mro
 exact⟨CN,_,tl,rfl,B.exk,h1,h2,fun a ha=>⟨a,CN,7,rfl,Aa,B.kind,k a ha⟩⟩
theorem no_go{n:Nat}{d:D}{r:List D}{G:Gp}{Q Q1:DK}(B:Chn K tbl M CN)(kn:KnT G 2 d)(sz:SzT d)(hc:B1 d=false)(hl:r.length=n)(k:∀a,G a=none→Q (.tup [.str "channel"]) (Ab G a (.any (excIs CN)))):spNo CN n (d::r) G Q1 (whX K M (Bt K tbl) Q):=⟨d,r,rfl,hl,kn,sz,hc,R5 B k⟩
theorem C9{n:Nat}{d:D}{σ:DSt}{G:Gp}{Q:DK}{q:Str}{tA:DTA}(B:Chn K tbl M CN)(hT:G T0=some (.tbl q))(kn:KnT G 2 d)(sz:SzT d)(hc:B1 d=false)(h0:σ[0]? = some (some d))(hA:∀Q',(∀r,r.length=n→Q' (d::r) G)→tA [some d] G Q')(k:∀a,G a=none→Q (.tup [.str "channel"]) (Ab G a (.any (excIs CN)))):Lm K M (Bt K tbl) T0 q [0] (fun E=>Ax (spNo CN n) E tA) σ G Q:=by
 refine⟨hT,?_⟩
 rw[show([0].map fun i=>(σ[i]?).join)=[some d] by simp[h0]]
 exact hA _ fun r hr=>no_go B kn sz hc hr k
theorem Tx{d:D}{σ:DSt}{G:Gp}{Q:DK}{q:Str}{tA:DTA}(B:Chn K tbl M CN)(hT:G T0=some (.tbl q))(kn:KnT G 2 d)(sz:SzT d)(hc:B1 d=false)(h0:σ[0]? = some (some d))(hA:∀Q',(∀r,Q' [d,r] G)→tA [some d] G Q')(k:∀a,G a=none→Q (.tup [.str "channel"]) (Ab G a (.any (excIs CN)))):Lm K M (Bt K tbl) T0 q [0] (fun E=>Ax (spWayX CN) E tA) σ G Q:=by
 refine⟨hT,?_⟩
 rw[show([0].map fun i=>(σ[i]?).join)=[some d] by simp[h0]]
 exact hA _ fun r=>⟨d,r,rfl,kn,sz,fun _=>R5 B k,fun cs e ok=>by rw[e,ok.chan] at hc;cases hc⟩
theorem Qe{d:D}{σ:DSt}{G:Gp}{Q:DK}{q:Str}{tA:DTA}(B:Chn K tbl M CN)(hT:G T0=some (.tbl q))(kn:KnT G 2 d)(sz:SzT d)(hc:B1 d=false)(h0:σ[0]? = some (some d))(hA:∀Q',Q' [d] G→tA [some d] G Q')(k:∀a,G a=none→Q (.tup [.str "channel"]) (Ab G a (.any (excIs CN)))):Lm K M (Bt K tbl) T0 q [0] (fun E=>Ax (spMany CN) E tA) σ G Q:=by
 refine⟨hT,?_⟩
 rw[show([0].map fun i=>(σ[i]?).join)=[some d] by simp[h0]]
 exact hA _ ⟨d,rfl,kn,sz,fun z=>(by rw[hc] at z;cases z),fun _=>R5 B k⟩
theorem Kn.sub{G G':Gp}{d:D}(h:Kn G d)(s:Sub G G'):Kn G' d:=by
 obtain⟨t,h⟩:=h
 refine⟨t,?_⟩
 cases d<;>first|exact h|skip
 rename_i a
 simp only[A8] at h ⊢
 cases e:G a with
 |none=>rw[e] at h;cases h
 |some o=>rw[e] at h;rw[s a o e];exact h
theorem KnT.sub{G G':Gp}(s:Sub G G'):∀{n:Nat} {d:D},KnT G n d→KnT G' n d
 |0,_,h=>Kn.sub h s
 |_+1,_,h=>⟨Kn.sub h.1 s,fun ds e x hx=>KnT.sub s (h.2 ds e x hx)⟩
theorem Dm{G G':Gp}{p:Addr}{o:GO}(s:Sub G G')(hp:G p=none):Sub G (Ab G' p o):=fun b u e=>by
 rw[Am (gne e hp)];exact s b u e
abbrev chn:D:=.tup [.str "channel"]
abbrev s_L_calls:Stmt:=top 68
abbrev J2:List Str:=["_law_thing", "_law_calls_here"]
abbrev p_L_calls:List Str:=["_law_thing"]
theorem sc_L_calls:FnScope J2 p_L_calls (Ac s_L_calls):=⟨rfl,rfl,rfl,by decide +kernel,rfl,by decide +kernel,by decide +kernel⟩
def spCalls(T0:Addr)(q:Str):DSp:=fun ds G Q _=>∃d,ds=[d]∧KnT G 2 d∧SzT d∧B1 d=false∧G T0=some (.tbl q)∧∀p G',Sub G G'→G' p=some (.lst (List.replicate 9 (.tup [.str "channel"])))→Q (.ref p) G'
theorem Uq{f c0:Addr}{fd:FuncData}(F:Fun K "_law_calls" "_law_calls" s_L_calls f fd)(T:Nums mg)(hfc:fd.code=.ref c0)(hC:PySem.W.codeHdIn K c0 T0=true)(B:Chn K tbl M CN)(S_said:Said P w K mg base 9 8 "_law_said" M (Bt K tbl))(Ac6:Def P w K mg base (CX1 P w) 6 "is_way" p_is_way (spWayX CN))(Adj:Def P w K mg base (CX1 P w) 7 "least_way" p_least_way (spNo CN 0))(Ac2:Def P w K mg base (CX1 P w) 6 "many_ways" p_many_ways (spMany CN))(Adk:Def P w K mg base (CX1 P w) 7 "way_at" p_way_at (spNo CN 1))(Adl:Def P w K mg base (CX1 P w) 6 "straightest" Bg (spNo CN 0))(Adm:Def P w K mg base (CX1 P w) 6 "is_bar" p_is_bar (spNo CN 1))(Adn:Def P w K mg base (CX1 P w) 6 "bar_of" p_bar_of (spNo CN 0))(Ado:Def P w K mg base (CX1 P w) 6 "gates" p_gates (spNo CN 0))(Adp:Def P w K mg base (CX1 P w) 6 "channel_text" Ba (spNo CN 0)) :
  FnOk P w K mg base CX0 10 f fd p_L_calls (Ai K (spCalls T0 ("_law_calls" ++ ".<locals>." ++ "<lambda>"))):=by
 refine okDc F hfc sc_L_calls (fun ds G Q E h=>?_) (fun A outer s H XE ds G Q E hr h=>?_)
 ·obtain⟨d,rfl,_⟩:=h;rfl
 ·obtain⟨d,rfl,kn,sz,hc,hT,k⟩:=h
  have hcode:(Cl CX0 P w K mg base J2 "_law_calls" (Ac s_L_calls) f (.ref c0) A outer s H XE).nox.env.code=.ref c0:=rfl
  refine⟨_,(@qss_cons _ _ _ _ _ (@qs_set _ _ _ _ 1 _ _ sc_L_calls.nd (@q_lst _ _ _ _ (@qa_consP _ _ _ _ _ (@q_said _ _ _ _ _ _ _ _ _ _ _ _ ["_law_thing"] [0] _ _ _ _ S_said (hr.mono (by decide)) hcode hC rfl rfl (fun _=>rfl) (fun E f c A outer s H hr=>(@q_call _ _ _ _ _ _ _ _ E _ _ _ Ac6 (L2.Room.mono (hr.deeper _) (by decide)) (passL (fun _ _ _ z=>z)) (@qa_consP _ _ _ _ _ (@q_v3 _ _ 0 _ (by exact⟨rfl,rfl,rfl,rfl⟩)) (@qa_consP _ _ _ _ _ (@q_non _ _ _) (@qa_nil _) (by rfl)) (by rfl)) (by rfl) (by decide) (by rfl) (by rfl))) rfl rfl (And.intro rfl trivial) (And.intro (And.intro rfl (And.intro rfl rfl)) trivial) rfl (by decide +kernel) (LamScope.mk rfl rfl rfl (by decide +kernel)) (fun _ _ _ _ _=>rfl) (by rfl) (by decide) (by rfl) (by rfl)) (@qa_nil _) (by rfl))) (by rfl) (by exact .inl rfl) (by rfl) (by exact .inl rfl)) (@qss_cons _ _ _ _ _ (@qs_expr _ _ _ _ (@q_app _ _ _ _ _ _ _ (@q_v1 _ _ 1 _ (by exact⟨rfl,rfl,rfl,rfl⟩)) (@q_said _ _ _ _ _ _ _ _ _ _ _ _ ["_law_thing"] [0] _ _ _ _ S_said (hr.mono (by decide)) hcode hC rfl rfl (fun _=>rfl) (fun E f c A outer s H hr=>(@q_call _ _ _ _ _ _ _ _ E _ _ _ Adj (L2.Room.mono (hr.deeper _) (by decide)) (passL (fun _ _ _ z=>z)) (@qa_consP _ _ _ _ _ (@q_v3 _ _ 0 _ (by exact⟨rfl,rfl,rfl,rfl⟩)) (@qa_nil _) (by rfl)) (by rfl) (by decide) (by rfl) (by rfl))) rfl rfl (And.intro rfl trivial) (And.intro (And.intro rfl (And.intro rfl rfl)) trivial) rfl (by decide +kernel) (LamScope.mk rfl rfl rfl (by decide +kernel)) (fun _ _ _ _ _=>rfl) (by rfl) (by decide) (by rfl) (by rfl)) (by rfl) (by rfl) (by rfl) (by rfl) (by rfl)) (by rfl)) (@qss_cons _ _ _ _ _ (@qs_expr _ _ _ _ (@q_app _ _ _ _ _ _ _ (@q_v1 _ _ 1 _ (by exact⟨rfl,rfl,rfl,rfl⟩)) (@q_said _ _ _ _ _ _ _ _ _ _ _ _ ["_law_thing"] [0] _ _ _ _ S_said (hr.mono (by decide)) hcode hC rfl rfl (fun _=>rfl) (fun E f c A outer s H hr=>(@q_call _ _ _ _ _ _ _ _ E _ _ _ Ac2 (L2.Room.mono (hr.deeper _) (by decide)) (passL (fun _ _ _ z=>z)) (@qa_consP _ _ _ _ _ (@q_v3 _ _ 0 _ (by exact⟨rfl,rfl,rfl,rfl⟩)) (@qa_nil _) (by rfl)) (by rfl) (by decide) (by rfl) (by rfl))) rfl rfl (And.intro rfl trivial) (And.intro (And.intro rfl (And.intro rfl rfl)) trivial) rfl (by decide +kernel) (LamScope.mk rfl rfl rfl (by decide +kernel)) (fun _ _ _ _ _=>rfl) (by rfl) (by decide) (by rfl) (by rfl)) (by rfl) (by rfl) (by rfl) (by rfl) (by rfl)) (by rfl)) (@qss_cons _ _ _ _ _ (@qs_expr _ _ _ _ (@q_app _ _ _ _ _ _ _ (@q_v1 _ _ 1 _ (by exact⟨rfl,rfl,rfl,rfl⟩)) (@q_said _ _ _ _ _ _ _ _ _ _ _ _ ["_law_thing"] [0] _ _ _ _ S_said (hr.mono (by decide)) hcode hC rfl rfl (fun _=>rfl) (fun E f c A outer s H hr=>(@q_call _ _ _ _ _ _ _ _ E _ _ _ Adk (L2.Room.mono (hr.deeper _) (by decide)) (passL (fun _ _ _ z=>z)) (@qa_consP _ _ _ _ _ (@q_v3 _ _ 0 _ (by exact⟨rfl,rfl,rfl,rfl⟩)) (@qa_consP _ _ _ _ _ (@q_neg _ _ _ _ (@q_int _ _ _ _)) (@qa_nil _) (by rfl)) (by rfl)) (by rfl) (by decide) (by rfl) (by rfl))) rfl rfl (And.intro rfl trivial) (And.intro (And.intro rfl (And.intro rfl rfl)) trivial) rfl (by decide +kernel) (LamScope.mk rfl rfl rfl (by decide +kernel)) (fun _ _ _ _ _=>rfl) (by rfl) (by decide) (by rfl) (by rfl)) (by rfl) (by rfl) (by rfl) (by rfl) (by rfl)) (by rfl)) (@qss_cons _ _ _ _ _ (@qs_expr _ _ _ _ (@q_app _ _ _ _ _ _ _ (@q_v1 _ _ 1 _ (by exact⟨rfl,rfl,rfl,rfl⟩)) (@q_said _ _ _ _ _ _ _ _ _ _ _ _ ["_law_thing"] [0] _ _ _ _ S_said (hr.mono (by decide)) hcode hC rfl rfl (fun _=>rfl) (fun E f c A outer s H hr=>(@q_call _ _ _ _ _ _ _ _ E _ _ _ Adl (L2.Room.mono (hr.deeper _) (by decide)) (passL (fun _ _ _ z=>z)) (@qa_consP _ _ _ _ _ (@q_v3 _ _ 0 _ (by exact⟨rfl,rfl,rfl,rfl⟩)) (@qa_nil _) (by rfl)) (by rfl) (by decide) (by rfl) (by rfl))) rfl rfl (And.intro rfl trivial) (And.intro (And.intro rfl (And.intro rfl rfl)) trivial) rfl (by decide +kernel) (LamScope.mk rfl rfl rfl (by decide +kernel)) (fun _ _ _ _ _=>rfl) (by rfl) (by decide) (by rfl) (by rfl)) (by rfl) (by rfl) (by rfl) (by rfl) (by rfl)) (by rfl)) (@qss_cons _ _ _ _ _ (@qs_expr _ _ _ _ (@q_app _ _ _ _ _ _ _ (@q_v1 _ _ 1 _ (by exact⟨rfl,rfl,rfl,rfl⟩)) (@q_said _ _ _ _ _ _ _ _ _ _ _ _ ["_law_thing"] [0] _ _ _ _ S_said (hr.mono (by decide)) hcode hC rfl rfl (fun _=>rfl) (fun E f c A outer s H hr=>(@q_call _ _ _ _ _ _ _ _ E _ _ _ Adm (L2.Room.mono (hr.deeper _) (by decide)) (passL (fun _ _ _ z=>z)) (@qa_consP _ _ _ _ _ (@q_v3 _ _ 0 _ (by exact⟨rfl,rfl,rfl,rfl⟩)) (@qa_consP _ _ _ _ _ (@q_non _ _ _) (@qa_nil _) (by rfl)) (by rfl)) (by rfl) (by decide) (by rfl) (by rfl))) rfl rfl (And.intro rfl trivial) (And.intro (And.intro rfl (And.intro rfl rfl)) trivial) rfl (by decide +kernel) (LamScope.mk rfl rfl rfl (by decide +kernel)) (fun _ _ _ _ _=>rfl) (by rfl) (by decide) (by rfl) (by rfl)) (by rfl) (by rfl) (by rfl) (by rfl) (by rfl)) (by rfl)) (@qss_cons _ _ _ _ _ (@qs_expr _ _ _ _ (@q_app _ _ _ _ _ _ _ (@q_v1 _ _ 1 _ (by exact⟨rfl,rfl,rfl,rfl⟩)) (@q_said _ _ _ _ _ _ _ _ _ _ _ _ ["_law_thing"] [0] _ _ _ _ S_said (hr.mono (by decide)) hcode hC rfl rfl (fun _=>rfl) (fun E f c A outer s H hr=>(@q_call _ _ _ _ _ _ _ _ E _ _ _ Adn (L2.Room.mono (hr.deeper _) (by decide)) (passL (fun _ _ _ z=>z)) (@qa_consP _ _ _ _ _ (@q_v3 _ _ 0 _ (by exact⟨rfl,rfl,rfl,rfl⟩)) (@qa_nil _) (by rfl)) (by rfl) (by decide) (by rfl) (by rfl))) rfl rfl (And.intro rfl trivial) (And.intro (And.intro rfl (And.intro rfl rfl)) trivial) rfl (by decide +kernel) (LamScope.mk rfl rfl rfl (by decide +kernel)) (fun _ _ _ _ _=>rfl) (by rfl) (by decide) (by rfl) (by rfl)) (by rfl) (by rfl) (by rfl) (by rfl) (by rfl)) (by rfl)) (@qss_cons _ _ _ _ _ (@qs_expr _ _ _ _ (@q_app _ _ _ _ _ _ _ (@q_v1 _ _ 1 _ (by exact⟨rfl,rfl,rfl,rfl⟩)) (@q_said _ _ _ _ _ _ _ _ _ _ _ _ ["_law_thing"] [0] _ _ _ _ S_said (hr.mono (by decide)) hcode hC rfl rfl (fun _=>rfl) (fun E f c A outer s H hr=>(@q_call _ _ _ _ _ _ _ _ E _ _ _ Ado (L2.Room.mono (hr.deeper _) (by decide)) (passL (fun _ _ _ z=>z)) (@qa_consP _ _ _ _ _ (@q_v3 _ _ 0 _ (by exact⟨rfl,rfl,rfl,rfl⟩)) (@qa_nil _) (by rfl)) (by rfl) (by decide) (by rfl) (by rfl))) rfl rfl (And.intro rfl trivial) (And.intro (And.intro rfl (And.intro rfl rfl)) trivial) rfl (by decide +kernel) (LamScope.mk rfl rfl rfl (by decide +kernel)) (fun _ _ _ _ _=>rfl) (by rfl) (by decide) (by rfl) (by rfl)) (by rfl) (by rfl) (by rfl) (by rfl) (by rfl)) (by rfl)) (@qss_cons _ _ _ _ _ (@qs_expr _ _ _ _ (@q_app _ _ _ _ _ _ _ (@q_v1 _ _ 1 _ (by exact⟨rfl,rfl,rfl,rfl⟩)) (@q_said _ _ _ _ _ _ _ _ _ _ _ _ ["_law_thing"] [0] _ _ _ _ S_said (hr.mono (by decide)) hcode hC rfl rfl (fun _=>rfl) (fun E f c A outer s H hr=>(@q_call _ _ _ _ _ _ _ _ E _ _ _ Adp (L2.Room.mono (hr.deeper _) (by decide)) (passL (fun _ _ _ z=>z)) (@qa_consP _ _ _ _ _ (@q_v3 _ _ 0 _ (by exact⟨rfl,rfl,rfl,rfl⟩)) (@qa_nil _) (by rfl)) (by rfl) (by decide) (by rfl) (by rfl))) rfl rfl (And.intro rfl trivial) (And.intro (And.intro rfl (And.intro rfl rfl)) trivial) rfl (by decide +kernel) (LamScope.mk rfl rfl rfl (by decide +kernel)) (fun _ _ _ _ _=>rfl) (by rfl) (by decide) (by rfl) (by rfl)) (by rfl) (by rfl) (by rfl) (by rfl) (by rfl)) (by rfl)) (@qss_one _ _ _ (@qs_ret _ _ _ _ (@q_v1 _ _ 1 _ (by exact⟨rfl,rfl,rfl,rfl⟩))))))))))))),?_⟩
  have sz1:1≤sizeLine:=szl (by decide)
  have szn:∀n,n<20→n<sizeLine:=fun n h=>Nat.lt_of_le_of_lt (show n≤100 by omega) (Bo (by decide))
  simp only[Bh,B9,Dj,Ag,Aj,List.map_cons,List.map_nil,List.length_cons,List.length_nil,Nat.zero_add,Nat.reduceAdd,Nat.reduceSub,List.replicate,List.cons_append,List.nil_append,Aq,A0,Ct,Rw,Ao,List.set_cons_succ,List.set_cons_zero,List.getElem?_cons_succ,List.getElem?_cons_zero,Option.some.injEq,Bi,exists_eq_left',D.ref.injEq,Aa,GO.lst.injEq]
  refine Tx B hT kn sz hc rfl (fun Q' h=>by simp only[Ag,Ao,List.getElem?_cons_zero,Option.some.injEq,nC,Aq,exists_eq_left'];exact h _) fun a0 h0=>⟨sz1,fun p hp=>⟨⟨_,rfl⟩,?_⟩⟩
  have p0:G p=none:=(Sub.new h0).none hp
  have s1:Sub G (Ab (Ab G a0 (.any (excIs CN))) p (.lst [chn])):=((Sub.refl G).skip h0).skip hp
  have e1:Ab (Ab G a0 (.any (excIs CN))) p (.lst [chn]) p=some (.lst (List.replicate 1 chn)):=Aa
  generalize Ab (Ab G a0 (.any (excIs CN))) p (.lst [chn])=G1 at *
  refine C9 B (s1 _ _ hT) (KnT.sub s1 kn) sz hc rfl (fun Q' h=>by simp only[Ag,Ao,List.getElem?_cons_zero,Option.some.injEq,Aq,exists_eq_left'];exact h _ rfl) fun a1 h1=>⟨List.replicate 1 chn,Ae e1 h1,szn _ (by simp),⟨_,rfl⟩,?_⟩
  have s2:Sub G (Ab (Ab G1 a1 (.any (excIs CN))) p (.lst (List.replicate 1 chn++[chn]))):=Dm (s1.skip h1) p0
  have e2:Ab (Ab G1 a1 (.any (excIs CN))) p (.lst (List.replicate 1 chn++[chn])) p=some (.lst (List.replicate 2 chn)):=Aa
  generalize Ab (Ab G1 a1 (.any (excIs CN))) p (.lst (List.replicate 1 chn++[chn]))=G2 at *
  refine Qe B (s2 _ _ hT) (KnT.sub s2 kn) sz hc rfl (fun Q' h=>by simp only[Ag,Ao,List.getElem?_cons_zero,Option.some.injEq,Aq,exists_eq_left'];exact h) fun a2 h2=>⟨List.replicate 2 chn,Ae e2 h2,szn _ (by simp),⟨_,rfl⟩,?_⟩
  have s3:Sub G (Ab (Ab G2 a2 (.any (excIs CN))) p (.lst (List.replicate 2 chn++[chn]))):=Dm (s2.skip h2) p0
  have e3:Ab (Ab G2 a2 (.any (excIs CN))) p (.lst (List.replicate 2 chn++[chn])) p=some (.lst (List.replicate 3 chn)):=Aa
  generalize Ab (Ab G2 a2 (.any (excIs CN))) p (.lst (List.replicate 2 chn++[chn]))=G3 at *
  refine C9 B (s3 _ _ hT) (KnT.sub s3 kn) sz hc rfl (fun Q' h=>by simp only[Ag,Ao,List.getElem?_cons_zero,Option.some.injEq,J4,nC,D.int.injEq,Aq,exists_eq_left',Int.reduceNeg];exact h _ rfl) fun a3 h3=>⟨List.replicate 3 chn,Ae e3 h3,szn _ (by simp),⟨_,rfl⟩,?_⟩
  have s4:Sub G (Ab (Ab G3 a3 (.any (excIs CN))) p (.lst (List.replicate 3 chn++[chn]))):=Dm (s3.skip h3) p0
  have e4:Ab (Ab G3 a3 (.any (excIs CN))) p (.lst (List.replicate 3 chn++[chn])) p=some (.lst (List.replicate 4 chn)):=Aa
  generalize Ab (Ab G3 a3 (.any (excIs CN))) p (.lst (List.replicate 3 chn++[chn]))=G4 at *
  refine C9 B (s4 _ _ hT) (KnT.sub s4 kn) sz hc rfl (fun Q' h=>by simp only[Ag,Ao,List.getElem?_cons_zero,Option.some.injEq,Aq,exists_eq_left'];exact h _ rfl) fun a4 h4=>⟨List.replicate 4 chn,Ae e4 h4,szn _ (by simp),⟨_,rfl⟩,?_⟩
  have s5:Sub G (Ab (Ab G4 a4 (.any (excIs CN))) p (.lst (List.replicate 4 chn++[chn]))):=Dm (s4.skip h4) p0
  have e5:Ab (Ab G4 a4 (.any (excIs CN))) p (.lst (List.replicate 4 chn++[chn])) p=some (.lst (List.replicate 5 chn)):=Aa
  generalize Ab (Ab G4 a4 (.any (excIs CN))) p (.lst (List.replicate 4 chn++[chn]))=G5 at *
  refine C9 B (s5 _ _ hT) (KnT.sub s5 kn) sz hc rfl (fun Q' h=>by simp only[Ag,Ao,List.getElem?_cons_zero,Option.some.injEq,nC,Aq,exists_eq_left'];exact h _ rfl) fun a5 h5=>⟨List.replicate 5 chn,Ae e5 h5,szn _ (by simp),⟨_,rfl⟩,?_⟩
  have s6:Sub G (Ab (Ab G5 a5 (.any (excIs CN))) p (.lst (List.replicate 5 chn++[chn]))):=Dm (s5.skip h5) p0
  have e6:Ab (Ab G5 a5 (.any (excIs CN))) p (.lst (List.replicate 5 chn++[chn])) p=some (.lst (List.replicate 6 chn)):=Aa
  generalize Ab (Ab G5 a5 (.any (excIs CN))) p (.lst (List.replicate 5 chn++[chn]))=G6 at *
  refine C9 B (s6 _ _ hT) (KnT.sub s6 kn) sz hc rfl (fun Q' h=>by simp only[Ag,Ao,List.getElem?_cons_zero,Option.some.injEq,Aq,exists_eq_left'];exact h _ rfl) fun a6 h6=>⟨List.replicate 6 chn,Ae e6 h6,szn _ (by simp),⟨_,rfl⟩,?_⟩
  have s7:Sub G (Ab (Ab G6 a6 (.any (excIs CN))) p (.lst (List.replicate 6 chn++[chn]))):=Dm (s6.skip h6) p0
  have e7:Ab (Ab G6 a6 (.any (excIs CN))) p (.lst (List.replicate 6 chn++[chn])) p=some (.lst (List.replicate 7 chn)):=Aa
  generalize Ab (Ab G6 a6 (.any (excIs CN))) p (.lst (List.replicate 6 chn++[chn]))=G7 at *
  refine C9 B (s7 _ _ hT) (KnT.sub s7 kn) sz hc rfl (fun Q' h=>by simp only[Ag,Ao,List.getElem?_cons_zero,Option.some.injEq,Aq,exists_eq_left'];exact h _ rfl) fun a7 h7=>⟨List.replicate 7 chn,Ae e7 h7,szn _ (by simp),⟨_,rfl⟩,?_⟩
  have s8:Sub G (Ab (Ab G7 a7 (.any (excIs CN))) p (.lst (List.replicate 7 chn++[chn]))):=Dm (s7.skip h7) p0
  have e8:Ab (Ab G7 a7 (.any (excIs CN))) p (.lst (List.replicate 7 chn++[chn])) p=some (.lst (List.replicate 8 chn)):=Aa
  generalize Ab (Ab G7 a7 (.any (excIs CN))) p (.lst (List.replicate 7 chn++[chn]))=G8 at *
  refine C9 B (s8 _ _ hT) (KnT.sub s8 kn) sz hc rfl (fun Q' h=>by simp only[Ag,Ao,List.getElem?_cons_zero,Option.some.injEq,Aq,exists_eq_left'];exact h _ rfl) fun a8 h8=>⟨List.replicate 8 chn,Ae e8 h8,szn _ (by simp),?_⟩
  have s9:Sub G (Ab (Ab G8 a8 (.any (excIs CN))) p (.lst (List.replicate 8 chn++[chn]))):=Dm (s8.skip h8) p0
  have e9:Ab (Ab G8 a8 (.any (excIs CN))) p (.lst (List.replicate 8 chn++[chn])) p=some (.lst (List.replicate 9 chn)):=Aa
  generalize Ab (Ab G8 a8 (.any (excIs CN))) p (.lst (List.replicate 8 chn++[chn]))=G9 at *
  exact Fq.of (k p G9 s9 e9)
end
section
variable{P:Program}{w:World}{K:W.Frag}{mg:Str→Option Value}{base:Heap}{T0 T1 M CN:Addr}{tbl:List (Str×Addr)}
abbrev WS:List Nat:=[34,10,3,3,3]
theorem L6{c:List Int}(h:RowOk c):Pure [9,2,2,2] (Ad c):=.tup (by rw[List.length_map];exact h.len) fun d hd=>by
 obtain⟨i,hi,rfl⟩:=List.mem_map.mp hd
 have:=h.1 i hi
 exact .int i (by omega)
theorem Pq{cs:List (List Int)}{n:Nat}(hn:cs.length≤n)(h:∀c∈cs,RowOk c):Pure [n,9,2,2,2] (chD cs):=.tup (by rw[List.length_map];exact hn) fun d hd=>by
 obtain⟨c,hc,rfl⟩:=List.mem_map.mp hd
 exact L6 (h c hc)
theorem Pr{G:Gp}{cs:List (List Int)}(hn:cs.length≤34)(h:∀c∈cs,RowOk c):Good G WS (chD cs):=
 ((Pq hn h).good).wide (.cons (Nat.le_refl _) (.cons (by decide) (.cons (by decide) (.cons (by decide) (.cons (by decide) .nil)))))
theorem Good.knt{G:Gp}:∀{n:Nat} {ws:List Nat} {d:D},Good G ws d→KnT G n d
 |0,_,_,h=>h.kn
 |n+1,_,_,h=>⟨h.kn,fun ds e x hx=>by
  subst e
  cases h with
  |tup _ r=>exact Good.knt (r x hx)⟩
theorem Mg{G:Gp}{d:D}(h:Good G WS d):SzT d∧WdT d:=by
 have sml:∀{n:Nat},n≤100→n<sizeLine:=fun h=>Nat.lt_of_le_of_lt h (Bo (by decide))
 refine⟨fun xs e=>?_,fun xs e y hy ys e2=>?_⟩
 ·subst e
  cases h with
  |tup hl r=>
   refine⟨sml (by omega),fun y hy ys e2=>?_⟩
   subst e2
   have:=r _ hy
   cases this with
   |tup hl2 _=>exact sml (by omega)
 ·subst e;subst e2
  cases h with
  |tup hl r=>
   have:=r _ hy
   cases this with
   |tup hl2 _=>omega
theorem U5{A B:Gp}(s:Sub A B){p:Addr}:Sub (hid A p) (hid B p):=fun b o h=>by
 unfold hid at h ⊢
 split at h
 ·cases h
 ·rename_i e;rw[if_neg e];exact s b o h
theorem Ur{f:Addr}{fd:FuncData}{k:Nat}(F:Fun K "_law_bent" "_law_bent" s_L_bent f fd):FnOk P w K mg base CX0 (k+1) f fd p_L_bent (Ai K (spBent 0)):=by
 refine okD F sc_L_bent (fun ds G Q E h=>?_) (fun cdv A outer s H XE ds G Q E hr h=>?_)
 ·obtain⟨a,d,c,rfl,_⟩:=h;rfl
 ·obtain⟨a,d,kk,rfl,hG,⟨k0,k1⟩,_⟩:=h
  exact absurd k1 (by omega)

theorem Jv{a ps:Addr}{G G5:Gp}{ds:List D}{te:DTE}{σ:DSt}{Kt:DK}{n:Nat}(hn:n≤20)(hG:∃b,G a=some (.lst [.int b]))(s5:Step a G G5)(g5:G5 ps=some (.lst ds))(nps:a≠ps)(hl5:ds.length≤20)(hg5:∀d∈ds,Good (nw G G5) WS d)(hb:∀(i:Nat) G6,Step a G G6→∀R:DK,(∀d' G7,Step a G6 G7→Good (nw G6 G7) WS d'→R d' G7)→te (some (.int i)::σ) G6 R)(k:∀all p3 G10,Step a G G10→all.length≤60→G10 p3=some (.lst all)→(∀x∈all,Good G10 WS x)→(∀b o,b≠a→G5 b=some o→G10 b=some o)→Kt (.ref p3) G10) :
  ∀pb,G5 pb=none→Gc 1 pb (Lc n) (fun _=>True) (A0 0) Dg te σ (Ab G5 pb (.lst [])) fun x G1=>Eh (.ref ps) x G1 fun y G2=>Jc [.ref a] G2 (fun d G3=>∀p2,G3 p2=none→Eh y (.ref p2) (Ab G3 p2 (.lst [d])) Kt) noX:=by
 intro pb hpb
 have szz:∀{n:Nat},n≤100→n≤sizeLine:=fun h=>szl (by omega)
 have npb:=Step.ne s5.box hpb
 have pb0:=s5.back hpb
 have nsb:ps≠pb:=gne g5 hpb
 have Gw:∀{A:Gp} {o:GO},A pb=none→Sub (nw G A) (hid (nw G (Ab A pb o)) pb):=fun {A o} hA b u h=>by
  obtain⟨h1,h2⟩:=Jd h
  have nb:b≠pb:=gne h2 hA
  unfold hid;rw[if_neg nb]
  exact Cr h1 (by rw[Am nb];exact h2)
 have hid_app:∀{A:Gp} {o:GO},hid (nw G (Ab A pb o)) pb=hid (nw G A) pb:=fun {A o}=>by
  funext b
  unfold hid nw Ab
  by_cases e:b=pb
  ·rw[if_pos e,if_pos e]
  ·rw[if_neg e,if_neg e,if_neg e]
 refine⟨fun i ys G'=>Step a G G'∧Step a G5 G'∧G' ps=some (.lst ds)∧G' pb=some (.lst ys)∧ys.length≤i∧∀d∈ds++ys,Good (hid (nw G G') pb) WS d,⟨s5.lay hpb,(Step.refl s5.box).lay hpb,Ae g5 hpb,Aa,Nat.le_refl _,fun d hd=>(hg5 d (by simpa using hd)).sub (Gw hpb)⟩,fun i ys G' _ ⟨_,_,_,e,_⟩=>⟨trivial,e⟩,?_,?_⟩
 ·rintro i x ys G6 hx ⟨s6,t6,g6,gb6,hl6,hg6⟩
  have hi:i<n:=by
   have:=(List.getElem?_eq_some_iff.mp hx).1
   rw[Bc] at this;exact this
  rw[Dq hi] at hx
  cases hx
  refine⟨⟨[some (.int i)],rfl,rfl⟩,?_⟩
  unfold Dg
  refine it0 rfl (hb i G6 s6 _ fun d' G7 st gd=>?_)
  refine⟨st.get npb gb6,Nat.lt_of_le_of_lt (show ys.length≤100 by omega) (Bo (by decide)),Fg.of ⟨(s6.trans st).write pb0 npb,(t6.trans st).write hpb npb,by rw[Am nsb];exact st.get nps g6,Aa,by simp;omega,fun d hd=>?_⟩⟩
  rw[hid_app]
  rw[←List.append_assoc] at hd
  rcases List.mem_append.mp hd with z|z
  ·exact(hg6 d z).sub (U5 (Cm hG st))
  ·rw[List.mem_singleton.mp z]
   refine Good.sub (fun b u h=>?_) gd
   obtain⟨h1,h2⟩:=Jd h
   have nb:b≠pb:=(gne gb6 h1).symm
   unfold hid;rw[if_neg nb]
   exact Cr (s6.back h1) h2
 ·rintro ys G6 ⟨s6,t6,g6,gb6,hl6,hg6⟩
  rw[Bc] at hl6
  have hg6:∀d∈ds++ys,Good (nw G G6) WS d:=fun d hd=>(hg6 d hd).sub Pf
  rw[C6 g6 gb6]
  refine⟨szz (by omega),fun p1 hp1=>?_⟩
  have np1:=Step.ne s6.box hp1
  have s7:=s6.lay (o:=.lst (ds++ys)) hp1
  have t7:=t6.lay (o:=.lst (ds++ys)) hp1
  have g7:Ab G6 p1 (.lst (ds++ys)) p1=some (.lst (ds++ys)):=Aa
  have hg7:∀d∈ds++ys,Good (nw G (Ab G6 p1 (.lst (ds++ys)))) WS d:=fun d hd=>(hg6 d hd).sub (Cm hG ((Step.refl s6.box).lay hp1))
  generalize Ab G6 p1 (.lst (ds++ys))=G7 at *
  refine⟨a,rfl,s7.box,fun d G8 st gd p2 hp2=>?_⟩
  have s8:=s7.trans st
  have t8:=t7.trans st
  have g8:=st.get np1 g7
  have gd8:Good (nw G G8) WS d:=(gd.sub (Kl s7)).wide (.cons (by decide) (.cons (by decide) (.cons (by decide) .nil)))
  have hg8:∀d∈ds++ys,Good (nw G G8) WS d:=fun d hd=>(hg7 d hd).sub (Cm hG st)
  rw[C6 (Ae g8 hp2) Aa]
  have s9:=s8.lay (o:=.lst [d]) hp2
  have t9:=t8.lay (o:=.lst [d]) hp2
  have hg9:∀x∈ds++ys++[d],Good (nw G (Ab G8 p2 (.lst [d]))) WS x:=fun x hx=>by
   have sb:=Cm hG ((Step.refl s8.box).lay (o:=.lst [d]) hp2)
   rcases List.mem_append.mp hx with z|z
   ·exact(hg8 x z).sub sb
   ·rw[List.mem_singleton.mp z];exact gd8.sub sb
  generalize Ab G8 p2 (.lst [d])=G9 at *
  refine⟨szz (by simp;omega),fun p3 hp3=>?_⟩
  exact k _ p3 _ (s9.lay hp3) (by simp;omega) Aa (fun x hx=>(hg9 x hx).sub (nw_sub.trans (Sub.new hp3))) fun b o nb e=>Ae (t9.get nb.symm e) hp3
end
section
variable{P:Program}{w:World}{K:W.Frag}{mg:Str→Option Value}{base:Heap}{T0 T1 M CN:Addr}{tbl:List (Str×Addr)}
theorem V2{d:D}{σ:DSt}{G:Gp}{Q:DK}{q:Str}{tA:DTA}{j:Nat}(hT:G T1=some (.tbl q))(kn:KnT G 2 d)(sz:SzT d)(hc:B1 d=true)(h0:σ[j]? = some (some d))(hA:∀Q',Q' [d] G→tA [some d] G Q')(k:∀n G' p,Sub G G'→G' p=none→Q (.ref p) (Ab G' p (.lst [.int n]))):Lm K M (Bt K tbl) T1 q [j] (fun E=>Ax (spMany CN) E tA) σ G Q:=by
 refine⟨hT,?_⟩
 rw[show([j].map fun i=>(σ[i]?).join)=[some d] by simp[h0]]
 exact hA _ ⟨d,rfl,kn,sz,fun _ n G' sb=>⟨szl (by decide),fun p hp=>k n G' p sb hp⟩,fun z=>by rw[hc] at z;cases z⟩
theorem Zu{G:Gp}{p q:Addr}{Q:DK}(hp:G p=some (.lst (List.replicate 9 chn)))(hq:G q=some (.lst (List.replicate 9 chn)))(h:Q (.bl false) G):R0 (.ref p) (.ref q) G Q:=by
 have r:∀n,RepDs G (List.replicate n chn) (List.replicate n (.tuple [.str "channel"])):=fun n=>by
  induction n with
  |zero=>exact .nil
  |succ n ih=>exact .cons (.tup (.cons (.str _) .nil)) ih
 exact⟨_,_,.lst hp (r 9),.lst hq (r 9),by decide +kernel,by decide +kernel,by decide +kernel,by
  rw[show PyData.eqv (.list (List.replicate 9 (.tuple [.str "channel"]))) (.list (List.replicate 9 (.tuple [.str "channel"])))=true by decide +kernel]
  exact h⟩
def RtP(a:Addr)(G:Gp)(pre:DSt)(w:D)(i:Nat)(σ:DSt)(G':Gp):Prop:=∃v4 v5,σ=pre++[v4,v5,some w]∧Sub G G'
theorem U9{xs:List D}{j:Nat}:Av xs none (some (j:Int))=xs.take j:=by
 simp only[Av,HT.sIx,if_neg (show ¬((j:Int)<0) by omega),List.drop_zero,Nat.sub_zero]
 by_cases h:j≤xs.length
 ·congr 1;omega
 ·rw[List.take_of_length_le (by omega),List.take_of_length_le (by omega)]
abbrev s_L_right:Stmt:=top 69
abbrev Jz:List Str:=["_law_box_here", "_law_channel_here", "_law_way", "_law_some", "_law_thing", "_law_kept", "_law_wrong"]
abbrev Ce:List Str:=["_law_box_here"]
theorem sc_L_right:FnScope Jz Ce (Ac s_L_right):=⟨rfl,rfl,rfl,by decide +kernel,rfl,by decide +kernel,by decide +kernel⟩
theorem nd_L_right_1:((["_law_turn"]:List Str)++(["_law_box_here", "_law_channel_here", "_law_way", "_law_some", "_law_thing", "_law_kept", "_law_wrong"]:List Str)).Nodup:=by decide +kernel
theorem nd_L_right_2:((["_law_turn"]:List Str)++(["_law_box_here", "_law_channel_here", "_law_way", "_law_some", "_law_thing", "_law_kept", "_law_wrong"]:List Str)).Nodup:=by decide +kernel
def Kj(T0 T1:Addr)(q0 q1:Str):DSp:=fun ds G Q _=>∃a,ds=[.ref a]∧(∃b,G a=some (.lst [.int b]))∧G T0=some (.tbl q0)∧G T1=some (.tbl q1)∧∀G',Step a G G'→Q (.bl true) G'
theorem Ul{f c0:Addr}{fd:FuncData}{q0:Str}(F:Fun K "_law_right" "_law_right" s_L_right f fd)(T:Nums mg)(hfc:fd.code=.ref c0)(hC:PySem.W.codeHdIn K c0 T1=true)(B:Chn K tbl M CN)(S_said:Said P w K mg base 9 8 "_law_said" M (Bt K tbl))(Adq:Def P w K mg base CX0 2 "_law_channel" p_L_channel spChannel)(Adr:Def P w K mg base CX0 2 "_law_drawn_way" p_L_drawn_way spDrawn)(Ac8:Def P w K mg base CX0 6 "_law_bent" p_L_bent (spBent 3))(Ac3:Def P w K mg base CX0 2 "_law_odd" Db Jc)(Ac6:Def P w K mg base (CX1 P w) 6 "is_way" p_is_way (spWayX CN))(Ads:Def P w K mg base CX0 2 "_law_is_way" p_L_is_way spLWay)(Adt:Def P w K mg base CX0 1 "_law_same" Cz Nk)(Ac9:Def P w K mg base CX0 2 "_law_is_channel" p_L_is_channel spLChan)(Adu:Def P w K mg base CX0 10 "_law_calls" p_L_calls (spCalls T0 q0))(Ac2:Def P w K mg base (CX1 P w) 6 "many_ways" p_many_ways (spMany CN)) :
  FnOk P w K mg base CX0 11 f fd Ce (Ai K (Kj T0 T1 q0 ("_law_right" ++ ".<locals>." ++ "<lambda>"))):=by
 refine okDc F hfc sc_L_right (fun ds G Q E h=>?_) (fun A outer s H XE ds G Q E hr h=>?_)
 ·obtain⟨a,rfl,_⟩:=h;rfl
 ·obtain⟨a,rfl,hG,hT0,hT1,q⟩:=h
  have hcode:(Cl CX0 P w K mg base Jz "_law_right" (Ac s_L_right) f (.ref c0) A outer s H XE).nox.env.code=.ref c0:=rfl
  refine⟨_,(@qss_cons _ _ _ _ _ (@qs_set _ _ _ _ 1 _ _ sc_L_right.nd (@q_call _ _ _ _ _ _ _ _ noX _ _ _ Adq (hr.mono (by decide)) (@passN _ _) (@qa_consP _ _ _ _ _ (@q_v2 _ _ 0 _ (by exact⟨rfl,rfl,rfl,rfl⟩)) (@qa_consP _ _ _ _ _ (@q_int _ _ _ _) (@qa_nil _) (by rfl)) (by rfl)) (by rfl) (by decide) (by rfl) (by rfl)) (by rfl) (by exact .inr rfl) (by rfl) (by exact .inl rfl)) (@qss_cons _ _ _ _ _ (@qs_set _ _ _ _ 2 _ _ sc_L_right.nd (@q_call _ _ _ _ _ _ _ _ noX _ _ _ Adr (hr.mono (by decide)) (@passN _ _) (@qa_consP _ _ _ _ _ (@q_v2 _ _ 0 _ (by exact⟨rfl,rfl,rfl,rfl⟩)) (@qa_consP _ _ _ _ _ (@q_v2 _ _ 1 _ (by exact⟨rfl,rfl,rfl,rfl⟩)) (@qa_nil _) (by rfl)) (by rfl)) (by rfl) (by decide) (by rfl) (by rfl)) (by rfl) (by exact .inr rfl) (by rfl) (by exact .inl rfl)) (@qss_cons _ _ _ _ _ (@qs_set _ _ _ _ 3 _ _ sc_L_right.nd (@q_lst _ _ _ _ (@qa_consP _ _ _ _ _ (@q_v2 _ _ 2 _ (by exact⟨rfl,rfl,rfl,rfl⟩)) (@qa_consP _ _ _ _ _ (@q_callTy _ _ _ _ _ _ _ _ _ (@c_list _) (T.blt (by decide)) (by decide +kernel) (@qa_consP _ _ _ _ _ (@q_v2 _ _ 2 _ (by exact⟨rfl,rfl,rfl,rfl⟩)) (@qa_nil _) (by rfl)) (by rfl) (by decide) (by decide) (by rfl) (by rfl)) (@qa_consP _ _ _ _ _ (@q_op _ _ _ _ _ _ _ _ (@o_addD _) (@q_v2 _ _ 2 _ (by exact⟨rfl,rfl,rfl,rfl⟩)) (@q_slice _ _ _ _ _ _ _ _ _ (@q_v2 _ _ 2 _ (by exact⟨rfl,rfl,rfl,rfl⟩)) (@qo_some _ _ _ (@q_neg _ _ _ _ (@q_int _ _ _ _))) (@qo_none _))) (@qa_consP _ _ _ _ _ (@q_slice _ _ _ _ _ _ _ _ _ (@q_v2 _ _ 2 _ (by exact⟨rfl,rfl,rfl,rfl⟩)) (@qo_some _ _ _ (@q_int _ _ _ _)) (@qo_none _)) (@qa_consP _ _ _ _ _ (@q_tup _ _ _ _ _ (@qa_nil _)) (@qa_consP _ _ _ _ _ (@q_op _ _ _ _ _ _ _ _ (@o_repT _) (@q_tup _ _ _ _ _ (@qa_consP _ _ _ _ _ (@q_int _ _ _ _) (@qa_nil _) (by rfl))) (@q_callB _ _ _ _ _ _ _ _ _ (@c_len _) (T.blt (by decide)) (by decide +kernel) (@qa_consP _ _ _ _ _ (@q_v2 _ _ 1 _ (by exact⟨rfl,rfl,rfl,rfl⟩)) (@qa_nil _) (by rfl)) (by rfl) (by decide) (by decide) (by rfl) (by rfl))) (@qa_consP _ _ _ _ _ (@q_op _ _ _ _ _ _ _ _ (@o_addD _) (@q_tup _ _ _ _ _ (@qa_consP _ _ _ _ _ (@q_int _ _ _ _) (@qa_nil _) (by rfl))) (@q_slice _ _ _ _ _ _ _ _ _ (@q_v2 _ _ 2 _ (by exact⟨rfl,rfl,rfl,rfl⟩)) (@qo_some _ _ _ (@q_int _ _ _ _)) (@qo_none _))) (@qa_consP _ _ _ _ _ (@q_op _ _ _ _ _ _ _ _ (@o_addD _) (@q_tup _ _ _ _ _ (@qa_consP _ _ _ _ _ (@q_bl _ _ _ _) (@qa_nil _) (by rfl))) (@q_slice _ _ _ _ _ _ _ _ _ (@q_v2 _ _ 2 _ (by exact⟨rfl,rfl,rfl,rfl⟩)) (@qo_some _ _ _ (@q_int _ _ _ _)) (@qo_none _))) (@qa_nil _) (by rfl)) (by rfl)) (by rfl)) (by rfl)) (by rfl)) (by rfl)) (by rfl)) (by rfl))) (by rfl) (by exact .inl rfl) (by rfl) (by exact .inl rfl)) (@qss_cons _ _ _ _ _ (@qs_for _ _ _ _ _ _ _ _ PassesOwn.never rfl (@q_op _ _ _ _ _ _ _ _ (@o_addD _) (@q_op _ _ _ _ _ _ _ _ (@o_addD _) (@q_v1 _ _ 3 _ (by exact⟨rfl,rfl,rfl,rfl⟩)) (@q_compzR _ _ _ _ _ _ _ _ _ ["_law_turn"] ["_law_box_here", "_law_channel_here", "_law_way", "_law_some", "_law_thing", "_law_kept", "_law_wrong"] _ _ _ _ rfl (@compOz _ _ _ _ (by rfl) (by rfl) (by rfl) (by rfl) (by rfl)) (T.blt (by decide)) (@qa_consP _ _ _ _ _ (@q_int _ _ _ _) (@qa_nil _) (by rfl)) (fun _ _ _=>(@qg_name _ _ 0 _ nd_L_right_1 (by rfl) (by exact .inl rfl) (by exact .inr rfl))) (fun _ _ _=>(@qf_nil _)) (fun _ _ _=>(@q_call _ _ _ _ _ _ _ _ noX _ _ _ Ac8 (hr.mono (by decide)) (@passN _ _) (@qa_consP _ _ _ _ _ (@q_v2 _ _ 1 _ (by exact⟨rfl,rfl,rfl,rfl⟩)) (@qa_consP _ _ _ _ _ (@q_v2 _ _ 3 _ (by exact⟨rfl,rfl,rfl,rfl⟩)) (@qa_consP _ _ _ _ _ (@q_int _ _ _ _) (@qa_nil _) (by rfl)) (by rfl)) (by rfl)) (by rfl) (by decide) (by rfl) (by rfl))) (by rfl) (by rfl) (by intro _ ;rfl))) (@q_lst _ _ _ _ (@qa_consP _ _ _ _ _ (@q_call _ _ _ _ _ _ _ _ noX _ _ _ Ac3 (hr.mono (by decide)) (@passN _ _) (@qa_consP _ _ _ _ _ (@q_v2 _ _ 0 _ (by exact⟨rfl,rfl,rfl,rfl⟩)) (@qa_nil _) (by rfl)) (by rfl) (by decide) (by rfl) (by rfl)) (@qa_nil _) (by rfl)))) (@qg_name _ _ 4 _ sc_L_right.nd (by rfl) (by exact .inr rfl) (by exact .inl rfl)) (@qss_cons _ _ _ _ _ (@qs_set _ _ _ _ 5 _ _ sc_L_right.nd (@q_callB _ _ _ _ _ _ _ _ _ (@c_repr _ _ hr) (T.blt (by decide)) (by decide +kernel) (@qa_consP _ _ _ _ _ (@q_tup _ _ _ _ _ (@qa_consP _ _ _ _ _ (@q_v2 _ _ 1 _ (by exact⟨rfl,rfl,rfl,rfl⟩)) (@qa_consP _ _ _ _ _ (@q_v2 _ _ 4 _ (by exact⟨rfl,rfl,rfl,rfl⟩)) (@qa_nil _) (by rfl)) (by rfl))) (@qa_nil _) (by rfl)) (by rfl) (by decide) (by decide) (by rfl) (by rfl)) (by rfl) (by exact .inl rfl) (by rfl) (by exact .inl rfl)) (@qss_one _ _ _ (@qs_if _ _ _ _ _ _ _ _ (@qt_of _ _ _ (@qw_or _ _ _ _ _ _ _ (@qt_not _ _ _ _ (@qt_tru _ _ _ (@q_call _ _ _ _ _ _ _ _ noX _ _ _ Adt (hr.mono (by decide)) (@passN _ _) (@qa_consP _ _ _ _ _ (@q_call _ _ _ _ _ _ _ _ noX _ _ _ Ac6 (hr.mono (by decide)) passF (@qa_consP _ _ _ _ _ (@q_v2 _ _ 1 _ (by exact⟨rfl,rfl,rfl,rfl⟩)) (@qa_consP _ _ _ _ _ (@q_v2 _ _ 4 _ (by exact⟨rfl,rfl,rfl,rfl⟩)) (@qa_nil _) (by rfl)) (by rfl)) (by rfl) (by decide) (by rfl) (by rfl)) (@qa_consP _ _ _ _ _ (@q_call _ _ _ _ _ _ _ _ noX _ _ _ Ads (hr.mono (by decide)) (@passN _ _) (@qa_consP _ _ _ _ _ (@q_v2 _ _ 1 _ (by exact⟨rfl,rfl,rfl,rfl⟩)) (@qa_consP _ _ _ _ _ (@q_v2 _ _ 4 _ (by exact⟨rfl,rfl,rfl,rfl⟩)) (@qa_nil _) (by rfl)) (by rfl)) (by rfl) (by decide) (by rfl) (by rfl)) (@qa_nil _) (by rfl)) (by rfl)) (by rfl) (by decide) (by rfl) (by rfl)) (by intro _ ;rfl))) (@qw_or1 _ _ _ _ (@qt_cmp _ _ _ _ _ _ _ _ (@o_ne _) (@q_callB _ _ _ _ _ _ _ _ _ (@c_repr _ _ hr) (T.blt (by decide)) (by decide +kernel) (@qa_consP _ _ _ _ _ (@q_tup _ _ _ _ _ (@qa_consP _ _ _ _ _ (@q_v2 _ _ 1 _ (by exact⟨rfl,rfl,rfl,rfl⟩)) (@qa_consP _ _ _ _ _ (@q_v2 _ _ 4 _ (by exact⟨rfl,rfl,rfl,rfl⟩)) (@qa_nil _) (by rfl)) (by rfl))) (@qa_nil _) (by rfl)) (by rfl) (by decide) (by decide) (by rfl) (by rfl)) (@q_v1 _ _ 5 _ (by exact⟨rfl,rfl,rfl,rfl⟩)) (nomark _))))) (@qss_one _ _ _ (@qs_ret _ _ _ _ (@q_bl _ _ _ _))) (@qss_nil _)))) (by intro _ ;rfl)) (@qss_cons _ _ _ _ _ (@qs_set _ _ _ _ 6 _ _ sc_L_right.nd (@q_lst _ _ _ _ (@qa_consP _ _ _ _ _ (@q_op _ _ _ _ _ _ _ _ (@o_addD _) (@q_v2 _ _ 1 _ (by exact⟨rfl,rfl,rfl,rfl⟩)) (@q_op _ _ _ _ _ _ _ _ (@o_repT _) (@q_slice _ _ _ _ _ _ _ _ _ (@q_v2 _ _ 1 _ (by exact⟨rfl,rfl,rfl,rfl⟩)) (@qo_none _) (@qo_some _ _ _ (@q_int _ _ _ _))) (@q_int _ _ _ _))) (@qa_consP _ _ _ _ _ (@q_slice _ _ _ _ _ _ _ _ _ (@q_v2 _ _ 1 _ (by exact⟨rfl,rfl,rfl,rfl⟩)) (@qo_none _) (@qo_some _ _ _ (@q_int _ _ _ _))) (@qa_consP _ _ _ _ _ (@q_tup _ _ _ _ _ (@qa_nil _)) (@qa_consP _ _ _ _ _ (@q_op _ _ _ _ _ _ _ _ (@o_addD _) (@q_slice _ _ _ _ _ _ _ _ _ (@q_v2 _ _ 1 _ (by exact⟨rfl,rfl,rfl,rfl⟩)) (@qo_none _) (@qo_some _ _ _ (@q_neg _ _ _ _ (@q_int _ _ _ _)))) (@q_tup _ _ _ _ _ (@qa_consP _ _ _ _ _ (@q_tup _ _ _ _ _ (@qa_consP _ _ _ _ _ (@q_int _ _ _ _) (@qa_nil _) (by rfl))) (@qa_nil _) (by rfl)))) (@qa_consP _ _ _ _ _ (@q_op _ _ _ _ _ _ _ _ (@o_addD _) (@q_slice _ _ _ _ _ _ _ _ _ (@q_v2 _ _ 1 _ (by exact⟨rfl,rfl,rfl,rfl⟩)) (@qo_none _) (@qo_some _ _ _ (@q_neg _ _ _ _ (@q_int _ _ _ _)))) (@q_tup _ _ _ _ _ (@qa_consP _ _ _ _ _ (@q_tup _ _ _ _ _ (@qa_consP _ _ _ _ _ (@q_int _ _ _ _) (@qa_consP _ _ _ _ _ (@q_int _ _ _ _) (@qa_nil _) (by rfl)) (by rfl))) (@qa_nil _) (by rfl)))) (@qa_nil _) (by rfl)) (by rfl)) (by rfl)) (by rfl)) (by rfl))) (by rfl) (by exact .inl rfl) (by rfl) (by exact .inl rfl)) (@qss_cons _ _ _ _ _ (@qs_set _ _ _ _ 6 _ _ sc_L_right.nd (@q_op _ _ _ _ _ _ _ _ (@o_addD _) (@q_v1 _ _ 6 _ (by exact⟨rfl,rfl,rfl,rfl⟩)) (@q_lst _ _ _ _ (@qa_consP _ _ _ _ _ (@q_callTy _ _ _ _ _ _ _ _ _ (@c_list _) (T.blt (by decide)) (by decide +kernel) (@qa_consP _ _ _ _ _ (@q_v2 _ _ 1 _ (by exact⟨rfl,rfl,rfl,rfl⟩)) (@qa_nil _) (by rfl)) (by rfl) (by decide) (by decide) (by rfl) (by rfl)) (@qa_consP _ _ _ _ _ (@q_op _ _ _ _ _ _ _ _ (@o_addD _) (@q_slice _ _ _ _ _ _ _ _ _ (@q_v2 _ _ 1 _ (by exact⟨rfl,rfl,rfl,rfl⟩)) (@qo_none _) (@qo_some _ _ _ (@q_neg _ _ _ _ (@q_int _ _ _ _)))) (@q_tup _ _ _ _ _ (@qa_consP _ _ _ _ _ (@q_lst _ _ _ _ (@qa_consP _ _ _ _ _ (@q_int _ _ _ _) (@qa_nil _) (by rfl))) (@qa_nil _) (by rfl)))) (@qa_consP _ _ _ _ _ (@q_op _ _ _ _ _ _ _ _ (@o_addD _) (@q_slice _ _ _ _ _ _ _ _ _ (@q_v2 _ _ 1 _ (by exact⟨rfl,rfl,rfl,rfl⟩)) (@qo_none _) (@qo_some _ _ _ (@q_neg _ _ _ _ (@q_int _ _ _ _)))) (@q_tup _ _ _ _ _ (@qa_consP _ _ _ _ _ (@q_non _ _ _) (@qa_nil _) (by rfl)))) (@qa_consP _ _ _ _ _ (@q_op _ _ _ _ _ _ _ _ (@o_addD _) (@q_slice _ _ _ _ _ _ _ _ _ (@q_v2 _ _ 1 _ (by exact⟨rfl,rfl,rfl,rfl⟩)) (@qo_none _) (@qo_some _ _ _ (@q_neg _ _ _ _ (@q_int _ _ _ _)))) (@q_tup _ _ _ _ _ (@qa_consP _ _ _ _ _ (@q_tup _ _ _ _ _ (@qa_consP _ _ _ _ _ (@q_bl _ _ _ _) (@qa_nil _) (by rfl))) (@qa_nil _) (by rfl)))) (@qa_consP _ _ _ _ _ (@q_tup _ _ _ _ _ (@qa_consP _ _ _ _ _ (@q_tup _ _ _ _ _ (@qa_nil _)) (@qa_consP _ _ _ _ _ (@q_tup _ _ _ _ _ (@qa_nil _)) (@qa_nil _) (by rfl)) (by rfl))) (@qa_nil _) (by rfl)) (by rfl)) (by rfl)) (by rfl)) (by rfl)))) (by rfl) (by exact .inl rfl) (by rfl) (by exact .inl rfl)) (@qss_cons _ _ _ _ _ (@qs_for _ _ _ _ _ _ _ _ PassesOwn.never rfl (@q_op _ _ _ _ _ _ _ _ (@o_addD _) (@q_op _ _ _ _ _ _ _ _ (@o_addD _) (@q_v1 _ _ 6 _ (by exact⟨rfl,rfl,rfl,rfl⟩)) (@q_compzR _ _ _ _ _ _ _ _ _ ["_law_turn"] ["_law_box_here", "_law_channel_here", "_law_way", "_law_some", "_law_thing", "_law_kept", "_law_wrong"] _ _ _ _ rfl (@compOz _ _ _ _ (by rfl) (by rfl) (by rfl) (by rfl) (by rfl)) (T.blt (by decide)) (@qa_consP _ _ _ _ _ (@q_int _ _ _ _) (@qa_nil _) (by rfl)) (fun _ _ _=>(@qg_name _ _ 0 _ nd_L_right_2 (by rfl) (by exact .inl rfl) (by exact .inr rfl))) (fun _ _ _=>(@qf_nil _)) (fun _ _ _=>(@q_call _ _ _ _ _ _ _ _ noX _ _ _ Ac8 (hr.mono (by decide)) (@passN _ _) (@qa_consP _ _ _ _ _ (@q_v2 _ _ 1 _ (by exact⟨rfl,rfl,rfl,rfl⟩)) (@qa_consP _ _ _ _ _ (@q_v2 _ _ 2 _ (by exact⟨rfl,rfl,rfl,rfl⟩)) (@qa_consP _ _ _ _ _ (@q_int _ _ _ _) (@qa_nil _) (by rfl)) (by rfl)) (by rfl)) (by rfl) (by decide) (by rfl) (by rfl))) (by rfl) (by rfl) (by intro _ ;rfl))) (@q_lst _ _ _ _ (@qa_consP _ _ _ _ _ (@q_call _ _ _ _ _ _ _ _ noX _ _ _ Ac3 (hr.mono (by decide)) (@passN _ _) (@qa_consP _ _ _ _ _ (@q_v2 _ _ 0 _ (by exact⟨rfl,rfl,rfl,rfl⟩)) (@qa_nil _) (by rfl)) (by rfl) (by decide) (by rfl) (by rfl)) (@qa_nil _) (by rfl)))) (@qg_name _ _ 4 _ sc_L_right.nd (by rfl) (by exact .inr rfl) (by exact .inl rfl)) (@qss_cons _ _ _ _ _ (@qs_set _ _ _ _ 5 _ _ sc_L_right.nd (@q_callB _ _ _ _ _ _ _ _ _ (@c_repr _ _ hr) (T.blt (by decide)) (by decide +kernel) (@qa_consP _ _ _ _ _ (@q_v2 _ _ 4 _ (by exact⟨rfl,rfl,rfl,rfl⟩)) (@qa_nil _) (by rfl)) (by rfl) (by decide) (by decide) (by rfl) (by rfl)) (by rfl) (by exact .inl rfl) (by rfl) (by exact .inl rfl)) (@qss_cons _ _ _ _ _ (@qs_if _ _ _ _ _ _ _ _ (@qt_of _ _ _ (@qw_and _ _ _ _ _ _ _ (@qt_not _ _ _ _ (@qt_tru _ _ _ (@q_call _ _ _ _ _ _ _ _ noX _ _ _ Ac9 (hr.mono (by decide)) (@passN _ _) (@qa_consP _ _ _ _ _ (@q_v2 _ _ 4 _ (by exact⟨rfl,rfl,rfl,rfl⟩)) (@qa_nil _) (by rfl)) (by rfl) (by decide) (by rfl) (by rfl)) (by intro _ ;rfl))) (@qw_and1 _ _ _ _ (@qt_cmp _ _ _ _ _ _ _ _ (@o_neD _ _ hr) (@q_call _ _ _ _ _ _ _ _ noX _ _ _ Adu (hr.mono (by decide)) (@passN _ _) (@qa_consP _ _ _ _ _ (@q_v2 _ _ 4 _ (by exact⟨rfl,rfl,rfl,rfl⟩)) (@qa_nil _) (by rfl)) (by rfl) (by decide) (by rfl) (by rfl)) (@q_op _ _ _ _ _ _ _ _ (@o_repL _) (@q_lst _ _ _ _ (@qa_consP _ _ _ _ _ (@q_tup _ _ _ _ _ (@qa_consP _ _ _ _ _ (@q_str _ _ _ _) (@qa_nil _) (by rfl))) (@qa_nil _) (by rfl))) (@q_int _ _ _ _)) (nomark _))))) (@qss_one _ _ _ (@qs_ret _ _ _ _ (@q_bl _ _ _ _))) (@qss_nil _)) (@qss_one _ _ _ (@qs_if _ _ _ _ _ _ _ _ (@qt_of _ _ _ (@qw_or _ _ _ _ _ _ _ (@qt_of _ _ _ (@qw_and _ _ _ _ _ _ _ (@qt_tru _ _ _ (@q_call _ _ _ _ _ _ _ _ noX _ _ _ Ac9 (hr.mono (by decide)) (@passN _ _) (@qa_consP _ _ _ _ _ (@q_v2 _ _ 4 _ (by exact⟨rfl,rfl,rfl,rfl⟩)) (@qa_nil _) (by rfl)) (by rfl) (by decide) (by rfl) (by rfl)) (by intro _ ;rfl)) (@qw_and1 _ _ _ _ (@qt_not _ _ _ _ (@qt_tru _ _ _ (@q_callB _ _ _ _ _ _ _ _ _ (@c_isinst _) (T.blt (by decide)) (by decide +kernel) (@qa_consP _ _ _ _ _ (@q_said _ _ _ _ _ _ _ _ _ _ _ _ ["_law_thing"] [4] _ _ _ _ S_said (hr.mono (by decide)) hcode hC rfl rfl (fun _=>rfl) (fun E f c A outer s H hr=>(@q_call _ _ _ _ _ _ _ _ E _ _ _ Ac2 (L2.Room.mono (hr.deeper _) (by decide)) (passL (fun _ _ _ z=>z)) (@qa_consP _ _ _ _ _ (@q_v3 _ _ 0 _ (by exact⟨rfl,rfl,rfl,rfl⟩)) (@qa_nil _) (by rfl)) (by rfl) (by decide) (by rfl) (by rfl))) rfl rfl (And.intro rfl trivial) (And.intro (And.intro rfl (And.intro rfl rfl)) trivial) rfl (by decide +kernel) (LamScope.mk rfl rfl rfl (by decide +kernel)) (fun _ _ _ _ _=>rfl) (by rfl) (by decide) (by rfl) (by rfl)) (@qa_consP _ _ _ _ _ (@q_globty _ _ _ "list" (T.blt (by decide)) (by decide +kernel) (by rfl) (by decide) (by decide)) (@qa_nil _) (by rfl)) (by rfl)) (by rfl) (by decide) (by decide) (by rfl) (by rfl)) (by intro _ ;rfl)))))) (@qw_or1 _ _ _ _ (@qt_cmp _ _ _ _ _ _ _ _ (@o_ne _) (@q_callB _ _ _ _ _ _ _ _ _ (@c_repr _ _ hr) (T.blt (by decide)) (by decide +kernel) (@qa_consP _ _ _ _ _ (@q_v2 _ _ 4 _ (by exact⟨rfl,rfl,rfl,rfl⟩)) (@qa_nil _) (by rfl)) (by rfl) (by decide) (by decide) (by rfl) (by rfl)) (@q_v1 _ _ 5 _ (by exact⟨rfl,rfl,rfl,rfl⟩)) (nomark _))))) (@qss_one _ _ _ (@qs_ret _ _ _ _ (@q_bl _ _ _ _))) (@qss_nil _))))) (by intro _ ;rfl)) (@qss_one _ _ _ (@qs_ret _ _ _ _ (@q_bl _ _ _ _)))))))))),?_⟩
  have szz:∀{n:Nat},n≤100→n≤sizeLine:=fun h=>szl (by omega)
  have sz0:0≤sizeLine:=szz (by omega)
  have sz1:1≤sizeLine:=szz (by omega)
  have sz2:2≤sizeLine:=szz (by omega)
  simp only[Bh,B9,Ax,Ag,Ao,Aj,List.map_cons,List.map_nil,List.length_cons,List.length_nil,Nat.zero_add,Nat.reduceAdd,Nat.reduceSub,List.replicate,List.cons_append,List.nil_append,List.getElem?_cons_zero,Option.some.injEq,nC,Aq,A0,List.set_cons_succ,List.set_cons_zero,List.getElem?_cons_succ,Dj,nCB,List.cons.injEq,and_true,nOp,nSl,Ga,J4,D.int.injEq,Cn,Gz,sz0,sz1,Rv,Gs,Int.reducePow,Int.reduceNeg,true_and,exists_eq_left',and_assoc,Int.reduceLE,Int.reduceLT,Int.reduceToNat]
  refine⟨a,16,rfl,hG,by decide,by decide,fun cs G1 s1 ok hl=>?_⟩
  refine⟨a,cs,rfl,s1.box,ok,fun ws G2 st lw hw=>?_⟩
  have s2:=s1.trans st
  have l16:=ok.hi
  have l2:=ok.lo
  have esl:∀(G:Gp) (lo hi:Option Int) (Q:DK),Dn G (Ad ws) lo hi Q=Q (.tup (Av (ws.map D.int) lo hi)) G:=fun _ _ _ _=>E4
  have eit:∀G:Gp,Aw G (Ad ws)=some (ws.map D.int):=fun _=>rfl
  have ead:∀(G:Gp) (ys:List D) (Q:DK),Eh (Ad ws) (.tup ys) G Q=Eh (.tup (ws.map D.int)) (.tup ys) G Q:=fun _ _ _=>rfl
  have lch:∀G:Gp,Fo G (chD cs)=some cs.length:=fun _=>by simp[chD,Fo]
  simp only[eit,Option.some.injEq,Int.reduceNeg,lch,esl,Nv,List.length_cons,List.length_nil,Nat.zero_add,List.cons_append,List.nil_append,exists_eq_left',ead]
  intro pl hpl
  have cle:∀(xs:List D) (lo hi:Option Int),(Av xs lo hi).length≤xs.length:=fun xs lo hi=>by simp only[Av,List.length_take,List.length_drop];omega
  have small:∀d∈ws.map D.int,∃i:Int,d=.int i∧i.natAbs≤1000:=fun d hd=>by
   obtain⟨i,hi,rfl⟩:=List.mem_map.mp hd
   have:=hw i hi
   exact⟨i,rfl,by omega⟩
  have lc1:(Av (ws.map D.int) (some (-1)) none).length≤16:=Nat.le_trans (cle _ _ _) (by simp;omega)
  have lc2:(Av (ws.map D.int) (some 1) none).length≤16:=Nat.le_trans (cle _ _ _) (by simp;omega)
  have mc1:∀d∈Av (ws.map D.int) (some (-1)) none,∃i:Int,d=.int i∧i.natAbs≤1000:=fun d hd=>small d (Dc hd)
  have mc2:∀d∈Av (ws.map D.int) (some 1) none,∃i:Int,d=.int i∧i.natAbs≤1000:=fun d hd=>small d (Dc hd)
  generalize Av (ws.map D.int) (some (-1)) none=c1 at *
  generalize Av (ws.map D.int) (some 1) none=c2 at *
  refine⟨szz (by simp;omega),[.int 0],(cs.length:Int),rfl,rfl,by simp,by omega,by omega,szz (by simp;omega),?_⟩
  have lz:(List.replicate ((cs.length:Int)).toNat [D.int 0]).flatten.length≤16:=by simp;omega
  have mz:∀d∈(List.replicate ((cs.length:Int)).toNat [D.int 0]).flatten,∃i:Int,d=.int i∧i.natAbs≤1000:=fun d hd=>by
   obtain⟨l,h1,h2⟩:=List.mem_flatten.mp hd
   rw[List.eq_of_mem_replicate h1] at h2
   exact⟨0,List.mem_singleton.mp h2,by decide⟩
  generalize (List.replicate ((cs.length:Int)).toNat [D.int 0]).flatten=zs at *
  refine⟨szz (by omega),szz (by omega),szz (by omega),fun ps hps=>?_⟩
  have pl0:=s2.back hpl
  have s3:=s2.lay (o:=.lst (ws.map D.int)) hpl
  have g3:Ab G2 pl (.lst (ws.map D.int)) pl=some (.lst (ws.map D.int)):=Aa
  generalize Ab G2 pl (.lst (ws.map D.int))=G3 at *
  have nps:=Step.ne s3.box hps
  have s4:=s3.lay (o:=.lst [Ad ws,D.ref pl,.tup (ws.map D.int++c1),.tup c2,.tup [],.tup zs,.tup (D.int 9::c2),.tup (D.bl true::c2)]) hps
  have g4:Ab G3 ps (.lst [Ad ws,D.ref pl,.tup (ws.map D.int++c1),.tup c2,.tup [],.tup zs,.tup (D.int 9::c2),.tup (D.bl true::c2)]) ps=some (.lst [Ad ws,D.ref pl,.tup (ws.map D.int++c1),.tup c2,.tup [],.tup zs,.tup (D.int 9::c2),.tup (D.bl true::c2)]):=Aa
  have gl4:=Ae (u:=.lst [Ad ws,D.ref pl,.tup (ws.map D.int++c1),.tup c2,.tup [],.tup zs,.tup (D.int 9::c2),.tup (D.bl true::c2)]) g3 hps
  generalize Ab G3 ps (.lst [Ad ws,D.ref pl,.tup (ws.map D.int++c1),.tup c2,.tup [],.tup zs,.tup (D.int 9::c2),.tup (D.bl true::c2)])=G4 at *
  have gt:∀{X:Gp} {xs:List D},xs.length≤34→(∀d∈xs,∃i:Int,d=.int i∧i.natAbs≤1000)→Good X WS (.tup xs):=fun hl h=>.tup hl fun d hd=>by
   obtain⟨i,rfl,hi⟩:=h d hd
   exact .int i (by omega)
  have all4:∀d∈[Ad ws,D.ref pl,.tup (ws.map D.int++c1),.tup c2,.tup [],.tup zs,.tup (D.int 9::c2),.tup (D.bl true::c2)],Good (nw G G4) WS d:=fun d hd=>by
   simp only[List.mem_cons,List.not_mem_nil,or_false] at hd
   rcases hd with rfl|rfl|rfl|rfl|rfl|rfl|rfl|rfl
   ·exact gt (by simp;omega) small
   ·refine .lst (Cr pl0 gl4) (by simp;omega) fun d hd=>?_
    obtain⟨i,rfl,hi⟩:=small d hd
    exact .int i (by omega)
   ·exact gt (by simp;omega) fun d hd=>(List.mem_append.mp hd).elim (small d) (mc1 d)
   ·exact gt (by omega) mc2
   ·exact gt (by simp) (by simp)
   ·exact gt (by omega) mz
   ·exact gt (by simp;omega) fun d hd=>(List.mem_cons.mp hd).elim (fun e=>⟨9,e,by decide⟩) (mc2 d)
   ·refine .tup (by simp;omega) fun d hd=>?_
    rcases List.mem_cons.mp hd with rfl|hd
    ·exact .bl true
    ·obtain⟨i,rfl,hi⟩:=mc2 d hd
     exact .int i (by omega)
  refine Jv (n:=6) (by decide) hG s4 g4 nps (by simp) all4 (fun i G6 s6 R h=>?_) fun all p3 G10 s10 la g10 hg10 kp=>?_
  ·simp only[Ax,Ag,Ao,List.getElem?_cons_succ,List.getElem?_cons_zero,Option.some.injEq,nC,Aq,exists_eq_left']
   refine⟨a,Ad ws,1,rfl,s6.box,⟨by decide,by decide⟩,[16,2,2,2],by decide,by decide,.tup (by simp;omega) fun d hd=>?_,fun d' G7 st gd=>h d' G7 st (gd.wide (.cons (by decide) (.cons (by decide) (.cons (by decide) (.cons (by decide) .nil)))))⟩
   obtain⟨i,rfl,hi⟩:=small d hd
   exact .int i hi
  ·refine⟨all,A9 g10,?_⟩
   have szc:SzT (chD cs):=fun xs e=>by
    cases e
    refine⟨by rw[List.length_map,sizeLine_eq];omega,fun y hy ys e=>?_⟩
    obtain⟨c,hc,rfl⟩:=List.mem_map.mp hy
    cases e
    rw[List.length_map,sizeLine_eq];have:=(ok.rw c hc).len;omega
   have knc:∀{X:Gp},KnT X 2 (chD cs):=fun {X}=>(Pr (G:=X) (show cs.length≤34 by omega) ok.rw).knt
   refine Cf (fun i σ G'=>∃v4 v5,σ=[some (.ref a),some (chD cs),some (Ad ws),some (.ref ps),v4,v5,none]∧G10=G') ⟨none,none,rfl,rfl⟩ (fun i σ G' _ ⟨_,_,_,e⟩=>by rw[←e];exact A9 g10) ?_ ?_
   ·rintro i x σ _ hx ⟨v4,v5,rfl,rfl⟩
    have gx:=hg10 x (List.mem_of_getElem? hx)
    obtain⟨px,shx⟩:=gx.sh
    obtain⟨pc,shc⟩:=(Pr (G:=G10) (show cs.length≤34 by omega) ok.rw).sh
    obtain⟨pt,sht⟩:=Su (G:=G10) (ds:=[chD cs,x]) (c:=2) (b:=fW WS) (n:=WS.length+1) (fun y hy=>by
     simp only[List.mem_cons,List.not_mem_nil,or_false] at hy
     rcases hy with rfl|rfl
     ·exact⟨pc,shc⟩
     ·exact⟨px,shx⟩) (by simp)
    obtain⟨szx,wdx⟩:=Mg gx
    have shb:∀b:Bool,Sh G10 100 90 (.bl b) (.bool b):=fun b=>⟨.bl b,rfl,by cases b<;>decide,Nat.zero_le _⟩
    simp only[A0,Bh,B9,nCB,Ag,Gz,Ao,List.set_cons_succ,List.set_cons_zero,List.getElem?_cons_succ,List.getElem?_cons_zero,Option.some.injEq,Aq,List.length_cons,List.length_nil,Nat.zero_add,Nat.reduceAdd,sz2,List.cons.injEq,and_true,C5,nOr,Ec,Eb,Ax,Bi,nC,Bs,if_true,Bj,nOp,dNe,eqS,D.bl.injEq,exists_eq_left',true_and]
    refine⟨pt,sht.rep,sht.ok,Jb (Nat.le_trans sht.len (by decide)),Nat.le_trans sht.dep (by decide),chD cs,x,rfl,knc,szc,fun z=>(by rw[ok.chan] at z;cases z),fun cs' e ok'=>⟨gx.knt,fun xs e2=>(szx xs e2).1,?_⟩⟩
    refine⟨cs',x,by rw[e],ok',gx.knt,fun xs e2=>(szx xs e2).1,?_⟩
    refine⟨_,_,100,.bool (X2 cs' x),rfl,shb _,shb _,by decide,true,rfl,it1 (by decide) ?_⟩
    refine⟨pt,sht.rep,sht.ok,Jb (Nat.le_trans sht.len (by decide)),Nat.le_trans sht.dep (by decide),?_⟩
    rw[decide_eq_true rfl]
    exact it1 (by decide) (Fs.of ⟨_,_,rfl,rfl⟩)
   ·rintro σ _ ⟨v4,v5,rfl,rfl⟩
    have esc:∀(G:Gp) (lo hi:Option Int) (Q:DK),Dn G (chD cs) lo hi Q=Q (.tup (Av (cs.map Ad) lo hi)) G:=fun _ _ _ _=>E4
    have eic:∀G:Gp,Aw G (chD cs)=some (cs.map Ad):=fun _=>rfl
    have eac:∀(G:Gp) (ys:List D) (Q:DK),Eh (chD cs) (.tup ys) G Q=Eh (.tup (cs.map Ad)) (.tup ys) G Q:=fun _ _ _=>rfl
    simp only[Bh,B9,Dj,Ag,nOp,Ao,List.getElem?_cons_succ,List.getElem?_cons_zero,Option.some.injEq,nSl,Cn,Ga,nC,D.int.injEq,Gz,Aq,List.length_nil,sz0,J4,List.length_cons,Nat.zero_add,sz1,Nat.reduceAdd,sz2,A0,List.set_cons_succ,List.set_cons_zero,nCB,List.cons.injEq,and_true,Rv,Gs,Int.reducePow,Int.reduceNeg,Ax,true_and,exists_eq_left',and_assoc,Int.reduceLE,Int.reduceLT,Int.reduceToNat,esc,Nv,eic]
    obtain⟨c0',hc0,ec1⟩:∃c,c∈cs∧Av (cs.map Ad) none (some 1)=[Ad c]:=by
     cases cs with
     |nil=>simp at l2
     |cons c r=>exact⟨c,by simp,by rw[show(some (1:Int))=some ((1:Nat):Int) from rfl,U9];rfl⟩
    have ec2:Av (cs.map Ad) none (some (-1))=cs.dropLast.map Ad:=by rw[Mq,List.map_dropLast]
    have ld:cs.dropLast.length≤15:=by simp;omega
    have md:∀c∈cs.dropLast,RowOk c:=fun c hc=>ok.rw c (List.mem_of_mem_take (by rw[←List.dropLast_eq_take];exact hc))
    have okc0:=ok.rw c0' hc0
    simp only[ec1,ec2]
    generalize cs.dropLast=dl at *
    generalize c0'=c0 at *
    refine⟨[Ad c0],17,rfl,rfl,by simp,by decide,by decide,szz (by simp),?_⟩
    show Eh (.tup (cs.map Ad)) (.tup _) G10 _
    rw[Nv]
    have lx:(cs.map Ad++(List.replicate (17:Int).toNat [Ad c0]).flatten).length≤33:=by simp;omega
    have mx:∀d∈cs.map Ad++(List.replicate (17:Int).toNat [Ad c0]).flatten,∃c,d=Ad c∧RowOk c:=fun d hd=>by
     rcases List.mem_append.mp hd with z|z
     ·obtain⟨c,hc,rfl⟩:=List.mem_map.mp z
      exact⟨c,rfl,ok.rw c hc⟩
     ·obtain⟨l,h1,h2⟩:=List.mem_flatten.mp z
      rw[List.eq_of_mem_replicate h1] at h2
      exact⟨c0,List.mem_singleton.mp h2,okc0⟩
    refine⟨szz (by simp;omega),?_⟩
    generalize cs.map Ad++(List.replicate (17:Int).toNat [Ad c0]).flatten=xs1 at *
    have szd:(dl.map Ad).length+1≤sizeLine:=szz (by simp;omega)
    refine⟨szd,szd,szz (by omega),fun p1 h1=>?_⟩
    have s11:=s10.lay (o:=.lst [.tup xs1,.tup [Ad c0],.tup [],.tup (dl.map Ad++[.tup [.int 9]]),.tup (dl.map Ad++[.tup [.int 1,.int 0]])]) h1
    have g11:Ab G10 p1 (.lst [.tup xs1,.tup [Ad c0],.tup [],.tup (dl.map Ad++[.tup [.int 9]]),.tup (dl.map Ad++[.tup [.int 1,.int 0]])]) p1=some (.lst [.tup xs1,.tup [Ad c0],.tup [],.tup (dl.map Ad++[.tup [.int 9]]),.tup (dl.map Ad++[.tup [.int 1,.int 0]])]):=Aa
    generalize Ab G10 p1 (.lst [.tup xs1,.tup [Ad c0],.tup [],.tup (dl.map Ad++[.tup [.int 9]]),.tup (dl.map Ad++[.tup [.int 1,.int 0]])])=G11 at *
    intro p2 h2
    have z2:=s11.back h2
    have s12:=s11.lay (o:=.lst (cs.map Ad)) h2
    have g12:Ab G11 p2 (.lst (cs.map Ad)) p2=some (.lst (cs.map Ad)):=Aa
    have k12:=Ae (u:=.lst (cs.map Ad)) g11 h2
    generalize Ab G11 p2 (.lst (cs.map Ad))=G12 at *
    intro p3 h3
    have z3:=s12.back h3
    have s13:=s12.lay (o:=.lst [.int 0]) h3
    have g13:Ab G12 p3 (.lst [.int 0]) p3=some (.lst [.int 0]):=Aa
    have k13:=Ae (u:=.lst [.int 0]) k12 h3
    have j13:=Ae (u:=.lst [.int 0]) g12 h3
    generalize Ab G12 p3 (.lst [.int 0])=G13 at *
    refine⟨szd,szd,szd,szz (by omega),fun p4 h4=>?_⟩
    have s14:=s13.lay (o:=.lst [.ref p2,.tup (dl.map Ad++[.ref p3]),.tup (dl.map Ad++[.non]),.tup (dl.map Ad++[.tup [.bl false]]),.tup [.tup [],.tup []]]) h4
    have g14:Ab G13 p4 (.lst [.ref p2,.tup (dl.map Ad++[.ref p3]),.tup (dl.map Ad++[.non]),.tup (dl.map Ad++[.tup [.bl false]]),.tup [.tup [],.tup []]]) p4=some (.lst [.ref p2,.tup (dl.map Ad++[.ref p3]),.tup (dl.map Ad++[.non]),.tup (dl.map Ad++[.tup [.bl false]]),.tup [.tup [],.tup []]]):=Aa
    have k14:=Ae (u:=.lst [.ref p2,.tup (dl.map Ad++[.ref p3]),.tup (dl.map Ad++[.non]),.tup (dl.map Ad++[.tup [.bl false]]),.tup [.tup [],.tup []]]) k13 h4
    have j14:=Ae (u:=.lst [.ref p2,.tup (dl.map Ad++[.ref p3]),.tup (dl.map Ad++[.non]),.tup (dl.map Ad++[.tup [.bl false]]),.tup [.tup [],.tup []]]) j13 h4
    have i14:=Ae (u:=.lst [.ref p2,.tup (dl.map Ad++[.ref p3]),.tup (dl.map Ad++[.non]),.tup (dl.map Ad++[.tup [.bl false]]),.tup [.tup [],.tup []]]) g13 h4
    generalize Ab G13 p4 (.lst [.ref p2,.tup (dl.map Ad++[.ref p3]),.tup (dl.map Ad++[.non]),.tup (dl.map Ad++[.tup [.bl false]]),.tup [.tup [],.tup []]])=G14 at *
    rw[C6 k14 g14]
    refine⟨szz (by simp),fun p5 h5=>?_⟩
    have n5:=Step.ne s14.box h5
    have s15:=s14.lay (o:=.lst ([.tup xs1,.tup [Ad c0],.tup [],.tup (dl.map Ad++[.tup [.int 9]]),.tup (dl.map Ad++[.tup [.int 1,.int 0]])]++[.ref p2,.tup (dl.map Ad++[.ref p3]),.tup (dl.map Ad++[.non]),.tup (dl.map Ad++[.tup [.bl false]]),.tup [.tup [],.tup []]])) h5
    have g15:Ab G14 p5 (.lst ([.tup xs1,.tup [Ad c0],.tup [],.tup (dl.map Ad++[.tup [.int 9]]),.tup (dl.map Ad++[.tup [.int 1,.int 0]])]++[.ref p2,.tup (dl.map Ad++[.ref p3]),.tup (dl.map Ad++[.non]),.tup (dl.map Ad++[.tup [.bl false]]),.tup [.tup [],.tup []]])) p5=some (.lst ([.tup xs1,.tup [Ad c0],.tup [],.tup (dl.map Ad++[.tup [.int 9]]),.tup (dl.map Ad++[.tup [.int 1,.int 0]])]++[.ref p2,.tup (dl.map Ad++[.ref p3]),.tup (dl.map Ad++[.non]),.tup (dl.map Ad++[.tup [.bl false]]),.tup [.tup [],.tup []]])):=Aa
    have j15:=Ae (u:=.lst ([.tup xs1,.tup [Ad c0],.tup [],.tup (dl.map Ad++[.tup [.int 9]]),.tup (dl.map Ad++[.tup [.int 1,.int 0]])]++[.ref p2,.tup (dl.map Ad++[.ref p3]),.tup (dl.map Ad++[.non]),.tup (dl.map Ad++[.tup [.bl false]]),.tup [.tup [],.tup []]])) j14 h5
    have i15:=Ae (u:=.lst ([.tup xs1,.tup [Ad c0],.tup [],.tup (dl.map Ad++[.tup [.int 9]]),.tup (dl.map Ad++[.tup [.int 1,.int 0]])]++[.ref p2,.tup (dl.map Ad++[.ref p3]),.tup (dl.map Ad++[.non]),.tup (dl.map Ad++[.tup [.bl false]]),.tup [.tup [],.tup []]])) i14 h5
    generalize Ab G14 p5 (.lst ([.tup xs1,.tup [Ad c0],.tup [],.tup (dl.map Ad++[.tup [.int 9]]),.tup (dl.map Ad++[.tup [.int 1,.int 0]])]++[.ref p2,.tup (dl.map Ad++[.ref p3]),.tup (dl.map Ad++[.non]),.tup (dl.map Ad++[.tup [.bl false]]),.tup [.tup [],.tup []]]))=G15 at *
    have row_good:∀{X:Gp} {c:List Int},RowOk c→Good X [10,3,3,3] (Ad c):=fun h=>((L6 h).good).wide (.cons (by decide) (.cons (by decide) (.cons (by decide) (.cons (by decide) .nil))))
    have gdl:∀{X:Gp} {y:D},Good X [10,3,3,3] y→Good X WS (.tup (dl.map Ad++[y])):=fun {X y} hy=>.tup (by simp;omega) fun d hd=>by
     rcases List.mem_append.mp hd with z|z
     ·obtain⟨c,hc,rfl⟩:=List.mem_map.mp z
      exact row_good (md c hc)
     ·rw[List.mem_singleton.mp z];exact hy
    have gi:∀{X:Gp} {ws:List Nat} (i:Int),i.natAbs≤1000→Good X ws (.int i):=fun i h=>.int i (by omega)
    have g1t:∀{X:Gp} {x:D},Good X [3,3,3] x→Good X [10,3,3,3] (.tup [x]):=fun h=>.tup (by simp) fun d hd=>by rw[List.mem_singleton.mp hd];exact h
    have all15:∀d∈[.tup xs1,.tup [Ad c0],.tup [],.tup (dl.map Ad++[.tup [.int 9]]),.tup (dl.map Ad++[.tup [.int 1,.int 0]])]++[.ref p2,.tup (dl.map Ad++[.ref p3]),.tup (dl.map Ad++[.non]),.tup (dl.map Ad++[.tup [.bl false]]),.tup [.tup [],.tup []]],Good (nw G G15) WS d:=fun d hd=>by
     simp only[List.mem_append,List.mem_cons,List.not_mem_nil,or_false] at hd
     rcases hd with (rfl|rfl|rfl|rfl|rfl)|(rfl|rfl|rfl|rfl|rfl)
     ·refine .tup (by omega) fun d hd=>?_
      obtain⟨c,rfl,hc⟩:=mx d hd
      exact row_good hc
     ·exact .tup (by simp) fun d hd=>by rw[List.mem_singleton.mp hd];exact row_good okc0
     ·exact .tup (by simp) (by simp)
     ·exact gdl (g1t (gi 9 (by decide)))
     ·refine gdl (.tup (by simp) fun d hd=>?_)
      simp only[List.mem_cons,List.not_mem_nil,or_false] at hd
      rcases hd with rfl|rfl
      ·exact gi 1 (by decide)
      ·exact gi 0 (by decide)
     ·refine .lst (Cr z2 j15) (by simp;omega) fun d hd=>?_
      obtain⟨c,hc,rfl⟩:=List.mem_map.mp hd
      exact row_good (ok.rw c hc)
     ·exact gdl (.lst (Cr z3 i15) (by simp) fun d hd=>by rw[List.mem_singleton.mp hd];exact gi 0 (by decide))
     ·exact gdl .non
     ·exact gdl (g1t (.bl false))
     ·refine .tup (by simp) fun d hd=>?_
      have:d=.tup []:=by simpa using hd
      rw[this]
      exact .tup (by simp) (by simp)
    refine Jv (n:=6) (by decide) hG s15 g15 n5 (by simp) all15 (fun i G6 s6 R h=>?_) fun al p6 G20 s20 la2 g20 hg20 kp2=>?_
    ·simp only[Ax,Ag,Ao,List.getElem?_cons_succ,List.getElem?_cons_zero,Option.some.injEq,nC,Aq,exists_eq_left']
     refine⟨a,chD cs,2,rfl,s6.box,⟨by decide,by decide⟩,[33,9,2,2,2],by decide,by decide,Pq (by omega) ok.rw,fun d' G7 st gd=>h d' G7 st (gd.wide (.cons (by decide) (.cons (by decide) (.cons (by decide) (.cons (by decide) (.cons (by decide) .nil))))))⟩
    ·refine⟨al,A9 g20,?_⟩
     have nT0:a≠T0:=fun e=>by obtain⟨b,hb⟩:=hG;rw[e,hT0] at hb;cases hb
     have nT1:a≠T1:=fun e=>by obtain⟨b,hb⟩:=hG;rw[e,hT1] at hb;cases hb
     have t0:=s20.get nT0 hT0
     have t1:=s20.get nT1 hT1
     refine Cf (RtP a G20 [some (.ref a),some (chD cs),some (Ad ws),some (.ref ps)] (.ref p5)) ⟨v4,v5,rfl,Sub.refl _⟩ (fun i σ G' _ ⟨_,_,_,e⟩=>A9 (e _ _ g20)) ?_ ?_
     ·rintro i x σ G21 hx ⟨w4,w5,rfl,sb⟩
      have gx:=(hg20 x (List.mem_of_getElem? hx)).sub sb
      obtain⟨px,shx⟩:=gx.sh
      obtain⟨szx,wdx⟩:=Mg gx
      simp only[A0,Bh,B9,nCB,Ag,Ao,List.cons_append,List.nil_append,List.set_cons_succ,List.set_cons_zero,List.getElem?_cons_succ,List.getElem?_cons_zero,Option.some.injEq,Aq,List.cons.injEq,and_true,C5,Rx,Ec,Eb,Ax,Bj,nOp,Dj,Gz,nC,List.length_cons,List.length_nil,Nat.zero_add,sz1,Bi,Bs,nOr,D.ty.injEq,if_true,dNe,eqS,D.bl.injEq,exists_eq_left',and_assoc,exists_and_left,Xg,true_and,reduceCtorEq,if_false]
      refine⟨px,shx.rep,shx.ok,Jb (Nat.le_trans shx.len (by decide)),Nat.le_trans shx.dep (by decide),x,rfl,gx.knt,szx,wdx,_,rfl,?_⟩
      have fin:∀G1,Sub G21 G1→∃p2,RepD G1 x p2∧p2.showable=true∧p2.shown.length≤sizeLine∧p2.depth≤99∧if (!decide (p2.shown=px.shown))=true then Fq Q (.bl false) G1 else
        Fs (RtP a G20 [some (.ref a),some (chD cs),some (Ad ws),some (.ref ps)] (.ref p5) (i+1)) [some (.ref a),some (chD cs),some (Ad ws),some (.ref ps),some x,some (.str px.shown),some (.ref p5)] G1:=fun G1 sb1=>
       ⟨px,O3 sb1 shx.rep,shx.ok,Jb (Nat.le_trans shx.len (by decide)),Nat.le_trans shx.dep (by decide),by
        rw[decide_eq_true rfl]
        exact it1 (by decide) (Fs.of ⟨_,_,rfl,sb.trans sb1⟩)⟩
      cases hc:B1 x with
      |true=>
       refine it1 (by decide) ⟨x,rfl,gx.knt,szx,wdx,_,rfl,?_⟩
       rw[hc]
       refine it0 rfl (V2 (sb _ _ t1) gx.knt szx hc rfl (fun Q' h=>by simp only[Ag,Ao,List.getElem?_cons_zero,Option.some.injEq,Aq,exists_eq_left'];exact h) fun n G' p sb' hp=>?_)
       exact⟨"list",by simp only[A8,Aa],true,rfl,it1 (by decide) (fin _ (sb'.skip hp))⟩
      |false=>
       refine it0 (by decide) ⟨x,rfl,gx.knt,szx,hc,sb _ _ t0,fun p G1 sb1 g1 p1 hp1=>?_⟩
       refine⟨p1,9,rfl,rfl,[chn],Aa,by decide,szz (by decide),by decide,fun p2 hp2=>?_⟩
       have sb2:Sub G21 (Ab (Ab G1 p1 (.lst [chn])) p2 (.lst (List.replicate 9 chn))):=(sb1.skip hp1).skip hp2
       have e2:Ab (Ab G1 p1 (.lst [chn])) p2 (.lst (List.replicate 9 chn)) p=some (.lst (List.replicate 9 chn)):=Ae (Ae g1 hp1) hp2
       have f2:Ab (Ab G1 p1 (.lst [chn])) p2 (.lst (List.replicate 9 chn)) p2=some (.lst (List.replicate 9 chn)):=Aa
       show R0 (.ref p) (.ref p2) (Ab (Ab G1 p1 (.lst [chn])) p2 (.lst (List.replicate 9 chn))) _
       generalize Ab (Ab G1 p1 (.lst [chn])) p2 (.lst (List.replicate 9 chn))=G22 at *
       refine Zu e2 f2 ⟨_,rfl,it1 (by decide) ⟨x,rfl,(gx.sub sb2).knt,szx,wdx,_,rfl,?_⟩⟩
       rw[hc]
       exact it1 (by decide) (fin _ sb2)
     ·rintro σ G21 ⟨w4,w5,rfl,sb⟩
      simp only[Bi,nC]
      exact⟨G20,sb,q _ s20⟩
end
section
variable{P:Program}{w:World}{K:W.Frag}{mg:Str→Option Value}{base:Heap}{T0 T1 M CN:Addr}{tbl:List (Str×Addr)}
abbrev qC:Str:="_law_calls" ++ ".<locals>." ++ "<lambda>"
abbrev qR:Str:="_law_right" ++ ".<locals>." ++ "<lambda>"
abbrev s_law:Stmt:=top 70
abbrev N_law:List Str:=["_law_script", "_law_k", "_law_lap"]
abbrev Sa:List Str:=["_law_script"]
theorem sc_law:FnScope N_law Sa (Ac s_law):=⟨rfl,rfl,rfl,by decide +kernel,rfl,by decide +kernel,by decide +kernel⟩
theorem Zs{f:Addr}{fd:FuncData}(F:Fun K "law" "law" s_law f fd)(T:Nums mg)(Adv:Def P w K mg base CX0 2 "_law_box" p_L_box spBox)(Adw:Def P w K mg base CX0 11 "_law_right" Ce (Kj T0 T1 qC qR)):FnOk P w K mg base CX0 12 f fd Sa (Ai K (J7 [(T0,qC),(T1,qR)])):=by
 refine okD F sc_law (fun ds G Q E h=>?_) (fun cdv A outer s H XE ds G Q E hr h=>?_)
 ·obtain⟨ns,rfl,_⟩:=h;rfl
 ·obtain⟨ns,rfl,hl,hT,q⟩:=h
  have hT0:G T0=some (.tbl qC):=hT (T0,qC) (by simp)
  have hT1:G T1=some (.tbl qR):=hT (T1,qR) (by simp)
  refine⟨_,(@qss_cons _ _ _ _ _ (@Go _ _ _ _ _ _ _ _ _ _ PassesOwn.never rfl (T.blt (by decide)) (@qa_consP _ _ _ _ _ (@q_callB _ _ _ _ _ _ _ _ _ (@Aae _ rfl) (T.blt (by decide)) (by decide +kernel) (@qa_consP _ _ _ _ _ (@q_int _ _ _ _) (@qa_consP _ _ _ _ _ (@q_callB _ _ _ _ _ _ _ _ _ (@Aad _ rfl) (T.blt (by decide)) (by decide +kernel) (@qa_consP _ _ _ _ _ (@q_callB _ _ _ _ _ _ _ _ _ (@c_len _) (T.blt (by decide)) (by decide +kernel) (@qa_consP _ _ _ _ _ (@q_v1 _ _ 0 _ (by exact⟨rfl,rfl,rfl,rfl⟩)) (@qa_nil _) (by rfl)) (by rfl) (by decide) (by decide) (by rfl) (by rfl)) (@qa_consP _ _ _ _ _ (@q_int _ _ _ _) (@qa_nil _) (by rfl)) (by rfl)) (by rfl) (by decide) (by decide) (by rfl) (by rfl)) (@qa_nil _) (by rfl)) (by rfl)) (by rfl) (by decide) (by decide) (by rfl) (by rfl)) (@qa_nil _) (by rfl)) (@qg_name _ _ 1 _ sc_law.nd (by rfl) (by exact .inl rfl) (by exact .inl rfl)) (@qss_one _ _ _ (@Go _ _ _ _ _ _ _ _ _ _ PassesOwn.never rfl (T.blt (by decide)) (@qa_consP _ _ _ _ _ (@q_int _ _ _ _) (@qa_nil _) (by rfl)) (@qg_name _ _ 2 _ sc_law.nd (by rfl) (by exact .inl rfl) (by exact .inl rfl)) (@qss_one _ _ _ (@qs_if _ _ _ _ _ _ _ _ (@qt_not _ _ _ _ (@qt_tru _ _ _ (@q_call _ _ _ _ _ _ _ _ noX _ _ _ Adw (hr.mono (by decide)) (@passN _ _) (@qa_consP _ _ _ _ _ (@q_call _ _ _ _ _ _ _ _ noX _ _ _ Adv (hr.mono (by decide)) (@passN _ _) (@qa_consP _ _ _ _ _ (@q_v1 _ _ 0 _ (by exact⟨rfl,rfl,rfl,rfl⟩)) (@qa_consP _ _ _ _ _ (@q_v1 _ _ 1 _ (by exact⟨rfl,rfl,rfl,rfl⟩)) (@qa_consP _ _ _ _ _ (@q_v1 _ _ 2 _ (by exact⟨rfl,rfl,rfl,rfl⟩)) (@qa_nil _) (by rfl)) (by rfl)) (by rfl)) (by rfl) (by decide) (by rfl) (by rfl)) (@qa_nil _) (by rfl)) (by rfl) (by decide) (by rfl) (by rfl)) (by intro _ ;rfl))) (@qss_one _ _ _ (@qs_ret _ _ _ _ (@q_bl _ _ _ _))) (@qss_nil _))) (by rfl) (by rfl) (by intro _ ;rfl))) (by rfl) (by rfl) (by intro _ ;rfl)) (@qss_one _ _ _ (@qs_ret _ _ _ _ (@q_bl _ _ _ _)))),?_⟩
  simp only[Bh,Ln,Ag,nCB,nC,Ao,Aj,List.map_cons,List.map_nil,List.length_cons,List.length_nil,Nat.zero_add,Nat.reduceAdd,Nat.reduceSub,List.replicate,List.cons_append,List.nil_append,List.getElem?_cons_zero,Option.some.injEq,Aq,List.cons.injEq,and_true,D.int.injEq,Int.reducePow,Int.reduceNeg,and_assoc,exists_eq_left',exists_and_left,Md]
  have hb:∀n:Int,0≤n→1≤(if (if 3<n then 3 else n)>1 then (if 3<n then 3 else n) else 1)∧(if (if 3<n then 3 else n)>1 then (if 3<n then 3 else n) else 1)≤3:=fun n hn=>by
   by_cases h:3<n
   ·rw[if_pos h];decide
   ·rw[if_neg h]
    by_cases h2:n>1
    ·rw[if_pos h2];omega
    ·rw[if_neg h2];decide
  obtain⟨b1,b2⟩:=hb (ns.length:Nat) (by omega)
  generalize (if (if (3:Int)<(ns.length:Nat) then (3:Int) else (ns.length:Nat))>1 then (if (3:Int)<(ns.length:Nat) then (3:Int) else (ns.length:Nat)) else 1)=m at *
  refine⟨by omega,by omega,?_⟩
  refine Ck (fun i σ G'=>∃v1 v2,σ=[some (.lint ns),v1,v2]∧G' T0=some (.tbl qC)∧G' T1=some (.tbl qR)) ⟨none,none,rfl,hT0,hT1⟩ ?_ ?_
  ·rintro i σ G1 hi ⟨v1,v2,rfl,hT0,hT1⟩
   simp only[A0,Ln,Ag,nC,Aq,List.cons.injEq,D.int.injEq,and_true,Int.reducePow,Int.reduceNeg,List.set_cons_succ,List.set_cons_zero,and_assoc,exists_eq_left',Int.reduceLE,Int.reduceLT,Int.reduceToNat,true_and]
   refine Ck (n:=2) (fun j σ G'=>∃v2,σ=[some (.lint ns),some (.int (i:Nat)),v2]∧G' T0=some (.tbl qC)∧G' T1=some (.tbl qR)) ⟨v2,rfl,hT0,hT1⟩ ?_ ?_
   ·rintro j σ G2 hj ⟨v2,rfl,hT0,hT1⟩
    simp only[A0,C5,Ec,Eb,Ax,Ag,Ao,List.set_cons_succ,List.set_cons_zero,List.getElem?_cons_zero,Option.some.injEq,List.getElem?_cons_succ,Aq,Bi,nC,Bs,exists_eq_left']
    refine⟨ns,(i:Nat),(j:Nat),rfl,⟨by omega,by omega,by omega,by omega⟩,fun p hp n=>?_⟩
    have k0:=Ae (u:=.lst [.int n]) hT0 hp
    have k1:=Ae (u:=.lst [.int n]) hT1 hp
    refine⟨p,rfl,⟨n,Aa⟩,k0,k1,fun G3 st=>⟨true,rfl,it1 (by decide) (Fs.of ⟨_,rfl,?_,?_⟩)⟩⟩
    ·exact st.get (gne hT0 hp).symm k0
    ·exact st.get (gne hT1 hp).symm k1
   ·rintro σ G2 ⟨v2,rfl,hT0,hT1⟩
    exact⟨G2,Sub.refl _,_,_,rfl,hT0,hT1⟩
  ·rintro σ G1 ⟨v1,v2,rfl,_,_⟩
   simp only[Bi,nC]
   exact Fq.of (q _)
theorem Rr{K:W.Frag}:∀f fd,Fun K "_law_cell" "_law_cell" s_L_cell f fd→Binds K fd p_L_cell []:=fun f fd F=>F.binds (ps:=p_L_cell) fun _ _ _ _ _ _ us hl=>match us,hl with | [_,_],_=>rfl
theorem Ve{K:W.Frag}:∀f fd,Fun K "_law_mix" "_law_mix" s_L_mix f fd→Binds K fd Dy []:=fun f fd F=>F.binds (ps:=Dy) fun _ _ _ _ _ _ us hl=>match us,hl with | [_,_],_=>rfl
theorem Vf{K:W.Frag}:∀f fd,Fun K "_law_box" "_law_box" s_L_box f fd→Binds K fd p_L_box []:=fun f fd F=>F.binds (ps:=p_L_box) fun _ _ _ _ _ _ us hl=>match us,hl with | [_,_,_],_=>rfl
theorem Ro{K:W.Frag}:∀f fd,Fun K "_law_take" "_law_take" s_L_take f fd→Binds K fd p_L_take []:=fun f fd F=>F.binds (ps:=p_L_take) fun _ _ _ _ _ _ us hl=>match us,hl with | [_,_],_=>rfl
theorem Xj{K:W.Frag}:∀f fd,Fun K "_law_is" "_law_is" s_L_is f fd→Binds K fd Ei []:=fun f fd F=>F.binds (ps:=Ei) fun _ _ _ _ _ _ us hl=>match us,hl with | [_,_,_],_=>rfl
theorem Vd{K:W.Frag}:∀f fd,Fun K "_law_odd" "_law_odd" s_L_odd f fd→Binds K fd Db []:=fun f fd F=>F.binds (ps:=Db) fun _ _ _ _ _ _ us hl=>match us,hl with | [_],_=>rfl
theorem Er{K:W.Frag}:∀f fd,Fun K "is_whole_within" "is_whole_within" s_is_whole_within f fd→Binds K fd Au []:=fun f fd F=>F.binds (ps:=Au) fun _ _ _ _ _ _ us hl=>match us,hl with | [_,_,_],_=>rfl
theorem Dw{K:W.Frag}:∀f fd,Fun K "are_rising_within" "are_rising_within" s_are_rising_within f fd→Binds K fd Az []:=fun f fd F=>F.binds (ps:=Az) fun _ _ _ _ _ _ us hl=>match us,hl with | [_,_,_],_=>rfl
theorem M5{K:W.Frag}:∀f fd,Fun K "are_rows" "are_rows" s_are_rows f fd→Binds K fd B2 []:=fun f fd F=>F.binds (ps:=B2) fun _ _ _ _ _ _ us hl=>match us,hl with | [_],_=>rfl
theorem Ix{K:W.Frag}:∀f fd,Fun K "is_channel" "is_channel" s_is_channel f fd→Binds K fd Bp []:=fun f fd F=>F.binds (ps:=Bp) fun _ _ _ _ _ _ us hl=>match us,hl with | [_],_=>rfl
theorem F8{K:W.Frag}:∀f fd,Fun K "check_channel" "check_channel" s_check_channel f fd→Binds K fd p_check_channel []:=fun f fd F=>F.binds (ps:=p_check_channel) fun _ _ _ _ _ _ us hl=>match us,hl with | [_],_=>rfl
theorem Im{K:W.Frag}:∀f fd,Fun K "straightest" "straightest" s_straightest f fd→Binds K fd Bg []:=fun f fd F=>F.binds (ps:=Bg) fun _ _ _ _ _ _ us hl=>match us,hl with | [_],_=>rfl
theorem Rn{K:W.Frag}:∀f fd,Fun K "bar_of" "bar_of" s_bar_of f fd→Binds K fd p_bar_of []:=fun f fd F=>F.binds (ps:=p_bar_of) fun _ _ _ _ _ _ us hl=>match us,hl with | [_],_=>rfl
theorem Vc{K:W.Frag}:∀f fd,Fun K "gates" "gates" s_gates f fd→Binds K fd p_gates []:=fun f fd F=>F.binds (ps:=p_gates) fun _ _ _ _ _ _ us hl=>match us,hl with | [_],_=>rfl
theorem Gj{K:W.Frag}:∀f fd,Fun K "channel_text" "channel_text" s_channel_text f fd→Binds K fd Ba []:=fun f fd F=>F.binds (ps:=Ba) fun _ _ _ _ _ _ us hl=>match us,hl with | [_],_=>rfl
theorem Rm{K:W.Frag}:∀f fd,Fun K "is_bar" "is_bar" s_is_bar f fd→Binds K fd p_is_bar []:=fun f fd F=>F.binds (ps:=p_is_bar) fun _ _ _ _ _ _ us hl=>match us,hl with | [_,_],_=>rfl
theorem K6{K:W.Frag}:∀f fd,Fun K "rows_near" "rows_near" s_rows_near f fd→Binds K fd Bw []:=fun f fd F=>F.binds (ps:=Bw) fun _ _ _ _ _ _ us hl=>match us,hl with | [_,_],_=>rfl
theorem Il{K:W.Frag}:∀f fd,Fun K "ways_onward" "ways_onward" s_ways_onward f fd→Binds K fd Bf []:=fun f fd F=>F.binds (ps:=Bf) fun _ _ _ _ _ _ us hl=>match us,hl with | [_],_=>rfl
theorem K7{K:W.Frag}:∀f fd,Fun K "many_ways" "many_ways" s_many_ways f fd→Binds K fd p_many_ways []:=fun f fd F=>F.binds (ps:=p_many_ways) fun _ _ _ _ _ _ us hl=>match us,hl with | [_],_=>rfl
theorem K8{K:W.Frag}:∀f fd,Fun K "least_way" "least_way" s_least_way f fd→Binds K fd p_least_way []:=fun f fd F=>F.binds (ps:=p_least_way) fun _ _ _ _ _ _ us hl=>match us,hl with | [_],_=>rfl
theorem Rj{K:W.Frag}:∀f fd,Fun K "way_at" "way_at" s_way_at f fd→Binds K fd p_way_at []:=fun f fd F=>F.binds (ps:=p_way_at) fun _ _ _ _ _ _ us hl=>match us,hl with | [_,_],_=>rfl
theorem Rl{K:W.Frag}:∀f fd,Fun K "is_row" "is_row" s_is_row f fd→Binds K fd Cy []:=fun f fd F=>F.binds (ps:=Cy) fun _ _ _ _ _ _ us hl=>match us,hl with | [_],_=>rfl
theorem Rk{K:W.Frag}:∀f fd,Fun K "is_way" "is_way" s_is_way f fd→Binds K fd p_is_way []:=fun f fd F=>F.binds (ps:=p_is_way) fun _ _ _ _ _ _ us hl=>match us,hl with | [_,_],_=>rfl
theorem K9{K:W.Frag}:∀f fd,Fun K "_law_channel" "_law_channel" s_L_channel f fd→Binds K fd p_L_channel []:=fun f fd F=>F.binds (ps:=p_L_channel) fun _ _ _ _ _ _ us hl=>match us,hl with | [_,_],_=>rfl
theorem Gk{K:W.Frag}:∀f fd,Fun K "_law_is_channel" "_law_is_channel" s_L_is_channel f fd→Binds K fd p_L_is_channel []:=fun f fd F=>F.binds (ps:=p_L_is_channel) fun _ _ _ _ _ _ us hl=>match us,hl with | [_],_=>rfl
theorem M6{K:W.Frag}:∀f fd,Fun K "_law_is_way" "_law_is_way" s_L_is_way f fd→Binds K fd p_L_is_way []:=fun f fd F=>F.binds (ps:=p_L_is_way) fun _ _ _ _ _ _ us hl=>match us,hl with | [_,_],_=>rfl
theorem Io{K:W.Frag}:∀f fd,Fun K "_law_drawn_way" "_law_drawn_way" s_L_drawn_way f fd→Binds K fd p_L_drawn_way []:=fun f fd F=>F.binds (ps:=p_L_drawn_way) fun _ _ _ _ _ _ us hl=>match us,hl with | [_,_],_=>rfl
theorem Rp{K:W.Frag}:∀f fd,Fun K "_law_same" "_law_same" s_L_same f fd→Binds K fd Cz []:=fun f fd F=>F.binds (ps:=Cz) fun _ _ _ _ _ _ us hl=>match us,hl with | [_,_],_=>rfl
theorem Ea{K:W.Frag}:∀f fd,Fun K "_law_bent" "_law_bent" s_L_bent f fd→Binds K fd p_L_bent []:=fun f fd F=>F.binds (ps:=p_L_bent) fun _ _ _ _ _ _ us hl=>match us,hl with | [_,_,_],_=>rfl
theorem Of{K:W.Frag}:∀f fd,Fun K "_law_which" "_law_which" s_L_which f fd→Binds K fd p_L_which []:=fun f fd F=>F.binds (ps:=p_L_which) fun _ _ _ _ _ _ us hl=>match us,hl with | [_],_=>rfl
theorem Rq{K:W.Frag}:∀f fd,Fun K "_law_said" "_law_said" s_L_said f fd→Binds K fd Fa []:=fun f fd F=>F.binds (ps:=Fa) fun _ _ _ _ _ _ us hl=>match us,hl with | [_],_=>rfl
theorem Oh{K:W.Frag}:∀f fd,Fun K "_law_calls" "_law_calls" s_L_calls f fd→Binds K fd p_L_calls []:=fun f fd F=>F.binds (ps:=p_L_calls) fun _ _ _ _ _ _ us hl=>match us,hl with | [_],_=>rfl
theorem Og{K:W.Frag}:∀f fd,Fun K "_law_right" "_law_right" s_L_right f fd→Binds K fd Ce []:=fun f fd F=>F.binds (ps:=Ce) fun _ _ _ _ _ _ us hl=>match us,hl with | [_],_=>rfl
theorem Aaf{h:Heap}(X:K.In h)(G:h.Ns mainGlobals mg)(z0:PySem.W.nsIn K mainGlobals "len" = some none)(z1:PySem.W.nsIn K mainGlobals "range" = some none)(z2:PySem.W.nsIn K mainGlobals "abs" = some none)(z3:PySem.W.nsIn K mainGlobals "divmod" = some none)(z4:PySem.W.nsIn K mainGlobals "max" = some none)(z5:PySem.W.nsIn K mainGlobals "min" = some none)(z6:PySem.W.nsIn K mainGlobals "tuple" = some none)(z7:PySem.W.nsIn K mainGlobals "int" = some none)(z8:PySem.W.nsIn K mainGlobals "bool" = some none)(z9:PySem.W.nsIn K mainGlobals "list" = some none)(z10:PySem.W.nsIn K mainGlobals "isinstance" = some none)(z11:PySem.W.nsIn K mainGlobals "all" = some none)(z12:PySem.W.nsIn K mainGlobals "sorted" = some none)(z13:PySem.W.nsIn K mainGlobals "repr" = some none)(z14:PySem.W.nsIn K mainGlobals "dict" = some none)(z15:PySem.W.nsIn K mainGlobals "zip" = some none)(z16:PySem.W.nsIn K mainGlobals "set" = some none)(z17:PySem.W.nsIn K mainGlobals "sum" = some none)(z18:PySem.W.nsIn K mainGlobals "reversed" = some none)(z19:PySem.W.nsIn K mainGlobals "ValueError" = some none):Blt mg:=⟨fun {x} hx=>by
 simp only[Mr,List.mem_cons,List.not_mem_nil,or_false] at hx
 rcases hx with rfl|rfl|rfl|rfl|rfl|rfl|rfl|rfl|rfl|rfl|rfl|rfl|rfl|rfl|rfl|rfl|rfl|rfl|rfl|rfl
 ·exact PySem.W.mg_none_of X G z0
 ·exact PySem.W.mg_none_of X G z1
 ·exact PySem.W.mg_none_of X G z2
 ·exact PySem.W.mg_none_of X G z3
 ·exact PySem.W.mg_none_of X G z4
 ·exact PySem.W.mg_none_of X G z5
 ·exact PySem.W.mg_none_of X G z6
 ·exact PySem.W.mg_none_of X G z7
 ·exact PySem.W.mg_none_of X G z8
 ·exact PySem.W.mg_none_of X G z9
 ·exact PySem.W.mg_none_of X G z10
 ·exact PySem.W.mg_none_of X G z11
 ·exact PySem.W.mg_none_of X G z12
 ·exact PySem.W.mg_none_of X G z13
 ·exact PySem.W.mg_none_of X G z14
 ·exact PySem.W.mg_none_of X G z15
 ·exact PySem.W.mg_none_of X G z16
 ·exact PySem.W.mg_none_of X G z17
 ·exact PySem.W.mg_none_of X G z18
 ·exact PySem.W.mg_none_of X G z19⟩
theorem W1{h:Heap}(X:K.In h)(G:h.Ns mainGlobals mg)(B:Blt mg){t0 t1 t2:Tok}(a0:PySem.W.nsIn K mainGlobals "LEAST_COLUMNS" = some (some (.int 2 t0)))(a1:PySem.W.nsIn K mainGlobals "MOST_COLUMNS" = some (some (.int 16 t1)))(a2:PySem.W.nsIn K mainGlobals "LAST_ROW" = some (some (.int 8 t2))):Nums mg:=⟨B,⟨t0,PySem.W.mg_of X G a0⟩,⟨t1,PySem.W.mg_of X G a1⟩,⟨t2,PySem.W.mg_of X G a2⟩⟩
structure ClSeen(K:PySem.W.Frag)(x:Str)(a:Addr):Prop where
 nm:PySem.W.nsIn K mainGlobals x=some (some (.ref a))
 ty:PySem.W.typeIn K (.ref a)=some (.type "type")
 ob:PySem.W.mroIn K a (.type "object")=some true
theorem Hg{x:Str}:∀{tbl:List (Str×Addr)},x∈tbl.map (·.1)→(x,Ez tbl x)∈tbl
 |[],h=>by cases h
 |(y,a)::r,h=>by
  unfold Ez
  rw[List.lookup_cons]
  by_cases e:x=y
  ·subst e
   rw[show(x == x)=true by simp]
   exact List.mem_cons_self
  ·rw[show(x == y)=false by simpa using e]
   exact List.mem_cons_of_mem _ (Hg ((List.mem_cons.mp h).elim (fun q=>absurd q e) id))
theorem Aac{h:Heap}(X:K.In h)(G:h.Ns mainGlobals mg)(hn:tbl.map (·.1)=C3)(hs:AllP (fun p:Str×Addr=>ClSeen K p.1 p.2) tbl):Cls K mg tbl:=
 ⟨fun x hx=>PySem.W.mg_of X G (hs.get _ (Hg (by rw[hn];exact hx))).nm,fun x hx=>⟨(hs.get _ (Hg (by rw[hn];exact hx))).ty,(hs.get _ (Hg (by rw[hn];exact hx))).ob⟩⟩
theorem Aag{x:Str}{j k:Nat}:∀{tbl:List (Str×Addr)},(tbl.map (·.1)).Nodup→(tbl.map (·.1))[j]? = some x→((x,Ez tbl x),j+k)∈tbl.zipIdx k
 |tbl,nd,h=>by
  obtain⟨p,hp,e⟩:=Option.map_eq_some_iff.mp (by rw[List.getElem?_map] at h;exact h)
  have hm:=Hg (tbl:=tbl) (x:=x) (List.mem_of_getElem? h)
  obtain⟨i,hi,ei⟩:=List.getElem_of_mem hm
  have hj:j<tbl.length:=(List.getElem?_eq_some_iff.mp hp).1
  have ij:i=j:=by
   have h1:(tbl.map (·.1))[i]? = some x:=by rw[List.getElem?_map,List.getElem?_eq_getElem hi,ei];rfl
   have a1:=(List.getElem?_eq_some_iff.mp h1)
   have a2:=(List.getElem?_eq_some_iff.mp h)
   exact(List.getElem_inj nd).mp (a1.2.trans a2.2.symm)
  subst ij
  refine List.mem_of_getElem? (i:=i) ?_
  rw[List.getElem?_zipIdx,List.getElem?_eq_getElem hi,ei]
  simp[Nat.add_comm]
theorem W8{i:Nat}(hn:tbl.map (·.1)=C3)(hi:i<15)(ga:PySem.W.findIn K (.ref CN) "__getattribute__" = some (some (.builtin "BaseException.__getattribute__")))(gt:PySem.W.findIn K (.ref CN) "__getattr__" = some none)(cl:PySem.W.findIn K (.ref CN) "__class__" = some (some (.builtin "object.__class__")))(ob:PySem.W.mroIn K CN (.type "object")=some true)(be:PySem.W.mroIn K CN (.type "BaseException")=some true)(ve:PySem.W.mroIn K CN (.type "ValueError")=some true)(ms:AllP (fun p:(Str×Addr)×Nat=>PySem.W.mroIn K CN (.ref p.1.2)=some (p.2 == i)) tbl.zipIdx)(ne:AllP (fun p:(Str×Addr)×Nat=>CN=p.1.2→(p.2 == i)=true) tbl.zipIdx):ExKind K tbl CN i:=
 ⟨⟨ga,gt,cl,ob,be⟩,ve,hi,fun j x hx=>by
  have hm:((x,Ez tbl x),j+0)∈tbl.zipIdx 0:=Aag (by rw[hn];decide +kernel) (by rw[hn];exact hx)
  exact⟨ms.get _ hm,ne.get _ hm⟩⟩
theorem S3{C:Addr}{oc:Value}{od:Option Addr}{cd:ClassData}{sl:Array (Option Value)}{tl:List Value}(l:K.lookup C=some ⟨oc,od,.cls cd,sl⟩)(e:cd.mro=.ref C::tl):mroK K C=some (.ref C::tl):=by
 unfold mroK;rw[l];exact congrArg some e
structure LamIs(K:PySem.W.Frag)(x:Str)(st:Stmt)(T0:Addr):Prop where
 ex:∃f fd c0,Fun K x x st f fd∧PySem.W.nsIn K mainGlobals x=some (some (.ref f))∧PySem.W.keepIn K (.ref f)=true∧fd.code=.ref c0∧PySem.W.codeHdIn K c0 T0=true
theorem Fb{x:Str}{st:Stmt}{f c0:Addr}{od an:Option Addr}{sl:Array (Option Value)}{oc kV dc pm ct:Value}(a:PySem.W.nsIn K mainGlobals x=some (some (.ref f)))(l:K.lookup f=some ⟨oc,od,.func (PySem.W.fnOf x x (D5 st) (Bx st) (Ac st) .none kV dc pm an (.ref c0) ct),sl⟩)(c:PySem.W.codeIn K (.ref c0) x=true)(k:PySem.W.keepIn K (.ref f)=true)(t:PySem.W.codeHdIn K c0 T0=true):LamIs K x st T0:=
 ⟨f,_,c0,S6 l c k,a,k,rfl,t⟩
theorem B4{h:Heap}{x:Str}{st:Stmt}{k:Nat}{ps:List Str}{sp:DSp}(I:FnIs K x st)(X:K.In h)(G:h.Ns mainGlobals mg)(hb:∀f fd,Fun K x x st f fd→Binds K fd ps [])(ok:∀f fd,Fun K x x st f fd→FnOk P w K mg base (CX1 P w) k f fd ps (Ai K sp)):Def P w K mg base (CX1 P w) k x ps sp:=by
 obtain⟨f,fd,F,a,kp⟩:=I.ex
 exact⟨f,fd,ok f fd F,PySem.W.mg_of X G a,kp,hb f fd F⟩
structure MkIs(K:PySem.W.Frag)(M:Addr):Prop where
 exk:ExcK K "MarkError" M
 mro:∃tm,mroK K M=some (.ref M::tm)∧tm.contains (.type "BaseException")=true
theorem Aah{h:Heap}(X:K.In h)(G:h.Ns mainGlobals mg)(T:Nums mg)(Z:Cls K mg tbl)(C:Chn K tbl M CN)(Mk:MkIs K M)(J_L_calls:LamIs K "_law_calls" s_L_calls T0)(J_L_right:LamIs K "_law_right" s_L_right T1)(Adx:FnIs K "_law_cell" s_L_cell)(Ady:FnIs K "_law_mix" s_L_mix)(Adz:FnIs K "_law_box" s_L_box)(Ad0:FnIs K "_law_take" s_L_take)(Ad1:FnIs K "_law_is" s_L_is)(Ad2:FnIs K "_law_odd" s_L_odd)(Ad3:FnIs K "is_whole_within" s_is_whole_within)(Ad4:FnIs K "are_rising_within" s_are_rising_within)(Ad5:FnIs K "are_rows" s_are_rows)(Ad6:FnIs K "is_channel" s_is_channel)(Ad7:FnIs K "check_channel" s_check_channel)(Ad8:FnIs K "straightest" s_straightest)(Ad9:FnIs K "bar_of" s_bar_of)(Aea:FnIs K "gates" s_gates)(Aeb:FnIs K "channel_text" s_channel_text)(Aec:FnIs K "is_bar" s_is_bar)(Aed:FnIs K "rows_near" s_rows_near)(Aee:FnIs K "ways_onward" s_ways_onward)(Aef:FnIs K "many_ways" s_many_ways)(Aeg:FnIs K "least_way" s_least_way)(Aeh:FnIs K "way_at" s_way_at)(Aei:FnIs K "is_row" s_is_row)(Aej:FnIs K "is_way" s_is_way)(Aek:FnIs K "_law_channel" s_L_channel)(Ael:FnIs K "_law_is_channel" s_L_is_channel)(Aem:FnIs K "_law_is_way" s_L_is_way)(Aen:FnIs K "_law_drawn_way" s_L_drawn_way)(Aeo:FnIs K "_law_same" s_L_same)(Ac7:FnIs K "_law_bent" s_L_bent)(Aep:FnIs K "_law_which" s_L_which)(Aeq:FnIs K "_law_said" s_L_said){f:Addr}{fd:FuncData}(F:Fun K "law" "law" s_law f fd):FnOk P w K mg base CX0 12 f fd Sa (Ai K (J7 [(T0,qC),(T1,qR)])):=by
 have Ada:Def P w K mg base CX0 1 "_law_cell" p_L_cell spCell:=A6 Adx X G Rr fun f fd F=>Wz F T.toBlt
 have Adb:Def P w K mg base CX0 1 "_law_mix" Dy Lk:=A6 Ady X G Ve fun f fd F=>Zr F T.toBlt
 have Adv:Def P w K mg base CX0 2 "_law_box" p_L_box spBox:=A6 Adz X G Vf fun f fd F=>Zt F T.toBlt Ada Adb
 have Ac0:Def P w K mg base CX0 1 "_law_take" p_L_take spTake:=A6 Ad0 X G Ro fun f fd F=>Wq F T.toBlt
 have Ac5:Def P w K mg base CX0 1 "_law_is" Ei Pu:=A6 Ad1 X G Xj fun f fd F=>ok_is F T.toBlt
 have Ac3:Def P w K mg base CX0 2 "_law_odd" Db Jc:=A6 Ad2 X G Vd fun f fd F=>Zq F T.toBlt Ac0
 have D0:Def P w K mg base CX0 3 "_law_bent" p_L_bent (spBent 0):=A6 Ac7 X G Ea fun f fd F=>Ur (k:=2) F
 have D1:Def P w K mg base CX0 4 "_law_bent" p_L_bent (spBent 1):=A6 Ac7 X G Ea fun f fd F=>Kk (by decide) F T.toBlt Ac0 Ac3 D0
 have D2:Def P w K mg base CX0 5 "_law_bent" p_L_bent (spBent 2):=A6 Ac7 X G Ea fun f fd F=>Kk (by decide) F T.toBlt Ac0 Ac3 D1
 have D3:Def P w K mg base CX0 6 "_law_bent" p_L_bent (spBent 3):=A6 Ac7 X G Ea fun f fd F=>Kk (by decide) F T.toBlt Ac0 Ac3 D2
 have Ac4:Def P w K mg base CX0 1 "is_whole_within" Au C8:=A6 Ad3 X G Er fun f fd F=>Ui F T
 have Adc:Def P w K mg base CX0 2 "are_rising_within" Az E8:=A6 Ad4 X G Dw fun f fd F=>Qp F T Ac4
 have Ade:Def P w K mg base CX0 3 "are_rows" B2 J6:=A6 Ad5 X G M5 fun f fd F=>Wu F T Adc
 have Adf:Def P w K mg base CX0 4 "is_channel" Bp J8:=A6 Ad6 X G Ix fun f fd F=>Wy F T Ade
 have Ac1:Def P w K mg base (CX1 P w) 5 "check_channel" p_check_channel (spCheckX CN):=B4 Ad7 X G F8 fun f fd F=>Qr F T C.exk Adf
 have Adl:Def P w K mg base (CX1 P w) 6 "straightest" Bg (spNo CN 0):=B4 Ad8 X G Im fun f fd F=>Fj F T Ac1
 have Adn:Def P w K mg base (CX1 P w) 6 "bar_of" p_bar_of (spNo CN 0):=B4 Ad9 X G Rn fun f fd F=>K3 F T Ac1
 have Ado:Def P w K mg base (CX1 P w) 6 "gates" p_gates (spNo CN 0):=B4 Aea X G Vc fun f fd F=>Mz F T Ac1
 have Adp:Def P w K mg base (CX1 P w) 6 "channel_text" Ba (spNo CN 0):=B4 Aeb X G Gj fun f fd F=>Ep F T Ac1
 have Adm:Def P w K mg base (CX1 P w) 6 "is_bar" p_is_bar (spNo CN 1):=B4 Aec X G Rm fun f fd F=>K1 F T Ac1
 have Adg:Def P w K mg base CX0 1 "rows_near" Bw Nl:=A6 Aed X G K6 fun f fd F=>Wv F T
 have Adh:Def P w K mg base CX0 2 "ways_onward" Bf Hk:=A6 Aee X G Il fun f fd F=>Qq F T Adg
 have Ac2:Def P w K mg base (CX1 P w) 6 "many_ways" p_many_ways (spMany CN):=B4 Aef X G K7 fun f fd F=>Ww F T Ac1 Adh
 have Adj:Def P w K mg base (CX1 P w) 7 "least_way" p_least_way (spNo CN 0):=B4 Aeg X G K8 fun f fd F=>My F T Ac2
 have Adk:Def P w K mg base (CX1 P w) 7 "way_at" p_way_at (spNo CN 1):=B4 Aeh X G Rj fun f fd F=>Um F T Ac2 Ac4
 have Adi:Def P w K mg base CX0 2 "is_row" Cy Op:=A6 Aei X G Rl fun f fd F=>Zp F T Ac4
 have Ac6:Def P w K mg base (CX1 P w) 6 "is_way" p_is_way (spWayX CN):=B4 Aej X G Rk fun f fd F=>Wp F T Ac1 Adi
 have Adq:Def P w K mg base CX0 2 "_law_channel" p_L_channel spChannel:=A6 Aek X G K9 fun f fd F=>N3 F T.toBlt Ac0
 have Ac9:Def P w K mg base CX0 2 "_law_is_channel" p_L_is_channel spLChan:=A6 Ael X G Gk fun f fd F=>Uo F T Ac5
 have Ads:Def P w K mg base CX0 2 "_law_is_way" p_L_is_way spLWay:=A6 Aem X G M6 fun f fd F=>Wx F T Ac5
 have Adr:Def P w K mg base CX0 2 "_law_drawn_way" p_L_drawn_way spDrawn:=A6 Aen X G Io fun f fd F=>Up F T.toBlt Ac0
 have Adt:Def P w K mg base CX0 1 "_law_same" Cz Nk:=A6 Aeo X G Rp fun f fd F=>Wr F T.toBlt
 obtain⟨fw,fdw,FW,aw,kw⟩:=Aep.ex
 obtain⟨fs,fds,FS,as,ks⟩:=Aeq.ex
 obtain⟨tm,hm1,hm2⟩:=Mk.mro
 have S:Said P w K mg base 9 8 "_law_said" M (Bt K tbl):=Ws (k:=8) (kr:=8) FS Mk.exk (PySem.W.mg_of X G Mk.exk.nm) hm1 hm2 (Uj FW T.toBlt Z) (PySem.W.mg_of X G aw) kw (Of _ _ FW) (by decide) (Nat.le_refl _) (PySem.W.mg_of X G as) (Rq _ _ FS)
 obtain⟨fc,fdc,c0,FC,ac,kc,hc1,hc2⟩:=J_L_calls.ex
 have Adu:Def P w K mg base CX0 10 "_law_calls" p_L_calls (spCalls T0 qC):=⟨fc,fdc,Uq FC T hc1 hc2 C S Ac6 Adj Ac2 Adk Adl Adm Adn Ado Adp,PySem.W.mg_of X G ac,kc,Oh _ _ FC⟩
 obtain⟨fr,fdr,c1,FR,ar,kr,hr1,hr2⟩:=J_L_right.ex
 have Adw:Def P w K mg base CX0 11 "_law_right" Ce (Kj T0 T1 qC qR):=⟨fr,fdr,Ul FR T hr1 hr2 C S Adq Adr D3 Ac3 Ac6 Ads Adt Ac9 Adu Ac2,PySem.W.mg_of X G ar,kr,Og _ _ FR⟩
 exact Zs F T Adv Adw
end
end K2
open PySem PySem.W PyProof.Rows L2 D3
set_option maxRecDepth 100000 in
set_option maxHeartbeats 0 in
theorem PySem.Challenge.cw_laidmarks_k31_channels_and_ways_known_holds : PySem.Challenge.rw_laidmarks_k31_channels_and_ways_known.Holds := by
  w_on;o_law;k_head;(case hw=>w_witness2)
  k_fill
  refine D3.Ti (l:=PySem.Challenge.rw_laidmarks_k31_channels_and_ways_known) (n:=63) (k:=12) (x:="_law_script") (ts:=[517,524]) (CX:=CX0) (sp:=fun K=>Ai K (J7 [(517,K2.qC),(524,K2.qR)])) ?I rfl (by decide) rfl ⟨rfl,by decide,by decide,rfl⟩ (fun w h Y=>⟨PySem.W.km_in_of Y,fun T hT=>PySem.W.km_tabs_of Y T (by (rcases List.mem_cons.mp hT with hT | hT;(subst hT;decide);obtain hT:=List.mem_singleton.mp hT;subst hT;decide))⟩) ?C ?F (W5 [(517,K2.qC),(524,K2.qR)] (by decide)) (fun _ _ _ _ z=>z)
  case I=>first | rfl | decide
  case C=>
    intro w h KX T hT
    rcases List.mem_cons.mp hT with hT | hT
    · subst hT
      have J_L_calls:K2.LamIs (KOf KX) "_law_calls" K2.s_L_calls 517:=by (dsimp only [KOf];refine' K2.Fb ?a ?l ?c ?k ?t;(case a=>k_is);(case l=>k_is);(case c=>k_is);(case k=>k_is);(case t=>kernel_rfl))
      obtain ⟨_,_,c0,_,_,_,_,hc⟩:=J_L_calls.ex
      exact ⟨⟨c0,hc⟩,by kernel_rfl⟩
    · obtain hT:=List.mem_singleton.mp hT;subst hT
      have J_L_right:K2.LamIs (KOf KX) "_law_right" K2.s_L_right 524:=by (dsimp only [KOf];refine' K2.Fb ?a ?l ?c ?k ?t;(case a=>k_is);(case l=>k_is);(case c=>k_is);(case k=>k_is);(case t=>kernel_rfl))
      obtain ⟨_,_,c0,_,_,_,_,hc⟩:=J_L_right.ex
      exact ⟨⟨c0,hc⟩,by kernel_rfl⟩
  case F=>
    intro w mg fa h KX G hmg
    have Adx:FnIs (KOf KX) "_law_cell" K2.s_L_cell:=by (dsimp only [KOf];refine' An ?a ?l ?c ?k;(case a=>k_is);(case l=>k_is);(case c=>k_is);(case k=>k_is))
    have Ady:FnIs (KOf KX) "_law_mix" K2.s_L_mix:=by (dsimp only [KOf];refine' An ?a ?l ?c ?k;(case a=>k_is);(case l=>k_is);(case c=>k_is);(case k=>k_is))
    have Adz:FnIs (KOf KX) "_law_box" K2.s_L_box:=by (dsimp only [KOf];refine' An ?a ?l ?c ?k;(case a=>k_is);(case l=>k_is);(case c=>k_is);(case k=>k_is))
    have Ad0:FnIs (KOf KX) "_law_take" K2.s_L_take:=by (dsimp only [KOf];refine' An ?a ?l ?c ?k;(case a=>k_is);(case l=>k_is);(case c=>k_is);(case k=>k_is))
    have Ad1:FnIs (KOf KX) "_law_is" K2.s_L_is:=by (dsimp only [KOf];refine' An ?a ?l ?c ?k;(case a=>k_is);(case l=>k_is);(case c=>k_is);(case k=>k_is))
    have Ad2:FnIs (KOf KX) "_law_odd" K2.s_L_odd:=by (dsimp only [KOf];refine' An ?a ?l ?c ?k;(case a=>k_is);(case l=>k_is);(case c=>k_is);(case k=>k_is))
    have Ad3:FnIs (KOf KX) "is_whole_within" K2.s_is_whole_within:=by (dsimp only [KOf];refine' An ?a ?l ?c ?k;(case a=>k_is);(case l=>k_is);(case c=>k_is);(case k=>k_is))
    have Ad4:FnIs (KOf KX) "are_rising_within" K2.s_are_rising_within:=by (dsimp only [KOf];refine' An ?a ?l ?c ?k;(case a=>k_is);(case l=>k_is);(case c=>k_is);(case k=>k_is))
    have Ad5:FnIs (KOf KX) "are_rows" K2.s_are_rows:=by (dsimp only [KOf];refine' An ?a ?l ?c ?k;(case a=>k_is);(case l=>k_is);(case c=>k_is);(case k=>k_is))
    have Ad6:FnIs (KOf KX) "is_channel" K2.s_is_channel:=by (dsimp only [KOf];refine' An ?a ?l ?c ?k;(case a=>k_is);(case l=>k_is);(case c=>k_is);(case k=>k_is))
    have Ad7:FnIs (KOf KX) "check_channel" K2.s_check_channel:=by (dsimp only [KOf];refine' An ?a ?l ?c ?k;(case a=>k_is);(case l=>k_is);(case c=>k_is);(case k=>k_is))
    have Ad8:FnIs (KOf KX) "straightest" K2.s_straightest:=by (dsimp only [KOf];refine' An ?a ?l ?c ?k;(case a=>k_is);(case l=>k_is);(case c=>k_is);(case k=>k_is))
    have Ad9:FnIs (KOf KX) "bar_of" K2.s_bar_of:=by (dsimp only [KOf];refine' An ?a ?l ?c ?k;(case a=>k_is);(case l=>k_is);(case c=>k_is);(case k=>k_is))
    have Aea:FnIs (KOf KX) "gates" K2.s_gates:=by (dsimp only [KOf];refine' An ?a ?l ?c ?k;(case a=>k_is);(case l=>k_is);(case c=>k_is);(case k=>k_is))
    have Aeb:FnIs (KOf KX) "channel_text" K2.s_channel_text:=by (dsimp only [KOf];refine' An ?a ?l ?c ?k;(case a=>k_is);(case l=>k_is);(case c=>k_is);(case k=>k_is))
    have Aec:FnIs (KOf KX) "is_bar" K2.s_is_bar:=by (dsimp only [KOf];refine' An ?a ?l ?c ?k;(case a=>k_is);(case l=>k_is);(case c=>k_is);(case k=>k_is))
    have Aed:FnIs (KOf KX) "rows_near" K2.s_rows_near:=by (dsimp only [KOf];refine' An ?a ?l ?c ?k;(case a=>k_is);(case l=>k_is);(case c=>k_is);(case k=>k_is))
    have Aee:FnIs (KOf KX) "ways_onward" K2.s_ways_onward:=by (dsimp only [KOf];refine' An ?a ?l ?c ?k;(case a=>k_is);(case l=>k_is);(case c=>k_is);(case k=>k_is))
    have Aef:FnIs (KOf KX) "many_ways" K2.s_many_ways:=by (dsimp only [KOf];refine' An ?a ?l ?c ?k;(case a=>k_is);(case l=>k_is);(case c=>k_is);(case k=>k_is))
    have Aeg:FnIs (KOf KX) "least_way" K2.s_least_way:=by (dsimp only [KOf];refine' An ?a ?l ?c ?k;(case a=>k_is);(case l=>k_is);(case c=>k_is);(case k=>k_is))
    have Aeh:FnIs (KOf KX) "way_at" K2.s_way_at:=by (dsimp only [KOf];refine' An ?a ?l ?c ?k;(case a=>k_is);(case l=>k_is);(case c=>k_is);(case k=>k_is))
    have Aei:FnIs (KOf KX) "is_row" K2.s_is_row:=by (dsimp only [KOf];refine' An ?a ?l ?c ?k;(case a=>k_is);(case l=>k_is);(case c=>k_is);(case k=>k_is))
    have Aej:FnIs (KOf KX) "is_way" K2.s_is_way:=by (dsimp only [KOf];refine' An ?a ?l ?c ?k;(case a=>k_is);(case l=>k_is);(case c=>k_is);(case k=>k_is))
    have Aek:FnIs (KOf KX) "_law_channel" K2.s_L_channel:=by (dsimp only [KOf];refine' An ?a ?l ?c ?k;(case a=>k_is);(case l=>k_is);(case c=>k_is);(case k=>k_is))
    have Ael:FnIs (KOf KX) "_law_is_channel" K2.s_L_is_channel:=by (dsimp only [KOf];refine' An ?a ?l ?c ?k;(case a=>k_is);(case l=>k_is);(case c=>k_is);(case k=>k_is))
    have Aem:FnIs (KOf KX) "_law_is_way" K2.s_L_is_way:=by (dsimp only [KOf];refine' An ?a ?l ?c ?k;(case a=>k_is);(case l=>k_is);(case c=>k_is);(case k=>k_is))
    have Aen:FnIs (KOf KX) "_law_drawn_way" K2.s_L_drawn_way:=by (dsimp only [KOf];refine' An ?a ?l ?c ?k;(case a=>k_is);(case l=>k_is);(case c=>k_is);(case k=>k_is))
    have Aeo:FnIs (KOf KX) "_law_same" K2.s_L_same:=by (dsimp only [KOf];refine' An ?a ?l ?c ?k;(case a=>k_is);(case l=>k_is);(case c=>k_is);(case k=>k_is))
    have Ac7:FnIs (KOf KX) "_law_bent" K2.s_L_bent:=by (dsimp only [KOf];refine' An ?a ?l ?c ?k;(case a=>k_is);(case l=>k_is);(case c=>k_is);(case k=>k_is))
    have Aep:FnIs (KOf KX) "_law_which" K2.s_L_which:=by (dsimp only [KOf];refine' An ?a ?l ?c ?k;(case a=>k_is);(case l=>k_is);(case c=>k_is);(case k=>k_is))
    have Aeq:FnIs (KOf KX) "_law_said" K2.s_L_said:=by (dsimp only [KOf];refine' An ?a ?l ?c ?k;(case a=>k_is);(case l=>k_is);(case c=>k_is);(case k=>k_is))
    have I_law:FnIs (KOf KX) "law" K2.s_law:=by (dsimp only [KOf];refine' An ?a ?l ?c ?k;(case a=>k_is);(case l=>k_is);(case c=>k_is);(case k=>k_is))
    have J_L_calls:K2.LamIs (KOf KX) "_law_calls" K2.s_L_calls 517:=by (dsimp only [KOf];refine' K2.Fb ?a ?l ?c ?k ?t;(case a=>k_is);(case l=>k_is);(case c=>k_is);(case k=>k_is);(case t=>kernel_rfl))
    have J_L_right:K2.LamIs (KOf KX) "_law_right" K2.s_L_right 524:=by (dsimp only [KOf];refine' K2.Fb ?a ?l ?c ?k ?t;(case a=>k_is);(case l=>k_is);(case c=>k_is);(case k=>k_is);(case t=>kernel_rfl))
    have B:K2.Blt mg:=by (refine' K2.Aaf KX G ?z0 ?z1 ?z2 ?z3 ?z4 ?z5 ?z6 ?z7 ?z8 ?z9 ?z10 ?z11 ?z12 ?z13 ?z14 ?z15 ?z16 ?z17 ?z18 ?z19;(case z0=>k_is);(case z1=>k_is);(case z2=>k_is);(case z3=>k_is);(case z4=>k_is);(case z5=>k_is);(case z6=>k_is);(case z7=>k_is);(case z8=>k_is);(case z9=>k_is);(case z10=>k_is);(case z11=>k_is);(case z12=>k_is);(case z13=>k_is);(case z14=>k_is);(case z15=>k_is);(case z16=>k_is);(case z17=>k_is);(case z18=>k_is);(case z19=>k_is))
    have N:K2.Nums mg:=by (refine' K2.W1 KX G B ?a0 ?a1 ?a2;(case a0=>k_is);(case a1=>k_is);(case a2=>k_is))
    have c_NoSea:K2.ClSeen (KOf KX) "NoSea" 37:=by (dsimp only [KOf];refine' K2.ClSeen.mk ?a ?b ?c;(case a=>k_is);(case b=>k_is);(case c=>k_is))
    have c_NoCell:K2.ClSeen (KOf KX) "NoCell" 49:=by (dsimp only [KOf];refine' K2.ClSeen.mk ?a ?b ?c;(case a=>k_is);(case b=>k_is);(case c=>k_is))
    have c_NoDraught:K2.ClSeen (KOf KX) "NoDraught" 61:=by (dsimp only [KOf];refine' K2.ClSeen.mk ?a ?b ?c;(case a=>k_is);(case b=>k_is);(case c=>k_is))
    have c_NoDay:K2.ClSeen (KOf KX) "NoDay" 73:=by (dsimp only [KOf];refine' K2.ClSeen.mk ?a ?b ?c;(case a=>k_is);(case b=>k_is);(case c=>k_is))
    have c_NoNotices:K2.ClSeen (KOf KX) "NoNotices" 85:=by (dsimp only [KOf];refine' K2.ClSeen.mk ?a ?b ?c;(case a=>k_is);(case b=>k_is);(case c=>k_is))
    have c_NoNumber:K2.ClSeen (KOf KX) "NoNumber" 97:=by (dsimp only [KOf];refine' K2.ClSeen.mk ?a ?b ?c;(case a=>k_is);(case b=>k_is);(case c=>k_is))
    have c_NoMark:K2.ClSeen (KOf KX) "NoMark" 109:=by (dsimp only [KOf];refine' K2.ClSeen.mk ?a ?b ?c;(case a=>k_is);(case b=>k_is);(case c=>k_is))
    have c_NoChannel:K2.ClSeen (KOf KX) "NoChannel" 121:=by (dsimp only [KOf];refine' K2.ClSeen.mk ?a ?b ?c;(case a=>k_is);(case b=>k_is);(case c=>k_is))
    have c_NoSightings:K2.ClSeen (KOf KX) "NoSightings" 133:=by (dsimp only [KOf];refine' K2.ClSeen.mk ?a ?b ?c;(case a=>k_is);(case b=>k_is);(case c=>k_is))
    have c_NoFairway:K2.ClSeen (KOf KX) "NoFairway" 145:=by (dsimp only [KOf];refine' K2.ClSeen.mk ?a ?b ?c;(case a=>k_is);(case b=>k_is);(case c=>k_is))
    have c_NoSide:K2.ClSeen (KOf KX) "NoSide" 157:=by (dsimp only [KOf];refine' K2.ClSeen.mk ?a ?b ?c;(case a=>k_is);(case b=>k_is);(case c=>k_is))
    have c_NoColumns:K2.ClSeen (KOf KX) "NoColumns" 169:=by (dsimp only [KOf];refine' K2.ClSeen.mk ?a ?b ?c;(case a=>k_is);(case b=>k_is);(case c=>k_is))
    have c_NoLine:K2.ClSeen (KOf KX) "NoLine" 181:=by (dsimp only [KOf];refine' K2.ClSeen.mk ?a ?b ?c;(case a=>k_is);(case b=>k_is);(case c=>k_is))
    have c_There:K2.ClSeen (KOf KX) "There" 193:=by (dsimp only [KOf];refine' K2.ClSeen.mk ?a ?b ?c;(case a=>k_is);(case b=>k_is);(case c=>k_is))
    have c_Nothing:K2.ClSeen (KOf KX) "Nothing" 205:=by (dsimp only [KOf];refine' K2.ClSeen.mk ?a ?b ?c;(case a=>k_is);(case b=>k_is);(case c=>k_is))
    have c_Unlike:K2.ClSeen (KOf KX) "Unlike" 224:=by (dsimp only [KOf];refine' K2.ClSeen.mk ?a ?b ?c;(case a=>k_is);(case b=>k_is);(case c=>k_is))
    have c_NoText:K2.ClSeen (KOf KX) "NoText" 243:=by (dsimp only [KOf];refine' K2.ClSeen.mk ?a ?b ?c;(case a=>k_is);(case b=>k_is);(case c=>k_is))
    have c_TooMany:K2.ClSeen (KOf KX) "TooMany" 262:=by (dsimp only [KOf];refine' K2.ClSeen.mk ?a ?b ?c;(case a=>k_is);(case b=>k_is);(case c=>k_is))
    have Z:K2.Cls (KOf KX) mg [("NoSea",37),("NoCell",49),("NoDraught",61),("NoDay",73),("NoNotices",85),("NoNumber",97),("NoMark",109),("NoChannel",121),("NoSightings",133),("NoFairway",145),("NoSide",157),("NoColumns",169),("NoLine",181),("There",193),("Nothing",205),("Unlike",224),("NoText",243),("TooMany",262)]:=K2.Aac KX G rfl ⟨c_NoSea,c_NoCell,c_NoDraught,c_NoDay,c_NoNotices,c_NoNumber,c_NoMark,c_NoChannel,c_NoSightings,c_NoFairway,c_NoSide,c_NoColumns,c_NoLine,c_There,c_Nothing,c_Unlike,c_NoText,c_TooMany,trivial⟩
    have m_NoSea:PySem.W.mroIn (KOf KX) 121 (.ref 37)=some false:=by (dsimp only [KOf];k_is)
    have m_NoCell:PySem.W.mroIn (KOf KX) 121 (.ref 49)=some false:=by (dsimp only [KOf];k_is)
    have m_NoDraught:PySem.W.mroIn (KOf KX) 121 (.ref 61)=some false:=by (dsimp only [KOf];k_is)
    have m_NoDay:PySem.W.mroIn (KOf KX) 121 (.ref 73)=some false:=by (dsimp only [KOf];k_is)
    have m_NoNotices:PySem.W.mroIn (KOf KX) 121 (.ref 85)=some false:=by (dsimp only [KOf];k_is)
    have m_NoNumber:PySem.W.mroIn (KOf KX) 121 (.ref 97)=some false:=by (dsimp only [KOf];k_is)
    have m_NoMark:PySem.W.mroIn (KOf KX) 121 (.ref 109)=some false:=by (dsimp only [KOf];k_is)
    have m_NoChannel:PySem.W.mroIn (KOf KX) 121 (.ref 121)=some true:=by (dsimp only [KOf];k_is)
    have m_NoSightings:PySem.W.mroIn (KOf KX) 121 (.ref 133)=some false:=by (dsimp only [KOf];k_is)
    have m_NoFairway:PySem.W.mroIn (KOf KX) 121 (.ref 145)=some false:=by (dsimp only [KOf];k_is)
    have m_NoSide:PySem.W.mroIn (KOf KX) 121 (.ref 157)=some false:=by (dsimp only [KOf];k_is)
    have m_NoColumns:PySem.W.mroIn (KOf KX) 121 (.ref 169)=some false:=by (dsimp only [KOf];k_is)
    have m_NoLine:PySem.W.mroIn (KOf KX) 121 (.ref 181)=some false:=by (dsimp only [KOf];k_is)
    have m_There:PySem.W.mroIn (KOf KX) 121 (.ref 193)=some false:=by (dsimp only [KOf];k_is)
    have m_Nothing:PySem.W.mroIn (KOf KX) 121 (.ref 205)=some false:=by (dsimp only [KOf];k_is)
    have m_Unlike:PySem.W.mroIn (KOf KX) 121 (.ref 224)=some false:=by (dsimp only [KOf];k_is)
    have m_NoText:PySem.W.mroIn (KOf KX) 121 (.ref 243)=some false:=by (dsimp only [KOf];k_is)
    have m_TooMany:PySem.W.mroIn (KOf KX) 121 (.ref 262)=some false:=by (dsimp only [KOf];k_is)
    have E:K2.ExKind (KOf KX) [("NoSea",37),("NoCell",49),("NoDraught",61),("NoDay",73),("NoNotices",85),("NoNumber",97),("NoMark",109),("NoChannel",121),("NoSightings",133),("NoFairway",145),("NoSide",157),("NoColumns",169),("NoLine",181),("There",193),("Nothing",205),("Unlike",224),("NoText",243),("TooMany",262)] 121 7:=by (refine' K2.W8 rfl (by decide) ?a ?b ?c ?d ?e ?f ⟨m_NoSea,m_NoCell,m_NoDraught,m_NoDay,m_NoNotices,m_NoNumber,m_NoMark,m_NoChannel,m_NoSightings,m_NoFairway,m_NoSide,m_NoColumns,m_NoLine,m_There,m_Nothing,m_Unlike,m_NoText,m_TooMany,trivial⟩ ⟨(fun z=>absurd z (by decide)),(fun z=>absurd z (by decide)),(fun z=>absurd z (by decide)),(fun z=>absurd z (by decide)),(fun z=>absurd z (by decide)),(fun z=>absurd z (by decide)),(fun z=>absurd z (by decide)),(fun _=>rfl),(fun z=>absurd z (by decide)),(fun z=>absurd z (by decide)),(fun z=>absurd z (by decide)),(fun z=>absurd z (by decide)),(fun z=>absurd z (by decide)),(fun z=>absurd z (by decide)),(fun z=>absurd z (by decide)),(fun z=>absurd z (by decide)),(fun z=>absurd z (by decide)),(fun z=>absurd z (by decide)),trivial⟩;(case a=>(dsimp only [KOf];k_is));(case b=>(dsimp only [KOf];k_is));(case c=>(dsimp only [KOf];k_is));(case d=>(dsimp only [KOf];k_is));(case e=>(dsimp only [KOf];k_is));(case f=>(dsimp only [KOf];k_is)))
    have hN:∃tl,D3.mroK (KOf KX) 121=some (.ref 121::tl)∧(Value.ref 121::tl).contains (.ref 24)=true:=by (dsimp only [KOf];refine' ⟨_,K2.S3 ?l ?e,?c⟩;(case l=>k_is);(case e=>rfl);(case c=>decide))
    have hM:∃tl,D3.mroK (KOf KX) 24=some (.ref 24::tl)∧tl.contains (.type "BaseException")=true:=by (dsimp only [KOf];refine' ⟨_,K2.S3 ?l ?e,?c⟩;(case l=>k_is);(case e=>rfl);(case c=>decide))
    have C:K2.Chn (KOf KX) [("NoSea",37),("NoCell",49),("NoDraught",61),("NoDay",73),("NoNotices",85),("NoNumber",97),("NoMark",109),("NoChannel",121),("NoSightings",133),("NoFairway",145),("NoSide",157),("NoColumns",169),("NoLine",181),("There",193),("Nothing",205),("Unlike",224),("NoText",243),("TooMany",262)] 24 121:=⟨⟨by (dsimp only [KOf];k_is),by (dsimp only [KOf];k_exc)⟩,hN,E⟩
    have Mk:K2.MkIs (KOf KX) 24:=⟨⟨by (dsimp only [KOf];k_is),by (dsimp only [KOf];k_exc)⟩,hM⟩
    obtain ⟨f,fd,F,a,kp⟩:=I_law.ex
    have e0:=hmg.symm.trans (PySem.W.mg_of KX G a)
    cases e0
    obtain ⟨oc,od,kV,doc,pm,an,cdv,ct,osl,efd,lk,hcd⟩:=id F.ex
    refine ⟨fd,fun s u=>by (subst efd;exact .of_eq rfl),fun base kb nb=>K2.Aah KX G N Z C Mk J_L_calls J_L_right Adx Ady Adz Ad0 Ad1 Ad2 Ad3 Ad4 Ad5 Ad6 Ad7 Ad8 Ad9 Aea Aeb Aec Aed Aee Aef Aeg Aeh Aei Aej Aek Ael Aem Aen Aeo Ac7 Aep Aeq F⟩

