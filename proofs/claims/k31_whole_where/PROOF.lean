import PyProof.Rows.All
import Wide.All
import OpenK.AllK
import Wide.FinOn
import Lean
import PyProof.EqAt
import PyProof.EqKinds
import PyProof.TupleCall
import PyProof.AutoIntG2
import PyProof.ZipIter
import PyProof.Rows.ZipGen
import PyProof.NeKinds
import PyProof.Rows.SumAny
import KE.KRevIter
import KE.KRevSl
import PyProof.Rows.StrJoin2
import PyProof.Rows.Range3
import KE.KMinKey
import KE.KDictLaws
import KE.KDictList
import KE.KIntText
import PyProof.Rows.RegReprOcc
import PyProof.AutoSeq1
import PyProof.DictWalks
import PyProof.MeetsIn
import PyProof.CallType
import PyProof.Rows.SetFrom
import KE.KDictSum
import PyProof.Rows.SortWalk
import PyProof.FString5
import KE.KLam
import KE.KNestM
import PyProof.AttrMissHeap
import PyProof.FactsAll.zip_1
import PyProof.FactsAll.zip_0
import KE.KDictOf
import PyProof.WalksEnum
import PyProof.EnumMake
import KE.KPairComp
import PySem.Challenge.RW_tightrows_k31_whole_where
set_option Elab.async false
set_option linter.all false
set_option tactic.hygienic false
set_option maxRecDepth 100000
section
open PySem PySem.W PyProof.Rows
set_option maxHeartbeats 0
namespace PySem.W.Fast
def tw15557118037204514063:=0
def tw2947022637612080207:=0
def tw13253258032045093371:=0
def tw15658783078273685601:=0
def tw4437202343766469063:=0
def tw14588922433397456048:=0
def tw4944939855592629219:=0
def tw13171059195288558143:=0
def tw6891678376382727640:=0
def tw11560184794709162558:=0
def tw3744637391809630434:=0
def tw10316275749434899228:=0
def tw1203291203124806028:=0
def tw15244934945096086091:=0
def tw2966245893745986782:=0
def tw4596154336263519989:=0
def tw11488582681846531510:=0
def tw18368713326256160463:=0
def tw15269542048403974969:=0
def tw9870752487764452798:=0
def tw4485443081082142598:=0
def tw9707964253965541610:=0
def tw3416276506055856703:=0
def tw5229223393565736022:=0
def tw1910063991659699160:=0
def tw14717756682564823951:=0
def tw2382992275887692760:=0
def tw173655755971940763:=0
def tw3441181484239191453:=0
def tw1510200132203093344:=0
def tw17804137797910129976:=0
def tw16912993558457738087:=0
def tw8010429739221350655:=0
def tw13512494431348122344:=0
def tw221459796718592479:=0
def tw18180450553987571463:=0
def tw1498911897619886491:=0
def tw4029100840319817195:=0
def tw2580756070439426241:=0
def tw16932750248981076975:=0
def tw6915830098602222075:=0
def tw13805876386964566051:=0
def tw18200311486174963496:=0
def tw671997056453627701:=0
def tw2511191589948856989:=0
def tw12913316249410920779:=0
def tw4085119773342337487:=0
def tw3170917433506981388:=0
def tw5761891094533602941:=0
def tw2179530544698372329:=0
def tw286672909443509423:=0
def tw9452942446560280524:=0
def tw11102882601449554769:=0
def tw13112489393974891562:=0
def tw16972357384913794669:=0
def tw6740259294088482822:=0
def tw11619530477501284458:=0
def tw353279137818652711:=0
def tw1305488984063658161:=0
def tw11315832918978920498:=0
def tw12795555041046419264:=0
def tw8622511845288881301:=0
def tw4859864209298351342:=0
def tw11464542286830546394:=0
def tw11803830727687284917:=0
def tw4612512449502464726:=0
def tw3332533830289463402:=0
def tw12502445556323134865:=0
def tw8990565072296765122:=0
def tw4279031294114029233:=0
def tw17100784302562312396:=0
def tw5785749835991850524:=0
def tw13274578437777283333:=0
def tw662487633825041949:=0
def tw1231428805752051470:=0
def tw3794673962262581298:=0
def tw13304969567683844135:=0
def tw2956457222204650364:=0
def tw14920106116421664357:=0
def tw13392989160716055246:=0
def tw14565058331254673193:=0
def tw13201590901006505230:=0
def tw11655334652289050587:=0
def tw9199807048112468164:=0
def tw1706668047271739993:=0
def tw2368650613007537531:=0
def tw5441011295486705847:=0
def tw17219136935623282979:=0
def tw13864761864999608740:=0
def tw8503006746105767871:=0
def tw240809779962320460:=0
def tw16918642582880093274:=0
def tw5344459653683495844:=0
def tw6996646363512349780:=0
def tw8843622084017130941:=0
def tw16973678617238036021:=0
def tw1208262575889395363:=0
def tw10419413646124371207:=0
def tw2102640151204726849:=0
def tw10315842190103737215:=0
def tw400308706252983736:=0
def tw14197212865736574096:=0
def tw10111816829967620940:=0
def tw10835302523878952764:=0
def tw13492517414784309373:=0
def tw14229818408795933544:=0
def tw16967676927775733217:=0
def tw5676158832566997192:=0
def tw16437159813392760963:=0
def tw15927537555570953868:=0
def tw7931584329624968101:=0
def tw12891870898042309210:=0
def tw591619521623480173:=0
def tw8641261243274172004:=0
def tw15151590658759971975:=0
def tw12812523130130701433:=0
def tw8137177082677651817:=0
def tw14673037961349711023:=0
def tw1863996257521021587:=0
def tw15521432821215370179:=0
def tw1730014827032318093:=0
def tw2606794750528776967:=0
def tw7122216473357894384:=0
def tw3417163676019053165:=0
def tw13252353580202293649:=0
def tw4816535666526697795:=0
def tw848319894122301810:=0
def tw9953251717546589380:=0
def tw17049490377257562395:=0
def tw13781941000764653833:=0
def tw17390546976280899908:=0
def tw17235451654336282918:=0
def tw14115612292630298329:=0
def tw13931468397397221669:=0
def tw9562348720305321141:=0
def tw10315329061316662816:=0
def tw4172150229251425597:=0
def tw14039470195028465946:=0
def tw15226153663592417464:=0
def tw5690963122746863800:=0
def tw10185791897878021676:=0
def tw2116705468467141311:=0
def tw3687520480371858154:=0
def tw352137625022990937:=0
def tw9890069310397148831:=0
def tw9147387543374475260:=0
def tw9071404923954904946:=0
def tw554491261183384867:=0
def tw5377395326752350224:=0
def tw7042113281908822395:=0
def tw73920596778585905:=0
def tw10192724254305547310:=0
def tw4484478099829424759:=0
def tw16841470909473829499:=0
def tw7835247077637566697:=0
def tw5464063524407708859:=0
def tw7318451870941531037:=0
def tw15475076116472076412:=0
def tw2919999854780906720:=0
def tw11949842639367756715:=0
def tw14667184450404836312:=0
def tw11714446256913669193:=0
def tw13423244913909445596:=0
def tw13459606278456390750:=0
def tw10622618413610721577:=0
def tw1531073829570910640:=0
def tw17678266531956157644:=0
def tw18223388010741149669:=0
def tw16643179803010462998:=0
def tw1830908206230394951:=0
def tw9845921835416411572:=0
def tw6113813435440603624:=0
def tw17558468112293427151:=0
def tw16956020058673912299:=0
def tw3680687382328057084:=0
def tw29342841495252606:=0
def tw10809303569395626552:=0
def tw2717667709949493714:=0
def tw12396112007762138273:=0
def tw1146105884227674917:=0
def tw6779623309535925911:=0
def tw12747287592125256408:=0
def tw7207055248932914315:=0
def tw6297439460103748329:=0
def tw3044262868708388789:=0
def tw14685759011257162827:=0
def tw6234714931038679658:=0
def tw916579946541188910:=0
def tw3251170706299921101:=0
def tw5388510328761450695:=0
def tw17247191448820504992:=0
def tw4517674123233821177:=0
def tw1211771764367981948:=0
def tw9988316690921611170:=0
def tw7703342370262253421:=0
def tw12892184078641269113:=0
def tw15601310325441786835:=0
def tw3621135559255319756:=0
def tw12274085201609424607:=0
def tw5452863943403700034:=0
def tw16939395840372526821:=0
def tw14849254571477763173:=0
def tw14807245280511448725:=0
def tw9933915225936180657:=0
def tw287759276949640782:=0
def tw6776374947273356065:=0
def tw8850625324321297912:=0
def tw12804604249971251148:=0
def tw16317507031998536401:=0
def tw4609309207603839798:=0
def tw8269725058638569025:=0
def tw1956447246544186980:=0
def tw10854501823085113059:=0
def tw17542690509189486825:=0
def tw4452426404830162460:=0
def tw3622651747703717806:=0
def tw5057738701821594122:=0
def tw1318867492284069353:=0
def tw13522922977720345347:=0
def tw2281186078294684690:=0
def tw16485247128310386419:=0
def tw13220384985441044848:=0
def tw2075176308104322180:=0
def tw13114996386560476355:=0
def tw6769705513128860221:=0
def tw4206241323123782879:=0
def tw11084335826082562925:=0
def tw10695786206435501885:=0
def tw8245013078727580144:=0
def tw18439477688306902764:=0
def tw8925053909952719807:=0
def tw12753560315091119440:=0
def tw2380259879743802847:=0
def tw1013632120382525615:=0
def tw12600851497627108889:=0
def tw1748808691809154114:=0
def tw7261734385749754968:=0
def tw13157358574671220019:=0
def tw8878664061835918867:=0
def tw13448108757416826754:=0
def tw16674154562218041092:=0
def tw8956383525110728278:=0
def tw12422650616926029710:=0
def tw18366071067584206253:=0
def tw6391717739897243213:=0
def tw11041952867113360066:=0
def tw15637066546500483524:=0
def tw11595233453876126720:=0
def tw1341269633775688249:=0
def tw8179175065901706641:=0
def tw5804672499253827153:=0
def tw16119177666811403048:=0
def tw7613062246412473328:=0
def tw5083205026690044350:=0
def tw2027147355734552674:=0
def tw13949295291865641403:=0
def tw11411255564092286103:=0
def tw17185122331531784539:=0
def tw10865143202988551324:=0
def tw18126970089978495002:=0
def tw5693138940484814519:=0
def tw16616452428206558570:=0
def tw5264176639191122666:=0
def tw7420726384796275523:=0
def tw834477282342894186:=0
def tw4109946528820706977:=0
def tw15270460133755492586:=0
def tw6884399864873781254:=0
def tw8864543501030042677:=0
def tw7657006200426794580:=0
def tw4967298381934979311:=0
def tw18227802397245407935:=0
def tw3572778898075803552:=0
def tw16936669386117913070:=0
def tw16302403090934665031:=0
def tw1604546800951385623:=0
def tw8305416793297653010:=0
def tw15227271218641104460:=0
def tw12227392339376972542:=0
def tw3596694679217542789:=0
def tw15159378192106934337:=0
def tw14549605204448269651:=0
def tw7606212715459731067:=0
def tw15215750107321853362:=0
def tw16964319018770451151:=0
def tw17070029354638458402:=0
def tw3817066588358749708:=0
def tw14740688961035114918:=0
def tw6070047876364108375:=0
def tw5219902850126663224:=0
def tw367866435453632683:=0
def tw6235812772397662657:=0
def tw5896508009151102891:=0
def tw1864084611233545055:=0
def tw7859145918425269027:=0
def tw16555343204408761151:=0
def tw5439912040338684990:=0
def tw4528002563516037449:=0
def tw15183654298703580310:=0
def tw2552491215392600760:=0
def tw15847588954857427317:=0
def tw12374350155717315138:=0
def tw2420824607370708266:=0
def tw16990709013855301292:=0
def tw11812726571997257843:=0
def tw5977639002648386907:=0
def tw1311252040108331333:=0
def tw15934376743352109071:=0
def tw11586542666913780421:=0
def tw4996525928202335354:=0
def tw5904835489459128595:=0
def tw14562643391978094307:=0
def tw14239524026382904213:=0
def tw18214029645552436564:=0
def tw16112245242390914061:=0
def tw14238680209270949854:=0
def tw13047056831220951069:=0
def tw9339046309433212781:=0
def tw10612943287285434235:=0
def tw17733635223943285018:=0
def tw7383273718688807001:=0
def tw15895573709634716773:=0
def tw13198502818327435030:=0
def tw5383483660917698021:=0
def tw12530826638661405753:=0
def tw15043594756563274498:=0
def tw5968278798954764426:=0
def tw4321596380190583166:=0
def tw14938588869250252517:=0
def tw8454548199579164731:=0
def tw17957892436416624737:=0
def tw2516120676309143928:=0
def tw3804860017943828795:=0
def tw11727005905670615581:=0
def tw15856220976046610725:=0
def tw16988215867578721995:=0
def tw10660541725703278316:=0
def tw10374965780884099581:=0
def tw9747734738704968300:=0
def tw2703746112684365551:=0
def tw18163864325509264416:=0
def tw8073985000109034936:=0
def tw2974884500323138856:=0
def tw14153239382514197932:=0
def tw11445508280726042088:=0
def tw12478598416591516323:=0
def tw16919461112605706200:=0
def tw6229894234730211693:=0
def tw7544785423774722442:=0
def tw1103546482817042808:=0
def tw6861644675940817275:=0
def tw8739451924666012362:=0
def tw17907172058478311561:=0
def tw8606321473357037856:=0
def tw4002690524293306566:=0
def tw12680947009161176736:=0
def tw6031609661789783420:=0
def tw8199395580642738725:=0
def tw18075588705978027436:=0
def tw17669047950913360866:=0
def tw2224902754162047695:=0
def tw17545327648822006312:=0
def tw17939464856633841436:=0
def tw5516899472563577517:=0
def tw17895601660293104214:=0
def tw13848297726204470335:=0
def tw17713708125061812287:=0
def tw299240807854525148:=0
def tw7028302028889196361:=0
def tw16918272661886267457:=0
def tw9734181911266148255:=0
def tw9695999583051533164:=0
def tw11806559207921876369:=0
def tw15521333416134117164:=0
def tw8627316120773386284:=0
def tw14868828354879650990:=0
def tw7422696757780116098:=0
def tw14931435692540792041:=0
def tw3860776203263708313:=0
def tw17421383372887412308:=0
def tw3685379832035063862:=0
def tw15158491489857271106:=0
def tw17716708209731213412:=0
def tw10622699155197528761:=0
def tw9726328867599884474:=0
def tw15893705126259337236:=0
def tw9623468300886656184:=0
def tw9049983261099202768:=0
def tw4763930345756842383:=0
def tw16172937008932901834:=0
def tw12216099134908685735:=0
def tw16085631040612390421:=0
def tw2391637522939401103:=0
def tw9130168516531842566:=0
def tw4618962067786203129:=0
def tw9871489147303070957:=0
def tw5896253156054306730:=0
def tw14133389711027405901:=0
def tw3837350840074257164:=0
def tw11868860491005354087:=0
def tw350667501750275589:=0
def tw2726897824759195719:=0
def tw5036337098622603555:=0
def tw16740708683265787917:=0
def tw3927951730769863623:=0
def tw6237074347220734881:=0
def tw6834977854798274986:=0
def tw14912382621324889970:=0
def tw3633665255253870609:=0
def tw7262106096222790656:=0
def tw10986400866849006701:=0
def tw17378347123831767758:=0
def tw1767558230403387650:=0
def tw11406108056763973571:=0
def tw13478392149506266919:=0
def tw18104389240155769932:=0
def tw10295685435169306535:=0
def tw16802595134427457355:=0
def tw13046502179525381254:=0
def tw15437930537390785990:=0
def tw3236473969364872084:=0
def tw4703372063388044626:=0
def tw16874286588492719270:=0
def tw5992563732605855900:=0
def tw16229062925069492248:=0
def tw1726883704454196283:=0
def tw8498844721267449932:=0
def tw16613334908412405452:=0
def tw1998114233134965412:=0
def tw7344690755383695900:=0
def tw2980271258511457392:=0
def tw15659549457615733981:=0
def tw6009226451079406174:=0
def tw806949893841662317:=0
def tw9774863975185998414:=0
def tw13337847501390842365:=0
def tw18197363040598576899:=0
def tw9570218781351430342:=0
def tw4484899132249176091:=0
def tw6567558210847300780:=0
def tw1106544068838493759:=0
def tw5540869160410674063:=0
def tw11074815268912357413:=0
def tw16177411549342114042:=0
def tw4974321382031034302:=0
def tw11012188858915185121:=0
def tw5517585819318438342:=0
def tw17984620468336184325:=0
def tw750610012249065222:=0
def tw10245893395729034000:=0
def tw11956006532089123697:=0
def tw5001973696805834516:=0
def tw7288018678062964131:=0
def tw2915786015551083245:=0
def tw17507645131591064581:=0
def tw610683314842544525:=0
def tw6176573481524691312:=0
def tw10435698900181257539:=0
def tw10831809040122242787:=0
def tw2689512061197803838:=0
def tw18263434564766179565:=0
def tw7432077782999998010:=0
def tw5690187012347943667:=0
def tw6629386943682504847:=0
def tw10160808532885311371:=0
def tw18271451639169192085:=0
def tw15671185428144512332:=0
def tw14146512151089479756:=0
def tw9432288292835621651:=0
def tw12268420483606086989:=0
def tw16800855567691357440:=0
def tw17996599936979769792:=0
def tw5421474735326581869:=0
def tw6790509893396984765:=0
def tw7159731447419748470:=0
def tw5104475729016476183:=0
def tw16613709247092059674:=0
def tw13393411031837870954:=0
def tw13252270616281195468:=0
def tw4042653090141557464:=0
def tw7670927445953560420:=0
def tw18102918096586599035:=0
def tw18290100938826663639:=0
def tw7170965878340397250:=0
def tw15125979998166909685:=0
def tw18321363963332494816:=0
def tw6600054379798267642:=0
def tw16409118574462731094:=0
def tw7517955932133681746:=0
def tw16588910320898818049:=0
def tw11869713559029600824:=0
def tw9318944899941571132:=0
def tw10038839336961602419:=0
def tw14375123853992386367:=0
def tw514677042708511838:=0
def tw14434925230865231382:=0
def tw9598092342884408347:=0
def tw5550980037821255849:=0
def tw3160872539375227678:=0
def tw1265847077050021148:=0
def tw923862912351654113:=0
def tw15110533606658401157:=0
def tw17802389676963110124:=0
def tw8080540647850784022:=0
def tw17825473462361243894:=0
def tw12508628821257368383:=0
def tw4602508940025085076:=0
def tw9061865201104431712:=0
def tw8199247208863462921:=0
def tw15268585031771050568:=0
def tw3443682480178775183:=0
def tw4170840242252787265:=0
def tw2623612819514383324:=0
def tw14053504151495531725:=0
def tw2155631512253720475:=0
def tw8294425144084828930:=0
def tw13624340646099814081:=0
def tw1548226201143437457:=0
def tw10013087405382653409:=0
def tw14727548631776378380:=0
def tw7309996344445220365:=0
def tw10958997403941074732:=0
def tw9825664606870131445:=0
def tw953631999767146166:=0
def tw4508904066362819064:=0
def tw8944711867599279934:=0
def tw15755882295301066212:=0
def tw4139724941342763884:=0
def tw7956313290842483969:=0
def tw16188123542712283244:=0
def tw10989786549691176865:=0
def tw8542186475300965374:=0
def tw4952958759513730374:=0
def tw12559391663106326534:=0
def tw3313028928733653075:=0
def tw15890311146629620522:=0
def tw9301575379628228184:=0
def tw11715127603488668529:=0
def tw9755000875203588542:=0
def tw12716923643791009335:=0
def tw12864654458927719793:=0
def tw9568929907474554783:=0
def tw6902474974879986365:=0
def tw8835675536420985339:=0
def tw1131552030359313225:=0
def tw14851416912809819870:=0
def tw2058565339175597801:=0
def tw14371911778807456644:=0
def tw1878512620441522719:=0
def tw9097009292535047049:=0
def tw15905497889041215116:=0
def tw9146535242315136324:=0
def tw1934342765516085098:=0
def tw7343849017383343070:=0
def tw16584508040289528189:=0
def tw13474216243664682901:=0
def tw16046464584357831864:=0
def tw12318143182229075062:=0
def tw4075534055035648615:=0
def tw17095042675694617940:=0
def tw7274440578285169364:=0
def tw12924454306141479037:=0
def tw3596207922894098914:=0
def tw9316257420537803842:=0
def tw13651759870369045602:=0
def tw13757318917767175976:=0
def tw12090999305191258296:=0
def tw14581229831016930890:=0
def tw10755617042564378947:=0
def tw572381777040596222:=0
def tw7960276679971483851:=0
def tw10640387953044217734:=0
def tw13058031942327140109:=0
def tw13057026410527622241:=0
def tw18080633023247726275:=0
def tw5618761452292580564:=0
def tw101884722536595955:=0
def tw612596712336294024:=0
def tw2797715987962162624:=0
def tw14906252311277976144:=0
def tw3079938076832943007:=0
def tw3181296699302036391:=0
def tw16945094188234701374:=0
def tw10210533161922905118:=0
def tw11034714316928637691:=0
def tw5437258925473781924:=0
def tw4456025964443670734:=0
def tw3835208135040620669:=0
def tw2283079157248689652:=0
def tw12063485555874197534:=0
def tw5974905926662729720:=0
def tw12652049207180945810:=0
def tw8876436433979105955:=0
def tw11272957009212270371:=0
def tw14964524168134258558:=0
def tw9534639637299171601:=0
def tw8334405679399290372:=0
def tw8863292697486156756:=0
def tw6697821658260131582:=0
def tw6302626853725160340:=0
def tw15224876262520777644:=0
def tw14585155124356792162:=0
def tw2781056084569874082:=0
def tw15705491243596298849:=0
def tw9775383898594617407:=0
def tw12216666555345738192:=0
def tw12859821932968831206:=0
def tw534591559976415972:=0
def tw3423329211114306238:=0
def tw3511838787680519647:=0
def tw6916379305797651004:=0
def tw5841221960849292793:=0
def tw11029878169323222653:=0
def tw14263941631790068389:=0
def tw12115621041102441880:=0
def tw15175850770351403527:=0
def tw12012909254268563485:=0
def tw7788108517750774289:=0
def tw13625701831481723108:=0
def tw14053406601142911200:=0
def tw13135312118438224810:=0
def tw3068747584154040982:=0
def tw6117058018560615249:=0
def tw14651948856004404795:=0
def tw9770588296027657752:=0
def tw7652450527821890188:=0
def tw4254164765189305117:=0
def tw8445871330447573594:=0
def tw5295219068271354496:=0
def tw10963919122452300853:=0
def tw9879778188843736180:=0
def tw2016663320872201641:=0
def tw18298330880143385132:=0
def tw8910217197228886464:=0
def tw8330061560534210826:=0
def tw13071457846391158090:=0
def tw2005478950878707105:=0
def tw5686671797484813944:=0
def tw6000875480494028010:=0
def tw4712903836388680594:=0
def tw14005915229923672881:=0
def tw13981343897175861415:=0
def tw3344290060629431763:=0
def tw18114352478076919703:=0
end PySem.W.Fast
open_top hdk for PySem.Challenge.rw_tightrows_k31_whole_where
end
noncomputable section
open And renaming «intro»->JM
open Array renaming append_assoc->Ix,length_toList->li,mem_toList_iff->HU
open Bind renaming bind->Ea
open Bool renaming and_eq_true->sB,and_false->Ee,and_true->KH,eq_iff_iff->x0,«false»->d_,false_eq_true->IQ,false_ne_true->kC,noConfusion->vb,or_eq_true->JK,or_false->Fw,«true»->c0,true_and->KD
open Classical renaming axiomOfChoice->NN
open Decidable renaming byContradiction->FW
open Eq renaming «symm»->JR
open False renaming elim->tj
open ForInStep renaming yield->Ev
open Function renaming const->QR,id_comp->QQ
open Int renaming emod_lt_of_pos->pU,emod_nonneg->qc,eq_ofNat_of_zero_le->HE,fdiv_eq_ediv_of_nonneg->GZ,le_of_lt->EF,min_eq_left->Kc,natCast_nonneg->Ca,not_le->Jc,ofNat_le->HY,toNat_natCast->nI,toNat_of_nonneg->Db,zero_add->FQ
open List renaming all_cons->Ck,all_eq_true->i_,all_map->Dz,any_cons->y_,any_eq_true->E5,any_map->La,any_nil->Lg,append_assoc->Er,append_nil->Dl,cons_append->Js,countP_cons->Jw,eq_of_mem_replicate->Hr,eraseIdx_eq_take_drop_succ->FU,eraseIdx_sublist->Ii,filter->Ir,filterMap_cons->Fm,filter_append->IS,filter_cons->E4,findSome?_cons->CV,findSome?_eq_none_iff->Eg,flatten_append->CU,flatten_cons->BK,flatten_nil->J3,foldl->Md,foldl_cons->Dn,forIn_cons->Do,forIn_nil->Kf,getD->Fl,getD_eq_getElem?_getD->nn,getElem?_append_left->kI,getElem?_append_right->na,getElem?_eq_getElem->a_,getElem?_eq_none->B3,getElem?_eq_none_iff->Em,getElem?_eq_some_iff->cs,getElem?_eraseIdx->HK,getElem?_map->cc,getElem?_of_mem->oT,getElem?_range->Fn,getElem?_replicate->E3,getElem?_set->Jj,getElem?_set_ne->DQ,getElem?_set_self->EA,getElem?_take->F4,getElem?_zip_eq_some->BE,getElem_idxOf->Ef,getElem_inj->Jo,getElem_map->J4,getElem_mem->j',idxOf_cons->Go,idxOf_cons_self->DR,idxOf_eq_length->Iu,idxOf_lt_length_of_mem->o_,length->Ga,length_append->gT,length_cons->r_,length_drop->yy,length_eq_one_iff->HJ,length_eraseIdx->Cy,length_filterMap_le->Hn,length_filter_le->ER,length_map->bd,length_pos_of_mem->DA,length_range->BJ,length_replicate->B1,length_singleton->so,length_take->gv,length_zip->Ci,lookup_cons->C9,map->Kk,map_append->dn,map_congr_left->BW,map_cons->n5,map_drop->Fu,map_map->p_,map_nil->HF,map_reverse->J2,map_singleton->F1,map_take->KG,mem_append->pA,mem_append_left->DP,mem_append_right->s_,mem_cons->f_,mem_cons_of_mem->hE,mem_cons_self->j_,mem_filter->Di,mem_filterMap->Ed,mem_flatten->vg,mem_map->nk,mem_map_of_mem->CY,mem_of_getElem?->eT,mem_of_mem_eraseIdx->BO,mem_of_mem_take->Iq,mem_range->Dw,mem_singleton->ku,nil_append->JH,nodup_append->Cp,nodup_cons->Cg,nodup_nil->Kj,not_mem_nil->m_,of_mem_zip->Gk,pairwise_cons->Dr,range->rd,range_succ->Dq,range_succ_eq_map->Dy,replicate->nc,replicate_succ'->E_,reverse_cons->Ep,size_toArray->hL,sum_cons->Fv,take_add_one->ke,take_append_drop->ES,take_length->gl,take_of_length_le->xv,take_succ->Fa,zipIdx_cons->Jy,zipIdx_nil->JN,zip_append->JS
open List.Pairwise renaming nil->EG
open List.Sublist renaming length_le->Mt
open List.cons renaming inj->IR
open Nat renaming add_assoc->F0,add_comm->FR,add_le_add_left->IM,add_right_comm->Cf,eq_zero_of_le_zero->Ig,le_add_right->Gi,le_of_ble_eq_true->bI,le_of_eq->Cc,le_of_lt->f',le_of_lt_succ->J1,le_refl->dv,le_sub_of_add_le->DS,le_succ->BL,le_succ_of_le->Cr,le_trans->jE,lt_add_right->JT,lt_irrefl->rc,lt_of_le_of_lt->Cd,lt_of_le_of_ne->FD,lt_of_lt_of_le->hJ,lt_of_not_le->JQ,lt_of_succ_lt->Jx,lt_or_ge->Ih,lt_succ_of_lt->sI,lt_succ_self->up,lt_trans->BM,min_eq_left->Cj,min_le_left->Dt,mul_comm->Ia,mul_le_mul->El,mul_succ->EQ,ne_of_gt->rs,ne_of_lt->g_,not_lt_of_le->DN,pos_of_ne_zero->Ce,strongRecOn->G8,sub_add_cancel->FG,sub_self->DG,succ->NO,succ_le_succ->Gb,succ_pos->L7,zero_add->Eb,zero_le->ot
open Nat.succ renaming inj->GH
open Ne renaming «symm»->v_
open Option renaming getD_some->FN,isSome_iff_exists->BI,isSome_map->I0,map_eq_some_iff->rk,map_some->FV,none->K4,none->cx,or_eq_none_iff->Hy,some->O
open Option.some renaming inj->kn
open Or renaming inl->gS,inr->zs
open Prod renaming «ext»->Nh,fst->GN,snd->Nw
open Prod.mk renaming injEq->J5
open Pure renaming pure->zJ
open PyProof renaming noPylong_small->G_
open PyProof.Rows renaming AllBare->Fc,Call_->HS,IntsAre->FK,IsTup->Gu,Subscript_->K0,bitAnd_pp->Ms,boot_range->Kv,callWith_builtin1->Mc,callWith_kw->Mh,callWith_type1->oD,cnt->Mj,cnt_cons->Ml,count_is->Mm,envOfC->Ej,iadd_int->Ma,isTrue_plain->IW,setObjOf_fresh->Mo,slicePart_none->MB,slot_tuple_getitem->Dd,subscriptTail_builtinR->Jd,zipApart_new->NL
open PyProof.Rows.F renaming entry_set_update_loop->Io,plain_set_update_loop->Ip
open PyProof.Rows.IsTup renaming new->Jb
open PySem renaming Addr->ce,Arguments->ET,Around->BF,BindsTo->HC,Builtin->Dx,CmpOf->QM,DictEntry->DX,Env->FZ,Expr->tA,FuncData->B',GenState->M3,Heap->sG,IsPair->BR,IsPart->Hb,IsRangeIter->QF,IsZip->G1,ItemsOf->Jg,Keyword->Fg,NameKind->CZ,Obj->z_,Operator->Gw,Params->MF,PassesOwn->IJ,PlainAttrs->K2,Pos->KN,Program->sJ,Scope->Ey,Sem->M4,Shared->f0,Stmt->nW,Str->Mi,Str->hO,Tok->J_,TriplesOk->EZ,Value->cv,Walks->Lb,Within->Hu,World->uF,ZipApart->G0,argBest->w_,assign->M8,assignEach->DV,atKey->IL,attributeBase->BC,backTo->zG,backToKw->Ez,behindInMarks->Cv,binaryOp->Cb,bindArgs->HX,bindC->JD,bindL->JC,bootBuiltins->Dj,builtinsNs->Fb,cLine->F8,call->Fq,call->IA,callType_codes->MJ,callWith->HW,call_list_seq->Nr,call_meets->BX,call_meetsIn->Fi,callerA->HH,cellsFrom->Dm,closureFor->K5,codeAmong->DH,codeAny->C7,codeAny_builtin->ss,codeAny_call_builtin->FA,codeAny_mono->Co,compareOp->su,concat_meets->NH,evalArgs_none->Fh,excClassObj->QL,field->QP,findBy->Kw,fitsIndex_both->H_,foldedSetIterable->Bc,fresh->MG,getAttr->NF,getAttr?->Gz,getItem->FJ,getMethod->G',getattributeRaised->E2,holding->EB,inplaceOp->Ll,intBits_le_64->Na,intItems->DO,intItems_at->ED,interactive->QE,isSubtype_stop->MQ,iter_intList->NM,keywordEach->C_,letOwnedTupleGo->Hv,list_append->IK,mainGlobals->B9,mem_getD->JI,mem_of_lookup->ri,model->hY,newFunctionEnv->Ib,noFill_tuple_add->Lw,numAt->Cn,numAt_eq->EX,nums_intItems->IC,operate->NI,plainId_quiet->u_,pushCells_keeps->Mq,pyIter->IX,pyNext->Fd,rawInt->DE,recursionLimit->MA,richCompare->QN,rule->Lm,scanBound->Hf,seqIndex?->Hc,seqIndex_of->QI,seq_tuple_add->Ng,setFlight->L4,sizeLine->fx,sizeLine_eq->BB,sliceBounds->JF,slot_list_getitem->KW,standAt->FI,starEach->i',storeName->Lj,stored->MD,strKind_is->Gg,sub_AttributeError->KC,subscripted->Hm,swapsWith->Eu,sysModules->BG,truthy->IV,tupleKind->GY,tupleKind_room_in1->Gc,typeIs_int->K1,typeLookup->E1,typeOf->K3,valueAt->Gy,wpAny->h_,wpAny_Call_Name_kw->uz,wpAny_Call_method0_late->EV,wpAny_Compare1->M7,wpAny_Name->Kr,wpAny_assign_Name->KR,wpAny_attempt->D_,wpAny_bind->b7,wpAny_call->Ff,wpAny_callSpecial?_slot->wb,wpAny_call_entry->zB,wpAny_comprehension_free->IB,wpAny_dictEntries->Lc,wpAny_dictEpoch->Mn,wpAny_execs_cons->Lk,wpAny_execs_nil->Ei,wpAny_field->tO,wpAny_fieldsOf->ML,wpAny_getItem_of->Hd,wpAny_holding->sA,wpAny_isInstance->He,wpAny_isOneOf_valiter->Ft,wpAny_isTrue_Compare1->Jq,wpAny_ite_true->FE,wpAny_leaves_onW->L1,wpAny_letGo->BV,wpAny_load->Ks,wpAny_loadName_cell->J',wpAny_loadName_local->JB,wpAny_loadPart->M9,wpAny_mono->pu,wpAny_newList->ID,wpAny_newObj_type->DM,wpAny_newTuple->MN,wpAny_nextOf_list_end->J0,wpAny_nextOf_list_item->Fk,wpAny_notIn_of->ME,wpAny_of_eq->EC,wpAny_onRaise->EH,wpAny_passesOwn->Ct,wpAny_pure->eM,wpAny_pyIter_enum->Le,wpAny_pyIter_list->C6,wpAny_pyIter_range->Ku,wpAny_pyIter_rangeiter->IZ,wpAny_pyIter_values->Kg,wpAny_pyIter_zip->DW,wpAny_pyNext_range_end->IY,wpAny_pyNext_zip_end->JJ,wpAny_rule->Gf,wpAny_runValue->MP,wpAny_seqItems->rx,wpAny_setField->Ic,wpAny_setField_rec->BH,wpAny_specialOf->Eh,wpAny_standAt->Nt,wpAny_storeName_cell->JA,wpAny_storeName_local->Jp,wpAny_truthy_bool->tx,wpAny_tryCatch->x3,wpAny_typeOf->Gx,wpAny_updateSeq->Cu,wpAny_updateSeq_pair->FF
open PySem.Around renaming frames_deeper->HD,under_plainId->HI
open PySem.AutoIntG2 renaming int_bit_length_int_0->K7
open PySem.AutoListH renaming list___mul___list_int_3->NJ
open PySem.AutoSeq1 renaming list_extend_list_list_0->QJ,list_insert_list_int_val_1->QO
open PySem.Builtin renaming bitAnd->F_
open PySem.Builtin.Builtins renaming bindParams->EY
open PySem.Builtin.Dict_items renaming ownsTuple->EE
open PySem.Builtin.Frozenset renaming updateFrom->JO
open PySem.Builtin.Int renaming intBits->E7
open PySem.Builtin.List renaming listExtendWith->Mg,listFitsIndex->Fz,listSameRef->FM,listTooLong->DT
open PySem.Builtin.ObjectAttr renaming dataDescriptor?->Jv,find->Ju
open PySem.Builtin.Range renaming rangeFitsLong->L5,rangeSize->Cw,small->Gm
open PySem.Builtin.Slice renaming sliceAdjust->Fy,sliceApplied->Ly,slicePartIndex->Lx,slicePlaces->Ch
open PySem.Builtin.SmallTypes renaming nextOf->rN,ownedTupleHandOut->Jz,ownedTupleIsFree->B_
open PySem.Builtin.Tuple renaming tupleItemsOf->Lz
open PySem.Calls renaming Name_function_global->Gv,callWith_builtin->BY,evalArgs_plain->EW,spliced_cons->Dk,spliced_nil->Du
open PySem.CmpOp renaming In->M6,NotIn->KQ
open PySem.Code renaming quiet_builtin->IP
open PySem.DictEntry renaming refKey->ND
open PySem.EqMixed renaming eq_bool_str->Ln,eq_int_str->Lo,eq_str_bool->Lp,eq_str_int->Lq,ne_bool_str->Lr,ne_int_str->Ls,ne_str_bool->Lu,ne_str_int->Lv
open PySem.EqNone renaming eq_bool_none->LO,eq_int_none->LP,eq_none_bool->LL,eq_none_int->LM,eq_none_none->LK,eq_none_str->LN,eq_str_none->LR,ne_bool_none->LY,ne_int_none->LZ,ne_none_bool->LU,ne_none_int->LV,ne_none_none->LS,ne_none_str->LX,ne_str_none->L_
open PySem.F renaming args_dict_valueiterator_next_1->Gh,args_list_append_2->Je,args_object_init_3->Jh,args_tuple_add_2->JE,args_zip_next_1->E6,called_set->Dc,entry_dict_valueiterator_next->Gn,entry_list_append->Jr,entry_max_loop->EI,entry_min_loop->EK,entry_tuple_add->Kb,entry_zip_next->EN,plainAttrs_dict->GL,plainAttrs_dict->Gd,plainAttrs_list->mI,plainAttrs_str->Hg,plainAttrs_tuple->G9,plain_max_loop->EJ,plain_min_loop->EL,slot_NoneType_hash->DU,slot_dict_delitem->Jt,slot_dict_getitem->F9,slot_dict_items->Ki,slot_dict_pop->KZ,slot_dict_setdefault->FS,slot_dict_valueiterator_next->BZ,slot_dict_values->JP,slot_int_rmul->KY,slot_list_append->JG,slot_list_append->u4,slot_list_extend->GD,slot_list_getattribute->E8,slot_list_index->De,slot_list_pop->Ho,slot_str_count->Hh,slot_tuple_add->Kz,slot_tuple_index->GB,slot_zip_getattribute->EO,slot_zip_next->BN,type_dict_setdefault->FT,type_list_append->uB,type_list_extend->GF,type_list_index->Df,type_list_pop->Hq,type_str_count->Hi,type_tuple_index->GC
open PySem.Heap renaming ExtBut->Im,SameBut->wh,get?_push_of_some->b_,get?_push_size->f6,get?_update_other->ow,get?_update_self->x_,lt_size->e_,size_push->tJ,update->Ge
open PySem.Heap.DictOf renaming new->HG
open PySem.Heap.IsList renaming push->MO
open PySem.Heap.IsSliceOf renaming new->KU
open PySem.Heap.Ns1 renaming of_empty->QH
open PySem.Heap.SameBut renaming refl->Mr,update->G6
open PySem.Heap.UpToSlots renaming of_keeps->K_
open PySem.IsL renaming update->HZ
open PySem.IsRange renaming new->Ka
open PySem.MeetsSeq renaming list_pop_at->QK
open PySem.NameKind renaming cell->C8,free->sC
open PySem.Obj renaming data_mapFields->Ek,isFreed_of_fields->Il,mapFields->Ld,mapSeq->Cz
open PySem.PassesOwn renaming leaving->NP,never->qw
open PySem.SeqAt renaming EqAt->Iz
open PySem.SeqAt.EqAt renaming bool_bool->Nk,bool_int->Nl,bool_none->Nj,bool_str->Nm,int_bool->Nn,int_int->No,int_none->GU,int_str->Hk,none_bool->Ni,none_int->GQ,none_str->GR,same->HQ,str_bool->Np,str_int->Hl,str_none->GV,str_str->Nq
open PySem.SeqAt.RcAt renaming list_str->Nv
open PySem.SeqAt.RcNeAt renaming lists->Me,lists_lengths->Mf
open PySem.Shared renaming TypeIs->GJ,heap->K9
open PySem.Str renaming join->K8,ofString->DF
open PySem.Value renaming bool->Cs,builtin->Kh,bytes->KP,float->HR,int->DY,isInt->KO,isStrOf->A_,none->Dg,ref->ql,str->DZ,type->Dh
open PySem.Value.ref renaming inj->NK
open PySem.Value.type renaming inj->Nu
open PySem.W renaming Frag->fy,KeysLit->EM,Looks->MI,OpenLaw->KA,callWith_K->EU,callWith_K0->Mb,cellsFrom_some->Ky,clsIn->MH,codeHdIn->Dv,codeHd_of_K->Mp,codeIn->CO,emptyDict->CF,exmOne->Jf,findIn->BQ,fnOf->CG,handedIn->NE,hasDictIn->Ja,hideAll->Kq,hideAll_get->LJ,instObj->En,isFn->NG,keepIn->BD,kia_one->Cq,kitOne->n',kitx_dict->Nf,kitx_list->Nc,kla_fn->Ji,kla_obj->G7,lookIn->I_,looks_findIn->Fs,makesIn->QG,mapOf_K->Ik,methodCall_KW->Ha,mroIn->Iy,nsIn->Dp,of_hideAll->M5,plainGet->Hw,plainGet_of->HV,plainOver->Nb,specialIn->GG,tabObj->L6,takerIn->Kx,takesIn->Ij
open PySem.W.KF renaming slot_gs->K'
open PySem.W.Looks renaming ld->K6
open PySem.W.excIn renaming match_6->IN
open PySem.Walks renaming list->DJ,range->KS
open PySem.Within renaming cons->L'
open Std.Legacy.Range renaming forIn_eq_forIn_range'->Kd,size->Ke
open Sum renaming inl->pw,inr->CC
open Sum.inr renaming inj->FO
open True renaming «intro»->zF
open _root_ renaming Array->t_,Bool->n_,DecidableEq->BU,False->wa,Int->gV,List->U,Nat->ft,Option->eH,String->BP,True->GX,Unit->J9,absurd->hQ,beq_eq_false_iff_ne->x4,beq_iff_eq->Fe,cond->Fj,congrArg->tS,decide_eq_false->dV,decide_eq_true->fo,decide_eq_true_eq->CB,decide_eq_true_iff->Gj,if_false->MK,if_neg->ks,if_pos->mu,not_or->Ie,of_decide_eq_true->t9,or_false->u3,«rfl»->Y
namespace L2
open PySem PySem.Spec PyProof.Rows
variable{Aa prog q:sJ}{w:uF}{on:BF}{no Q:cv->f0->Prop}{s s' s2:f0}{J us Z:U cv}{name p0 p1 N x:hO}{cd cdv cls ct ctv doc oc pm u v vl vu:cv}{α κ:Type}{C I a b c c' d dx i1 i2 it l1 l2 z:ce}{B base h h' h1 h2:sG}{e elt iter tg value:tA}{g pins' pn:U (ce×z_)}{g':t_ M3}{ep i j kk n t' tk:ft}{d':Drawn}{ch fp ts wr:U ce}{Ac loose ps:U hO}{M:Model}{R:Result->f0->Prop}{f:cv->cv->M4 cv}{apos cpos kpos np p p2 p3 p4 pos pos' py spos tpos:KN}{op op':CmpOp}{K:fy}{st:nW}{elts es ifs:U tA}{body:U nW}{l:U ft}{lo:gV}{hi:eH gV}{pl:M4 n_}{m mA mg:hO->eH cv}{ns:U gV}{kw:U (hO×cv)}{env:FZ}{fd:B'}{outer:U FZ}{kindOf:hO->eH CZ}{sc L:Ey}{an od:eH ce}{osl sl:t_ (eH cv)}{items:t_ cv}{XP:(hO->eH cv)->sG->Prop}{YP:uF->sG->Prop}{S:sG->Prop}{bt:ft->ft->n_}{ar:ET}{cl:U (hO×ce)}{kv:ft->cv×cv}
abbrev Key:=Sum (eH gV) hO
def jZ:Key->cv->n_
 |.inl cx,v=>v ==Dg
 |.inl (O k),v=>KO k v
 |.inr x,v=>A_ x v
def VF(w:uF):Key->gV
 |.inl cx=>0xFCA86420
 |.inl (O k)=>hashInt k
 |.inr x=>hashStr w x
theorem fO:∀{k:Key}{v:cv},jZ k v=c0->(k=pw cx/\v=Dg)\/(∃i t,k=pw (O i)/\v=DY i t)\/(∃x t,k=CC x/\v=DZ x t)
 |.inl cx,v,h=>.inl ⟨Y,eq_of_beq h⟩
 |.inl (O i),v,h=>by
  obtain⟨t,e⟩:=Value.isInt_shape h;exact .inr (.inl ⟨i,t,Y,e⟩)
 |.inr x,v,h=>by
  obtain⟨t,e⟩:=Value.isStrOf_shape h;exact .inr (.inr ⟨x,t,Y,e⟩)
theorem Ur(i:gV)(t:J_):jZ (.inl (O i)) (.int i t)=c0:=by simp[jZ,KO]
theorem ZH(x:hO)(t:J_):jZ (.inr x) (.str x t)=c0:=by simp[jZ,A_]
theorem Vz(a b:gV):decide ((pw (O a):Key)=pw (O b))=(a ==b):=by grind
theorem SY(a b:hO):decide ((CC a:Key)=CC b)=decide (a=b):=by simp
theorem WB(b:gV):decide ((pw cx:Key)=pw (O b))=d_:=dV (by grind)
theorem Ry(b:hO):decide ((pw cx:Key)=CC b)=d_:=dV (by grind)
theorem zhc(a:gV):decide ((pw (O a):Key)=pw cx)=d_:=dV (by grind)
theorem Ye(a:gV)(b:hO):decide ((pw (O a):Key)=CC b)=d_:=dV (by grind)
theorem RP(a:hO):decide ((CC a:Key)=pw cx)=d_:=dV (by grind)
theorem Um(a:hO)(b:gV):decide ((CC a:Key)=pw (O b))=d_:=dV (by grind)
theorem VQ{Q:gV->f0->Prop}(h:Q 0xFCA86420 { s with toks:=s.toks+1 }):
  h_ (hY prog w) on (PySem.pyHash .none) Q no s:=by
 have a:s.TypeIs .none "NoneType" :=Y;refine b7 ?_;rw[cRoomFor];refine eM ?_;refine b7 (Eh a DU.lookup ?_);refine b7 (Eh a DU.lookup ?_);refine b7 (wpAny_callSpecialIfBoundUnlessNone?_slot a DU
  (zB DU a F.entry_NoneType_hash
   (show h_ _ _ (do ret (←mkInt 0xFCA86420)) _ _ s from wpAny_ret_mkInt ?_) (F.args_NoneType_hash_1 _)))
 exact eM h
def cy(prog:sJ)(w:uF):PySem.KeyKind prog w Key where
 is:=jZ
 hash:=VF w
 inj:=λv a b g f=>by
  rcases fO g with⟨rfl,rfl⟩ |⟨i,t,rfl,rfl⟩ |⟨x,t,rfl,rfl⟩
  ·rcases fO f with⟨rfl,e⟩ |⟨j,u,rfl,e⟩ |⟨y,u,rfl,e⟩
   ·rfl
   ·exact nomatch e
   ·exact nomatch e
  ·rcases fO f with⟨rfl,e⟩ |⟨j,u,rfl,e⟩ |⟨y,u,rfl,e⟩
   ·exact nomatch e
   ·injection e with c _;rw[c]
   ·exact nomatch e
  ·rcases fO f with⟨rfl,e⟩ |⟨j,u,rfl,e⟩ |⟨y,u,rfl,e⟩
   ·exact nomatch e
   ·exact nomatch e
   ·injection e with c _;rw[c]
 byValue:=λk v h=>by
  rcases fO h with⟨rfl,rfl⟩ |⟨i,t,rfl,rfl⟩ |⟨x,t,rfl,rfl⟩ <;> rfl
 pyHash:=λd h=>by
  rcases fO d with⟨rfl,rfl⟩ |⟨i,t,rfl,rfl⟩ |⟨x,t,rfl,rfl⟩
  ·exact VQ h
  ·exact wpAny_pyHash_int h
  ·exact wpAny_pyHash_str h
 eqBool:=λl d h=>by
  rcases fO l with⟨rfl,rfl⟩ |⟨i,t,rfl,rfl⟩ |⟨x,t,rfl,rfl⟩
  ·rcases fO d with⟨rfl,rfl⟩ |⟨j,u,rfl,rfl⟩ |⟨y,u,rfl,rfl⟩
   ·rw[fo Y]at h;exact HQ _ _ _ _ _ h
   ·rw[WB]at h;exact GQ j u _ _ _ _ h
   ·rw[Ry]at h;exact GR y u _ _ _ _ h
  ·rcases fO d with⟨rfl,rfl⟩ |⟨j,u,rfl,rfl⟩ |⟨y,u,rfl,rfl⟩
   ·rw[zhc]at h;exact GU i t _ _ _ _ h
   ·rw[Vz]at h;exact wpAny_eqBool_int h
   ·rw[Ye]at h;exact Hk i t y u _ _ _ _ h
  ·rcases fO d with⟨rfl,rfl⟩ |⟨j,u,rfl,rfl⟩ |⟨y,u,rfl,rfl⟩
   ·rw[RP]at h;exact GV x t _ _ _ _ h
   ·rw[Um]at h;exact Hl x t j u _ _ _ _ h
   ·rw[SY]at h;exact wpAny_eqBool_str h
 «strs»:=λk x t v h=>by
  rcases fO h with⟨rfl,e⟩ |⟨i,u,rfl,e⟩ |⟨y,u,rfl,e⟩
  ·exact nomatch e
  ·exact nomatch e
  ·injection e with c _
   subst c;cases v <;> rfl
theorem Zc(prog:sJ)(w:uF)(i:gV)(t:J_):(cy prog w).is (.inl (O i)) (.int i t)=c0:=Ur i t
theorem zis(prog:sJ)(w:uF)(x:hO)(t:J_):(cy prog w).is (.inr x) (.str x t)=c0:=ZH x t
inductive V where
 |non |bl (b:n_) |int (i:gV) |str (x:hO) |byt (b:t_ UInt8) |flt (b:UInt64) |ref (a:ce) |ty (n:BP)
 deriving DecidableEq
variable{acc E ys:U V}{y:V}{G:U (Key×V)}{Af:U (hO×V)}
def aD:V->cv->Prop
 |.non,u=>u=Dg
 |.bl b,u=>u=Cs b
 |.int i,u=>∃t,u=DY i t
 |.str x,u=>∃t,u=DZ x t
 |.byt b,u=>∃t,u=KP b t
 |.flt b,u=>∃t,u=HR b t
 |.ref a,u=>u=ql a
 |.ty n,u=>u=Dh n
abbrev aB:U V->U cv->Prop:=Paired aD
theorem aB.length{E:U V}{us:U cv}(r:aB E us):E.length=us.length:=Paired.length r
theorem aB.get:∀{E:U V}{us:U cv}{i:ft}{x:V},aB E us->E[i]?=O x->∃u,us[i]?=O u/\aD x u
 |_,_,_,_,.nil,e=>by simp at e
 |_,_,0,_,.cons r _,e=>by simp at e;subst e;exact⟨_,Y,r⟩
 |_,_,i+1,x,.cons _ t,e=>by
  obtain⟨u,h1,h2⟩:=aB.get t (by assumption);exact⟨u,by assumption,h2⟩
theorem aB.set{x:V}{u:cv}(r:aD x u):∀{E:U V}{us:U cv}(i:ft),aB E us->aB (E.set i x) (us.set i u)
 |_,_,_,.nil=>.nil
 |_,_,0,.cons _ t=>.cons r t
 |_,_,i+1,.cons q t=>.cons q (aB.set r i t)
theorem aB.append:∀{E ys:U V}{us a:U cv},aB E us->aB ys a->aB (E++ys) (us++a)
 |_,_,_,_,.nil,s=>s
 |_,_,_,_,.cons r t,s=>.cons r (aB.append t s)
theorem aB.take:∀{E:U V}{us:U cv}(n:ft),aB E us->aB (E.take n) (us.take n)
 |_,_,0,_=>.nil
 |_,_,_+1,.nil=>.nil
 |_,_,n+1,.cons r t=>.cons r (aB.take n t)
theorem aB.drop:∀{E:U V}{us:U cv}(n:ft),aB E us->aB (E.drop n) (us.drop n)
 |_,_,0,r=>r
 |_,_,_+1,.nil=>.nil
 |_,_,n+1,.cons _ t=>aB.drop n t
theorem aB.none_of:∀{E:U V}{us:U cv}{i:ft},aB E us->E[i]?=cx->us[i]?=cx:=λ{E us i} r e=>by
 have h1:=r.length;have h2:E.length<=i:=Em.mp e;exact Em.mpr (by omega)
def cZ:eH V->eH cv->Prop
 |some v,O u=>aD v u
 |none,cx=>GX
 |_,_=>wa
def KV  : U (κ×V)->U (κ×cv)->Prop:=Paired λ(p:κ×V)(q:κ×cv)=>p.1=q.1/\aD p.2 q.2
def kV:Key->V
 |.inl cx=>.non
 |.inl (O i)=>.int i
 |.inr x=>.str x
inductive HO where
  |lst(E:U V)
  |tup(E:U V)
  |dK(G:U (Key×V)) |dT (G:U (U Key×V))
  |set(S:gV->n_)(n:ft)
  |ins(C dx:ce)(fs:U (hO×V))
  |own(x:ce)
  |xd(fs:U (hO×V))
  |met(f x:ce)
  |rng(lo hi:gV)
  |frz(o:z_)(u:HO)
  |tbl(ps:t_ cv)
  |ext(a:sG->Prop)
abbrev Hp:=ce->eH HO
variable{H H' H1 H2:Hp}{Qe:U V->Hp->Prop}
def upd(H:Hp)(a:ce)(o:HO):Hp:=λb=>if b=a then O o else H b
theorem af{o:HO}:upd H a o a=O o:=by delta upd;rw[mu Y]
theorem ag{o:HO}(h:b≠a):upd H a o b=H b:=by delta upd;rw[ks h]
theorem bO{o u:HO}(h:H a=O o)(h':H b=O u)(d:o≠u):a≠b:=by grind
theorem aF{o:HO}(h:H a=O o)(h':H b=cx):a≠b:=by
 grind
section
variable(P:sJ)(w:uF)
def bo(H:Hp)(h:sG)(a:ce):HO->Prop
 |.lst E=>E.length<=fx/\∃(J:U cv)(n:ft),aB E J/\h.get? a=O { cls:=.type "list",data:=.seq J.toArray n }
 |.tup E=>E.length<=fx/\∃J:U cv,aB E J/\Gu h a J.toArray
 |.dK G=>G.length<=fx/\(a ==BG)=d_/\∃Z,KV G Z/\h.DictOf (cy P w) a Z
 |.dT G=>G.length<=fx/\(a ==BG)=d_/\∃E:U (U Key×ce×cv),
   Paired (λ(p:U Key×V)(q:U Key×ce×cv)=>p.1=q.1/\H q.2.1=O (.tup (p.1.map kV))/\aD p.2 q.2.2) G E/\
   ∃o es ep,h.get? a=O o/\o.ExactDict/\o.data = .dict es ep/\es.toList=E.map (entryOfKey (GY (cy P w)))/\(E.map (·.1)).Nodup
 |.set S n=>h.SetOf (intKind P w) a S n
 |.ins C dx fs=>H dx=O (.own a)/\fs.length<=1000/\dx≠a/\h.get? a=O (En C dx)/\
   ∃mA,h.Ns1 dx mA/\(∀f,cZ (fs.lookup f) (mA f))/\Hu mA (fs.map (·.1))
 |.own _=>∃o,h.get? a=O o
 |.xd fs=>∃mA,h.Ns1 a mA/\∀f,cZ (fs.lookup f) (mA f)
 |.rng lo hi=>∃t u v,h.get? a=O { cls:=.type "range",data:=.fields #[.int lo t,.int hi u,.int 1 v] }
 |.frz o u=>h.get? a=O o/\bo H h a u
 |.tbl ps=>h.get? a=O { cls:=.none,data:=.fields ps }
 |.met f x=>h.get? a=O (W.methodObj (.ref f) (.ref x))
 |.ext b=>b h/\(∃o,h.get? a=O o)/\∀h1 h2:sG,b h1->(∀o,h1.get? a=O o->h2.get? a=O o)->b h2
def Ew(H:Hp)(h:sG):Prop:=∀a o,H a=O o->bo P w H h a o
end
section
variable{o:HO}
theorem bo.lt(x:bo Aa w H h a o):a<h.objs.size:=by
 cases o with
 |lst E=>obtain⟨_,_,_,_,e⟩:=x;exact e_ e
 |tup E=>obtain⟨_,_,_,p⟩:=x;exact p.lt
 |dK G=>obtain⟨_,_,_,_,o,_,_,e,_⟩:=x;exact e_ e
 |dT G=>obtain⟨_,_,_,_,o,_,_,e,_⟩:=x;exact e_ e
 |set S n=>obtain⟨o,_,_,_,e,_⟩:=x;exact e_ e
 |ins C dx fs=>obtain⟨_,_,_,e,_⟩:=x;exact e_ e
 |own y=>obtain⟨_,e⟩:=x;exact e_ e
 |xd fs=>obtain⟨_,⟨_,_,_,e,_⟩,_⟩:=x;exact e_ e
 |rng lo hi=>obtain⟨_,_,_,e⟩:=x;exact e_ e
 |frz b u=>obtain⟨e,_⟩:=x;exact e_ e
 |tbl ps=>exact e_ (show h.get? a=O _ from x)
 |met f y=>exact e_ (show h.get? a=O _ from x)
 |ext c=>obtain⟨_,⟨_,e⟩,_⟩:=x;exact e_ e
theorem Paired.mapP{α e:Type}{F G:α->e->Prop}:∀{c:U α}{d:U e},Paired F c d->(∀a b,F a b->G a b)->Paired G c d
 |_,_,.nil,_=>.nil
 |_,_,.cons r t,f=>.cons (f _ _ r) (Paired.mapP t f)
theorem bo.stay(x:bo Aa w H h a o)(k:∀b u,(b=a\/H b=O (.own a))->h.get? b=O u->h'.get? b=O u)(i:∀b,H b=O (.own a)->H' b=O (.own a))(j:∀b E,H b=O (.tup E)->H' b=O (.tup E)):bo Aa w H' h' a o:=by
 induction o with
 |lst E=>obtain⟨z,J,n,r,e⟩:=x;exact⟨z,J,n,r,k _ _ (.inl Y) e⟩
 |tup E=>obtain⟨z,J,r,g,e,c⟩:=x;exact⟨z,J,r,g,k _ _ (.inl Y) e,c⟩
 |dK G=>obtain⟨z,y,Z,r,g,es,ep,e,c⟩:=x;exact⟨z,y,Z,r,g,es,ep,k _ _ (.inl Y) e,c⟩
 |dT G=>
  obtain⟨z,y,E,r,g,es,ep,e,c⟩:=x;exact⟨z,y,E,Paired.mapP r λp q z=>⟨z.1,j _ _ z.2.1,z.2.2⟩,g,es,ep,k _ _ (.inl Y) e,c⟩
 |set S n=>obtain⟨g,es,ep,t,e,c⟩:=x;exact⟨g,es,ep,t,k _ _ (.inl Y) e,c⟩
 |ins C dx fs=>
  obtain⟨d,z,ne,e,mA,⟨od,es,ep,l,c⟩,r⟩:=x;exact⟨i _ d,z,ne,k _ _ (.inl Y) e,mA,⟨od,es,ep,k _ _ (.inr d) l,c⟩,r⟩
 |own y=>obtain⟨g,e⟩:=x;exact⟨g,k _ _ (.inl Y) e⟩
 |xd fs=>obtain⟨mA,⟨od,es,ep,e,c⟩,r⟩:=x;exact⟨mA,⟨od,es,ep,k _ _ (.inl Y) e,c⟩,r⟩
 |rng lo hi=>obtain⟨t,u,v,e⟩:=x;exact⟨t,u,v,k _ _ (.inl Y) e⟩
 |frz g u m=>obtain⟨e,q⟩:=x;exact⟨k _ _ (.inl Y) e,m q⟩
 |tbl ps=>
  have e:=x;exact k a _ (.inl Y) e
 |met f y=>
  have e:=x;exact k a _ (.inl Y) e
 |ext s=>obtain⟨p,⟨o,e⟩,st⟩:=x;exact⟨st _ _ p λo q=>k _ _ (.inl Y) q,⟨o,k _ _ (.inl Y) e⟩,st⟩
theorem Ew.lt(x:Ew Aa w H h)(e:H a=O o):a<h.objs.size:=(x a o e).lt
theorem Ew.fresh(x:Ew Aa w H h)(e:h.objs.size<=a):H a=cx:=by
 cases q:H a with
 |none=>rfl
 |some u=>exact hQ (hJ (x.lt q) e) (rc _)
theorem Ew.kept(x:Ew Aa w H h)(k:∀b u,h.get? b=O u->h'.get? b=O u):Ew Aa w H h':=λa o e=>
 (x a o e).stay (λb u _ q=>k b u q) (λ_ q=>q) λ_ _ q=>q
theorem Ew.laid(x:Ew Aa w H h)(k:∀b u,h.get? b=O u->h'.get? b=O u)(g:h.objs.size<=a)(new:bo Aa w (upd H a o) h' a o):Ew Aa w (upd H a o) h':=λb u e=>by
 have d:=x.fresh g;by_cases f:b=a
 ·subst f;rw[af]at e;grind
 ·rw[ag f]at e;exact (x b u e).stay (λc v _ q=>k c v q) (λc q=>by rw[ag (aF q d)];exact q) λc E q=>by exact (ag (aF q d)) ▸ q
end
def Rd(H:Hp)(a:ce)(u:HO):Prop:=H a=O u\/∃o,H a=O (.frz o u)
theorem Rd.of{u:HO}(h:H a=O u):Rd H a u:=.inl h
theorem Rd.ok{u:HO}(r:Rd H a u)(x:Ew Aa w H h):bo Aa w H h a u:=by
 rcases r with r |⟨o,r⟩
 ·exact x a u r
 ·obtain⟨_,q⟩:=x a _ r;exact q
def M2:eH HO->Prop
 |some (.lst _)=>GX
 |some (.dK _)=>GX
 |some (.dT _)=>GX
 |some (.set _ _)=>GX
 |some (.ins _ _ _)=>GX
 |some (.ext _)=>GX
 |_=>wa
section
variable{x e:ce}{a:HO}
theorem Ew.write(ok:Ew Aa w H h)(g:M2 (H x))(p:e=x\/H e=O (.own x))(k:∀b u,b≠e->h.get? b=O u->h'.get? b=O u)(i:∃u,h'.get? e=O u)(new:bo Aa w (upd H x a) h' x a):Ew Aa w (upd H x a) h':=λb u q=>by
 have d:∀c y,H c=O (.own y)->c≠x:=λc y r z=>by subst z;rw[r]at g;exact g
 have f:∀c E,H c=O (.tup E)->c≠x:=λc E r z=>by subst z;rw[r]at g;exact g
 by_cases l:b=x
 ·subst l;rw[af]at q;grind
 ·rw[ag l]at q;by_cases j:b=e
  ·have m:H b=O (.own x):=by
    grind
   rw[q]at m;cases m;obtain⟨v,n⟩:=i;exact⟨v,by exact j ▸ n⟩
  ·refine (ok b u q).stay (λc v s r=>k c v ?_ r) (λc r=>by rw[ag (d c b r)];exact r) λc E r=>by exact (ag (f c E r)) ▸ r
   grind
end
structure Un(fs ex:U ce)(H H':Hp)(h h':sG):Prop where
 keep:∀b o,h.get? b=O o->H b=cx->b∉fs->b∉ex->h'.get? b=O o
 slot:∀b o,h.get? b=O o->H b=cx->b∈fs->b∉ex->∃sl,h'.get? b=O { o with slots:=sl }
 free:∀b o,h.get? b=O o->H b=cx->b∉ex->H' b=cx
 there:∀b o,h.get? b=O o->b∉ex->∃o',h'.get? b=O o'
 tups:∀b xs,H b=O (.tup xs)->H' b=O (.tup xs)
 frzs:∀b o u,H b=O (.frz o u)->H' b=O (.frz o u)
 tbls:∀b ps,H b=O (.tbl ps)->∃more,H' b=O (.tbl (ps++more))
section
variable{d g f i:U ce}{x e:ce}{o:HO}
theorem Un.any(u:Un d f H H1 h h1){a:z_}(q:h.get? b=O a)(n:H b=cx)(c:b∉f):∃sl,h1.get? b=O { a with slots:=sl }:=by
 by_cases e:b∈d
 ·exact u.slot b a q n e c
 ·exact⟨a.slots,u.keep b a q n e c⟩
theorem Un.trans(a:Un d f H H1 h h1)(b:Un d f H1 H2 h1 h2):Un d f H H2 h h2 where
 keep:=λc e q n j g=>b.keep c e (a.keep c e q n j g) (a.free c e q n g) j g
 slot:=λc e q n j g=>by
  obtain⟨sl,i⟩:=a.slot c e q n j g;obtain⟨l,m⟩:=b.slot c _ i (a.free c e q n g) j g;exact⟨l,m⟩
 free:=λc e q n g=>by
  obtain⟨p,i⟩:=a.there c e q g;exact b.free c p i (a.free c e q n g) g
 there:=λc e q g=>by
  obtain⟨p,i⟩:=a.there c e q g;exact b.there c p i g
 tups:=λc E q=>b.tups c E (a.tups c E q)
 frzs:=λc e E q=>b.frzs c e E (a.frzs c e E q)
 tbls:=λc ps q=>by
  obtain⟨r,i⟩:=a.tbls c ps q;obtain⟨s,m⟩:=b.tbls c _ i;exact⟨r++s,by rw[m,Ix]⟩
theorem Un.kept(k:∀b u,h.get? b=O u->h'.get? b=O u):Un d f H H h h':=
 ⟨λb a q _ _ _=>k b a q,λb a q _ _ _=>⟨a.slots,k b a q⟩,λ_ _ _ n _=>n,λb a q _=>⟨a,k b a q⟩,λ_ _ q=>q,λ_ _ _ q=>q,λ_ ps q=>⟨#[],by simp_all⟩⟩
theorem Un.refl:Un d f H H h h:=Un.kept λ_ _ q=>q
theorem Un.laid(k:∀b u,h.get? b=O u->h'.get? b=O u)(e:h.objs.size<=a)(c:H a=cx):Un d f H (upd H a o) h h' where
 keep:=λb u q _ _ _=>k b u q
 slot:=λb u q _ _ _=>⟨u.slots,k b u q⟩
 free:=λb u q n _=>by rw[ag (g_ (hJ (e_ q) e))];exact n
 there:=λb u q _=>⟨u,k b u q⟩
 tups:=λb E q=>by rw[ag (aF q c)];exact q
 frzs:=λb u E q=>by exact (ag (aF q c)) ▸ q
 tbls:=λb ps q=>⟨#[],by rw[ag (aF q c),q];simp⟩
theorem Un.write(c:M2 (H x))(l:e=x\/H e=O (.own x))(k:∀b u,b≠e->h.get? b=O u->h'.get? b=O u)(i:∃u,h'.get? e=O u):Un d f H (upd H x o) h h':=by
 have j:∀b,H b=cx->b≠x:=λb n z=>by subst z;rw[n]at c;exact c
 have g:∀b,H b=cx->b≠e:=λb n z=>by
  grind
 have a:∀b u,H b=O u->¬ M2 (O u)->b≠x:=λb u q m z=>by grind
 refine⟨λb u q n _ _=>k b u (g b n) q,λb u q n _ _=>⟨u.slots,k b u (g b n) q⟩,λb u q n _=>by exact (ag (j b n)) ▸ n,λb u q _=>?_,
  λb E q=>by exact (ag (a b _ q λz=>z)) ▸ q,λb u E q=>by exact (ag (a b _ q λz=>z)) ▸ q,λb ps q=>⟨#[],by rw[ag (a b _ q λz=>z),q];simp⟩⟩
 grind
theorem Un.mono(u:Un d f H H1 h h1)(j:∀b∈d,b∈g)(e:∀b∈f,b∈i):Un g i H H1 h h1:=
 ⟨λb c q n l a=>u.keep b c q n (λz=>l (j b z)) λz=>a (e b z),λ_ _ q n _ a=>u.any q n λz=>a (e _ z),λb c q n a=>u.free b c q n λz=>a (e b z),λb c q a=>u.there b c q λz=>a (e b z),u.tups,u.frzs,u.tbls⟩
end
def MU(h:sG)(H:Hp):U ce:=(rd h.objs.size).filter λa=>(H a).isSome
def im(h:sG)(H:Hp):sG:=Kq h (MU h H)
theorem Xi(h:sG)(H:Hp):(im h H).objs.size=h.objs.size:=W.hideAll_size _ _
theorem rj{o:z_}(e:h.get? b=O o)(n:H b=cx):(im h H).get? b=O o:=
 LJ _ e λa=>by
  have q:=(Di.mp a).2
  simp_all
theorem Ut{o:z_}(e:(im h H).get? b=O o):h.get? b=O o/\H b=cx:=by
 have a:=M5 (MU h H) e;refine⟨a,?_⟩;cases q:H b with
 |none=>rfl
 |some x=>
  have c:b∈MU h H:=Di.mpr ⟨Dw.mpr (e_ a),by simp[q]⟩;have z:(im h H).get? b=cx:=W.hideAll_none (MU h H) c
  grind
def TU(g h:sG)(Af:ce):U (ce×z_):=(rd h.objs.size).filterMap λa=>if a=Af\/(g.get? a).isSome=c0 then cx else (h.get? a).map λo=>(a,o)
def cX(g h:sG)(Af d:ce):U (ce×z_):=(TU g h Af).filter λp=>decide (p.1≠d)
structure Mod(K:fy)(mg:hO->eH cv)(base:sG):Prop where
 kin:K.In base
 glob:base.Ns B9 mg
 blt:∃mb,base.Ns Fb mb/\∀x:hO,x ≠ "__name__" -> mb x=Dj x
 nolimit:base.NoLimit
structure Cx where
 prog:sJ
 w:uF
 K:fy
 mg:hO->eH cv
 base:sG
 A:BF
 N:U hO
 s₀:f0
 H₀:Hp
 env:FZ
 outer:U FZ
 stack:U FZ
 ex:U ce
 fn:hO->n_
 calm:n_
 pn:U (ce×z_)
 xe:cv->f0->Prop
variable{X:Cx}
def F5(l:U FZ):U ce:=l.filterMap (·.frame)
abbrev Cx.fs(X:Cx):U ce:=F5 X.outer
def Mx(sc:Ey)(x:hO):Prop:=sc.names.lookup x=O .local\/sc.names.lookup x=O .cell\/sc.names.lookup x=O .free
def Loc(sc:Ey)(x:hO):Prop:=sc.names.lookup x=O .local\/sc.names.lookup x=O .cell
def vB(env:FZ)(h:sG)(m:hO->eH cv)(x:hO)(u:cv):Prop:=
 (env.kindOf x=O .local/\m x=O u)\/((env.kindOf x=O .cell\/env.kindOf x=O .free)/\∃c,env.cells.lookup x=O c/\h.IsCell c (O u))
structure Cx.Ok(X:Cx):Prop where
 mod:Mod X.K X.mg X.base
 kind:X.env.scope.kind = .function
 glob:X.env.globals=B9
 blt:X.env.builtins=Fb
 above:X.s₀.heap.objs.size<=X.env.locals
 inj:∀x y c,X.env.cells.lookup x=O c->X.env.cells.lookup y=O c->x=y
 has:∀x,(X.env.kindOf x=O .cell\/X.env.kindOf x=O .free)->∃c,X.env.cells.lookup x=O c
 cab:∀x c,X.fn x=c0->X.env.cells.lookup x=O c->X.s₀.heap.objs.size<=c
 hd:X.calm=c0->X.A.handled=cx
 frames:X.A.frames=O X.stack
 stk:X.stack=X.outer\/(X.stack=X.env::X.outer/\X.env.frame=O X.env.locals)
 exf:∀b∈X.ex,b≠X.env.locals/\∀x c,X.env.cells.lookup x=O c->c≠b
 bs:∀b o,X.base.get? b=O o->X.s₀.heap.get? b=O o/\X.H₀ b=cx
 bsz:X.base.objs.size<=X.s₀.heap.objs.size
 noex:∀b o,X.base.get? b=O o->b∉X.ex
 exfs:∀b∈X.ex,b∉X.fs
 funs:X.s₀.heap.FunFrames X.base X.outer
 frf:∀b∈X.fs,X.H₀ b=cx
structure Inv(X:Cx)(pins:U (ce×z_))(σ:U (eH V))(H:Hp)(s:f0):Prop where
 ok:X.Ok
 os:s.os=X.s₀.os
 bare:Fc s.gens
 base:Un X.fs X.ex X.H₀ H X.s₀.heap s.heap
 loc:∃m,s.heap.Ns X.env.locals m/\∀(i:ft)(x:hO)(v:V),X.N[i]?=O x->σ[i]?=O (O v)->Mx X.env.scope x->∃u,aD v u/\vB X.env s.heap m x u
 cell:∀x c,X.env.cells.lookup x=O c->∃v,s.heap.IsCell c v
 free:H X.env.locals=cx
 freeC:∀x c,X.env.cells.lookup x=O c->H c=cx
 pin:∀p∈X.pn++pins,s.heap.get? p.1=O p.2/\H p.1=cx/\p.1≠X.env.locals/\p.1∉X.fs/\∀v,p.2.data≠.cell v
 hok:Ew X.prog X.w H s.heap
 len:σ.length=X.N.length
section
variable{f:U (eH V)}
theorem Cx.Ok.nofr(ok:X.Ok){o:z_}(e:X.base.get? b=O o):b∉X.fs:=λa=>by
 have:=(ok.funs.mem a).1
 grind
theorem Inv.bs(I:Inv X g f H s):∀b o,X.base.get? b=O o->s.heap.get? b=O o/\H b=cx:=λb o e=>
 ⟨I.base.keep b o (I.ok.bs b o e).1 (I.ok.bs b o e).2 (I.ok.nofr e) (I.ok.noex b o e),I.base.free b o (I.ok.bs b o e).1 (I.ok.bs b o e).2 (I.ok.noex b o e)⟩
theorem Inv.bk(I:Inv X g f H s):∀b o,X.base.get? b=O o->s.heap.get? b=O o:=λb o e=>(I.bs b o e).1
theorem Inv.mod(I:Inv X g f H s):Mod X.K X.mg X.base:=I.ok.mod
theorem Inv.kIn(I:Inv X g f H s):X.K.In s.heap:=I.ok.mod.kin.keeps I.bk
theorem Inv.nolimit(I:Inv X g f H s):s.heap.NoLimit:=I.ok.mod.nolimit.keeps I.bk
theorem Inv.fr(I:Inv X g f H s):∃m,Fr X.base X.env.locals s.heap m:=
 let⟨m,a,_⟩:=I.loc
 ⟨m,a,I.bk,jE I.ok.bsz I.ok.above⟩
theorem Inv.lt(I:Inv X g f H s):X.env.locals<s.heap.objs.size:=by obtain⟨_,a,_⟩:=I.loc;exact a.lt
theorem Inv.sz(I:Inv X g f H s):X.s₀.heap.objs.size<=s.heap.objs.size:=jE I.ok.above (f' I.lt)
theorem Inv.nofs(I:Inv X g f H s)(h:s.heap.objs.size<=a):a∉X.fs:=λb=>by
 obtain⟨_,o,c,_⟩:=I.ok.funs.mem b;exact hQ (hJ (e_ c) (jE I.sz h)) (rc _)
theorem Inv.cne(I:Inv X g f H s):∀x c,X.env.cells.lookup x=O c->c≠X.env.locals:=λx c e z=>by
 obtain⟨v,o,d,hd⟩:=I.cell x c e;obtain⟨m,⟨h,es,ep,a,b,_⟩,_⟩:=I.loc
 grind
theorem Inv.funs(I:Inv X g f H s):s.heap.FunFrames X.base X.outer:=by
 have all:∀(l),(∀b∈F5 l,b∈X.fs)->X.s₀.heap.FunFrames X.base l->s.heap.FunFrames X.base l:=by
  intro l;induction l with
  |nil=>intro _ _;trivial
  |cons env r i=>
   intro h j;obtain⟨m,⟨Af,o,a,n,p,hd⟩,q⟩:=j;have c:=h Af (by delta F5;simp only[Fm,a];exact j_);obtain⟨sl,e⟩:=I.base.slot Af o p (I.ok.frf Af c) c λz=>I.ok.exfs Af z c;exact⟨m,⟨Af,_,a,n,e,hd⟩,i (λb d=>h b (by delta F5;simp only[Fm,a];exact hE _ d)) q⟩
 exact all X.outer (λ_ d=>d) I.ok.funs
theorem Inv.stack(I:Inv X g f H s):s.heap.FunFrames X.base X.stack:=by
 rcases I.ok.stk with e |⟨e,a⟩
 ·rw[e];exact I.funs
 ·rw[e];obtain⟨m,b,_⟩:=I.loc;refine .cons (by rw[I.ok.kind];decide) a b ?_ I.funs;exact Heap.get?_none_of_le (jE I.ok.bsz I.ok.above)
theorem Inv.stkSub(I:Inv X g f H s):∀b∈F5 X.stack,b∈X.env.locals::X.fs:=λb a=>by
 rcases I.ok.stk with e |⟨e,c⟩
 ·simp_all
 ·rw[e]at a
  delta F5 at a
  simp only[Fm,c]at a;exact a
theorem Inv.stkFree(I:Inv X g f H s):∀b∈F5 X.stack,H b=cx:=λb a=>by
 rcases f_.mp (I.stkSub b a) with e |a
 ·exact e ▸ I.free
 ·obtain⟨_,o,c,_⟩:=I.ok.funs.mem a;exact I.base.free b o c (I.ok.frf b a) λz=>I.ok.exfs b z a
theorem Inv.step(I:Inv X g f H s)(h:∀b∈ch,(b∈X.ex\/X.s₀.heap.objs.size<=b)/\b≠X.env.locals/\(∀x c,X.env.cells.lookup x=O c->c≠b)/\∀p∈X.pn++g,p.1≠b)(keep:∀b o,b≠X.env.locals->b∉X.fs->b∉ch->s.heap.get? b=O o->H b=cx->h'.get? b=O o)(B:∀b o,b≠X.env.locals->b∈X.fs->b∉ch->s.heap.get? b=O o->H b=cx->∃sl,h'.get? b=O { o with slots:=sl })(free:∀b o,b∉ch->s.heap.get? b=O o->H b=cx->H' b=cx)(there:∀b o,b∉ch->s.heap.get? b=O o->∃G,h'.get? b=O G)(J:∀b E,H b=O (.tup E)->H' b=O (.tup E))(K:∀b o u,H b=O (.frz o u)->H' b=O (.frz o u))(L:∀b ps,H b=O (.tbl ps)->∃M,H' b=O (.tbl (ps++M)))(ns:∀m,s.heap.Ns X.env.locals m->h'.Ns X.env.locals m)(Q:Ew X.prog X.w H' h')(hg:Fc g'):
  Inv X g f H' { s with heap:=h',gens:=g',drawn:=d',toks:=t' }:=by
 have N:∀b o,X.s₀.heap.get? b=O o->b≠X.env.locals:=λb o e=>g_ (hJ (e_ e) I.ok.above);have y:∀b o,X.s₀.heap.get? b=O o->b∉X.ex->b∉ch:=λb o e a C=>by
  rcases (h b C).1 with z |z
  ·exact a z
  ·exact hQ (hJ (e_ e) z) (rc _)
 have j:∀x c,X.env.cells.lookup x=O c->∀v,s.heap.IsCell c v->h'.IsCell c v:=by
  rintro x c e v ⟨o,D,hd⟩;have w:=λz=>(h c z).2.2.1 x c e Y;by_cases S:c∈X.fs
  ·obtain⟨sl,q⟩:=B c o (I.cne x c e) S w D (I.freeC x c e);exact⟨_,q,hd⟩
  ·exact⟨o,keep c o (I.cne x c e) S w D (I.freeC x c e),hd⟩
 refine⟨I.ok,I.os,hg,⟨λb o e n C a=>?_,λb o e n C a=>?_,λb o e n a=>?_,λb o e a=>?_,λb E e=>J b E (I.base.tups b E e),λb o E e=>K b o E (I.base.frzs b o E e),λb ps e=>?_⟩,?_,λx c e=>?_,?_,λx c e=>?_,λp T=>?_,Q,I.len⟩
 ·exact keep b o (N b o e) C (y b o e a) (I.base.keep b o e n C a) (I.base.free b o e n a)
 ·obtain⟨sl,A⟩:=I.base.slot b o e n C a;obtain⟨R,P⟩:=B b _ (N b o e) C (y b o e a) A (I.base.free b o e n a);exact⟨R,P⟩
 ·obtain⟨G,A⟩:=I.base.there b o e a;exact free b G (y b o e a) A (I.base.free b o e n a)
 ·obtain⟨G,A⟩:=I.base.there b o e a;exact there b G (y b o e a) A
 ·obtain⟨m1,A⟩:=I.base.tbls b ps e;obtain⟨m2,P⟩:=L b _ A;exact⟨m1++m2,by rw[P,Ix]⟩
 ·obtain⟨m,hn,hl⟩:=I.loc;refine⟨m,ns m hn,λi x v A P e3=>?_⟩;obtain⟨u,r,l⟩:=hl i x v A P e3;refine⟨u,r,?_⟩;rcases l with l |⟨k,c,e,z⟩
  ·exact .inl l
  ·exact .inr ⟨k,c,e,j x c e _ z⟩
 ·obtain⟨v,z⟩:=I.cell x c e;exact⟨v,j x c e v z⟩
 ·obtain⟨m,⟨o,_,_,D,_⟩,_⟩:=I.loc;exact free _ o (λz=>(h _ z).2.1 Y) D I.free
 ·obtain⟨v,o,D,hd⟩:=I.cell x c e;exact free c o (λz=>(h c z).2.2.1 x c e Y) D (I.freeC x c e)
 ·obtain⟨e,n,ne,Z,d⟩:=I.pin p T;have w:=λz=>(h p.1 z).2.2.2 p T Y;exact⟨keep p.1 p.2 ne Z w e n,free p.1 p.2 w e n,ne,Z,d⟩
theorem Inv.un(I:Inv X g f H s)(u:Un X.fs [] H H' s.heap h')(c:Ew X.prog X.w H' h'):Inv X g f H' { s with heap:=h',toks:=t' }:=by
 obtain⟨m,⟨o,es,ep,j,r⟩,_⟩:=id I.loc;obtain⟨sl,l⟩:=u.any j I.free (by simp);exact I.step (g':=s.gens) (d':=s.drawn) (ch:=[]) (λ_ z=>nomatch z) (λb o _ d _ e n=>u.keep b o e n d (by simp)) (λb o _ d _ e n=>u.slot b o e n d (by simp)) (λb o _ e n=>u.free b o e n (by simp)) (λb o _ e=>u.there b o e (by simp)) u.tups u.frzs u.tbls (λv p=>by
  obtain⟨w,h,i,a,q⟩:=p;rw[j]at a;cases a;exact⟨_,h,i,l,q⟩) c I.bare
theorem Inv.call(I:Inv X g f H s)(u:Un (F5 X.stack) ch H H' s.heap h')(i:Ew X.prog X.w H' h')(w:Fc g')(d:∀b∈ch,(b∈X.ex\/X.s₀.heap.objs.size<=b)/\b≠X.env.locals/\(∀x c,X.env.cells.lookup x=O c->c≠b)/\∀p∈X.pn++g,p.1≠b):
  Inv X g f H' { s with heap:=h',gens:=g',drawn:=d',toks:=t' }:=by
 obtain⟨m,⟨o,es,ep,v,r⟩,_⟩:=id I.loc;obtain⟨sl,j⟩:=u.any v I.free λz=>(d _ z).2.1 Y;exact I.step d (λb o j y a e n=>u.keep b o e n (λz=>(f_.mp (I.stkSub b z)).elim j y) a) (λb o _ _ a e n=>u.any e n a) (λb o a e n=>u.free b o e n a) (λb o a e=>u.there b o e a) u.tups u.frzs u.tbls (λC A=>by
  obtain⟨D,l,q,h,B⟩:=A;rw[v]at h;cases h;exact⟨_,l,q,j,B⟩) i w
theorem Inv.turned(I:Inv X g f H s)(k:∀b o,b≠it->s.heap.get? b=O o->h'.get? b=O o)(y:H it=cx)(h:it≠X.env.locals)(h1:it∈X.ex\/X.s₀.heap.objs.size<=it)(h2:∀x c,X.env.cells.lookup x=O c->c≠it)(i:∀p∈X.pn++g,p.1≠it):Inv X g f H { s with heap:=h',toks:=t' }:=by
 have d:∀b u,H b=O u->b≠it:=λb u e z=>by grind
 refine I.step (g':=s.gens) (d':=s.drawn) (ch:=[it]) (λb j=>?_) (λb o _ _ a e _=>k b o (λz=>a (by simp[z])) e) (λb o _ _ a e _=>⟨o.slots,k b o (λz=>a (by simp[z])) e⟩) (λ_ _ _ _ n=>n)
  (λb o a e=>⟨o,k b o (λz=>a (by simp[z])) e⟩) (λ_ _ e=>e) (λ_ _ _ e=>e) (λb ps e=>⟨#[],by simp_all⟩) (λm l=>?_) (λb u e=>?_) I.bare
 ·have e:b=it:=by simpa using j
  subst e;exact⟨h1,h,h2,i⟩
 ·obtain⟨o,es,ep,w,r⟩:=l;exact⟨o,es,ep,k _ o (v_ h) w,r⟩
 ·refine (I.hok b u e).stay (λc v a q=>k c v ?_ q) (λ_ q=>q) λ_ _ q=>q;rcases a with z |z
  ·exact z ▸ (d b u e)
  ·exact d c _ z
theorem Inv.tok(I:Inv X g f H s)(t:ft):Inv X g f H { s with toks:=t }:=I.un (h':=s.heap) (t':=t) Un.refl I.hok
theorem Inv.kept{t':ft}(I:Inv X g f H s)(k:∀b u,s.heap.get? b=O u->h'.get? b=O u):Inv X g f H { s with heap:=h',toks:=t' }:=I.un (Un.kept k) (I.hok.kept k)
theorem Inv.laid{a:ce}{o:HO}{t':ft}(I:Inv X g f H s)(k:∀b u,s.heap.get? b=O u->h'.get? b=O u)(c:s.heap.objs.size<=a)(new:bo X.prog X.w (upd H a o) h' a o):
  Inv X g f (upd H a o) { s with heap:=h',toks:=t' }:=I.un (Un.laid k c (I.hok.fresh c)) (I.hok.laid k c new)
theorem Inv.write{x e:ce}{o:HO}{t':ft}(I:Inv X g f H s)(c:M2 (H x))(d:e=x\/H e=O (.own x))(k:∀b u,b≠e->s.heap.get? b=O u->h'.get? b=O u)(a:∃u,h'.get? e=O u)(new:bo X.prog X.w (upd H x o) h' x o):Inv X g f (upd H x o) { s with heap:=h',toks:=t' }:=I.un (Un.write c d k a) (I.hok.write c d k a new)
theorem Inv.weak{a:U (eH V)}(I:Inv X g f H s)(c:a.length=f.length)(w:∀(i:ft) v,a[i]?=O (O v)->f[i]?=O (O v)):Inv X g a H s:=
 ⟨I.ok,I.os,I.bare,I.base,let⟨m,d,b⟩:=I.loc;⟨m,d,λi x v e h j=>b i x v e (w i v h) j⟩,I.cell,I.free,I.freeC,I.pin,I.hok,c.trans I.len⟩
theorem Inv.pins_of(I:Inv X g f H s)(h:∀p∈pins',s.heap.get? p.1=O p.2/\H p.1=cx/\p.1≠X.env.locals/\p.1∉X.fs/\∀v,p.2.data≠.cell v):Inv X pins' f H s:=
 ⟨I.ok,I.os,I.bare,I.base,I.loc,I.cell,I.free,I.freeC,λp a=>(pA.mp a).elim (λz=>I.pin p (DP _ z)) (h p),I.hok,I.len⟩
theorem e7(c:Ac.Nodup)(a:Ac[i]?=O x)(b:Ac[j]?=O x):i=j:=by
 obtain⟨h1,d⟩:=cs.mp a;obtain⟨h2,e⟩:=cs.mp b;exact (Jo c).mp (d.trans e.symm)
theorem P6{v:V}{Q:J9->f0->Prop}(I:Inv X g f H s)(hN:X.N.Nodup)(hi:X.N[i]?=O x)(C:Loc X.env.scope x)(r:aD v u)(h:∀s',Inv X g (f.set i (O v)) H s'->(∃a,wh a s.heap s'.heap/\(a=X.env.locals\/X.env.cells.lookup x=O a))->Q () s')(hf:X.fn x=c0\/X.env.scope.names.lookup x=O .local:=by first |exact .inl Y |exact .inr Y |assumption):h_ M on (Lj X.env x u) Q no s:=by
 obtain⟨m,hn,hl⟩:=id I.loc;have P:(X.env.scope.kind == .class || (X.env.scope.kind == .module && X.env.locals !=X.env.globals))=d_:=by rw[I.ok.kind];rfl
 have G:i<f.length:=by rw[I.len];exact (cs.mp hi).1
 have cne:=I.cne;have w:∀{a:ce}{h':sG},(∃o,s.heap.get? a=O o/\H a=cx)->wh a s.heap h'->Ew X.prog X.w H h':=λ{a h'} ha l b ob e=>by
  obtain⟨_,_,D⟩:=ha;refine (I.hok b ob e).stay (λc w' B q=>(l.2 c ?_).trans q) (λ_ q=>q) λ_ _ q=>q;rintro rfl;rcases B with rfl |B
  ·rw[D]at e;cases e
  ·rw[D]at B;cases B
 rcases C with J |J
 ·refine Jp J hn (λh' A0 l=>?_) P;obtain⟨oL,_,_,A1,_⟩:=id hn;refine h _ ⟨I.ok,I.os,I.bare,⟨λb o e n K C=>?_,λb o e n K C=>?_,I.base.free,λb o e C=>?_,I.base.tups,I.base.frzs,I.base.tbls⟩,⟨_,A0,λj y v' A E e3=>?_⟩,λy c e=>?_,I.free,I.freeC,λp hp=>?_,w ⟨oL,A1,I.free⟩ l,by simpa using I.len⟩ ⟨_,l,.inl Y⟩
  ·exact (l.2 b (g_ (hJ (e_ e) I.ok.above))).trans (I.base.keep b o e n K C)
  ·obtain⟨sl,A⟩:=I.base.slot b o e n K C;exact⟨sl,(l.2 b (g_ (hJ (e_ e) I.ok.above))).trans A⟩
  ·obtain⟨o',A⟩:=I.base.there b o e C;exact⟨o',(l.2 b (g_ (hJ (e_ e) I.ok.above))).trans A⟩
  ·by_cases L:j=i
   ·subst L;rw[hi]at A;cases A;rw[EA G]at E;cases E;exact⟨u,r,.inl ⟨J,by simp⟩⟩
   ·rw[DQ (v_ L)]at E;obtain⟨u',r',q⟩:=hl j y v' A E e3;refine⟨u',r',?_⟩;rcases q with⟨k,e⟩ |⟨k,c,e,z⟩
    ·refine .inl ⟨k,?_⟩;have:y≠x:=λe=>L (e7 hN A (e ▸ hi));simp[this,e]
    ·exact .inr ⟨k,c,e,z.sameBut l (cne y c e)⟩
  ·obtain⟨w',z⟩:=I.cell y c e;exact⟨w',z.sameBut l (cne y c e)⟩
  ·obtain⟨e,n,ne,nf,d⟩:=I.pin p hp;exact⟨(l.2 p.1 ne).trans e,n,ne,nf,d⟩
 ·have N:X.fn x=c0:=by
   rcases hf with z |z
   ·exact z
   ·rw[z]at J;cases J
  obtain⟨c,B⟩:=I.ok.has x (.inl J);obtain⟨w',z⟩:=I.cell x c B;refine JA I.ok.kind J B z (λh' R l=>?_);obtain⟨oc,S,T⟩:=id z;refine h { s with heap:=h' } ⟨I.ok,I.os,I.bare,⟨λb o e n K C=>?_,λb o e n K C=>?_,I.base.free,λb o e C=>?_,I.base.tups,I.base.frzs,I.base.tbls⟩,⟨m,hn.sameBut l (v_ (cne x c B)),λj y v' A E e3=>?_⟩,λy c' e=>?_,I.free,I.freeC,λp hp=>?_,w ⟨oc,S,I.freeC x c B⟩ l,by simpa using I.len⟩ ⟨c,l,.inr B⟩
  ·exact (l.2 b (g_ (hJ (e_ e) (I.ok.cab x c N B)))).trans (I.base.keep b o e n K C)
  ·obtain⟨sl,A⟩:=I.base.slot b o e n K C;exact⟨sl,(l.2 b (g_ (hJ (e_ e) (I.ok.cab x c N B)))).trans A⟩
  ·obtain⟨o',A⟩:=I.base.there b o e C;exact⟨o',(l.2 b (g_ (hJ (e_ e) (I.ok.cab x c N B)))).trans A⟩
  ·by_cases L:j=i
   ·subst L;rw[hi]at A;cases A;rw[EA G]at E;cases E;exact⟨u,r,.inr ⟨.inl J,c,B,R⟩⟩
   ·rw[DQ (v_ L)]at E;obtain⟨u',r',q⟩:=hl j y v' A E e3;refine⟨u',r',?_⟩;rcases q with q |⟨k,c',e,z'⟩
    ·exact .inl q
    ·refine .inr ⟨k,c',e,z'.sameBut l ?_⟩;rintro rfl;exact L (e7 hN A (I.ok.inj _ _ _ e B ▸ hi))
  ·by_cases Z:c'=c
   ·subst Z;exact⟨_,R⟩
   ·obtain⟨w2,z2⟩:=I.cell y c' e;exact⟨w2,z2.sameBut l Z⟩
  ·obtain⟨e,n,ne,nf,d⟩:=I.pin p hp;refine⟨(l.2 p.1 ?_).trans e,n,ne,nf,d⟩;intro q;rw[q,S]at e;exact d w' (by exact (kn e) ▸ T)
theorem lS{v:V}{Q:J9->f0->Prop}(I:Inv X g f H s)(a:X.N.Nodup)(hi:X.N[i]?=O x)(b:Loc X.env.scope x)(r:aD v u)(h:∀s',Inv X g (f.set i (O v)) H s'->Q () s')(c:X.fn x=c0\/X.env.scope.names.lookup x=O .local:=by first |exact .inl Y |exact .inr Y |assumption):h_ M on (Lj X.env x u) Q no s:=
 P6 I a hi b r (λs' d _=>h s' d) c
theorem Inv.call'(I:Inv X g f H s)(h:s'.os=s.os)(u:Un (F5 X.stack) ch H H' s.heap s'.heap)(a:Ew X.prog X.w H' s'.heap)(i:Fc s'.gens)(d:∀b∈ch,(b∈X.ex\/X.s₀.heap.objs.size<=b)/\b≠X.env.locals/\(∀x c,X.env.cells.lookup x=O c->c≠b)/\∀p∈X.pn++g,p.1≠b):Inv X g f H' s':=by
 obtain⟨h',g',d',t',j⟩:=s';have e:=h;subst e;exact I.call (g':=g') (t':=t') (d':=d') u a i d
end
abbrev XK:=cv->eH ce->Hp->Prop
abbrev St:=U (eH V)
variable{A:St}
abbrev VK:=V->Hp->Prop
variable{r r':V->U V->Hp->VK->Prop}
abbrev TE:=St->Hp->VK->Prop
variable{ta td te ti tl to tv:TE}
abbrev TT:=St->Hp->(n_->Hp->Prop)->Prop
variable{tc:TT}
abbrev TA:=St->Hp->(U V->Hp->Prop)->Prop
structure fE where
 nx:St->Hp->Prop
 rt:VK
 bk:St->Hp->Prop:=λ_ _=>wa
 ct:St->Hp->Prop:=λ_ _=>wa
variable{D:fE}
abbrev TS:=fE->St->Hp->Prop
variable{tb:TS}
inductive EP(X:Cx)(g:U (ce×z_))(A:St)(Q:VK)(u:cv)(s':f0):Prop
 |i(v H':_)(_:Inv X g A H' s')(_:aD v u)(_:Q v H')
inductive TP(X:Cx)(g:U (ce×z_))(A:St)(Q:n_->Hp->Prop)(b:n_)(s':f0):Prop
 |i(H':_)(_:Inv X g A H' s')(_:Q b H')
inductive AP(X:Cx)(g:U (ce×z_))(A:St)(Q:U V->Hp->Prop)(us:U cv)(s':f0):Prop
 |i(Z H':_)(_:Inv X g A H' s')(_:aB Z us)(_:Q Z H')
def SP(X:Cx)(g:U (ce×z_))(D:fE)(f:Flow)(s':f0):Prop:=
 match f with
 |.next=>∃a H',Inv X g a H' s'/\D.nx a H'
 |.brk=>∃a H',Inv X g a H' s'/\D.bk a H'
 |.cont=>∃a H',Inv X g a H' s'/\D.ct a H'
 |.ret u=>∃v a H',Inv X g a H' s'/\aD v u/\D.rt v H'
def PE(X:Cx)(e:tA)(t:TE):Prop:=
 ∀(g:U (ce×z_))(s:f0)(A:St)(H:Hp)(Q:VK),Inv X g A H s->t A H Q->h_ (hY X.prog X.w) X.A (eval e X.env) (EP X g A Q) X.xe s
def PT(X:Cx)(e:tA)(t:TT):Prop:=
 ∀(g:U (ce×z_))(s:f0)(A:St)(H:Hp)(Q:n_->Hp->Prop),Inv X g A H s->t A H Q->h_ (hY X.prog X.w) X.A (isTrue e X.env (eval e X.env)) (TP X g A Q) X.xe s
def PW(X:Cx)(e:tA)(t:TT):Prop:=
 ∀(a:M4 cv)(g:U (ce×z_))(s:f0)(A:St)(H:Hp)(Q:n_->Hp->Prop),Inv X g A H s->t A H Q->h_ (hY X.prog X.w) X.A (isTrue e X.env a) (TP X g A Q) X.xe s
theorem PW.pt{t:TT}(h:PW X e t):PT X e t:=h _
def PA(X:Cx)(es:U tA)(t:TA):Prop:=
 ∀(pos:KN)(g:U (ce×z_))(s:f0)(A:St)(H:Hp)(Q:U V->Hp->Prop),Inv X g A H s->t A H Q->h_ (hY X.prog X.w) X.A (spliced (zG pos (i' es X.env))) (AP X g A Q) X.xe s
def PS(X:Cx)(st:nW)(t:TS):Prop:=
 ∀(g:U (ce×z_))(s:f0)(A:St)(H:Hp)(D:fE),Inv X g A H s->t D A H->h_ (hY X.prog X.w) X.A (exec st X.env) (SP X g D) X.xe s
def FX(X:Cx)(st:U nW)(t:TS):Prop:=
 ∀(g:U (ce×z_))(s:f0)(A:St)(H:Hp)(D:fE),Inv X g A H s->t D A H->h_ (hY X.prog X.w) X.A (execs st X.env) (SP X g D) X.xe s
theorem wd{t:M4 α}{Q b:α->f0->Prop}(h:h_ M on t Q no s)(c:∀a s,Q a s->b a s):h_ M on t b no s:=pu h c λ_ _ x=>x
section
theorem bin{a b:tA}{tb:TE}(e:PE X a ta)(i:PE X b tb){R:V->V->Hp->Prop}(I:Inv X g A H s)(h:ta A H λx H1=>tb A H1 λy H2=>R x y H2){Q:α->f0->Prop}{f:cv->cv->M4 α}(j:∀v u s2 x y H2,Inv X g A H2 s2->aD x v->aD y u->R x y H2->h_ (hY X.prog X.w) X.A (f v u) Q X.xe s2):
    h_ (hY X.prog X.w) X.A (eval a X.env) (λv c=>h_ (hY X.prog X.w) X.A (eval b X.env) (λu d=>h_ (hY X.prog X.w) X.A (f v u) Q X.xe d) X.xe c) X.xe s:=by
  refine wd (e g s A H _ I h) λv l ⟨x,H1,m,n,p⟩=>?_;refine wd (i g l A H1 _ m p) λu s2 ⟨y,H2,q,r,w⟩=>?_;exact j v u s2 x y H2 q n r w
inductive cL(i:ft)(A:St)(H:Hp)(Q:VK):Prop
 |i(v:_)(_:A[i]?=O (O v))(_:Q v H)
def tC(v:V):TE:=λ_ H Q=>Q v H
theorem RW(j:X.N[i]?=O x)(n:Mx X.env.scope x)(hd:(x ==("__debug__" : hO))=d_:=by decide)(d:(x ==("__classdict__" : hO))=d_:=by decide):PE X (.Name x pos) (cL i):=by
 intro g s A H Q I h;obtain⟨v,e,h⟩:=h;obtain⟨m,p,q⟩:=I.loc;obtain⟨u,r,l⟩:=q i x v j e n;have fin:EP X g A Q u s:=⟨v,H,I,r,h⟩
 rcases l with⟨b,w⟩ |⟨b,c,f,a⟩
 ·exact Kr (JB I.ok.kind b p w fin) hd
 ·rcases b with b |b
  ·exact Kr (J' I.ok.kind b f a fin) hd
  ·exact Kr (wpAny_loadName_free I.ok.kind b f a fin d) hd
theorem ah{i j pos}:PE X (.Constant (.int i) j pos) (tC (.int i)):=λ_ _ _ H _ I h=>wpAny_Constant_int ⟨.int i,H,I.tok _,⟨_,Y⟩,h⟩
theorem fc{b j pos}:PE X (.Constant (.bool b) j pos) (tC (.bl b)):=λ_ _ _ H _ I h=>Constant_bool ⟨.bl b,H,I,Y,h⟩
theorem bL{j pos}:PE X (.Constant .none j pos) (tC .non):=λ_ _ _ H _ I h=>Constant_none ⟨.non,H,I,Y,h⟩
theorem au{x j pos}:PE X (.Constant (.str x) j pos) (tC (.str x)):=λ_ _ _ H _ I h=>Calls.Constant_str ⟨.str x,H,I.tok _,⟨_,Y⟩,h⟩
def Gl(X:Cx)(x:hO):Prop:=X.env.kindOf x=O .globalImplicit
theorem gd(I:Inv X g A H s)(a:Gl X x)(b:X.mg x=O u)(h:Q u s)(hd:(x ==("__debug__" : hO))=d_:=by decide):h_ (hY X.prog X.w) X.A (eval (.Name x pos) X.env) Q no s:=
 Gv I.ok.kind a (Calls.loadGlobal_global (by exact I.ok.glob ▸ (I.mod.glob.keeps I.bk)) b h) hd
theorem eZ(I:Inv X g A H s)(a:Gl X x)(b:X.mg x=cx)(c:Dj x=O u)(h:Q u s)(d:x ≠ "__name__" :=by decide)(hd:(x ==("__debug__" : hO))=d_:=by decide):h_ (hY X.prog X.w) X.A (eval (.Name x pos) X.env) Q no s:=by
 obtain⟨e,h1,h2⟩:=I.mod.blt;exact Gv I.ok.kind a (Calls.loadGlobal_builtin (by rw[I.ok.glob];exact I.mod.glob.keeps I.bk) b (by rw[I.ok.blt];exact h1.keeps I.bk) ((h2 x d).trans c) h) hd
theorem y8{v:V}(a:Gl X x)(b:X.mg x=O u)(r:aD v u)(hd:(x ==("__debug__" : hO))=d_:=by decide):PE X (.Name x pos) (tC v):=
 λ_ _ _ H _ I h=>gd I a b ⟨v,H,I,r,h⟩ hd
theorem Tp{v:V}(a:Gl X x)(b:X.mg x=cx)(c:Dj x=O u)(r:aD v u)(d:x ≠ "__name__" :=by decide)(hd:(x ==("__debug__" : hO))=d_:=by decide):PE X (.Name x pos) (tC v):=
 λ_ _ _ H _ I h=>eZ I a b c ⟨v,H,I,r,h⟩ d hd
variable{a b:tA}{n:TE}
def PC(X:Cx)(op:CmpOp)(a b:tA)(t:TE):Prop:=
 ∀(g:U (ce×z_))(s:f0)(A:St)(H:Hp)(Q:VK),Inv X g A H s->t A H Q->
  h_ (hY X.prog X.w) X.A (eval a X.env) (λv c=>h_ (hY X.prog X.w) X.A (eval b X.env) (λu d=>h_ (hY X.prog X.w) X.A (su op v u) (EP X g A Q) X.xe d) X.xe c) X.xe s
theorem yH(b:tA)(h:op≠.In)(h2:op≠.NotIn):Cv op b=d_:=by
 have a:(op ==M6)=d_:=by cases op <;> first |rfl |exact hQ Y h
 have c:(op ==KQ)=d_:=by cases op <;> first |rfl |exact hQ Y h2
 cases b <;> simp[Cv,a,c]
inductive RI(Q:n_->Hp->Prop)(x:V)(H1:Hp):Prop
 |i(c:_)(_:x = .bl c)(_:Q c H1)
def tB(t:TE):TT:=λA H Q=>t A H λx H1=>RI Q x H1
theorem Rl{t:TE}(h:PC X op a b t)(h1:Cv op b=d_:=by first |exact yH _ (by decide) (by decide) |rfl):PE X (.Compare a [op] [b] pos) t:=λg s A H Q I c=>M7 (h g s A H Q I c) h1
theorem sN{t:TE}(h:PC X op a b t)(h1:Cv op b=d_:=by first |exact yH _ (by decide) (by decide) |rfl):PT X (.Compare a [op] [b] pos) (tB t):=by
 intro g s A H Q I e;refine Jq (wd (h g s A H _ I e) λv l h1=>wd h1 λu s2 h2=>wd h2 λc m ⟨x,H1,f,i,j⟩=>?_) h1;obtain⟨d,rfl,q⟩:=j;cases i;exact tx ⟨H1,f,q⟩
theorem cR{t:TE}(h:PE X e t)(b:∀a,isTrue e X.env a=(do let v ←a;FI e.pos;EB [v] (IV v)):=by intro _;rfl):PT X e (tB t):=by
 intro g s A H Q I c;refine IW (wd (h g s A H _ I c) λv l ⟨x,H1,f,i,j⟩=>?_) (b _);obtain⟨d,rfl,q⟩:=j;cases i;exact tx ⟨H1,f,q⟩
variable{p w:TT}{z:U tA}
def OS(t u:TT):TT:=λA H Q=>t A H λc H1=>if c=c0 then u A H1 Q else Q d_ H1
def Pe(t u:TT):TT:=λA H Q=>t A H λc H1=>if c=c0 then Q c0 H1 else u A H1 Q
def Qu(t:TT):TT:=λA H Q=>t A H λc H1=>Q (!c) H1
theorem lM(b:PT X a p):PW X (.BoolOp .And [a] pos) p:=by
 intro d g s A H Q I h;refine isTrue_and (wd (b g s A H Q I h) λc f e=>?_);cases c with
 |true=>exact isTrue_and_nil e
 |false=>exact e
theorem gm(b:PT X a p):PW X (.BoolOp .Or [a] pos) p:=by
 intro d g s A H Q I h;refine isTrue_or (wd (b g s A H Q I h) λc f e=>?_);cases c with
 |false=>exact isTrue_or_nil e
 |true=>exact e
theorem lL(f:PT X a p)(i:PW X (.BoolOp .And (b::z) pos) w):PW X (.BoolOp .And (a::b::z) pos) (OS p w):=by
 intro j g s A H Q I h;refine isTrue_and (wd (f g s A H _ I h) λc l ⟨H1,d,e⟩=>?_);cases c with
 |true=>exact i j g l A H1 Q d e
 |false=>exact⟨H1,d,e⟩
theorem fT(f:PT X a p)(i:PW X (.BoolOp .Or (b::z) pos) w):PW X (.BoolOp .Or (a::b::z) pos) (Pe p w):=by
 intro j g s A H Q I h;refine isTrue_or (wd (f g s A H _ I h) λc l ⟨H1,d,e⟩=>?_);cases c with
 |true=>exact⟨H1,d,e⟩
 |false=>exact i j g l A H1 Q d e
theorem eD(b:PT X a p):PT X (.UnaryOp .Not a pos) (Qu p):=by
 intro g s A H Q I h;exact isTrue_not (wd (b g s A H (λc H1=>Q (!c) H1) I h) λc f ⟨H1,d,e⟩=>⟨H1,d,e⟩)
inductive Ze(n:TE)(A:St)(Q:VK)(x:V)(H1:Hp):Prop
 |i(c:_)(_:x = .bl c)(_:if c=c0 then n A H1 Q else Q (.bl d_) H1)
def Sd(ta n:TE):TE:=λA H Q=>ta A H λx H1=>Ze n A Q x H1
inductive SG(n:TE)(A:St)(Q:VK)(x:V)(H1:Hp):Prop
 |i(c:_)(_:x = .bl c)(_:if c=c0 then Q (.bl c0) H1 else n A H1 Q)
def SR(ta n:TE):TE:=λA H Q=>ta A H λx H1=>SG n A Q x H1
inductive SV(Q:VK)(x:V)(H1:Hp):Prop
 |i(c:_)(_:x = .bl c)(_:Q (.bl (!c)) H1)
def RU(ta:TE):TE:=λA H Q=>ta A H λx H1=>SV Q x H1
theorem fz{op}{t:TE}(h:PE X a t):PE X (.BoolOp op [a] pos) t:=λg s A H Q I b=>BoolOp_one (h g s A H Q I b)
theorem gK(f:PE X a ta)(i:PE X (.BoolOp .And (b::z) pos) n):PE X (.BoolOp .And (a::b::z) pos) (Sd ta n):=by
 intro g s A H Q I h;refine BoolOp_and (wd (f g s A H _ I h) λv j ⟨x,H1,e,l,d⟩=>?_);obtain⟨c,rfl,d⟩:=d;cases l;refine tx ?_;cases c with
 |true=>exact i g j A H1 Q e d
 |false=>exact⟨.bl d_,H1,e,Y,d⟩
theorem oj(f:PE X a ta)(i:PE X (.BoolOp .Or (b::z) pos) n):PE X (.BoolOp .Or (a::b::z) pos) (SR ta n):=by
 intro g s A H Q I h;refine BoolOp_or (wd (f g s A H _ I h) λv j ⟨x,H1,e,l,d⟩=>?_);obtain⟨c,rfl,d⟩:=d;cases l;refine tx ?_;cases c with
 |false=>exact i g j A H1 Q e d
 |true=>exact⟨.bl c0,H1,e,Y,d⟩
theorem lF(d:PE X a ta):PE X (.UnaryOp .Not a pos) (RU ta):=by
 intro g s A H Q I h;refine UnaryOp_ (wd (d g s A H _ I h) λv i ⟨x,H1,e,f,b⟩=>?_);obtain⟨c,rfl,b⟩:=b;cases f;exact not_of (tx ⟨.bl (!c),H1,e,Y,b⟩)
def VT(t:TT)(ta n:TE):TE:=λA H Q=>t A H λc H1=>if c=c0 then ta A H1 Q else n A H1 Q
theorem dA{c:tA}(j:PT X c p)(l:PE X a ta)(m:PE X b n):PE X (.IfExp c a b pos) (VT p ta n):=by
 intro g s A H Q I h;refine wpAny_IfExp (wd (j g s A H _ I h) λd e ⟨H1,f,i⟩=>?_);cases d with
 |true=>exact l g e A H1 Q f i
 |false=>exact m g e A H1 Q f i
end
def n7(K:fy)(H:Hp)(a:ce)(E:U V):Prop:=
 Rd H a (.lst E)\/
  ∃(o:z_)(J:t_ cv)(n:ft),K.lookup a=O o/\o.cls = .type "list" /\ o.dict=cx/\o.data = .seq J n/\J.size<=fx/\aB E J.toList
def th(K:fy)(H:Hp)(a:ce)(E:U V):Prop:=
 Rd H a (.tup E)\/
  ∃(o:z_)(J:t_ cv)(n:ft),K.lookup a=O o/\o.cls = .type "tuple" /\ o.data = .seq J n/\J.size<=fx/\aB E J.toList
def vH:cv->eH V
 |.none=>O .non
 |.bool b=>O (.bl b)
 |.int i _=>O (.int i)
 |.str x _=>O (.str x)
 |.bytes b _=>O (.byt b)
 |.float b _=>O (.flt b)
 |.ref a=>O (.ref a)
 |.type n=>O (.ty n)
 |_=>cx
theorem aD.abs{x:V}(r:aD x u):vH u=O x:=by
 cases x with
 |non=>cases r;rfl
 |bl _=>cases r;rfl
 |int _=>obtain⟨t,rfl⟩:=r;rfl
 |str _=>obtain⟨t,rfl⟩:=r;rfl
 |byt _=>obtain⟨t,rfl⟩:=r;rfl
 |flt _=>obtain⟨t,rfl⟩:=r;rfl
 |ref _=>cases r;rfl
 |ty _=>cases r;rfl
theorem aD.inj{x y:V}{u:cv}(r:aD x u)(q:aD y u):x=y:=kn (r.abs.symm.trans q.abs)
theorem aB.inj:∀{E ys:U V}{us:U cv},aB E us->aB ys us->E=ys
 |_,_,_,.nil,.nil=>rfl
 |_,_,_,.cons r t,.cons r' t'=>by rw[r.inj r',aB.inj t t']
theorem n7.of(h:H a=O (.lst E)):n7 K H a E:=.inl (.inl h)
theorem th.of(h:H a=O (.tup E)):th K H a E:=.inl (.inl h)
theorem Inv.list(I:Inv X g A H s)(h:n7 X.K H a E):∃J:U cv,aB E J/\PlainL s.heap a J.toArray/\E.length<=fx:=by
 rcases h with h |⟨o,J,n,b,c,hd,d,hz,r⟩
 ·obtain⟨z,J,n,r,e⟩:=h.ok I.hok;exact⟨J,r,⟨_,n,e,Y,Y,Y⟩,z⟩
 ·refine⟨J.toList,r,⟨o,n,I.kIn a o b,c,hd,by omega⟩,?_⟩;have e:=r.length
  simp_all
theorem Inv.tuple(I:Inv X g A H s)(h:th X.K H a E):∃J:U cv,aB E J/\Gu s.heap a J.toArray/\E.length<=fx:=by
 rcases h with h |⟨o,J,n,b,c,d,hz,r⟩
 ·obtain⟨z,J,r,p⟩:=h.ok I.hok;exact⟨J,r,p,z⟩
 ·refine⟨J.toList,r,⟨o,I.kIn a o b,c,n,by omega⟩,?_⟩;have e:=r.length
  simp_all
theorem Inv.list_inj(I:Inv X g A H s)(h:n7 X.K H a E)(h':n7 X.K H a ys):E=ys:=by
 obtain⟨J,r,⟨o,n,e,_,_,d⟩,_⟩:=I.list h;obtain⟨b,r',⟨f,i,c,_,_,d'⟩,_⟩:=I.list h';rw[e]at c;cases c;rw[d]at d';injection d' with j _
 have:J=b:=by grind
 subst this;exact r.inj r'
theorem Inv.tuple_inj(I:Inv X g A H s)(h:th X.K H a E)(h':th X.K H a ys):E=ys:=by
 obtain⟨J,r,⟨o,e,_,n,d⟩,_⟩:=I.tuple h;obtain⟨b,r',⟨f,c,_,i,d'⟩,_⟩:=I.tuple h';rw[e]at c;cases c;rw[d]at d';injection d' with j _
 have:J=b:=by grind
 subst this;exact r.inj r'
abbrev Cx.wish(X:Cx)(no:cv->f0->Prop):Cx:={ X with xe:=no }
abbrev Cx.nox(X:Cx):Cx:=X.wish λ_ _=>wa
theorem Cx.Ok.wish(ok:X.Ok)(no:cv->f0->Prop):(X.wish no).Ok:=
 ⟨ok.mod,ok.kind,ok.glob,ok.blt,ok.above,ok.inj,ok.has,ok.cab,ok.hd,ok.frames,ok.stk,ok.exf,ok.bs,ok.bsz,ok.noex,ok.exfs,ok.funs,ok.frf⟩
theorem Cx.Ok.unwish(ok:(X.wish no).Ok):X.Ok:=
 ⟨ok.mod,ok.kind,ok.glob,ok.blt,ok.above,ok.inj,ok.has,ok.cab,ok.hd,ok.frames,ok.stk,ok.exf,ok.bs,ok.bsz,ok.noex,ok.exfs,ok.funs,ok.frf⟩
theorem Inv.wish(I:Inv X g A H s)(no:cv->f0->Prop):Inv (X.wish no) g A H s:=⟨I.ok.wish no,I.os,I.bare,I.base,I.loc,I.cell,I.free,I.freeC,I.pin,I.hok,I.len⟩
theorem Inv.unwish(I:Inv (X.wish no) g A H s):Inv X g A H s:=⟨I.ok.unwish,I.os,I.bare,I.base,I.loc,I.cell,I.free,I.freeC,I.pin,I.hok,I.len⟩
theorem SP.unwish{D:fE}{f:Flow}{s':f0}(h:SP (X.wish no) g D f s'):SP X g D f s':=by
 cases f with
 |next=>obtain⟨a,H',I,q⟩:=h;exact⟨a,H',I.unwish,q⟩
 |brk=>obtain⟨a,H',I,q⟩:=h;exact⟨a,H',I.unwish,q⟩
 |cont=>obtain⟨a,H',I,q⟩:=h;exact⟨a,H',I.unwish,q⟩
 |ret u=>obtain⟨v,a,H',I,r,q⟩:=h;exact⟨v,a,H',I.unwish,r,q⟩
theorem PE.nox{t:TE}(h:PE X.nox e t):PE X e t:=λg s A H Q I a=>
 pu (h g s A H Q (I.wish _) a) (λ_ _ ⟨v,H',b,r,q⟩=>⟨v,H',b.unwish,r,q⟩) λ_ _ z=>tj z
theorem PT.nox{t:TT}(h:PT X.nox e t):PT X e t:=λg s A H Q I a=>
 pu (h g s A H Q (I.wish _) a) (λ_ _ ⟨H',b,q⟩=>⟨H',b.unwish,q⟩) λ_ _ z=>tj z
theorem FX.nox{st:U nW}{t:TS}(h:FX X.nox st t):FX X st t:=λg s A H D I a=>
 pu (h g s A H D (I.wish _) a) (λ_ _ q=>q.unwish) λ_ _ z=>tj z
section
variable{j:U nW}{i u:TS}
def lW:TS:=λD A H=>D.nx A H
def gP(i u:TS):TS:=λD A H=>i { D with nx:=u D } A H
theorem aO:FX X [] lW:=λ_ _ A H _ I h=>Ei ⟨A,H,I,h⟩
theorem ao(h1:PS X st i)(h2:FX X j u):FX X (st::j) (gP i u):=by
 intro g s A H D I h;refine Lk (wd (h1 g s A H { D with nx:=u D } I h) λf b q=>?_);cases f with
 |next=>
  obtain⟨a,H',c,q⟩:=q;exact h2 g b a H' D c q
 |ret v=>exact q
 |brk=>exact q
 |cont=>exact q
theorem aj(h1:PS X st i):FX X [st] i:=by
 intro g s A H D I h;refine Lk (wd (h1 g s A H D I h) λf a q=>?_);cases f with
 |next=>exact Ei q
 |ret v=>exact q
 |brk=>exact q
 |cont=>exact q
theorem Inv.quiet(I:Inv X g A H s):QE X.env=d_:=by simp[QE,I.ok.kind]
def P9(te:TE):TS:=λD A H=>te A H λ_ H1=>D.nx A H1
theorem bf(a:PE X e te)(b:Eu e cx pos.line X.env=zJ d_:=by rfl):PS X (.Expr e pos) (P9 te):=by
 intro g s A H D I h;exact wpAny_Expr_any (wd (a g s A H _ I h) λv f ⟨x,H1,c,i,d⟩=>⟨A,H1,c,d⟩) I.quiet b
def uW(te:TE):TS:=λD A H=>te A H D.rt
theorem aA(a:PE X e te):PS X (.Return (O e) pos) (uW te):=by
 intro g s A H D I h;exact wpAny_Return_some (wd (a g s A H _ I h) λv f ⟨x,H1,b,c,d⟩=>⟨x,A,H1,b,c,d⟩)
def lV(c:TT)(i u:TS):TS:=λD A H=>c A H λb H1=>if b=c0 then i D A H1 else u D A H1
theorem aN{c:tA}{a b:U nW}(l:PT X c tc)(m:FX X a i)(n:FX X b u):PS X (.If c a b pos) (lV tc i u):=by
 intro g s A H D I h;refine wpAny_If (wd (l g s A H _ I h) λd e ⟨H1,f,j⟩=>?_);cases d with
 |true=>exact m g e A H1 D f j
 |false=>exact n g e A H1 D f j
def znR:TS:=λ_ _ _=>wa
theorem ou{a:U nW}:FX X a znR:=λ_ _ _ _ _ _ h=>h.elim
end
abbrev TG:=V->St->Hp->(St->Hp->Prop)->Prop
variable{Ab:TG}
abbrev Lh:=U V->St->Hp->(St->Hp->Prop)->Prop
def PG(X:Cx)(a:tA)(t:TG):Prop:=
 ∀(g:U (ce×z_))(s:f0)(A:St)(H:Hp)(v:V)(u:cv)(Q:St->Hp->Prop),Inv X g A H s->aD v u->t v A H Q->
  h_ (hY X.prog X.w) X.A (M8 a X.env u) (λ_ s'=>∃b H',Inv X g b H' s'/\Q b H') X.xe s
def Mv(X:Cx)(ts:U tA)(t:Lh):Prop:=
 ∀(g:U (ce×z_))(s:f0)(A:St)(H:Hp)(Z:U V)(us:U cv)(Q:St->Hp->Prop),Inv X g A H s->aB Z us->t Z A H Q->
  h_ (hY X.prog X.w) X.A (assignInOrder ((DV ts X.env).map (·.2)) us) (λ_ s'=>∃a H',Inv X g a H' s'/\Q a H') X.xe s
abbrev NB:=V->V->Hp->VK->Prop
def P5(X:Cx)(op:Gw)(t:NB):Prop:=
 ∀(g:U (ce×z_))(s:f0)(A:St)(H:Hp)(x y:V)(v u:cv)(Q:VK),Inv X g A H s->aD x v->aD y u->t x y H Q->
  h_ (hY X.prog X.w) X.A (Ll op v u) (EP X g A Q) X.xe s
def fv(i:ft):TG:=λv A H Q=>Q (A.set i (O v)) H
theorem aH(a:X.N.Nodup)(hi:X.N[i]?=O x)(b:Loc X.env.scope x)(c:X.fn x=c0\/X.env.scope.names.lookup x=O .local:=by first |exact .inl Y |exact .inr Y |assumption):PG X (.Name x pos) (fv i):=by
 intro g s A H v u Q I r h;exact KR (lS I a hi b r (λs' d=>⟨_,H,d,h⟩) c)
def xw:Lh:=λZ A H Q=>Z=[]/\Q A H
inductive qV(t:TG)(u:Lh)(Z:U V)(A:St)(H:Hp)(Q:St->Hp->Prop):Prop
 |i(v r:_)(_:Z=v::r)(_:t v A H λa H'=>u r a H' Q)
theorem eB:Mv X [] xw:=by
 intro g s A H Z us Q I r h;obtain⟨e,h⟩:=h;exact assignInOrder_nil ⟨A,H,I,h⟩
theorem bP{t:TG}{u:Lh}(h1:PG X e t)(h2:Mv X es u)(b:(DV (e::es) X.env).map (·.2)=M8 e X.env::(DV es X.env).map (·.2):=by rfl):Mv X (e::es) (qV t u):=by
 intro g s A H Z us Q I r h;obtain⟨v,l,c,h⟩:=h;subst c;cases r with
 |cons r d=>
  rw[b];refine assignInOrder_cons (wd (h1 g s A H _ _ _ I r h) λ_ f ⟨a,H1,i,j⟩=>?_);exact h2 g f a H1 _ _ Q i d j
inductive qY(K:fy)(n:ft)(t:Lh)(v:V)(A:St)(H:Hp)(Q:St->Hp->Prop):Prop
 |i(a E:_)(_:v = .ref a)(_:th K H a E)(_:E.length=n)(_:t E A H Q)
theorem Sl{k:ft}{t:Lh}(f:X.calm=c0)(h:Mv X es t)(i:(DV es X.env).length=n:=by rfl)(c:(DV es X.env).findIdx? (·.1)=cx:=by rfl):PG X (.Tuple es k pos) (qY X.K n t):=by
 intro g s A H v u Q I r d;obtain⟨a,E,j,l,m,d⟩:=d;subst j;cases r;obtain⟨J,p,q,hz⟩:=I.tuple l;refine assign_Tuple_tuple (I.ok.hd f) q (by simp[i,←m,p.length]) c λh' w=>?_;exact h g _ A H E _ Q (I.kept (t':=s.toks) λb o e=>w b o (g_ (e_ e)) e) (by simp_all) d
def ky(te:TE)(Ab:TG):TS:=λD A H=>te A H λx H1=>Ab x A H1 D.nx
theorem zi(a:PE X e te)(b:PG X tg Ab)(c:swapsWithSole [tg] e pos.line X.env=zJ d_:=by rfl)(d:swappedStores [tg] e X.env=zJ cx:=by rfl)(h1:(DV [tg] X.env).map (·.2)=[M8 tg X.env]:=by rfl):PS X (.Assign [tg] e pos) (ky te Ab):=by
 intro g s A H D I h;refine wpAny_Assign_stores (wd (a g s A H _ I h) λv f ⟨x,H1,i,j,l⟩=>?_) c d;rw[h1];exact wd (b g f A H1 x v _ i j l) λ_ s2 q=>q
theorem aK(a:X.N.Nodup)(hi:X.N[i]?=O x)(b:Loc X.env.scope x)(c:PE X e te)(d:Eu e (O (.Name x pos')) pos.line X.env=zJ d_:=by rfl)(f:X.fn x=c0\/X.env.scope.names.lookup x=O .local:=by first |exact .inl Y |exact .inr Y |assumption):
  PS X (.Assign [.Name x pos'] e pos) (ky te (fv i)):=by
 intro g s A H D I h;refine wpAny_Assign_Name (wd (c g s A H _ I h) λv p ⟨y,H1,j,l,m⟩=>?_) d;exact lS j a hi b l (λs2 n=>⟨_,H1,n,m⟩) f
inductive Xh(i:ft)(te:TE)(ti:NB)(D:fE)(A:St)(H:Hp):Prop
 |i(x:_)(_:A[i]?=O (O x))(_:te A H λy H1=>ti x y H1 λz H2=>D.nx (A.set i (O z)) H2)
theorem zj{op:Gw}{ti:NB}(q:X.N.Nodup)(hi:X.N[i]?=O x)(j:Loc X.env.scope x)(B:PE X e te)(C:P5 X op ti)(E:X.fn x=c0\/X.env.scope.names.lookup x=O .local:=by first |exact .inl Y |exact .inr Y |assumption):
  PS X (.AugAssign (.Name x pos') op e pos) (Xh i te ti):=by
 intro g s A H D I h;obtain⟨v,G,h⟩:=h;obtain⟨m,J,K⟩:=I.loc;have n:Mx X.env.scope x:=by rcases j with k |k;exact .inl k;exact .inr (.inl k)
 obtain⟨u,r,l⟩:=K i x v hi G n;refine wpAny_AugAssign_Name ?_;have p:h_ (hY X.prog X.w) X.A (eval e X.env) (λw d=>h_ (hY X.prog X.w) X.A (Ll op u w) (λr f=>h_ (hY X.prog X.w) X.A (Lj X.env x r) (λ_=>SP X g D .next) X.xe f) X.xe d) X.xe s:=by
  refine wd (B g s A H _ I h) λw L ⟨y,H1,M,N,P⟩=>?_;refine wd (C g L A H1 v y u w _ M r N P) λz s2 ⟨zv,H2,Q,R,S⟩=>?_;exact lS Q q hi j R (λs3 T=>⟨_,H2,T,S⟩) E
 rcases l with⟨a,Z⟩ |⟨a,c,hc,b⟩
 ·exact JB I.ok.kind a J Z p
 ·rcases a with a |a
  ·exact J' I.ok.kind a hc b p
  ·rcases j with k |k
   ·have:X.env.scope.names.lookup x=O .free:=a
    grind
   ·have:X.env.scope.names.lookup x=O .free:=a
    simp_all
inductive Vh(f:gV->gV->gV)(x:V)(y:V)(H:Hp)(Q:VK):Prop
 |i(i j:_)(_:x = .int i)(_:y = .int j)(_:Q (.int (f i j)) H)
theorem xI:P5 X .Add (Vh λi j=>i+j):=by
 intro g s A H x y v u Q I a b h;obtain⟨i,j,c,d,q⟩:=h;subst c;subst d;obtain⟨t,rfl⟩:=a;obtain⟨t',rfl⟩:=b;exact iadd_int ⟨.int _,H,I.tok _,⟨_,Y⟩,q⟩
def Q7(c:TT)(tb:TS):TS:=λD A H=>∃W:ft->St->Hp->Prop,(∃m,W m A H)/\∀m A H,W m A H->
 c A H λb H1=>if b=c0 then ∃Ac:St->Hp->Prop,(∀a H',Ac a H'->∃d,d<m/\W d a H')/\tb { D with nx:=Ac,ct:=Ac,bk:=D.nx } A H1 else D.nx A H1
theorem RH{c:tA}(u:IJ (hY X.prog X.w) X.A X.env X.xe)(y:PT X c tc)(z:FX X body tb):PS X (.While c body [] pos) (Q7 tc tb):=by
 intro g s A H D I h;obtain⟨W,⟨B,C⟩,turn⟩:=h;refine wpAny_While (codeAny_whileLoop (λn s'=>∃e H',Inv X g e H' s'/\W n e H') ?_ B ⟨A,H,I,C⟩);rintro n E ⟨d,H1,G,J⟩;refine Ct u (wd (y g E d H1 _ G (turn n d H1 J)) λb s2 ⟨H2,w,j⟩=>?_);cases b with
 |true=>
  obtain⟨Ac,x,j⟩:=j;refine Ct u (wd (z g s2 d H2 _ w j) λf K l=>?_);cases f with
  |next=>
   obtain⟨a,i,m,p⟩:=l;obtain⟨q,r,w3⟩:=x a i p;exact⟨q,r,a,i,m,w3⟩
  |cont=>
   obtain⟨a,i,m,p⟩:=l;obtain⟨q,r,w3⟩:=x a i p;exact⟨q,r,a,i,m,w3⟩
  |brk=>exact l
  |ret v=>exact l
 |false=>
  exact Ei ⟨d,H2,w,j⟩
structure It where
 go:ft->Hp->Prop
 yld:ft->Hp->V->Hp->Prop
 stop:ft->Hp->Prop
variable{Ae:It}
def fF(X:Cx)(g:U (ce×z_))(H:Hp)(b:ce):Prop:=
 H b=cx/\b≠X.env.locals/\b∉X.fs/\(b∈X.ex\/X.s₀.heap.objs.size<=b)/\(∀x c,X.env.cells.lookup x=O c->c≠b)/\∀p∈X.pn++g,p.1≠b
theorem Inv.fpOk(I:Inv X g A H s)(a:s.heap.objs.size<=b)(d:H' b=cx):fF X g H' b:=by
 refine⟨d,rs (hJ I.lt a),I.nofs a,.inr (jE I.sz a),λx c e z=>?_,λp f z=>?_⟩
 ·obtain⟨v,q⟩:=I.cell x c e;exact hQ (hJ q.lt (by exact z ▸ a)) (rc _)
 ·exact hQ (hJ (e_ (I.pin p f).1) (by simp_all)) (rc _)
structure fJ(P:sJ)(w:uF)(K:fy)(tg:tA)(J:It)(fp:U ce)(it:ce)(tn:ft->sG->Prop):Prop where
 mem:it∈fp
 obj:∀i h,tn i h->∀b∈fp,∃o,h.get? b=O o/\∀v,o.data≠.cell v
 keep:∀i h h',tn i h->(∀b∈fp,∀o,h.get? b=O o->h'.get? b=O o)->tn i h'
 item:∀(X:Cx),X.prog=P->X.w=w->X.K=K->X.calm=c0->∀(i:ft)(pins:U (ce×z_))(s:f0)(σ:St)(H:Hp)(E:cv->f0->Prop),Inv X pins σ H s->(∀b∈fp,fF X pins H b)->tn i s.heap->J.go i H->
  wpAny (hY P w) X.A (Fd (.ref it)) (λr s1=>∃u,r=O u/\
   wpAny (hY P w) X.A (Hv tg (.ref it) u) (λ_ s2=>∃x H',Inv X pins σ H' s2/\aD x u/\J.yld i H x H'/\tn (i+1) s2.heap/\∀b∈fp,H' b=cx) E s1) E s
 done:∀(X:Cx),X.prog=P->X.w=w->X.K=K->X.calm=c0->∀(i:ft)(pins:U (ce×z_))(s:f0)(σ:St)(H:Hp)(E:cv->f0->Prop),Inv X pins σ H s->(∀b∈fp,fF X pins H b)->tn i s.heap->J.stop i H->
  wpAny (hY P w) X.A (Fd (.ref it)) (λr s1=>r=cx/\Inv X pins σ H s1) E s
 self:∀(A:BF)(i:ft)(s:f0)(Q:cv->f0->Prop)(E:cv->f0->Prop),tn i s.heap->Q (.ref it) s->h_ (hY P w) A (IX (.ref it)) Q E s
abbrev TI:=St->Hp->(It->Hp->Prop)->Prop
variable{wi:TI}
def NC(X:Cx)(g:U (ce×z_))(A:St)(tg:tA)(R:It->Hp->Prop)(a:cv)(s2:f0):Prop:=
 ∃(it:ce)(fp:U ce)(c:ft->sG->Prop)(Ae:It)(H':Hp),a = .ref it/\Inv X g A H' s2/\fJ X.prog X.w X.K tg Ae fp it c/\c 0 s2.heap/\(∀b∈fp,fF X g H' b)/\R Ae H'
def PI(X:Cx)(tg iter:tA)(wi:TI):Prop:=
 ∀(g:U (ce×z_))(s:f0)(A:St)(H:Hp)(R:It->Hp->Prop),Inv X g A H s->wi A H R->
  h_ (hY X.prog X.w) X.A (eval iter X.env) (λv a=>h_ (hY X.prog X.w) X.A (IX v) (NC X g A tg R) X.xe a) X.xe s
theorem jY{o:z_}{n:BP}{Z:t_ cv}{Q:J9->f0->Prop}(b:s.heap.get? it=O o)(c:o.cls = .type n)(hd:o.data = .fields Z)(d:["enumerate","zip","dict_itemiterator","dict_reverseitemiterator","odict_iterator","itertools.zip_longest","itertools.pairwise"].contains n=d_)(a:Q () s):h_ M on (Hv tg (.ref it) u) Q no s:=by
  cases tg <;> first
    |exact eM a
    | (cases u <;> first
        |exact eM a
        | (refine b7 (Ks b ?_)
           simp only[c,hd];show h_ M on (if (["enumerate","zip","dict_itemiterator","dict_reverseitemiterator","odict_iterator","itertools.zip_longest","itertools.pairwise"].contains n && Z[0]? ==O (DE _))=c0 then _ else _) Q no s;rw[ks (by grind)];exact eM a))
def Ko(K:fy)(a:ce):It:=
 ⟨λi H=>∃E x,n7 K H a E/\E[i]?=O x,λi H x H'=>H'=H/\∀E,n7 K H a E->E[i]?=O x,λi H=>∃E,n7 K H a E/\E.length<=i⟩
def Kl(K:fy)(a:ce):It:=
 ⟨λi H=>∃E x,th K H a E/\E[i]?=O x,λi H x H'=>H'=H/\∀E,th K H a E->E[i]?=O x,λi H=>∃E,th K H a E/\E.length<=i⟩
def JV(lo:gV)(n:ft):It:=⟨λi _=>i<n,λi H x H'=>H'=H/\x = .int (lo+i),λi _=>n<=i⟩
theorem UR(a it:ce):fJ Aa w K tg (Ko K a) [it] it (λi h=>h.IsListIter it a i) where
 mem:=by simp
 obj:=λi h st b f=>by
  have e:b=it:=by simpa using f
  subst e;obtain⟨o,e,c,d⟩:=st;exact⟨o,e,λv z=>by rw[d]at z;cases z⟩
 keep:=λi h h' st k=>st.at λo e=>k it (by simp) o e
 item:=by
  intro X n q r P i g s A H no I l st y;subst n q r;obtain⟨E,x,m,B⟩:=y;obtain⟨J,C,p,hz⟩:=I.list m;obtain⟨u,Q,R⟩:=C.get B;obtain⟨D,G,S,L,M,N⟩:=l it (by simp);refine wpAny_pyNext_list_item st p.isList (by simpa using Q) λh' j T=>?_;obtain⟨o,e,c,d⟩:=id j;exact⟨u,Y,jY e c d (by decide) ⟨x,H,(I.turned (t':=s.toks) (λb o f e=>(T.2 b f).trans e) D G L M N),R,⟨Y,λys Z=>by exact (I.list_inj Z m) ▸ B⟩,j,λb f=>(l b f).1⟩⟩
 done:=by
  intro X n q r P i g s A H no I l st y;subst n q r;obtain⟨E,m,B⟩:=y;obtain⟨J,C,p,hz⟩:=I.list m;obtain⟨D,G,S,L,M,N⟩:=l it (by simp);have hl:=C.length;exact wpAny_pyNext_list_end (I.ok.hd P) st p.isList (by simp;simp_all) λh' eb=>⟨Y,I.turned (t':=s.toks) (λb o f e=>eb b o f e) D G L M N⟩
 self:=λ_ _ _ _ _ st h=>wpAny_pyIter_listiter st h
theorem Tv(a it:ce):fJ Aa w K tg (Kl K a) [it] it (λi h=>h.IsTupleIter it a i) where
 mem:=by simp
 obj:=λi h st b f=>by
  have e:b=it:=by simpa using f
  subst e;obtain⟨o,e,c,d⟩:=st;exact⟨o,e,λv z=>by rw[d]at z;cases z⟩
 keep:=λi h h' st k=>st.at λo e=>k it (by simp) o e
 item:=by
  intro X n q r P i g s A H no I l st y;subst n q r;obtain⟨E,x,m,B⟩:=y;obtain⟨J,C,p,hz⟩:=I.tuple m;obtain⟨u,Q,R⟩:=C.get B;obtain⟨D,G,S,L,M,N⟩:=l it (by simp);refine wpAny_pyNext_tuple_item st (show s.heap.IsTuple a J.toArray from p) (by simpa using Q) λh' j T=>?_;obtain⟨o,e,c,d⟩:=id j;exact⟨u,Y,jY e c d (by decide) ⟨x,H,(I.turned (t':=s.toks) (λb o f e=>(T.2 b f).trans e) D G L M N),R,⟨Y,λys Z=>by exact (I.tuple_inj Z m) ▸ B⟩,j,λb f=>(l b f).1⟩⟩
 done:=by
  intro X n q r P i g s A H no I l st y;subst n q r;obtain⟨E,m,B⟩:=y;obtain⟨J,C,p,hz⟩:=I.tuple m;obtain⟨D,G,S,L,M,N⟩:=l it (by simp);have hl:=C.length;exact wpAny_pyNext_tuple_end (I.ok.hd P) st (show s.heap.IsTuple a J.toArray from p) (by simp;simp_all) λh' eb=>⟨Y,I.turned (t':=s.toks) (λb o f e=>eb b o f e) D G L M N⟩
 self:=λ_ _ _ _ _ st h=>wpAny_pyIter_tupleiter st h
theorem X5(it:ce)(lo:gV)(n:ft):fJ Aa w K tg (JV lo n) [it] it (λi h=>QF h it (lo+(i:ft) * 1) ((n:gV) - (i:ft)) 1) where
 mem:=by simp
 obj:=λi h st b a=>by
  simp_all
 keep:=λi h h' st k=>k it (by simp) _ st
 item:=by
  intro X f j l m i g s A H no I d st p;subst f j l;obtain⟨q,r,z,u,x,y⟩:=d it (by simp);refine (KS (prog:=X.prog) (w:=X.w) (I.ok.hd m) it lo 1 n).item i s _ _ p st λv h' tk B c kk=>?_;obtain⟨t,rfl⟩:=B;have C:Inv X g A H { s with heap:=h',toks:=tk }:=I.turned (λb o a e=>kk b o (by simpa using a) e) q r u x y;refine⟨_,Y,jY c Y Y (by decide) ⟨.int (lo+i),H,C,⟨t,?_⟩,⟨Y,Y⟩,c,λb a=>(d b a).1⟩⟩;rw[Int.mul_one]
 done:=by
  intro X f j l m i g s A H no I d st p;subst f j l;obtain⟨q,r,z,u,x,y⟩:=d it (by simp);exact IY (I.ok.hd m) st (by have:n<=i:=p;lia) λh' D=>⟨Y,I.turned (t':=s.toks) (λb o a e=>D b o a e) q r u x y⟩
 self:=λ_ _ _ _ _ st h=>IZ st h
inductive WL(K:fy)(R:It->Hp->Prop)(x:V)(H1:Hp):Prop
 |i(a:_)(_:x = .ref a)(_:(∃E,n7 K H1 a E))(_:R (Ko K a) H1)
def Vd(K:fy)(tl:TE):TI:=λA H R=>tl A H λx H1=>WL K R x H1
inductive QU(K:fy)(R:It->Hp->Prop)(x:V)(H1:Hp):Prop
 |i(a:_)(_:x = .ref a)(_:(∃E,th K H1 a E))(_:R (Kl K a) H1)
def V9(K:fy)(tl:TE):TI:=λA H R=>tl A H λx H1=>QU K R x H1
theorem bV{l:tA}(f:PE X l tl):PI X tg l (Vd X.K tl):=by
 intro g s A H R I h;refine wd (f g s A H _ I h) λv c ⟨x,H1,d,i,j⟩=>?_;obtain⟨a,e,⟨E,m⟩,q⟩:=j;subst e;cases i;obtain⟨J,r,p,hz⟩:=d.list m;refine C6 p.isList ?_;refine⟨c.heap.objs.size,[c.heap.objs.size],_,_,H1,Y,d.kept (t':=c.toks) λb o e=>b_ _ e,UR a _,⟨_,f6 _ Y,Y,Y⟩,λb n=>?_,q⟩;have e:b=c.heap.objs.size:=by simpa using n
 subst e;exact d.fpOk (dv _) (d.hok.fresh (dv _))
theorem j9{l:tA}(f:PE X l tl):PI X tg l (V9 X.K tl):=by
 intro g s A H R I h;refine wd (f g s A H _ I h) λv c ⟨x,H1,d,i,j⟩=>?_;obtain⟨a,e,⟨E,m⟩,q⟩:=j;subst e;cases i;obtain⟨J,r,p,hz⟩:=d.tuple m;refine wpAny_pyIter_tuple (show c.heap.IsTuple a J.toArray from p) ?_;refine⟨c.heap.objs.size,[c.heap.objs.size],_,_,H1,Y,d.kept (t':=c.toks) λb o e=>b_ _ e,Tv a _,⟨_,f6 _ Y,Y,Y⟩,λb n=>?_,q⟩;have e:b=c.heap.objs.size:=by simpa using n
 subst e;exact d.fpOk (dv _) (d.hok.fresh (dv _))
theorem zy{R:It->Hp->Prop}{hi:gV}{t u v:J_}(I:Inv X g A H s)(h1 : -(2 ^ 62)<=lo)(h2:lo<2 ^ 62)(c : -(2 ^ 62)<=hi)(d:hi<2 ^ 62)(q:R (JV lo (hi - lo).toNat) H):h_ (hY X.prog X.w) X.A (IX (.ref s.heap.objs.size)) (NC X g A tg R) no { s with heap:=s.heap.push { cls:=.type "range",data:=.fields #[.int lo t,.int hi u,.int 1 v] },toks:=tk }:=by
 refine Ku (Ka ..) (small_one h1 h2 c d) ?_;have a:Inv X g A H { s with heap:=s.heap.push { cls:=.type "range",data:=.fields #[.int lo t,.int hi u,.int 1 v] },toks:=tk }:=I.kept λb o e=>b_ _ e;refine⟨(s.heap.push { cls:=.type "range",data:=.fields #[.int lo t,.int hi u,.int 1 v] }).objs.size,[(s.heap.push { cls:=.type "range",data:=.fields #[.int lo t,.int hi u,.int 1 v] }).objs.size],_,_,H,Y,
  a.kept (t':=tk) λb o e=>b_ _ e,X5 _ lo (hi - lo).toNat,?_,λb f=>?_,q⟩
 ·have h:lo+((0:ft):gV) * 1=lo:=by simp
  have i:(((hi - lo).toNat:ft):gV) - ((0:ft):gV)=Cw lo hi 1:=by rw[rangeSize_one];split <;> lia
  simp only[h,i];exact f6 _ Y
 ·have e:b=(s.heap.push { cls:=.type "range",data:=.fields #[.int lo t,.int hi u,.int 1 v] }).objs.size:=by simpa using f
  subst e;exact a.fpOk (dv _) (a.hok.fresh (dv _))
inductive Yh(R:It->Hp->Prop)(Z:U V)(H1:Hp):Prop
 |i(j:gV)(_:Z=[.int j]) (_ : -(2 ^ 62)<=j) (_:j<2 ^ 62) (_:R (JV 0 j.toNat) H1)
def T_(ta:TA):TI:=λA H R=>ta A H λZ H1=>Yh R Z H1
inductive Wp(R:It->Hp->Prop)(Z:U V)(H1:Hp):Prop
 |i(i j:gV)(_:Z=[.int i,.int j])(_:(-(2 ^ 62)<=i/\i<2 ^ 62/\-(2 ^ 62)<=j/\j<2 ^ 62))(_:R (JV i (j - i).toNat) H1)
def Rz(ta:TA):TI:=λA H R=>ta A H λZ H1=>Wp R Z H1
theorem fB{a:tA}{ta:TA}(c:Gl X "range")(d:X.mg "range" =cx)(f:PA X [a] ta)(i:i' [a] X.env=[(d_,eval a X.env)]:=by rfl):PI X tg (.Call (.Name "range" p) [a] [] pos) (T_ ta):=by
 intro g s A H R I h;refine HS (eZ I c d Kv (oD (wd (f pos g s A H _ I h) λus v ⟨Z,H1,l,m,b⟩=>?_) i Y));obtain⟨j,e,b,n,q⟩:=b;subst e;cases m with
 |cons r u=>
  cases u;obtain⟨t,rfl⟩:=r;exact call_range_1 (zy l (by exact Ca _) (by exact Ca _) b n (by simp_all))
theorem Ws{a b:tA}{ta:TA}(l:Gl X "range")(m:X.mg "range" =cx)(n:PA X [a,b] ta)(z:i' [a,b] X.env=[(d_,eval a X.env),(d_,eval b X.env)]:=by rfl)(c:i' [b] X.env=[(d_,eval b X.env)]:=by rfl):
  PI X tg (.Call (.Name "range" p) [a,b] [] pos) (Rz ta):=by
 intro g s A H R I h;refine HS (eZ I l m Kv (oD (wd (n pos g s A H _ I h) λus B ⟨Z,H1,u,v,d⟩=>?_) (by simp_all) (by rw[c];rfl)));obtain⟨i,j,e,⟨d,w,x,y⟩,q⟩:=d;subst e;cases v with
 |cons r f=>
  cases f with
  |cons r' f=>
   cases f;obtain⟨t,rfl⟩:=r;obtain⟨t',rfl⟩:=r';exact call_range_2 (zy u d w x y q)
def Rb(wi:TI)(Ab:TG)(tb:TS):TS:=λD A H=>wi A H λAe H1=>∃W:ft->ft->St->Hp->Prop,(∃m,W 0 m A H1)/\∀i m A H,W i m A H->
 (Ae.stop i H/\D.nx A H)\/(Ae.go i H/\∃Ac:St->Hp->Prop,(∀a H',Ac a H'->∃c,c<m/\W (i+1) c a H')/\∀x H',Ae.yld i H x H'->Ab x A H' λb H2=>tb { D with nx:=Ac,ct:=Ac,bk:=D.nx } b H2)
def lI(fp:U ce)(h:sG):U (ce×z_):=fp.filterMap λb=>(h.get? b).map λo=>(b,o)
theorem nH{o:z_}(a:b∈fp)(e:h.get? b=O o):(b,o)∈lI fp h:=Ed.mpr ⟨b,a,by simp_all⟩
theorem VE{p:ce×z_}(a:p∈lI fp h):p.1∈fp/\h.get? p.1=O p.2:=by
 obtain⟨b,c,e⟩:=Ed.mp a;cases q:h.get? b with
 |none=>rw[q]at e;cases e
 |some o=>
  rw[q]at e;have d:=kn e;subst d;exact⟨c,q⟩
theorem Inv.pinned(I:Inv X g A H s)(a:∀b∈fp,fF X g H b)(f:∀b∈fp,∃o,s.heap.get? b=O o/\∀v,o.data≠.cell v):Inv X (g++lI fp s.heap) A H s:=
 I.pins_of λp c=>(pA.mp c).elim (λz=>I.pin p (s_ _ z)) λz=>by
  obtain⟨d,e⟩:=VE z;obtain⟨h,i,j,_⟩:=a p.1 d
  grind
theorem Inv.unpinned{pl:U (ce×z_)}(I:Inv X (g++pl) A H s):Inv X g A H s:=I.pins_of λp a=>I.pin p (s_ _ (DP _ a))
theorem zk(B:IJ (hY X.prog X.w) X.A X.env X.xe)(R:X.calm=c0)(hi:PI X tg iter wi)(hg:PG X tg Ab)(c:FX X body tb)(hs:∀x,Bc iter X.env x=zJ x:=by intro _;rfl):PS X (.For tg iter body [] pos) (Rb wi Ab tb):=by
 intro g s A H D I h;refine wpAny_For (wd (hi g s A H _ I h) λv s1 h1=>wd h1 λA0 s2 h2=>?_) hs;obtain⟨it,fp,S,Ae,H2,e,I2,T,L,Z,W,⟨m0,w0⟩,turn⟩:=h2;subst e;have j:∀{H':Hp},(∀b∈fp,H' b=cx)->∀b∈fp,fF X g H' b:=λhn b c=>⟨hn b c,(Z b c).2⟩
 refine codeAny_forLoop_any (λn s'=>∃i l H',Inv X g l H' s'/\S i s'.heap/\(∀b∈fp,H' b=cx)/\W i n l H') ?_ m0 ⟨0,A,H2,I2,L,λb c=>(Z b c).1,w0⟩;rintro n s3 ⟨i,p,K,I3,C,E,w3⟩;rcases turn i n p K w3 with⟨G,qn⟩ |⟨go,Ac,hN,step⟩
 ·refine Ct B (wd (T.done X Y Y Y R i g s3 p K X.xe I3 (j E) C G) λr s4 ⟨M,I4⟩=>?_);subst M;exact Ei ⟨p,K,I4,qn⟩
 ·refine Ct B (wd (T.item X Y Y Y R i g s3 p K X.xe I3 (j E) C go) λr s4 ⟨u,M,h4⟩=>?_);subst M;refine Ct B (wd h4 λ_ s5 ⟨x,H5,I5,r5,y5,z,N⟩=>?_);refine Ct B (wd (hg _ s5 p H5 x u _ (I5.pinned (j N) (T.obj _ _ z)) r5 (step x H5 y5)) λ_ s6 ⟨P,H6,I6,q6⟩=>?_);refine Ct B (wd (c _ s6 P H6 _ I6 q6) λf Q y=>?_);have again:∀{a:St}{q:Hp},Inv X (g++lI fp s5.heap) a q Q->Ac a q->∃m,m<n/\∃i l H',Inv X g l H' Q/\S i Q.heap/\(∀b∈fp,H' b=cx)/\W i m l H':=λ{a q} w J=>by
   obtain⟨m',hm,w7⟩:=hN a q J;refine⟨m',hm,i+1,a,q,w.unpinned,T.keep _ _ _ z λb c o e=>(w.pin (b,o) (s_ _ (s_ _ (nH c e)))).1,λb c=>?_,w7⟩;obtain⟨o,e,d⟩:=T.obj _ _ z b c;exact (w.pin (b,o) (s_ _ (s_ _ (nH c e)))).2.1
  cases f with
  |next=>obtain⟨a,q,w,J⟩:=y;exact again w J
  |cont=>obtain⟨a,q,w,J⟩:=y;exact again w J
  |brk=>obtain⟨a,q,w,y⟩:=y;exact⟨a,q,w.unpinned,y⟩
  |ret v=>obtain⟨x7,a,q,w,r7,y⟩:=y;exact⟨x7,a,q,w.unpinned,r7,y⟩
theorem jV(Pv:ft->St->Hp->Prop)(g:Pv 0 A H)(h:∀i A H,i<=E.length->Pv i A H->n7 K H a E)(j:∀i x A H,E[i]?=O x->Pv i A H->Ab x A H λb H2=>tb { D with nx:=Pv (i+1),ct:=Pv (i+1),bk:=D.nx } b H2)(hd:∀A H,Pv E.length A H->D.nx A H):
  ∃W:ft->ft->St->Hp->Prop,(∃m,W 0 m A H)/\∀i m A H,W i m A H->
   ((Ko K a).stop i H/\D.nx A H)\/((Ko K a).go i H/\∃Ac:St->Hp->Prop,(∀c H',Ac c H'->∃f,f<m/\W (i+1) f c H')/\∀x H',(Ko K a).yld i H x H'->Ab x A H' λb H2=>tb { D with nx:=Ac,ct:=Ac,bk:=D.nx } b H2):=by
 refine⟨λi m A H=>m=E.length - i/\i<=E.length/\Pv i A H,⟨E.length,by simp,ot _,g⟩,?_⟩;rintro i m A H ⟨rfl,hi,p⟩;have q:=h i A H hi p;by_cases d:i<E.length
 ·refine .inr ⟨⟨E,E[i],q,by simp⟩,Pv (i+1),λc H' l=>⟨E.length - (i+1),by lia,Y,d,l⟩,λx H' y=>?_⟩;obtain⟨e,y⟩:=y;subst e;exact j i x A _ (y E q) p
 ·have e:i=E.length:=by lia
  subst e;exact .inl ⟨⟨E,q,dv _⟩,hd A H p⟩
theorem Wa(Pv:ft->St->Hp->Prop)(g:Pv 0 A H)(h:∀i A H,i<=E.length->Pv i A H->th K H a E)(j:∀i x A H,E[i]?=O x->Pv i A H->Ab x A H λb H2=>tb { D with nx:=Pv (i+1),ct:=Pv (i+1),bk:=D.nx } b H2)(hd:∀A H,Pv E.length A H->D.nx A H):
  ∃W:ft->ft->St->Hp->Prop,(∃m,W 0 m A H)/\∀i m A H,W i m A H->
   ((Kl K a).stop i H/\D.nx A H)\/((Kl K a).go i H/\∃Ac:St->Hp->Prop,(∀c H',Ac c H'->∃f,f<m/\W (i+1) f c H')/\∀x H',(Kl K a).yld i H x H'->Ab x A H' λb H2=>tb { D with nx:=Ac,ct:=Ac,bk:=D.nx } b H2):=by
 refine⟨λi m A H=>m=E.length - i/\i<=E.length/\Pv i A H,⟨E.length,by simp,ot _,g⟩,?_⟩;rintro i m A H ⟨rfl,hi,p⟩;have q:=h i A H hi p;by_cases d:i<E.length
 ·refine .inr ⟨⟨E,E[i],q,by simp⟩,Pv (i+1),λc H' l=>⟨E.length - (i+1),by lia,Y,d,l⟩,λx H' y=>?_⟩;obtain⟨e,y⟩:=y;subst e;exact j i x A _ (y E q) p
 ·have e:i=E.length:=by lia
  subst e;exact .inl ⟨⟨E,q,dv _⟩,hd A H p⟩
theorem jW(Pv:ft->St->Hp->Prop)(f:Pv 0 A H)(g:∀i A H,i<n->Pv i A H->Ab (.int (lo+i)) A H λa H2=>tb { D with nx:=Pv (i+1),ct:=Pv (i+1),bk:=D.nx } a H2)(hd:∀A H,Pv n A H->D.nx A H):
  ∃W:ft->ft->St->Hp->Prop,(∃m,W 0 m A H)/\∀i m A H,W i m A H->
   ((JV lo n).stop i H/\D.nx A H)\/((JV lo n).go i H/\∃Ac:St->Hp->Prop,(∀b H',Ac b H'->∃d,d<m/\W (i+1) d b H')/\∀x H',(JV lo n).yld i H x H'->Ab x A H' λa H2=>tb { D with nx:=Ac,ct:=Ac,bk:=D.nx } a H2):=by
 refine⟨λi m A H=>m=n - i/\i<=n/\Pv i A H,⟨n,by simp,ot _,f⟩,?_⟩;rintro i m A H ⟨rfl,hi,p⟩;by_cases c:i<n
 ·refine .inr ⟨c,Pv (i+1),λb H' h=>⟨n - (i+1),by lia,Y,c,h⟩,λx H' y=>?_⟩;obtain⟨e,y⟩:=y;subst e y;exact g i A _ c p
 ·have e:i=n:=by lia
  subst e;exact .inl ⟨dv _,hd A H p⟩
abbrev R2:=V->V->Hp->VK->Prop
def DI(X:Cx)(f:cv->cv->M4 cv)(r:R2):Prop:=
 ∀(g:U (ce×z_))(s:f0)(A:St)(H:Hp)(x y:V)(v u:cv)(Q:VK),Inv X g A H s->aD x v->aD y u->r x y H Q->
  h_ (hY X.prog X.w) X.A (f v u) (EP X g A Q) X.xe s
def N9(X:Cx)(f:cv->M4 cv)(r:V->Hp->VK->Prop):Prop:=
 ∀(g:U (ce×z_))(s:f0)(A:St)(H:Hp)(x:V)(v:cv)(Q:VK),Inv X g A H s->aD x v->r x H Q->
  h_ (hY X.prog X.w) X.A (f v) (EP X g A Q) X.xe s
def bw(X:Cx)(f:cv)(r:U V->Hp->VK->Prop):Prop:=
 ∀(g:U (ce×z_))(s:f0)(A:St)(H:Hp)(E:U V)(us:U cv)(Q:VK),Inv X g A H s->aB E us->r E H Q->
  h_ (hY X.prog X.w) X.A (Fq f us) (EP X g A Q) X.xe s
def Yl(X:Cx)(r:V->Hp->(n_->Hp->Prop)->Prop):Prop:=
 ∀(g:U (ce×z_))(s:f0)(A:St)(H:Hp)(x:V)(v:cv)(Q:n_->Hp->Prop),Inv X g A H s->aD x v->r x H Q->
  h_ (hY X.prog X.w) X.A (IV v) (TP X g A Q) X.xe s
def Jn(r:R2)(ta tb:TE):TE:=λA H Q=>ta A H λx H1=>tb A H1 λy H2=>r x y H2 Q
def Vc(r:V->Hp->VK->Prop)(ta:TE):TE:=λA H Q=>ta A H λx H1=>r x H1 Q
inductive rI(C:gV->gV->Prop)(Ab:gV->gV->V)(x:V)(y:V)(H:Hp)(Q:VK):Prop
 |i(i j:_)(_:x = .int i)(_:y = .int j)(_:C i j)(_:Q (Ab i j) H)
inductive Jm(Ab:gV->gV->V)(x:V)(y:V)(H:Hp)(Q:VK):Prop
 |i(i j:_)(_:x = .int i)(_:y = .int j)(_:Q (Ab i j) H)
inductive rU(Ab:gV->V)(x:V)(H:Hp)(Q:VK):Prop
 |i(i:_)(_:x = .int i)(_:Q (Ab i) H)
section
variable{a b c:tA}{d e:TE}
theorem qz(i:PE X a ta)(j:PE X b d){R:V->V->Hp->Prop}(I:Inv X g A H s)(h:ta A H λx H1=>d A H1 λy H2=>R x y H2)(l:∀v u s2 x y H2,Inv X g A H2 s2->aD x v->aD y u->R x y H2->h_ (hY X.prog X.w) X.A (f v u) Q X.xe s2):
  h_ (hY X.prog X.w) X.A (eval a X.env) (λv c=>h_ (hY X.prog X.w) X.A (eval b X.env) (λu e=>h_ (hY X.prog X.w) X.A (f v u) Q X.xe e) X.xe c) X.xe s:=by
 refine wd (i g s A H _ I h) λv m ⟨x,H1,n,p,q⟩=>?_;refine wd (j g m A H1 _ n q) λu s2 ⟨y,H2,r,w,z⟩=>?_;exact l v u s2 x y H2 r p w z
theorem aq{op:Gw}{r:R2}(c:DI X (Cb op) r)(e:PE X a ta)(f:PE X b d):PE X (.BinOp a op b pos) (Jn r ta d):=by
 intro g s A H Q I h;exact wpAny_BinOp (qz e f I h λv u s2 x y H2 i j l q=>c g s2 A H2 x y v u Q i j l q)
theorem iq{op:UnaryOp}{r:V->Hp->VK->Prop}(b:N9 X (unaryOp op) r)(c:PE X a ta):PE X (.UnaryOp op a pos) (Vc r ta):=by
 intro g s A H Q I h;exact UnaryOp_ (wd (c g s A H _ I h) λv d ⟨x,H1,e,f,i⟩=>b g d A H1 x v Q e f i)
theorem MR{C:gV->gV->Prop}{Ab:gV->gV->gV}(Lm:∀(i j:gV)(t u:J_)(s:f0)(Q:cv->f0->Prop)(no:cv->f0->Prop),C i j->Q (.int (Ab i j) s.toks) { s with toks:=s.toks+1 }->h_ (hY X.prog X.w) X.A (f (.int i t) (.int j u)) Q no s):
  DI X f (rI C λi j=>.int (Ab i j)):=by
 intro g s A H x y v u Q I a b h;obtain⟨i,j,rfl,rfl,c,q⟩:=h;obtain⟨t,rfl⟩:=a;obtain⟨t',rfl⟩:=b;exact Lm i j t t' s _ _ c ⟨.int (Ab i j),H,I.tok _,⟨_,Y⟩,q⟩
theorem r9{Ab:gV->gV->gV}(Lm:∀(i j:gV)(t u:J_)(s:f0)(Q:cv->f0->Prop)(no:cv->f0->Prop),Q (.int (Ab i j) s.toks) { s with toks:=s.toks+1 }->h_ (hY X.prog X.w) X.A (f (.int i t) (.int j u)) Q no s):
  DI X f (Jm λi j=>.int (Ab i j)):=by
 intro g s A H x y v u Q I a b h;obtain⟨i,j,rfl,rfl,q⟩:=h;obtain⟨t,rfl⟩:=a;obtain⟨t',rfl⟩:=b;exact Lm i j t t' s _ _ ⟨.int (Ab i j),H,I.tok _,⟨_,Y⟩,q⟩
theorem nX{Ab:gV->gV->n_}(Lm:∀(i j:gV)(t u:J_)(s:f0)(Q:cv->f0->Prop)(no:cv->f0->Prop),Q (.bool (Ab i j)) s->h_ (hY X.prog X.w) X.A (f (.int i t) (.int j u)) Q no s):
  DI X f (Jm λi j=>.bl (Ab i j)):=by
 intro g s A H x y v u Q I a b h;obtain⟨i,j,rfl,rfl,q⟩:=h;obtain⟨t,rfl⟩:=a;obtain⟨t',rfl⟩:=b;exact Lm i j t t' s _ _ ⟨.bl (Ab i j),H,I,Y,q⟩
def ve(i j:gV):Prop:=0<j/\j<1073741824
def lZ(i j:gV):Prop:=(-(2 ^ 64)<i/\i<2 ^ 64)\/(-(2 ^ 64)<j/\j<2 ^ 64)
theorem lZ.ok{i j:gV}(h:lZ i j):IntMulOk i j:=by
 rcases h with⟨h1,h2⟩ |⟨h1,h2⟩
 ·exact .of_left (Na h1 h2)
 ·exact .of_right (Na h1 h2)
theorem VC(k:ft):(0:gV)<=2 ^ k:=by
 exact Ca _
theorem aU:DI X (Cb .Add) (Jm λi j=>.int (i+j)):=r9 λ_ _ _ _ _ _ _ q=>add_int q
theorem cJ:DI X (Cb .Sub) (Jm λi j=>.int (i - j)):=r9 λ_ _ _ _ _ _ _ q=>sub_int q
theorem d7:DI X (Cb .Mult) (rI lZ λi j=>.int (i * j)):=MR λ_ _ _ _ _ _ _ a q=>mul_int q a.ok
theorem gh:DI X (Cb .FloorDiv) (rI ve λi j=>.int (i / j)):=MR λi j _ _ _ _ _ a q=>by
 have h1:=a.1;have h2:=a.2;exact floordiv_int (by omega) (by rw[GZ i (by omega)];exact q) (.inl (G_ (by omega)))
theorem b9:DI X (Cb .Mod) (rI (λ_ j=>0<j) λi j=>.int (i % j)):=MR λi j _ _ _ _ _ a q=>by
 exact mod_int' (by lia) (by exact (Int.fmod_eq_emod_of_nonneg i (by exact EF ‹_›)) ▸ q)
theorem RN:DI X (Cb .RShift) (rI (λ_ j=>0<=j) λi j=>.int (i / 2 ^ j.toNat)):=MR λi j _ _ _ _ _ a q=>
 rshift_int a (by exact (GZ i (VC _)) ▸ q)
theorem VU:DI X (Cb .BitAnd) (Jm λi j=>.int (F_ i j)):=r9 λ_ _ _ _ _ _ _ q=>and_int q
theorem Ta{f:cv->M4 cv}{Ab:gV->gV}(Lm:∀(i:gV)(t:J_)(s:f0)(Q:cv->f0->Prop)(no:cv->f0->Prop),Q (.int (Ab i) s.toks) { s with toks:=s.toks+1 }->h_ (hY X.prog X.w) X.A (f (.int i t)) Q no s):
  N9 X f (rU λi=>.int (Ab i)):=by
 intro g s A H x v Q I a h;obtain⟨i,rfl,q⟩:=h;obtain⟨t,rfl⟩:=a;exact Lm i t s _ _ ⟨.int (Ab i),H,I.tok _,⟨_,Y⟩,q⟩
theorem iy:N9 X (unaryOp .USub) (rU λi=>.int (-i)):=Ta λ_ _ _ _ _ q=>neg_int q
end
def Iv:V->V->n_
 |.non,.non=>c0 |.non,.int _=>c0 |.int _,.non=>c0 |.non,.bl _=>c0 |.bl _,.non=>c0 |.non,.str _=>c0 |.str _,.non=>c0
 |.int _,.int _=>c0 |.bl _,.bl _=>c0 |.str _,.str _=>c0 |.byt _,.byt _=>c0
 |.int _,.str _=>c0 |.str _,.int _=>c0 |.bl _,.str _=>c0 |.str _,.bl _=>c0
 |_,_=>d_
def US:R2:=λx y H Q=>Iv x y=c0/\Q (.bl (decide (x=y))) H
def rNe:R2:=λx y H Q=>Iv x y=c0/\Q (.bl (!decide (x=y))) H
theorem BS{i j:gV}:decide (V.int i=V.int j)=(i ==j):=by
 rw[x0];simp
theorem wS{i j:n_}:decide (V.bl i=V.bl j)=(i ==j):=by
 rw[x0];simp
theorem wU{i j:hO}:decide (V.str i=V.str j)=(i ==j):=by
 rw[x0];simp
theorem wT{i j:t_ UInt8}:decide (V.byt i=V.byt j)=(i.toList ==j.toList):=by
 rw[x0]
 simp_all
section
variable{a b c:tA}{l n:TE}
theorem bx{Q:VK}{k a:n_}(I:Inv X g A H s)(q:Q (.bl k) H)(e:k=a):EP X g A Q (.bool a) s:=by
 subst e;exact⟨.bl k,H,I,Y,q⟩
theorem bh:DI X (su .Eq) US:=by
 intro g s A H x y v u Q I c a h;obtain⟨b,q⟩:=h;cases x with
 |non=>
  cases c;cases y with
  |non=>cases a;exact LK (bx I q (by simp))
  |bl j=>cases a;exact LL (bx I q (by simp))
  |int j=>obtain⟨t',rfl⟩:=a;exact LM (bx I q (by simp))
  |str j=>obtain⟨t',rfl⟩:=a;exact LN (bx I q (by simp))
  |_=>exact hQ (show d_=c0 from b) kC
 |bl i=>
  cases c;cases y with
  |non=>cases a;exact LO (bx I q (by simp))
  |bl j=>cases a;exact eq_bool (bx I q wS)
  |str j=>obtain⟨t',rfl⟩:=a;exact Ln (bx I q (by simp))
  |_=>exact hQ (show d_=c0 from b) kC
 |int i=>
  obtain⟨t,rfl⟩:=c;cases y with
  |non=>cases a;exact LP (bx I q (by simp))
  |int j=>obtain⟨t',rfl⟩:=a;exact eq_int (bx I q BS)
  |str j=>obtain⟨t',rfl⟩:=a;exact Lo (bx I q (by simp))
  |_=>exact hQ (show d_=c0 from b) kC
 |str i=>
  obtain⟨t,rfl⟩:=c;cases y with
  |non=>cases a;exact LR (bx I q (by simp))
  |bl j=>cases a;exact Lp (bx I q (by simp))
  |int j=>obtain⟨t',rfl⟩:=a;exact Lq (bx I q (by simp))
  |str j=>obtain⟨t',rfl⟩:=a;exact eq_str (bx I q wU)
  |_=>exact hQ (show d_=c0 from b) kC
 |byt i=>
  obtain⟨t,rfl⟩:=c;cases y with
  |byt j=>obtain⟨t',rfl⟩:=a;exact W.eq_bytes (bx I q wT)
  |_=>exact hQ (show d_=c0 from b) kC
 |_=>cases y <;> exact hQ (show d_=c0 from b) kC
theorem fR:DI X (su .NotEq) rNe:=by
 intro g s A H x y v u Q I c a h;obtain⟨b,q⟩:=h;cases x with
 |non=>
  cases c;cases y with
  |non=>cases a;exact LS (bx I q (by simp))
  |bl j=>cases a;exact LU (bx I q (by simp))
  |int j=>obtain⟨t',rfl⟩:=a;exact LV (bx I q (by simp))
  |str j=>obtain⟨t',rfl⟩:=a;exact LX (bx I q (by simp))
  |_=>exact hQ (show d_=c0 from b) kC
 |bl i=>
  cases c;cases y with
  |non=>cases a;exact LY (bx I q (by simp))
  |bl j=>cases a;exact ne_bool (bx I q (tS not wS))
  |str j=>obtain⟨t',rfl⟩:=a;exact Lr (bx I q (by simp))
  |_=>exact hQ (show d_=c0 from b) kC
 |int i=>
  obtain⟨t,rfl⟩:=c;cases y with
  |non=>cases a;exact LZ (bx I q (by simp))
  |int j=>obtain⟨t',rfl⟩:=a;exact ne_int (bx I q (tS not BS))
  |str j=>obtain⟨t',rfl⟩:=a;exact Ls (bx I q (by simp))
  |_=>exact hQ (show d_=c0 from b) kC
 |str i=>
  obtain⟨t,rfl⟩:=c;cases y with
  |non=>cases a;exact L_ (bx I q (by simp))
  |bl j=>cases a;exact Lu (bx I q (by simp))
  |int j=>obtain⟨t',rfl⟩:=a;exact Lv (bx I q (by simp))
  |str j=>obtain⟨t',rfl⟩:=a;exact ne_str (bx I q (tS not wU))
  |_=>exact hQ (show d_=c0 from b) kC
 |byt i=>
  obtain⟨t,rfl⟩:=c;cases y with
  |byt j=>obtain⟨t',rfl⟩:=a;exact W.ne_bytes (bx I q (tS not wT))
  |_=>exact hQ (show d_=c0 from b) kC
 |_=>cases y <;> exact hQ (show d_=c0 from b) kC
theorem nY:DI X (su .Lt) (Jm λi j=>.bl (decide (i<j))):=nX λ_ _ _ _ _ _ _ q=>lt_int q
theorem gi:DI X (su .LtE) (Jm λi j=>.bl (decide (i<=j))):=nX λ_ _ _ _ _ _ _ q=>le_int q
theorem e9:DI X (su .Gt) (Jm λi j=>.bl (decide (j<i))):=nX λ_ _ _ _ _ _ _ q=>gt_int q
theorem sd:DI X (su .GtE) (Jm λi j=>.bl (decide (j<=i))):=nX λ_ _ _ _ _ _ _ q=>ge_int q
theorem Vf:DI X (su .Lt) (λx y H Q=>∃i j,x = .str i/\y = .str j/\Q (.bl (decide (i.cps.toList<j.cps.toList))) H):=by
 intro g s A H x y v u Q I a b h;obtain⟨i,j,rfl,rfl,q⟩:=h;obtain⟨t,rfl⟩:=a;obtain⟨t',rfl⟩:=b;exact lt_str (bx I q Y)
theorem dI:DI X (su .Is) (λx y H Q=>y = .non/\Q (.bl (decide (x = .non))) H):=by
 intro g s A H x y v u Q I a b h;obtain⟨rfl,q⟩:=h;cases b;refine is_none_gen (bx I q ?_);cases x <;> first
  | (obtain⟨t,rfl⟩:=a;rfl)
theorem yZ:DI X (su .IsNot) (λx y H Q=>y = .non/\Q (.bl (!decide (x = .non))) H):=by
 intro g s A H x y v u Q I a b h;obtain⟨rfl,q⟩:=h;cases b;refine isnot_none_gen (bx I q ?_);cases x <;> first
  | (obtain⟨t,rfl⟩:=a;rfl)
theorem DI.or{r r':R2}(h:DI X f r)(h':DI X f r'):DI X f (λx y H Q=>r x y H Q\/r' x y H Q):=by
 intro g s A H x y v u Q I a b q;rcases q with q |q
 ·exact h g s A H x y v u Q I a b q
 ·exact h' g s A H x y v u Q I a b q
theorem aC(b:tA)(h:op≠.In:=by decide)(h2:op≠.NotIn:=by decide):Cv op b=d_:=by
 have a:(op ==M6)=d_:=by grind
 have c:(op ==KQ)=d_:=by grind
 cases b <;> simp[Cv,a,c]
theorem c8{r:R2}(c:DI X (su op) r)(d:PE X a ta)(e:PE X b l)(f:Cv op b=d_):PE X (.Compare a [op] [b] pos) (Jn r ta l):=by
 intro g s A H Q I h;exact M7 (qz d e I h λv u s2 x y H2 i j m q=>c g s2 A H2 x y v u Q i j m q) f
inductive Vj(Q:n_->Hp->Prop)(x:V)(H':Hp):Prop
 |i(k:_)(_:x = .bl k)(_:Q k H')
def kA(t:TE):TT:=λA H Q=>t A H λx H'=>Vj Q x H'
theorem aE{r:R2}(d:DI X (su op) r)(f:PE X a ta)(i:PE X b l)(j:Cv op b=d_):PT X (.Compare a [op] [b] pos) (kA (Jn r ta l)):=by
 intro g s A H Q I h;refine Jq (wd (f g s A H _ I h) λv m ⟨x,H1,n,p,q⟩=>wd (i g m A H1 _ n q) λu s2 ⟨y,H2,w,B,C⟩=>
  wd (d g s2 A H2 x y v u _ w p B C) λc K ⟨z,D,E,G,k,e,J⟩=>?_) j
 subst e;cases G;exact tx ⟨D,E,J⟩
inductive V_(r':R2)(n:TE)(A:St)(Q:VK)(y:V)(z:V)(a:Hp):Prop
 |i(k:_)(_:z = .bl k)(_:(if k=c0 then n A a λb c=>r' y b c Q else Q (.bl d_) a))
def P_(r r':R2)(ta l n:TE):TE:=λA H Q=>ta A H λx H1=>l A H1 λy H2=>r x y H2 λz a=>V_ r' n A Q y z a
theorem lD{r r':R2}(q:DI X (su op) r)(f:DI X (su op') r')(w:PE X a ta)(B:PE X b l)(C:PE X c n)(D:lastMarks [op,op'] [b,c]=d_:=by with_unfolding_all rfl):PE X (.Compare a [op,op'] [b,c] pos) (P_ r r' ta l n):=by
 intro g s A H Q I h;refine Compare_chain (wd (w g s A H _ I h) λv E ⟨x,H1,G,J,K⟩=>chain_link (wd (B g E A H1 _ G K) λu s2 ⟨y,H2,L,i,M⟩=>
  wd (q g s2 A H2 x y v u _ L J i M) λd N ⟨z,j,m,P,k,e,p⟩=>?_)) D
 subst e;cases P;refine tx ?_;cases k with
 |false=>exact ite_ff ⟨.bl d_,j,m,Y,p⟩
 |true=>exact ite_tt (chain_last (wd (C g N A j _ m p) λR S ⟨T,Z,I4,r4,q4⟩=>f g S A Z y T u R Q I4 i r4 q4))
theorem zm{r r':R2}(q:DI X (su op) r)(f:DI X (su op') r')(w:PE X a ta)(B:PE X b l)(C:PE X c n)(D:lastMarks [op,op'] [b,c]=d_:=by with_unfolding_all rfl):PT X (.Compare a [op,op'] [b,c] pos) (kA (P_ r r' ta l n)):=by
 intro g s A H Q I h;refine isTrue_chain (wd (w g s A H _ I h) λv E ⟨x,H1,G,J,K⟩=>test_link (wd (B g E A H1 _ G K) λu s2 ⟨y,H2,L,i,M⟩=>
  wd (q g s2 A H2 x y v u _ L J i M) λd N ⟨z,j,m,P,k,e,p⟩=>?_)) D
 subst e;cases P;refine tx ?_;cases k with
 |false=>
  obtain⟨k',R,S⟩:=p;cases R;exact ite_ff ⟨j,m,S⟩
 |true=>
  refine ite_tt (test_last (wd (C g N A j _ m p) λT Z ⟨z',H4,I4,r4,q4⟩=>wd (f g Z A H4 y z' u T _ I4 i r4 q4) λd' s5 ⟨z2,H5,I5,r5,k2,e2,q5⟩=>?_));subst e2;cases r5;exact tx ⟨H5,I5,q5⟩
def qf(K:fy)(x:V)(H:Hp)(k:n_):Prop:=
 match x with
 |.non=>k=d_
 |.bl b=>k=b
 |.int i=>k=(i !=0)
 |.str y=>y.length<=fx/\k=((y.length:gV) !=0)
 |.byt y=>y.size<=fx/\k=((y.size:gV) !=0)
 |.ref p=>(∃E,n7 K H p E/\k = !E.isEmpty)\/(∃E,th K H p E/\k = !E.isEmpty)\/∃G,H p=O (.dK G)/\k = !G.isEmpty
 |_=>wa
theorem Wq{G:U (κ×V)}{Z:U (κ×cv)}(r:KV G Z):(!Z.isEmpty) = !G.isEmpty:=by
 cases r <;> rfl
theorem xJ(r:aB E J):(!J.toArray.isEmpty) = !E.isEmpty:=by
 cases r <;> simp
theorem lw:(fx:ft)<2 ^ 63:=by rw[BB];decide
theorem NT:Yl X (λx H Q=>∃k,qf X.K x H k/\Q k H):=by
 intro g s A H x v Q I d h;obtain⟨k,e,q⟩:=h;have n:=BB;cases x with
 |non=>
  cases d;have a:=e;subst a;exact truthy_none ⟨H,I,q⟩
 |bl b=>
  cases d;have a:=e;subst a;exact tx ⟨H,I,q⟩
 |int i=>
  obtain⟨t,rfl⟩:=d;have a:=e;subst a;exact PySem.P.truthy_int ⟨H,I,q⟩
 |str y=>
  obtain⟨t,rfl⟩:=d;obtain⟨j,a⟩:y.length<=fx/\k=((y.length:gV) !=0):=e;subst a;exact PySem.P.truthy_str (by lia) ⟨H,I.tok _,q⟩
 |byt y=>
  obtain⟨t,rfl⟩:=d;obtain⟨j,a⟩:y.size<=fx/\k=((y.size:gV) !=0):=e;subst a;exact W.truthy_bytes (by lia) ⟨H,I.tok _,q⟩
 |ref p=>
  cases d;have a:=e;rcases a with⟨E,f,a⟩ |⟨E,f,a⟩ |⟨G,f,a⟩
  ·subst a;obtain⟨J,r,pl,hz⟩:=I.list f;have c:=r.length;exact wpAny_truthy_list pl.isList (by simp only[hL];lia) ⟨H,I.tok _,by rw[xJ r];exact q⟩
  ·subst a;obtain⟨J,r,pl,hz⟩:=I.tuple f;have c:=r.length;exact truthy_tuple pl (by simp only[hL];lia) ⟨H,I.tok _,by rw[xJ r];exact q⟩
  ·subst a;obtain⟨hz,l,Z,r,m⟩:G.length<=fx/\(p ==BG)=d_/\∃Z,KV G Z/\s.heap.DictOf (cy X.prog X.w) p Z:=I.hok p _ f;have c:=Paired.length r;exact wpAny_truthy_dict l m (by lia) ⟨H,I.tok _,by exact (Wq r) ▸ q⟩
 |_=>exact (show wa from e).elim
theorem U8(c:PE X a ta)(d:∀b,isTrue a X.env b=(do let v ←b;FI a.pos;EB [v] (IV v))):
  PT X a (λA H Q=>ta A H λx H'=>∃k,qf X.K x H' k/\Q k H'):=by
 intro g s A H Q I h;exact IW (wd (c g s A H _ I h) λv e ⟨x,H1,f,i,j⟩=>NT g e A H1 x v Q f i j) (d _)
theorem jo:DI X (Cb .Add) (λx y H Q=>∃i j,x = .str i/\y = .str j/\i.length+j.length<=fx/\Q (.str (i++j)) H):=by
 intro g s A H x y v u Q I a b h;obtain⟨i,j,rfl,rfl,hz,q⟩:=h;obtain⟨t,rfl⟩:=a;obtain⟨t',rfl⟩:=b;exact add_str (λt' tk=>⟨.str (i++j),H,I.tok _,⟨_,Y⟩,q⟩) hz
theorem df{x:V}(r:aB [x] us):∃u,us=[u]/\aD x u:=by
 cases r with
 |cons a b=>cases b;exact⟨_,Y,a⟩
theorem lY{x:V}(r:aB [x,y] us):∃u a,us=[u,a]/\aD x u/\aD y a:=by
 cases r with
 |cons b c=>
  cases c with
  |cons d e=>cases e;exact⟨_,_,Y,b,d⟩
theorem zeO(b:X.calm=c0):bw X (.builtin "max") (λE H Q=>∃i j,E=[.int i,.int j]/\Q (.int (if j > i then j else i)) H):=by
 intro g s A H E us Q I r h;obtain⟨i,j,rfl,q⟩:=h;obtain⟨u,c,rfl,⟨t,rfl⟩,⟨t',rfl⟩⟩:=lY r;refine max_two_ints (I.ok.hd b) λh' tk k=>⟨_,H,I.kept k,?_,q⟩
 by_cases a:j > i
 ·rw[mu a,mu a];exact⟨_,Y⟩
 ·rw[ks a,ks a];exact⟨_,Y⟩
theorem Zr:bw X (.type "int") (λE H Q=>(∃i,E=[.int i]/\Q (.int i) H)\/∃k,E=[.bl k]/\Q (.int (if k then 1 else 0)) H):=by
 intro g s A H E us Q I r h;rcases h with⟨i,rfl,q⟩ |⟨k,rfl,q⟩
 ·obtain⟨u,rfl,t,rfl⟩:=df r;exact call_int_int ⟨.int i,H,I,⟨_,Y⟩,q⟩
 ·obtain⟨u,rfl,a⟩:=df r;cases a;exact call_int_bool ⟨.int (if k then 1 else 0),H,I.tok _,⟨_,Y⟩,q⟩
end
structure i5(h:sG)(x dx C:ce)(mA:hO->eH cv):Prop where
 obj:h.get? x=O (En C dx)
 ns:h.Ns1 dx mA
 ne:dx≠x
theorem zhw(n:h.Ns1 dx mA):∃od,h.get? dx=O od/\∀name,I_ name od=O (mA name):=by
 obtain⟨o,es,ep,c,hd,d,_,f⟩:=n;refine⟨o,c,λname=>?_⟩;have e:=f name;unfold nsFind Kw at e;rw[←Array.find?_toList]at e
 delta I_
 rw[hd];dsimp only
 split
 ·simp_all
 ·rename_i q
  rw[q]at e;have a:es.toList.any (·.refKey)=d_:=by
   rw[List.any_eq_false];intro y g;obtain⟨z,t,b⟩:=d y (HU.mp g);simp[ND,b]
  grind
theorem i5.look{x:ce}(I:i5 h x dx C mA):∃od,W.InstAt h x (En C dx) C (O od)/\∀name,I_ name od=O (mA name):=
 let⟨od,a,b⟩:=zhw I.ns
 ⟨od,⟨I.obj,Y,Y,a⟩,b⟩
section
variable{x f:ce}
theorem ZN{a:n_}(X:K.In s.heap)(I:i5 s.heap x dx C mA)(c:Hw K C name=c0)(d:Ja K C=c0)(e:BQ K (.ref C) name=O cx)(f:mA name=O v)(b:NE v=c0)(h:Q v { s with toks:=s.toks+1 }):
  h_ (hY prog w) on (NF (.ref x) name a) Q no s:=by
 obtain⟨od,Ae,g⟩:=I.look;exact W.get_value X Ae (HV c).1 (W.findObj_own d e Y (by simp_all)) b h
theorem S'{Q:cv×U cv->f0->Prop}(X:K.In s.heap)(I:i5 s.heap x dx C mA)(a:Hw K C name=c0)(b:BQ K (.ref C) name=O (O (.ref f)))(c:NG K (.ref f)=c0)(d:mA name=cx)(h:Q (.ref f,[.ref x]) s):
  h_ (hY prog w) on (G' (.ref x) name pl) Q no s:=by
 obtain⟨od,Ae,e⟩:=I.look;exact W.method_fn X Ae (HV a).1 (HV a).2 b (Fe.mp c) (by show (I_ name od).map (·.isSome)=O d_;rw[e,d];rfl) h
theorem IH{ns:U hO}{Q:J9->f0->Prop}(X:K.In s.heap)(I:i5 s.heap x dx C mA)(i:BQ K (.ref C) "__setattr__" =O (O (.builtin "object.__setattr__")))(j:Nb K C=c0)(l:Kx K C name=O cx)(m:Ja K C=c0)(n:Hu mA ns)(p:ns.length<=fx)(h:∀h',i5 h' x dx C (λy=>if y=name then O v else mA y)->wh dx s.heap h'->Q () { s with heap:=h',toks:=s.toks+2 }):
  h_ (hY prog w) on (setAttr (.ref x) name v) Q no s:=by
 obtain⟨od,Ae,z⟩:=I.look;refine W.set_plain X Ae i (W.osa_open X Ae j l λb=>?_);obtain⟨cd,q,d⟩:=W.any_some m;refine b7 (eM (b7 (b7 (M9 I.obj (b7 (W.Looks.here (W.looks_clsIn X q) ?_))))));rw[d];refine eM (b7 (eM (b7 ?_)));refine wpAny_nsSet1 I.ns λh' a c=>?_;obtain⟨A,r,u,e,f,g⟩:=a.count (L' name v n);refine b7 (wpAny_lookBehind e (by exact f ▸ (pastItsLine_dict (jE g (by simp_all)))) ?_);exact eM (h _ ⟨(c.2 _ (v_ I.ne)).trans I.obj,a,I.ne⟩ c)
theorem Wu(X:K.In s.heap)(b:QG K C=c0)(hi:BQ K (.ref C) "__init__" =O (O (.ref f)))(c:W.typeIn K (.ref f)=O (.type "function"))(h:C7 (hY prog w) (on.under (.builtin "type.__call__" ⟨.ref C::Z,kw⟩)) (.call (.ref f) ⟨.ref (s.heap.objs.size+1)::Z,kw⟩) (W.InitBack (s.heap.objs.size+1) R)
   { s with heap:=(s.heap.push CF).push (En C s.heap.objs.size) }):
  C7 (hY prog w) on (.call (.ref C) ⟨Z,kw⟩) R s:=by
 exact W.make_core (W.makes_of X b) (Fs X hi) (λa=>W.bind_fn X a c) (.inl Y) h
end
def cV(f:hO)(v:V):U (hO×V)->U (hO×V)
 |[]=>[(f,v)]
 | (Ab,x)::r=>if Ab=f then (Ab,v)::r else (Ab,x)::cV f v r
theorem xY(f Ab:hO)(v:V):∀fs:U (hO×V),(cV f v fs).lookup Ab=if Ab=f then O v else fs.lookup Ab
 |[]=>by
  show List.lookup Ab [(f,v)]=_;by_cases h:Ab=f
  ·have a:(Ab ==f)=c0:=Fe.mpr h
   grind
  ·grind
 | (k,x)::r=>by
  have b:=xY f Ab v r;rw[show cV f v ((k,x)::r)=(if k=f then (k,v)::r else (k,x)::cV f v r) from Y]
  grind
theorem rD(f:hO)(v:V):∀fs:U (hO×V),f∈(cV f v fs).map (·.1)/\∀Ab,Ab∈fs.map (·.1)->Ab∈(cV f v fs).map (·.1)
 |[]=>⟨by simp[cV],λAb h=>by simp at h⟩
 | (k,x)::r=>by
  obtain⟨i1,i2⟩:=rD f v r;rw[show cV f v ((k,x)::r)=(if k=f then (k,v)::r else (k,x)::cV f v r) from Y]
  grind
theorem xV(f:hO)(v:V):∀fs:U (hO×V),(cV f v fs).length<=fs.length+1
 |[]=>by simp[cV]
 | (k,x)::r=>by
  have a:=xV f v r;rw[show cV f v ((k,x)::r)=(if k=f then (k,v)::r else (k,x)::cV f v r) from Y];by_cases b:k=f
  ·simp_all
  ·simp_all
theorem cZ.some_of{v:V}{o:eH cv}(r:cZ (O v) o):∃u,o=O u/\aD v u:=by
 cases o with
 |none=>exact (show wa from r).elim
 |some u=>exact⟨u,Y,r⟩
theorem cZ.none_of{o:eH cv}(r:cZ cx o):o=cx:=by
 cases o with
 |none=>rfl
 |some u=>exact (show wa from r).elim
theorem Xs{v:V}(r:aD v u):NE u=c0:=by
 cases v with
 |non=>cases (show u=Dg from r);rfl
 |bl b=>cases (show u=Cs b from r);rfl
 |int i=>obtain⟨t,e⟩:=(show ∃t,u=DY i t from r);cases e;rfl
 |str x=>obtain⟨t,e⟩:=(show ∃t,u=DZ x t from r);cases e;rfl
 |byt b=>obtain⟨t,e⟩:=(show ∃t,u=KP b t from r);cases e;rfl
 |flt b=>obtain⟨t,e⟩:=(show ∃t,u=HR b t from r);cases e;rfl
 |ref a=>cases (show u=ql a from r);rfl
 |ty n=>cases (show u=Dh n from r);rfl
section
variable{b c:U (hO×V)}
theorem ny(c:Ew Aa w H h)(e:H a=O (.ins C dx b)):∃mA,i5 h a dx C mA/\(∀f,cZ (b.lookup f) (mA f))/\Hu mA (b.map (·.1))/\b.length<=1000/\H dx=O (.own a):=by
 obtain⟨d,z,ne,g,mA,n,r,q⟩:=(show bo Aa w H h a (.ins C dx b) from c a _ e)
 exact⟨mA,⟨g,n,ne⟩,r,q,z,d⟩
end
structure HB(K:fy)(C:ce):Prop where
 pg:Hw K C Str.empty=c0
 hd:Ja K C=c0
 po:Nb K C=c0
 sa:BQ K (.ref C) "__setattr__" =O (O (.builtin "object.__setattr__"))
theorem HB.get(c:HB K C)(f:hO):Hw K C f=c0:=c.pg
def cN(K:fy)(C:ce)(f:hO):Prop:=BQ K (.ref C) f=O cx
theorem cN.taker{f:hO}(n:cN K C f):Kx K C f=O cx:=by
 delta Kx
 rw[show BQ K (.ref C) f=O cx from n];rfl
structure i4(K:fy)(C:ce)(m:hO)(f:ce):Prop where
 at_:BQ K (.ref C) m=O (O (.ref f))
 fn:NG K (.ref f)=c0
 kp:BD K (.ref f)=c0
section
variable{d:U (hO×V)}{f:hO}{v:V}
theorem xC{b:n_}(I:Inv X g A H s)(e:H a=O (.ins C dx d))(c:HB X.K C)(n:cN X.K C f)(l:d.lookup f=O v)(h:∀u s',Inv X g A H s'->aD v u->Q u s'):h_ (hY X.prog X.w) on (NF (.ref a) f b) Q no s:=by
 obtain⟨mA,j,r,_,_,_⟩:=ny I.hok e;obtain⟨u,m,i⟩:=cZ.some_of (by exact l ▸ (r f));exact ZN I.kIn j (c.get f) c.hd n m (Xs i) (h u _ (I.tok _) i)
theorem rg{m:hO}{Ab:ce}{Q:cv×U cv->f0->Prop}(I:Inv X g A H s)(e:H a=O (.ins C dx d))(c:HB X.K C)(k:i4 X.K C m Ab)(l:d.lookup m=cx)(h:Q (.ref Ab,[.ref a]) s):h_ (hY X.prog X.w) on (G' (.ref a) m pl) Q no s:=by
 obtain⟨mA,b,r,_,_,_⟩:=ny I.hok e;exact S' I.kIn b (c.get m) k.at_ k.fn (cZ.none_of (by exact l ▸ (r m))) h
theorem OM{Q:J9->f0->Prop}(I:Inv X g A H s)(e:H a=O (.ins C dx d))(c:HB X.K C)(n:cN X.K C f)(B:d.length<1000)(m:aD y u)(h:∀s',Inv X g A (upd H a (.ins C dx (cV f y d))) s'->Q () s'):h_ (hY X.prog X.w) on (setAttr (.ref a) f u) Q no s:=by
 obtain⟨mA,i,r,wi,_,l⟩:=ny I.hok e;have hz:(d.map (·.1)).length<=fx:=by simp only[bd,BB];lia
 refine IH I.kIn i c.sa c.po n.taker c.hd wi hz λh' j p=>h _ ?_;have hd:∃o,h'.get? dx=O o:=by obtain⟨o,_,_,v,_⟩:=j.ns;exact⟨o,v⟩
 refine I.write (by rw[e];exact zF) (.inr l) (λb q w z=>(p.2 b w).trans z) hd ?_;refine⟨by rw[ag i.ne];exact l,?_,i.ne,j.obj,_,j.ns,λAb=>?_,λAb x=>?_⟩
 ·have:=xV f y d;exact jE ‹_› ‹_›
 ·show cZ ((cV f y d).lookup Ab) (if Ab=f then O u else mA Ab);rw[xY];by_cases q:Ab=f
  ·rw[mu q,mu q];exact m
  ·simp_all
 ·by_cases q:Ab=f
  ·simpa only[q]using (rD f y d).1
  ·refine (rD f y d).2 Ab (wi Ab λz=>x ?_)
   grind
theorem Inv.made(I:Inv X g A H s):Inv X g A (upd (upd H s.heap.objs.size (.own (s.heap.objs.size+1))) (s.heap.objs.size+1) (.ins C s.heap.objs.size []))
  { s with heap:=(s.heap.push CF).push (En C s.heap.objs.size) }:=by
 have a:(s.heap.push CF).get? s.heap.objs.size=O CF:=f6 s.heap Y;have c:((s.heap.push CF).push (En C s.heap.objs.size)).get? (s.heap.objs.size+1)=O (En C s.heap.objs.size):=by
  have:=f6 (s.heap.push CF) (o:=En C s.heap.objs.size) Y
  simp_all
 have d:(s.heap.push CF).Ns s.heap.objs.size (λ_=>cx):=⟨CF,#[],_,a,Y,(λe f=>hQ f (by simp)),λ_=>rfl⟩
 have h:=I.laid (o:=.own (s.heap.objs.size+1)) (h':=s.heap.push CF) (t':=s.toks) (λb u q=>b_ _ q) (dv _) ⟨_,a⟩;refine h.laid (t':=s.toks) (λb u q=>b_ _ q) (Cc (tJ _ _)) ?_;have ne:s.heap.objs.size≠s.heap.objs.size+1:=g_ (up _);refine⟨by rw[ag ne,af],ot _,ne,c,λ_=>cx,(QH d).at λo q=>b_ _ q,λ_=>zF,λy i=>hQ Y i⟩
theorem T6{f:hO}(b:BC e f env (eval e env)=eval e env)(h:h_ (hY prog w) on (eval e env) (λo a=>h_ (hY prog w) on (NF o f c0) Q no a) no s):h_ (hY prog w) on (eval (.Attribute e f pos) env) Q no s:=
 Attribute_any_ h (by simp only[arm_eval_Attribute,b])
end
inductive Xu(K:fy)(f:hO)(Q:VK)(x:V)(H1:Hp):Prop
 |i(a C dx fs v:_)(_:x = .ref a)(_:H1 a=O (.ins C dx fs))(_:HB K C)(_:cN K C f)(_:fs.lookup f=O v)(_:Q v H1)
def ix(K:fy)(ta:TE)(f:hO):TE:=λA H Q=>ta A H λx H1=>Xu K f Q x H1
inductive WQ(K:fy)(f:hO)(D:fE)(A:St)(y:V)(x:V)(H2:Hp):Prop
 |i(a C dx fs:_)(_:x = .ref a)(_:H2 a=O (.ins C dx fs))(_:HB K C)(_:cN K C f)(_:fs.length<1000)(_:D.nx A (upd H2 a (.ins C dx (cV f y fs))))
def lP(K:fy)(ta tv:TE)(f:hO):TS:=λD A H=>tv A H λy H1=>ta A H1 λx H2=>WQ K f D A y x H2
def vz(X:Cx)(op:Gw)(a:V->V->Hp->VK->Prop):Prop:=
 ∀(g:U (ce×z_))(s:f0)(A:St)(H:Hp)(x y:V)(u v:cv)(Q:VK),Inv X g A H s->aD x u->aD y v->a x y H Q->h_ (hY X.prog X.w) X.A (Ll op u v) (EP X g A Q) X.xe s
inductive Xd(K:fy)(tv:TE)(e:V->V->Hp->VK->Prop)(f:hO)(D:fE)(A:St)(x:V)(H1:Hp):Prop
 |i(a C dx fs v:_)(_:x = .ref a)(_:H1 a=O (.ins C dx fs))(_:HB K C)(_:cN K C f)(_:fs.lookup f=O v)(_:tv A H1 λy H2=>e v y H2 λz d=>∃c b,d a=O (.ins C c b)/\b.length<1000/\D.nx A (upd d a (.ins C c (cV f z b))))
def zO(K:fy)(ta tv:TE)(a:V->V->Hp->VK->Prop)(f:hO):TS:=λD A H=>ta A H λx H1=>Xd K tv a f D A x H1
section
variable{b:tA}{f:hO}
theorem cO(b:PE X e ta)(d:BC e f X.env (eval e X.env)=eval e X.env):PE X (.Attribute e f pos) (ix X.K ta f):=by
 intro g s A H Q I h;refine T6 d (wd (b g s A H _ I h) λu w ⟨x,H1,i,j,a,C,dx,fs,v,ex,m,c,n,l,q⟩=>?_);subst ex;obtain rfl:u=ql a:=j;exact xC i m c n l λy s2 p r=>⟨v,H1,p,r,q⟩
theorem cK(d:PE X b ta)(e:PE X value tv)(i:Eu value (O (.Attribute b f pos')) pos.line X.env=zJ d_):PS X (.Assign [.Attribute b f pos'] value pos) (lP X.K ta tv f):=by
 intro g s A H D I h;refine plainObj_wpAny_Assign_Attribute (wd (e g s A H _ I h) λu j ⟨y,H1,m,p,q⟩=>wd (d g j A H1 _ m q) λov s2 ⟨x,H2,r,v,a,C,dx,fs,ex,w,c,n,l,z⟩=>?_) i;subst ex;obtain rfl:ov=ql a:=v;exact OM r w c n l p λE B=>⟨A,_,B,z⟩
theorem sL{op:Gw}{i:V->V->Hp->VK->Prop}(j:PE X b ta)(m:PE X value tv)(d:vz X op i):PS X (.AugAssign (.Attribute b f tpos) op value pos) (zO X.K ta tv i f):=by
 intro g s A H D I h;refine wpAny_AugAssign_AttributeAny (wd (j g s A H _ I h) λov Z ⟨x,H1,p,r,a,C,dx,fs,v,ex,w,c,n,l,q⟩=>?_);subst ex;obtain rfl:ov=ql a:=r;refine xC p w c n l λu s2 B E=>wd (m g s2 A H1 _ B q) λw3 G ⟨y,H2,J,K,L⟩=>wd (d g G A H2 v y u w3 _ J E K L) λw4 s4 ⟨z,H3,M,N,P,Q,e,R,S⟩=>?_;exact OM M e c n R N λs5 T=>⟨A,_,T,S⟩
inductive zn(x:V)(y:V)(H:Hp)(Q:VK):Prop
 |i(i j:_)(_:x = .int i)(_:y = .int j)(_:Q (.int (i+j)) H)
theorem rq:vz X .Add zn:=by
 rintro g s A H x y u v Q I a b ⟨i,j,rfl,rfl,q⟩;obtain⟨t,rfl⟩:=(show ∃t,u=DY i t from a)
 obtain⟨t',rfl⟩:=(show ∃t',v=DY j t' from b)
 exact Ma ⟨.int (i+j),H,I.tok _,⟨_,Y⟩,q⟩
theorem zpI{m:hO}{b:U tA}(j:PE X e te)(I:Inv X g A H s)(h:te A H λx H1=>∃a C dx fs Ab,x = .ref a/\H1 a=O (.ins C dx fs)/\HB X.K C/\i4 X.K C m Ab/\fs.lookup m=cx/\
   ∀d,Inv X g A H1 d->h_ (hY X.prog X.w) X.A (HW pos (.ref Ab) [.ref a] (zG pos (i' b X.env)) (Ez pos (C_ [] X.env))) Q X.xe d)(n:eval (.Call (.Attribute e m apos) b [] pos) X.env=(do
   let ov ←eval e X.env
   FI apos.atName
   let (f,first) ←EB [ov] (G' ov m pl)
   HW pos f first (zG pos (i' b X.env)) (Ez pos (C_ [] X.env)))):
  h_ (hY X.prog X.w) X.A (eval (.Call (.Attribute e m apos) b [] pos) X.env) Q X.xe s:=by
 refine Ha (pl:=pl) (wd (j g s A H _ I h) λu d ⟨x,H1,i,p,a,C,dx,fs,Ab,ex,r,c,k,l,q⟩=>?_) n;subst ex;obtain rfl:u=ql a:=p;exact rg i r c k l (q d i)
end
section
variable{c:cv}{b:n_}
inductive eW(K:fy)(H:Hp):V->cv->Prop where
 |non:eW K H .non (.type "NoneType")
 |bl(x:n_):eW K H (.bl x) (.type "bool")
 |int(i:gV):eW K H (.int i) (.type "int")
 |str(x:hO):eW K H (.str x) (.type "str")
 |flt(x:UInt64):eW K H (.flt x) (.type "float")
 |lst{a:ce}{E:U V}(e:H a=O (.lst E)):eW K H (.ref a) (.type "list")
 |frz{a:ce}{o:z_}{E:U V}(e:H a=O (.frz o (.lst E))):eW K H (.ref a) (.type "list")
 |tup{a:ce}{E:U V}(e:H a=O (.tup E)):eW K H (.ref a) (.type "tuple")
 |dK{a:ce}{G:U (Key×V)}(e:H a=O (.dK G)):eW K H (.ref a) (.type "dict")
 |dT{a:ce}{G:U (U Key×V)}(e:H a=O (.dT G)):eW K H (.ref a) (.type "dict")
 |ins{a C dx:ce}{fs:U (hO×V)}(e:H a=O (.ins C dx fs))(cl:HB K C)(c:BQ K (.ref C) "__class__" =O (O (.builtin "object.__class__")))
   (d:GG K (.builtin "object.__class__") "__get__" =O (O (.builtin "getset_descriptor.__get__"))) (b:Ij K (.builtin "object.__class__")=O c0)
   (f:Iy K C (.type "object")=O c0):eW K H (.ref a) (.ref C)
theorem zg3{x:V}{t:cv}(I:Inv X g A H s)(d:aD x u)(ty:eW X.K H x t)(e:n' X.K t c=O b)(h:∀tk,Q (.bool b) { s with toks:=tk }):
  h_ (hY X.prog X.w) on (Fq (.builtin "isinstance") [u,c]) Q no s:=by
 cases ty with
 |non=>cases (show u=Dg from d);exact Cq W.kitx_none I.kIn zF e (λz=>nomatch z) h
 |bl y=>cases (show u=Cs y from d);exact Cq W.kitx_bool I.kIn zF e (λz=>nomatch z) h
 |int i=>obtain⟨t,q⟩:=(show ∃t,u=DY i t from d);cases q;exact Cq W.kitx_int I.kIn zF e (λz=>nomatch z) h
 |str y=>obtain⟨t,q⟩:=(show ∃t,u=DZ y t from d);cases q;exact Cq W.kitx_str I.kIn zF e (λz=>nomatch z) h
 |flt y=>obtain⟨t,q⟩:=(show ∃t,u=HR y t from d);cases q;exact Cq W.kitx_float I.kIn zF e (λz=>nomatch z) h
 |@lst a E f=>
  cases (show u=ql a from d);obtain⟨_,_,n,_,h1⟩:=(show bo X.prog X.w H s.heap a (.lst E) from I.hok a _ f)
  exact Cq Nc I.kIn ⟨_,h1,Y⟩ e (λz=>nomatch z) h
 |@frz a l E f=>
  cases (show u=ql a from d);obtain⟨_,_,_,n,_,h1⟩:=(show bo X.prog X.w H s.heap a (.frz l (.lst E)) from I.hok a _ f)
  exact Cq Nc I.kIn ⟨_,h1,Y⟩ e (λz=>nomatch z) h
 |@tup a E f=>
  cases (show u=ql a from d);obtain⟨_,_,_,p⟩:=(show bo X.prog X.w H s.heap a (.tup E) from I.hok a _ f)
  obtain⟨o,h1,h2,_⟩:=p;exact Cq W.kitx_tuple I.kIn ⟨o,h1,h2⟩ e (λz=>nomatch z) h
 |@dK a G f=>
  cases (show u=ql a from d);obtain⟨_,_,Z,_,p⟩:=(show bo X.prog X.w H s.heap a (.dK G) from I.hok a _ f)
  obtain⟨o,es,ep,h1,h2,_⟩:=p;exact Cq Nf I.kIn ⟨o,h1,h2.1⟩ e (λz=>nomatch z) h
 |@dT a G f=>
  cases (show u=ql a from d);obtain⟨_,_,E,_,o,es,ep,h1,h2,_⟩:=(show bo X.prog X.w H s.heap a (.dT G) from I.hok a _ f)
  exact Cq Nf I.kIn ⟨o,h1,h2.1⟩ e (λz=>nomatch z) h
 |@ins a C dx fs f cl m r j v=>
  cases (show u=ql a from d);obtain⟨mA,w,_⟩:=ny I.hok f;obtain⟨od,Ae,_⟩:=w.look;exact Cq (W.kitx_own (cl.get _) cl.hd m r j v) I.kIn Ae e (λz=>nomatch z) h
end
structure bj(k:ft)(A:BF):Prop where
 hd:A.handled=cx
 dp:A.depth+3 * k+5<MA
 un:A.units+16 * k+200<F8
theorem bj.mono{k:ft}(r:bj k on)(h:j<=k):bj j on:=⟨r.hd,by have:=r.dp;lia,by have:=r.un;lia⟩
theorem bj.deeper{k:ft}(r:bj (k+1) on)(env:FZ):bj k (on.deeper env):=
 ⟨r.hd,by have:=r.dp;show on.depth+1+3 * k+5<_;lia,by have:=r.un;show on.units+3+16 * k+200<_;lia⟩
theorem bj.in1{k:ft}(r:bj (k+1) on):bj k on.in1:=
 ⟨r.hd,by have:=r.dp;show on.depth+3 * k+5<_;omega,by have:=r.un;show on.units+1+16 * k+200<_;omega⟩
theorem X_     : (on.under (.builtin "type.__call__" ⟨.ref C::us,kw⟩)).depth=on.depth+1:=Y
theorem Zy     : (on.under (.builtin "type.__call__" ⟨.ref C::us,kw⟩)).units=on.units+1:=Y
theorem bj.make{k:ft}(r:bj (k+1) on)(C:ce)(us:U cv)(kw:U (hO×cv)):bj k (on.under (.builtin "type.__call__" ⟨.ref C::us,kw⟩)):=
 ⟨r.hd,by have:=r.dp;simp only[X_];lia,by have:=r.un;simp only[Zy];lia⟩
theorem bj.depth{k:ft}(r:bj k on):on.depth<MA:=by have:=r.dp;lia
theorem bj.units{k:ft}(r:bj k on):on.units+64<F8:=by have:=r.un;lia
def gO:TA:=λ_ H Q=>Q [] H
def iw(ta:TE)(a:TA):TA:=λA H Q=>ta A H λx H1=>a A H1 λE H2=>Q (x::E) H2
section
variable{a:TA}
theorem ae:PA X [] gO:=λ_ _ _ _ H Q I h=>Du ⟨[],H,I,.nil,h⟩
theorem aa(b:PE X e te)(c:PA X es a)(d:i' (e::es) X.env=(d_,eval e X.env)::i' es X.env:=by rfl):PA X (e::es) (iw te a):=by
 intro pos g s A H Q I h;rw[d];refine Dk (wd (b g s A H _ I h) λu f ⟨x,H1,i,j,l⟩=>?_);exact wd (c pos g f A H1 _ i l) λus s2 ⟨E,H2,m,n,p⟩=>⟨x::E,H2,m,.cons j n,p⟩
def Ow(a:TA):TE:=λA H Q=>a A H λE H1=>E.length<=fx/\∀p,H1 p=cx->Q (.ref p) (upd H1 p (.tup E))
def OF(a:TA):TE:=λA H Q=>a A H λE H1=>E.length<=fx/\∀p,H1 p=cx->Q (.ref p) (upd H1 p (.lst E))
theorem cz{f}(h:PA X es a):PE X (.Tuple es f pos) (Ow a):=by
 intro g s A H Q I i;refine wpAny_Tuple_spliced (wd (h pos g s A H _ I i) λus c ⟨E,H1,d,r,z,q⟩=>⟨by exact r.length ▸ z,?_⟩);refine⟨.ref c.heap.objs.size,upd H1 c.heap.objs.size (.tup E),d.laid (t':=c.toks) (λb u e=>b_ _ e) (dv _) ?_,Y,q _ (d.hok.fresh (dv _))⟩;exact⟨z,us,r,⟨_,f6 _ Y,Y,_,Y⟩⟩
theorem cP(h:PA X es a):PE X (.List es pos) (OF a):=by
 intro g s A H Q I f;refine wpAny_List_spliced (wd (h pos g s A H _ I f) λus c ⟨E,H1,d,r,z,q⟩=>⟨by exact r.length ▸ z,?_⟩);refine⟨.ref c.heap.objs.size,upd H1 c.heap.objs.size (.lst E),d.laid (t':=c.toks) (λb u e=>b_ _ e) (dv _) ?_,Y,q _ (d.hok.fresh (dv _))⟩;exact⟨z,us,0,r,f6 _ Y⟩
end
abbrev Sp:=U V->Hp->VK->XK->Prop
variable{sp sp':Sp}
abbrev HL:=U FZ->Hp->f0->XK->cv->f0->Prop
variable{CX:HL}
structure fi(P:sJ)(w:uF)(K:fy)(mg:hO->eH cv)(base:sG)(A:BF)(outer:U FZ)(s:f0)(H:Hp):Prop where
 frames:A.frames=O outer
 mod:Mod K mg base
 bs:∀b o,base.get? b=O o->s.heap.get? b=O o/\H b=cx
 bsz:base.objs.size<=s.heap.objs.size
 funs:s.heap.FunFrames base outer
 frf:∀b∈F5 outer,H b=cx
 hok:Ew P w H s.heap
 bare:Fc s.gens
inductive CE(outer:U FZ)(Aa:sJ)(w:uF)(H:Hp)(s:f0)(Q:VK)(u:cv)(s':f0):Prop
 |i(v H':_)(_:s'.os=s.os)(_:Fc s'.gens)(_:Un (F5 outer) [] H H' s.heap s'.heap)(_:Ew Aa w H' s'.heap)(_:aD v u)(_:Q v H')
def CR(CX:HL)(outer:U FZ)(Aa:sJ)(w:uF)(H:Hp)(s:f0)(Q:VK)(no:XK)(r:Result)(s':f0):Prop:=
 match r with
 |.ok (.ret u)=>CE outer Aa w H s Q u s'
 |.ok _=>wa
 |.error e=>CX outer H s no e s'
structure ap(P:sJ)(w:uF)(K:fy)(mg:hO->eH cv)(base:sG)(CX:HL)(k:ft)(f:ce)(fd:B')(ps:U hO)(sp:Sp):Prop where
 len:∀vs H Q E,sp vs H Q E->vs.length=ps.length
 run:∀(A:BF)(outer:U FZ)(s:f0)(H:Hp)(args:Args)(us:U cv)(vs:U V)(Q:VK)(E:XK),bj k A->fi P w K mg base A outer s H->HC s fd args (ps.zip us)->aB vs us->sp vs H Q E->
  codeAny (hY P w) A (.call (.ref f) args) (CR CX outer P w H s Q E) s
theorem ap.mono{Aa:sJ}{w:uF}{K:fy}{mg:hO->eH cv}{base:sG}{CX:HL}{j k:ft}{f:ce}{fd:B'}{ps:U hO}{sp:Sp}(F:ap Aa w K mg base CX j f fd ps sp)(h:j<=k):
  ap Aa w K mg base CX k f fd ps sp:=⟨F.len,λon outer s H a us Z Q no b=>F.run on outer s H a us Z Q no (b.mono h)⟩
theorem ap.imp{k:ft}{f:ce}(F:ap Aa w K mg base CX k f fd ps sp)(h:∀Z H Q no,sp' Z H Q no->sp Z H Q no):ap Aa w K mg base CX k f fd ps sp':=
 ⟨λZ H Q no q=>F.len Z H Q no (h _ _ _ _ q),λon outer s H a us Z Q no b c d e g=>F.run on outer s H a us Z Q no b c d e (h _ _ _ _ g)⟩
theorem fi.make(e:fi Aa w K mg base on outer s H)(C:ce)(us:U cv)(kw:U (hO×cv)):
  fi Aa w K mg base (on.under (.builtin "type.__call__" ⟨.ref C::us,kw⟩)) outer s H:=⟨by first |exact e.frames | (simpa[ pushEnvs]using e.frames),e.mod,e.bs,e.bsz,e.funs,e.frf,e.hok,e.bare⟩
theorem fi.in1(e:fi Aa w K mg base on outer s H):
  fi Aa w K mg base on.in1 outer s H:=⟨e.frames,e.mod,e.bs,e.bsz,e.funs,e.frf,e.hok,e.bare⟩
theorem Inv.env0(I:Inv X g A H s):fi X.prog X.w X.K X.mg X.base X.A X.stack s H:=
 ⟨I.ok.frames,I.ok.mod,I.bs,jE I.ok.bsz I.sz,I.stack,I.stkFree,I.hok,I.bare⟩
theorem Inv.after{Q:VK}(I:Inv X g A H s)(h:CE X.stack X.prog X.w H s Q u s'):EP X g A Q u s':=by
 obtain⟨v,H',os,a,un,c,r,q⟩:=h;obtain⟨f,Ab,d,t,e⟩:=s';obtain rfl:e=s.os:=os;exact⟨v,H',I.call (h':=f) (g':=Ab) (d':=d) (t':=t) un c a (λb z=>hQ z (by simp)),r,q⟩
def uT(sp:Sp)(a:U V)(no:XK)(t:TA):TE:=λA H Q=>t A H λZ H1=>sp (Z++a) H1 Q no
inductive SA(C:ce)(m:hO)(sp:Sp)(b:U V)(no:XK)(t:TA)(A:St)(Q:VK)(x:V)(H1:Hp):Prop
 |i(a dx fs:_)(_:x = .ref a)(_:H1 a=O (.ins C dx fs))(_:fs.lookup m=cx)(_:t A H1 λZ H2=>sp (x::(Z++b)) H2 Q no)
def uU(C:ce)(m:hO)(sp:Sp)(a:U V)(no:XK)(ta:TE)(t:TA):TE:=λA H Q=>ta A H λx H1=>SA C m sp a no t A Q x H1
def Pu(C:ce)(sp:Sp)(a:U V)(no:XK)(t:TA):TE:=λA H Q=>t A H λZ H1=>∀x dx,H1 x=cx->H1 dx=cx->dx≠x->
 sp (.ref x::(Z++a)) (upd (upd H1 dx (.own x)) x (.ins C dx [])) (λv H2=>v = .non/\Q (.ref x) H2) no
def cM(K:fy)(fd:B')(ps:U hO)(a:U cv):Prop:=
 ∀(s:f0)(us:U cv),K.In s.heap->(us++a).length=ps.length->HC s fd ⟨us,[]⟩ (ps.zip (us++a))
theorem cM.all(h:∀us:U cv,us.length=ps.length->HX fd ⟨us,[]⟩=zJ (ps.zip us)):cM K fd ps []:=λs us _ a=>by
 rw[Dl]at a ⊢;exact .of_eq (h us a)
def di(CX:HL)(X:Cx)(no:XK):Prop:=∀(g:U (ce×z_))(A:St)(H:Hp)(s:f0)(e:cv)(s':f0),Inv X g A H s->CX X.stack H s no e s'->X.xe e s'
section
variable{k:ft}{f:ce}{b:U V}{d:U cv}{E:XK}{m:hO}{i:tA}{j:TA}
theorem lO{Q:VK}{Z:U V}(F:ap X.prog X.w X.K X.mg X.base CX k f fd ps sp)(i:bj k X.A)(j:cM X.K fd ps d)(hd:aB b d)(l:di CX X E)(I:Inv X g A H s)(r:aB Z us)(h:sp (Z++b) H Q E):h_ (hY X.prog X.w) X.A (Fq (.ref f) us) (EP X g A Q) X.xe s:=by
 have c:=r.append hd;have m:(us++d).length=ps.length:=by exact c.length ▸ (F.len _ _ _ _ h)
 refine Ff (Co (F.run X.A X.stack s H ⟨us,[]⟩ (us++d) (Z++b) Q E i I.env0 (j s us I.kIn m) c h) λr s' a=>?_);cases r with
 |error e=>exact l g A H s e s' I a
 |ok n=>
  cases n with
  |ret u=>exact I.after a
  |next=>exact tj a
  |brk=>exact tj a
  |cont=>exact tj a
theorem Y6(F:ap X.prog X.w X.K X.mg X.base CX k f fd ps sp)(l:bj k X.A)(m:Gl X x)(n:X.mg x=O (.ref f))(u:BD X.K (.ref f)=c0)(v:cM X.K fd ps d)(hd:aB b d)(w:di CX X E)(y:PA X (e::es) j)(a:(x ==("__debug__" : hO))=d_:=by decide)(z:i' (e::es) X.env=(d_,eval e X.env)::i' es X.env:=by rfl)(c:(zG pos (i' es X.env)).any (·.1)=d_:=by rfl):
  PE X (.Call (.Name x p) (e::es) [] pos) (uT sp b E j):=by
 intro g s A H Q I h;refine uz (gd I m n ?_ a);refine EU I.ok.mod.kin u (wd (y pos g s A H _ I h) λus B ⟨Z,H1,i,r,q⟩=>⟨i.kIn,?_⟩) z c;exact lO F l v hd w i r q
theorem bp(z:PE X i ta)(c:HB X.K C)(v:i4 X.K C m f)(F:ap X.prog X.w X.K X.mg X.base CX k f fd ps sp)(B:bj k X.A)(D:cM X.K fd ps d)(hd:aB b d)(G:di CX X E)(J:PA X (e::es) j)(n:i' (e::es) X.env=(d_,eval e X.env)::i' es X.env:=by rfl)(p:(zG pos (i' es X.env)).any (·.1)=d_:=by rfl)(K:eval (.Call (.Attribute i m apos) (e::es) [] pos) X.env=(do
   let ov ←eval i X.env
   FI apos.atName
   let (f,first) ←EB [ov] (G' ov m pl)
   HW pos f first (zG pos (i' (e::es) X.env)) (Ez pos (C_ [] X.env))):=by rfl):
  PE X (.Call (.Attribute i m apos) (e::es) [] pos) (uU C m sp b E ta j):=by
 intro g s A H Q I h;refine Ha (wd (z g s A H _ I h) λu L ⟨x,H1,w,M,a,dx,fs,ex,N,l,q⟩=>?_) K;subst ex;obtain rfl:u=ql a:=M;refine rg w N c v l ?_;refine EU I.ok.mod.kin v.kp (wd (J pos g L A H1 _ w q) λus s2 ⟨Z,H2,y,r,P⟩=>⟨y.kIn,?_⟩) n p;exact lO (Z:=.ref a::Z) F B D hd G y (.cons Y r) P
theorem gj(n:PE X i ta)(c:HB X.K C)(j:i4 X.K C m f)(F:ap X.prog X.w X.K X.mg X.base CX k f fd ps sp)(p:bj k X.A)(r:cM X.K fd ps d)(hd:aB b d)(v:di CX X E)(w:eval (.Call (.Attribute i m apos) [] [] pos) X.env=(do
   let ov ←eval i X.env
   FI apos.atName
   let (f,first) ←EB [ov] (G' ov m pl)
   HW pos f first (zG pos (i' [] X.env)) (Ez pos (C_ [] X.env))):=by rfl):
  PE X (.Call (.Attribute i m apos) [] [] pos) (uU C m sp b E ta gO):=by
 intro g s A H Q I h;refine Ha (wd (n g s A H _ I h) λu B ⟨x,H1,e,y,a,dx,fs,ex,z,l,q⟩=>?_) w;subst ex;obtain rfl:u=ql a:=y;refine rg e z c j l ?_;exact Mb e.kIn j.kp (lO (Z:=[.ref a]) F p r hd v e (.cons Y .nil) q)
structure Mk(K:fy)(C f:ce):Prop where
 makes:QG K C=c0
 init:BQ K (.ref C) "__init__" =O (O (.ref f))
 fn:NG K (.ref f)=c0
 kp:BD K (.ref C)=c0
theorem zM{Q:VK}{Z:U V}(M:Mk X.K C f)(F:ap X.prog X.w X.K X.mg X.base CX k f fd ps sp)(l:bj (k+1) X.A)(m:cM X.K fd ps d)(hd:aB b d)(n:di CX X E)(I:Inv X g A H s)(r:aB Z us)(h:∀x dx,H x=cx->H dx=cx->dx≠x->sp (.ref x::(Z++b)) (upd (upd H dx (.own x)) x (.ins C dx [])) (λv H2=>v = .non/\Q (.ref x) H2) E):
  h_ (hY X.prog X.w) X.A (Fq (.ref C) us) (EP X g A Q) X.xe s:=by
 have i:=h (s.heap.objs.size+1) s.heap.objs.size (I.hok.fresh (BL _)) (I.hok.fresh (dv _)) (g_ (up _));have c:=Inv.made (C:=C) I;have j:aB (V.ref (s.heap.objs.size+1)::(Z++b)) (ql (s.heap.objs.size+1)::(us++d)):=.cons Y (r.append hd);have p:(ql (s.heap.objs.size+1)::us++d).length=ps.length:=by
  have e:=j.length;simp only[F.len _ _ _ _ i]at e;exact e.symm
 refine Ff (Wu I.kIn M.makes M.init (Fe.mp M.fn) (Co (F.run _ X.stack _ _ ⟨ql (s.heap.objs.size+1)::us,[]⟩ (ql (s.heap.objs.size+1)::(us++d)) _ _ E (l.make C us [])
  (c.env0.make C us []) (m _ (ql (s.heap.objs.size+1)::us) c.kIn p) j i) λr s' a=>?_))
 cases r with
 |error e=>exact n g A _ _ e s' c a
 |ok q=>
  cases q with
  |ret u=>
   obtain⟨v,H',w,y,z,B⟩:=c.after a;subst z;exact⟨y,⟨V.ref (s.heap.objs.size+1),H',w,Y,B⟩⟩
  |next=>exact tj a
  |brk=>exact tj a
  |cont=>exact tj a
theorem oi(M:Mk X.K C f)(F:ap X.prog X.w X.K X.mg X.base CX k f fd ps sp)(l:bj (k+1) X.A)(m:Gl X x)(n:X.mg x=O (.ref C))(u:cM X.K fd ps d)(hd:aB b d)(v:di CX X E)(w:PA X (e::es) j)(a:(x ==("__debug__" : hO))=d_:=by decide)(y:i' (e::es) X.env=(d_,eval e X.env)::i' es X.env:=by rfl)(c:(zG pos (i' es X.env)).any (·.1)=d_:=by rfl):
  PE X (.Call (.Name x p) (e::es) [] pos) (Pu C sp b E j):=by
 intro g s A H Q I h;refine uz (gd I m n ?_ a);refine EU I.ok.mod.kin M.kp (wd (w pos g s A H _ I h) λus z ⟨Z,H1,i,r,q⟩=>⟨i.kIn,?_⟩) y c;exact zM M F l u hd v i r q
theorem sk(M:Mk X.K C f)(F:ap X.prog X.w X.K X.mg X.base CX k f fd ps sp)(c:bj (k+1) X.A)(e:Gl X x)(i:X.mg x=O (.ref C))(j:cM X.K fd ps d)(hd:aB b d)(l:di CX X E)(a:(x ==("__debug__" : hO))=d_:=by decide):PE X (.Call (.Name x p) [] [] pos) (Pu C sp b E gO):=by
 intro g s A H Q I h;refine uz (gd I e i ?_ a);exact Mb I.kIn M.kp (zM M F c j hd l I .nil h)
end
section
variable{k:ft}{f:ce}{h:U hO}{E:XK}{m:hO}{d:tA}{a:U Fg}{c b:TA}{e:eH hO}
variable{g:U cv->U cv->U cv}{i:U V->U V->U V}
end
structure cn(N P:U hO)(sc:Ey):Prop where
 kind:sc.kind = .function
 co:sc.isCoroutine=d_
 gen:sc.isGenerator=d_
 nd:N.Nodup
 pre:N.take P.length=P
 par:∀x∈P,sc.names.lookup x=O .local\/sc.names.lookup x=O .cell
 nofree:∀y∈sc.names,y.2≠.free
theorem vV{kindOf:hO->eH CZ}{x:hO}:∀{binds:U (hO×cv)}{m:hO->eH cv},(∀v,(x,v)∉binds)->JC kindOf binds m x=m x
 |[],_,_=>rfl
 | (n,v)::r,m,h=>by
  unfold JC;rw[vV λw a=>h w (hE _ a)]
  split
  ·have:x≠n:=by rintro rfl;exact h v j_
   simp_all
  ·rfl
theorem vT{kindOf:hO->eH CZ}{x:hO}:∀{binds:U (hO×cv)}{m:hO->eH cv},(∀v,(x,v)∉binds)->JD kindOf binds m x=m x
 |[],_,_=>rfl
 | (n,v)::r,m,h=>by
  unfold JD;rw[vT λw a=>h w (hE _ a)]
  split
  ·rfl
  ·have:x≠n:=by rintro rfl;exact h v j_
   simp_all
theorem vU{kindOf:hO->eH CZ}{x:hO}{v:cv}:∀{Aa:U hO}{Z:U cv}{i:ft}{m:hO->eH cv},Aa.Nodup->Aa[i]?=O x->Z[i]?=O v->kindOf x=O .local->
  JC kindOf (Aa.zip Z) m x=O v
 |p::Aa,w::Z,0,m,a,h1,h2,b=>by
  simp at h1 h2;subst h1;subst h2;show JC kindOf ((p,w)::Aa.zip Z) m p=_;unfold JC;rw[vV λv c=>(Cg.mp a).1 (Gk c).1,mu b];simp
 |p::Aa,w::Z,i+1,m,a,h1,h2,b=>by
  unfold JC;exact vU (Cg.mp a).2 (by assumption) (by assumption) b
theorem vS{kindOf:hO->eH CZ}{x:hO}{v:cv}:∀{Aa:U hO}{Z:U cv}{i:ft}{m:hO->eH cv},Aa.Nodup->Aa[i]?=O x->Z[i]?=O v->kindOf x≠O .local->
  JD kindOf (Aa.zip Z) m x=O v
 |p::Aa,w::Z,0,m,a,h1,h2,b=>by
  simp at h1 h2;subst h1;subst h2;show JD kindOf ((p,w)::Aa.zip Z) m p=_;unfold JD;rw[vT λv c=>(Cg.mp a).1 (Gk c).1,ks b];simp
 |p::Aa,w::Z,i+1,m,a,h1,h2,b=>by
  unfold JD;exact vS (Cg.mp a).2 (by assumption) (by assumption) b
def fC(Ac:U hO)(Z:U V):St:=Z.map O++nc (Ac.length - Z.length) cx
def c6(CX:HL)(Aa:sJ)(w:uF)(K:fy)(mg:hO->eH cv)(base:sG)(Ac:U hO)(N:hO)(L:Ey)(f:ce)(cd:cv)(on:BF)(outer:U FZ)(s:f0)(H:Hp)(no:XK):Cx where
 prog:=Aa
 w:=w
 K:=K
 mg:=mg
 base:=base
 A:=on.deeper (Ej N L s.heap.objs.size f cd)
 N:=Ac
 s₀:=s
 H₀:=H
 env:=Ej N L s.heap.objs.size f cd
 outer:=outer
 stack:=Ej N L s.heap.objs.size f cd::outer
 ex:=[]
 calm:=c0
 fn:=λ_=>c0
 pn:=[]
 xe:=λe s'=>h_ (hY Aa w) (on.deeper (Ej N L s.heap.objs.size f cd)) (leaving (Ej N L s.heap.objs.size f cd) e) (λ_ a=>CX outer H s no e a) (λb a=>CX outer H s no b a) s'
theorem wy(h:sc.names.lookup x=O .cell):∃c,(Dm n sc.names []).lookup x=O c:=by
 exact BI.mp (Ky sc.names n [] (.inl h))
theorem Vk{f:ce}{m:f0}{no:XK}{Z:U V}(S:cn Ac ps L)(hd:on.handled=cx)(a:fi Aa w K mg base on outer s H)(E:Z.length=ps.length)(r:aB Z us)(x:InCallC s s.heap.objs.size (JC (Ej N L s.heap.objs.size f cd).kindOf (ps.zip us) λ_=>cx) (Dm (s.heap.objs.size+1) L.names []) (JD (Ej N L s.heap.objs.size f cd).kindOf (ps.zip us) λ_=>cx) m):
  Inv (c6 CX Aa w K mg base Ac N L f cd on outer s H no) [] (fC Ac Z) H m:=by
 have B:ps.length<=Ac.length:=by have:=tS Ga S.pre;rw[gv]at this;lia
 obtain⟨h1,tk,rfl,n⟩:=x.done;have d:∀b:ce,b∉(c6 CX Aa w K mg base Ac N L f cd on outer s H no).ex:=λb z=>hQ (show b∈([]) from z) (by simp);refine⟨⟨a.mod,S.kind,Y,Y,dv _,λy z c h1 h2=>?_,λy g=>?_,λy c _ h=>?_,λ_=>hd,HD a.frames,.inr ⟨Y,Y⟩,λb z=>hQ z (d b),a.bs,a.bsz,λb _ _=>d b,λb z=>hQ z (d b),a.funs,a.frf⟩,
  rfl,a.bare,Un.kept n,⟨_,x.toInCall.ns,λi y v h1 h2 G=>?_⟩,λy c h=>⟨_,x.cell y c h⟩,a.hok.fresh (dv _),λy c h=>?_,λp j=>hQ (show p∈([]:U (ce×z_)) from j) (by simp),a.hok.kept n,?_⟩
 ·exact name_of_addr x.apart (ri h1) (ri h2)
 ·have g:=g;rcases g with g |g
  ·exact wy g
  ·exact hQ Y (S.nofree _ (ri g))
 ·exact f' (x.above y c (ri h))
 ·have hi:i<Z.length:=by
   unfold fC at h2;by_cases hi:i<Z.length
   ·exact hi
   ·rw[na (by simpa using hi)]at h2;rw[E3]at h2
    split at h2 <;> cases h2
  have C:Z[i]?=O v:=by
   unfold fC at h2;rw[kI (by simpa using hi),cc]at h2
   simp_all
  obtain⟨u,A,D⟩:=r.get C;have j:ps[i]?=O y:=by
   rw[←S.pre,List.getElem?_take_of_lt (by simp_all)];exact h1
  have l:ps.Nodup:=by exact S.pre ▸ (S.nd.sublist (List.take_sublist _ _))
  refine⟨u,D,?_⟩;rcases S.par y (eT j) with k |k
  ·exact .inl ⟨k,vU l j A k⟩
  ·obtain⟨c,e⟩:=wy k;refine .inr ⟨.inl k,c,e,?_⟩;have q:=x.cell y c e;rw[vS l j A (by show L.names.lookup y≠_;rw[k];decide)]at q;exact q
 ·exact a.hok.fresh (f' (x.above y c (ri h)))
 ·delta fC
  show _=Ac.length;simp only[gT,bd,B1]
  simp_all
theorem qP{k:ft}{f:ce}{a:ET}{z kV:cv}(lk:K.lookup f=O ⟨oc,od,.func (CG name N a body L z kV doc pm an cdv ct),osl⟩)(l:CO K cdv N=c0)(S:cn Ac ps L)(len:∀Z H Q no,sp Z H Q no->Z.length=ps.length)(d:∀(on:BF)(outer:U FZ)(s:f0)(H:Hp)(Z:U V)(Q:VK)(no:XK),bj k (on.deeper (Ej N L s.heap.objs.size f cdv))->sp Z H Q no->
      ∃t,FX (c6 CX Aa w K mg base Ac N L f cdv on outer s H no) body t/\t { nx:=λ_ H'=>Q .non H',rt:=Q } (fC Ac Z) H):
    ap Aa w K mg base CX (k+1) f (CG name N a body L z kV doc pm an cdv ct) ps sp:=by
  refine⟨len,λon outer s H A us Z Q no m i D r j=>?_⟩;have B:=i.mod.kin.keeps λb o e=>(i.bs b o e).1;have g:∀y∈ps.zip us,L.names.lookup y.1=O .local\/(L.names.lookup y.1=O .cell/\((Dm (s.heap.objs.size+1) L.names []).lookup y.1).isSome=c0):=by
    rintro⟨n,v⟩ E;rcases S.par n (Gk E).1 with q |q
    · exact .inl q
    · exact .inr ⟨q,Ky _ _ _ (.inl q)⟩
  refine codeAny_call_function m.depth (B _ _ lk) Y S.co S.gen Y (W.codeRec_of B l) (D _ _ _ _ ?_);refine wpAny_newFunctionEnv_cells S.kind g λenv G C x=>?_;subst G;refine⟨(i.mod.nolimit.keeps λb o e=>(i.bs b o e).1).keeps x.toInCall.keep,codeAny_func ?_⟩;obtain⟨t,J,M⟩:=d on outer s H Z Q no (m.deeper _) j;have I:Inv (c6 CX Aa w K mg base Ac N L f cdv on outer s H no) [] (fC Ac Z) H C:=Vk S m.hd i (len _ _ _ _ j) r x;refine pu (J [] C (fC Ac Z) H _ I M) (λP s' h=>?_) λe s' h=>h;have fin:∀{c:St}{H':Hp}{v:V}{u:cv},Inv (c6 CX Aa w K mg base Ac N L f cdv on outer s H no) [] c H' s'->aD v u->Q v H'->CE outer Aa w H s Q u s':=
    λ{c H' v u} Ae p q=>⟨v,H',Ae.os,Ae.bare,Ae.base,Ae.hok,p,q⟩
  cases P with
  |ret u=>
    obtain⟨v,c,H',Ae,p,q⟩:=h;exact fin Ae p q
  |next=>
    obtain⟨c,H',Ae,q⟩:=h;exact fin (v:=V.non) Ae Y q
  |brk=>
    obtain⟨_,_,_,q⟩:=h
    simp_all
  |cont=>
    obtain⟨_,_,_,q⟩:=h;exact tj q
section
variable{a:TA}{b T:BP}{r:U V->Hp->VK->Prop}
def N8(r:U V->Hp->VK->Prop)(a:TA):TE:=λA H Q=>a A H λZ H1=>r Z H1 Q
theorem aL(f:bw X (.builtin b) r)(i:Gl X x)(j:X.mg x=cx)(l:Dj x=O (.builtin b))(m:PA X (e::es) a)(n:x ≠ "__name__" :=by decide)(c:(x ==("__debug__" : hO))=d_:=by decide)(q:i' (e::es) X.env=(d_,eval e X.env)::i' es X.env:=by rfl)(d:(zG pos (i' es X.env)).any (·.1)=d_:=by rfl):PE X (.Call (.Name x p) (e::es) [] pos) (N8 r a):=by
 intro g s A H Q I h;refine uz (eZ I i j l ?_ n c);exact Mc (wd (m pos g s A H _ I h) λus u ⟨Z,H1,v,w,y⟩=>f g u A H1 Z us Q v w y) q d
theorem gL(d:bw X (.type T) r)(f:Gl X x)(i:X.mg x=cx)(j:Dj x=O (.type T))(l:PA X (e::es) a)(m:x ≠ "__name__" :=by decide)(b:(x ==("__debug__" : hO))=d_:=by decide)(n:i' (e::es) X.env=(d_,eval e X.env)::i' es X.env:=by rfl)(c:(zG pos (i' es X.env)).any (·.1)=d_:=by rfl):PE X (.Call (.Name x p) (e::es) [] pos) (N8 r a):=by
 intro g s A H Q I h;refine uz (eZ I f i j ?_ m b);exact oD (wd (l pos g s A H _ I h) λus q ⟨Z,H1,u,v,w⟩=>d g q A H1 Z us Q u v w) n c
end
namespace HT
open PySem PyProof.Rows
section
open PySem.SeqAt
open PySem.AutoSeq1 (wpAny_loadPart')
open PySem.MeetsSeq PySem.MeetsSeq2 PySem.MeetsSeq3
end
theorem Km{t:ce}{a:U cv}(u:Gu s.heap t Z.toArray)(v:Gu s.heap b a.toArray)(l:Z≠[])(h1:a=[]->Q (.ref t) s)(h2:a≠[]->Q (.ref s.heap.objs.size) { s with heap:=s.heap.push { cls:=.type "tuple",data:=.seq (Z++a).toArray } })(x:Z.length+a.length<=fx):h_ (hY prog w) on (Cb .Add (.ref t) (.ref b)) Q no s:=by
 obtain⟨⟨cls,m,p,sl⟩,g,y,n,hd⟩:=id u;obtain⟨⟨q,d,data2,f⟩,c,h,r,i⟩:=id v;subst y hd h i;have e:Z.toArray++a.toArray=(Z++a).toArray:=by simp
 by_cases j:a=[]
 ·exact NH ⟨_,g,Y⟩ ⟨_,c,Y⟩ Lw Ng Kz Kb (JE _ _)
   (tuple_addW1 t b Z.toArray a.toArray n r m d sl f (by simpa using l) (by simp[j])) ⟨g,c,h1 j⟩
 ·refine NH ⟨_,g,Y⟩ ⟨_,c,Y⟩ Lw Ng Kz Kb (JE _ _)
   (tuple_addW2 t b Z.toArray a.toArray n r m d sl f (by simpa using l) (by simp_all) (by simp_all)) ⟨g,c,?_⟩
  rw[e];exact h2 j
def D'(n d:ft):eH gV->ft
 |none=>d
 |some v=>if v<0 then (v+(n:gV)).toNat else min v.toNat n
theorem Gr(n d:ft):D' n d cx=d:=Y
theorem F6(n d k:ft):D' n d (O (k:gV))=min k n:=Y
theorem wD(v:gV)(n d:ft):(if v<0 then max (v+(n:gV)) 0 else min v (n:gV))=((D' n d (O v):ft):gV):=by
 show (if v<0 then max (v+(n)) 0 else min v (n))=(((if v<0 then (v+(n)).toNat else min v.toNat n):ft):gV)
 grind
theorem Se(lo hi:eH gV)(n:ft):Fy lo hi 1 (n:gV)=(((D' n 0 lo:ft):gV),((D' n n hi:ft):gV)):=by
 refine Nh ?_ ?_
 ·cases lo with
  |none=>rfl
  |some v=>exact wD v n 0
 ·cases hi with
  |none=>rfl
  |some v=>exact wD v n n
theorem S8(i j:ft):Ch (i:gV) (j:gV) 1=j - i:=by
 delta Ch
 have h1:(1:gV) > 0:=by exact Ca _
 simp only[h1,if_true,Int.ediv_one]
 split <;> lia
theorem PL{o:eH gV}{Q:eH gV->f0->Prop}(p:Hb v o)(h:Q o s):h_ (hY prog w) on (Lx v) Q no s:=by
 cases p with
 |none=>exact MB h
 |int i t=>exact slicePart_int h
theorem Xw{sl:ce}{lo:eH gV}{Q:gV×gV×ft->f0->Prop}(c:s.heap.IsSliceOf sl vl vu .none)(pl:Hb vl lo)(d:Hb vu hi)(h:Q (((D' n 0 lo:ft):gV),1,D' n n hi - D' n 0 lo) s):h_ (hY prog w) on (Ly (.ref sl) (zJ (n:gV))) Q no s:=by
 obtain⟨os,a,e,b⟩:=id c;refine b7 (b7 (tO a b (x:=vl) Y (b7 (tO a b (x:=vu) Y (b7 (tO a b Y (eM ?_)))))));refine b7 (MB ?_);refine b7 (PL pl (b7 (PL d (b7 (eM ?_)))));show h_ _ _ (match Fy lo hi 1 (n) with | (lo,hi)=>zJ (lo,(1:gV),Ch lo hi 1)) _ _ s;rw[Se lo hi n];show h_ _ _ (zJ (((D' n 0 lo):gV),(1),Ch ((D' n 0 lo):gV) ((D' n n hi):gV) 1)) _ _ s;rw[S8];exact eM h
theorem Tq(E:t_ cv)(i k:ft):((rd k).filterMap λ(m:ft)=>E[((i:gV)+(m:gV) * 1).toNat]?).toArray=((E.toList.drop i).take k).toArray:=by
 have e:(λ(m:ft)=>E[((i)+(m:gV) * 1).toNat]?)=λm=>E[i+m]?:=by
  funext m
  have:((i)+(m:gV) * 1).toNat=i+m:=by lia
  rw[this]
 rw[e];have:=pick_run E i k;rw[List.filterMap_map]at this;have a:((λx=>E[x]?) ∘ λx=>i+x)=λm=>E[i+m]?:=Y
 simp_all
theorem F7{t sl:ce}{lo:eH gV}(b:Gu s.heap t items)(g:s.heap.IsSliceOf sl vl vu .none)(pl:Hb vl lo)(i:Hb vu hi)(m:¬ (D' items.size 0 lo=0/\D' items.size items.size hi=items.size))(h:Q (.ref s.heap.objs.size) { s with heap:=s.heap.push { cls:=.type "tuple",data:=.seq ((items.toList.drop (D' items.size 0 lo)).take (D' items.size items.size hi - D' items.size 0 lo)).toArray } })(j:items.size<=fx):h_ (hY prog w) on (FJ (.ref t) (.ref sl)) Q no s:=by
 have a:sizeOk (.seq ((items.toList.drop (D' items.size 0 lo)).take (D' items.size items.size hi - D' items.size 0 lo)).toArray):=by
  show ((items.toList.drop (D' items.size 0 lo)).take (D' items.size items.size hi - D' items.size 0 lo)).toArray.size<=fx;simp only[hL,gv,yy,li];omega
 obtain⟨os,c,d,l⟩:=id g;have e:s.TypeIs (.ref sl) "slice" := ⟨os,c,d⟩
 delta FJ
 try with_reducible refine sA ?_
 refine b7 (wpAny_sequenceKey b.typeIs (by decide) ?_);refine b7 (wb b.typeIs Dd
  (zB Dd b.typeIs entry_tuple_getitem ?_ (args_tuple_getitem _ _)))
 show h_ _ _ (Lz (.ref t) >>=_) _ _ s;refine b7 (tupleItemsOf_ b ?_);refine b7 (Gx e ?_);refine b7 (Xw g pl i ?_);have f:¬ ((((D' items.size 0 lo):gV) ==0 && (1:gV) ==1 && (D' items.size items.size hi - D' items.size 0 lo) ==items.size)=c0):=by
  grind
 show h_ _ _ (if (((D' items.size 0 lo):gV) ==0 && (1) ==1 && (D' items.size items.size hi - D' items.size 0 lo) ==items.size)=c0 then _ else _) _ _ s;rw[ks f,Tq]
 first
  |exact b7 (DM (eM ⟨_,Y,eM h⟩) a)
end HT
abbrev TO:=St->Hp->(eH gV->Hp->Prop)->Prop
def PO(X:Cx)(e:eH tA)(t:TO):Prop:=
 ∀(g:U (ce×z_))(s:f0)(A:St)(H:Hp)(Q:eH gV->Hp->Prop),Inv X g A H s->t A H Q->
  h_ (hY X.prog X.w) X.A (evalPart e X.env) (λu s'=>∃o H',Inv X g A H' s'/\Hb u o/\Q o H') X.xe s
def ZD:TO:=λ_ H Q=>Q cx H
inductive Wg(Q:eH gV->Hp->Prop)(x:V)(H1:Hp):Prop
 |i(i:_)(_:x = .int i)(_:Q (O i) H1)
def XF(t:TE):TO:=λA H Q=>t A H λx H1=>Wg Q x H1
theorem nA  : ∀{us:U cv},aB (ns.map V.int) us->FK us ns:=by
 induction ns with
 |nil=>intro us r;cases r;exact .nil
 |cons n ns a=>
  intro us r;cases r with
  |cons b c=>
   obtain⟨t,e⟩:=b;subst e;exact .cons n t (a c)
section
variable{c d:eH tA}{f j:TO}
theorem iV:PO X cx ZD:=by
 intro g s A H Q I h;exact eM ⟨cx,H,I,.none,h⟩
theorem fe(h:PE X e te):PO X (O e) (XF te):=by
 intro g s A H Q I a;refine wd (h g s A H _ I a) λu f ⟨x,H1,b,c,d⟩=>?_;obtain⟨i,rfl,q⟩:=d;obtain⟨t,rfl⟩:=c;exact⟨O i,H1,b,.int i t,q⟩
def JU(X:Cx)(r:V->eH gV->eH gV->Hp->VK->Prop):Prop:=
 ∀(g:U (ce×z_))(s:f0)(A:St)(H:Hp)(x:V)(v vl vu:cv)(c d:eH gV)(sl:ce)(Q:VK),Inv X g A H s->aD x v->s.heap.IsSliceOf sl vl vu .none->Hb vl c->Hb vu d->r x c d H Q->
  ∃T id,E1 (.type T) "__getitem__" =zJ (O (.builtin id))/\s.TypeIs v T/\h_ (hY X.prog X.w) X.A (FJ v (.ref sl)) (EP X g A Q) X.xe s
theorem JU.or{r r':V->eH gV->eH gV->Hp->VK->Prop}(h:JU X r)(h':JU X r'):JU X (λx c d H Q=>r x c d H Q\/r' x c d H Q):=by
 intro g s A H x v vl vu c d sl Q I a b pl e q;rcases q with q |q
 ·exact h g s A H x v vl vu c d sl Q I a b pl e q
 ·exact h' g s A H x v vl vu c d sl Q I a b pl e q
def PJ(r:V->eH gV->eH gV->Hp->VK->Prop)(te:TE)(f j:TO):TE:=λA H Q=>te A H λx H1=>f A H1 λl H2=>j A H2 λu a=>r x l u a Q
theorem gk{r:V->eH gV->eH gV->Hp->VK->Prop}(m:JU X r)(n:PE X e te)(p:PO X c f)(w:PO X d j):PE X (.Subscript e (.Slice c d cx p2) pos) (PJ r te f j):=by
 intro g s A H Q I h;refine K0 (wd (n g s A H _ I h) λv y ⟨x,H1,z,B,C⟩=>?_);refine wpAny_Slice (wd (p g y A H1 _ z C) λvl s2 ⟨l,H2,D,pl,E⟩=>wd (w g s2 A H2 _ D E) λvu a ⟨u,i,G,J,K⟩=>?_);refine eM ?_;have L:Inv X g A i { a with heap:=a.heap.push { cls:=.type "slice",data:=.fields #[vl,vu,.none] } }:=G.kept (t':=a.toks) λb R q=>b_ _ q;obtain⟨T,id,M,N,P⟩:=m g { a with heap:=a.heap.push { cls:=.type "slice",data:=.fields #[vl,vu,.none] } } A i x v vl vu l u a.heap.objs.size Q L B (KU ..) pl J K;exact tail_any N M P (by rfl)
def dF(E:U V)(c d:eH gV):U V:=(E.drop (HT.D' E.length 0 c)).take (HT.D' E.length E.length d - HT.D' E.length 0 c)
theorem wO(E:U V)(c d:eH gV):(dF E c d).length<=E.length:=by
 delta dF
 simp only[gv,yy]
 lia
inductive zu(K:fy)(x:V)(c:eH gV)(d:eH gV)(H:Hp)(Q:VK):Prop
 |i(a E:_)(_:x = .ref a)(_:th K H a E)(_:¬ (HT.D' E.length 0 c=0/\HT.D' E.length E.length d=E.length))(_:∀p,H p=cx->Q (.ref p) (upd H p (.tup (dF E c d))))
theorem XS:JU X (zu X.K):=by
 intro g s A H x v vl vu c d sl Q I i j pl l h;obtain⟨a,E,rfl,m,n,q⟩:=h;cases i;obtain⟨J,r,f,hz⟩:=I.tuple m;have e:J.toArray.size=E.length:=by rw[hL];exact r.length.symm
 refine⟨"tuple",_,Dd.lookup,f.typeIs,?_⟩;refine HT.F7 f j pl l (by exact e ▸ n) ?_ (by exact e ▸ hz);rw[e];refine⟨.ref s.heap.objs.size,_,I.laid (t':=s.toks) (λb p q=>b_ _ q) (dv _) ?_,Y,q _ (I.hok.fresh (dv _))⟩;exact⟨jE (wO E c d) hz,_,(r.drop (HT.D' E.length 0 c)).take (HT.D' E.length E.length d - HT.D' E.length 0 c),Jb _ _⟩
inductive zo(K:fy)(x:V)(y:V)(H:Hp)(Q:VK):Prop
 |i(a b E ys:_)(_:x = .ref a)(_:y = .ref b)(_:th K H a E)(_:th K H b ys)(_:E≠[])(_:E.length+ys.length<=fx)(_:(ys=[]->Q (.ref a) H))(_:(ys≠[]->∀p,H p=cx->Q (.ref p) (upd H p (.tup (E++ys)))))
theorem aB.nil_iff(r:aB E us):us=[]↔E=[]:=by
 cases r with
 |nil=>simp
 |cons _ _=>simp
theorem XC:DI X (Cb .Add) (zo X.K):=by
 intro g s A H x y v u Q I f i h;obtain⟨a,b,E,ys,rfl,rfl,j,l,m,hz,n,p⟩:=h;cases f;cases i;obtain⟨J,d,p1,_⟩:=I.tuple j;obtain⟨e,c,p2,_⟩:=I.tuple l;refine HT.Km p1 p2 (λz=>m (d.nil_iff.mp z)) (λz=>⟨.ref a,H,I,Y,n (c.nil_iff.mp z)⟩) (λz=>?_) (by simp only[←d.length,←c.length];exact hz);refine⟨.ref s.heap.objs.size,_,I.laid (t':=s.toks) (λb r q=>b_ _ q) (dv _) ?_,Y,p (λw=>z (c.nil_iff.mpr w)) _ (I.hok.fresh (dv _))⟩;exact⟨by simp_all,_,d.append c,Jb _ _⟩
end
def JY(n:ft)(i:gV):eH ft:=if 0<=i then (if i<n then O i.toNat else cx) else if -(n:gV)<=i then O (i+n).toNat else cx
def FY(E:U α)(i:gV):eH α:=(JY E.length i).bind λj=>E[j]?
theorem rB{i:gV}(h:JY n i=O j):Hc i n=O j/\j<n/\-(n:gV)<=i/\i<n:=by
 delta JY at h
 by_cases a:0<=i
 ·rw[mu a]at h;by_cases h1:i<n
  ·rw[mu h1]at h;exact⟨by rw[QI a h1,(kn h)],by lia,by lia,h1⟩
  ·simp_all
 ·rw[ks a]at h;by_cases h1 : -(n)<=i
  ·rw[mu h1]at h;exact⟨by rw[seqIndex_neg (by exact Jc.mp ‹_›) h1,(kn h)],by lia,h1,by lia⟩
  ·rw[ks h1]at h;cases h
theorem vL{E:U α}{i:gV}{v:α}(h:FY E i=O v):∃j,Hc i E.length=O j/\E[j]?=O v/\j<E.length/\-(E.length:gV)<=i/\i<E.length:=by
 delta FY at h
 cases e:JY E.length i with
 |none=>rw[e]at h;cases h
 |some j=>
  rw[e]at h;obtain⟨h1,h2,a,b⟩:=rB e;exact⟨j,h1,h,h2,a,b⟩
theorem dX{E:U α}{v:α}(h:E[j]?=O v):FY E (j:gV)=O v:=by
 have a:=(cs.mp h).1;have e:JY E.length (j)=O j:=by
  delta JY
  simp_all
 delta FY;exact e ▸ h
theorem YX(E:U α)(v:α):FY (E++[v]) (-1)=O v:=by
 have a:(E++[v]).length=E.length+1:=by simp
 have e:JY (E++[v]).length (-1)=O E.length:=by
  delta JY
  rw[a,ks (by decide),mu (by lia)]
  grind
 delta FY
 simp_all
def vE(b:tA):Prop:=∀o i,Hm b d_ o i=NI [o,i] (FJ o i)
def JX(X:Cx)(r:R2):Prop:=
 ∀(value a:tA)(g:U (ce×z_))(s:f0)(A:St)(H:Hp)(x y:V)(v u:cv)(Q:VK),Inv X g A H s->aD x v->aD y u->r x y H Q->
  Hm a d_ v u=NI [v,u] (FJ v u)->h_ (hY X.prog X.w) X.A (subscriptTail value a v u) (EP X g A Q) X.xe s
def Hz(X:Cx)(id:BP)(r:V->U V->Hp->VK->Prop):Prop:=
 ∀(g:U (ce×z_))(s:f0)(A:St)(H:Hp)(x:V)(E:U V)(v:cv)(us:U cv)(Q:VK),Inv X g A H s->aD x v->aB E us->r x E H Q->
  h_ (hY X.prog X.w) X.A (Fq (.builtin id) (v::us)) (EP X g A Q) X.xe s
section
variable{a b:tA}{B:TE}
theorem JX.or{r r':R2}(h:JX X r)(h':JX X r'):JX X (λx y H Q=>r x y H Q\/r' x y H Q):=by
 intro value a g s A H x y v u Q I b c q d;rcases q with q |q
 ·exact h value a g s A H x y v u Q I b c q d
 ·exact h' value a g s A H x y v u Q I b c q d
theorem Hz.or{id:BP}(h:Hz X id r)(h':Hz X id r'):Hz X id (λx E H Q=>r x E H Q\/r' x E H Q):=by
 intro g s A H x E v us Q I a b q;rcases q with q |q
 ·exact h g s A H x E v us Q I a b q
 ·exact h' g s A H x E v us Q I a b q
theorem aG{r:R2}(c:JX X r)(d:PE X a ta)(e:PE X b B)(f:vE b):PE X (.Subscript a b pos) (Jn r ta B):=by
 intro g s A H Q I h;exact K0 (qz d e I h λv u s2 x y H2 i j l q=>c a b g s2 A H2 x y v u Q i j l q (f _ _))
inductive oz(K:fy)(x:V)(y:V)(H:Hp)(Q:VK):Prop
 |i(p E i v:_)(_:x = .ref p)(_:y = .int i)(_:n7 K H p E)(_:FY E i=O v)(_:Q v H)
inductive zp(K:fy)(x:V)(y:V)(H:Hp)(Q:VK):Prop
 |i(p E i v:_)(_:x = .ref p)(_:y = .int i)(_:th K H p E)(_:FY E i=O v)(_:Q v H)
theorem xN:JX X (oz X.K):=by
 intro value a g s A H x y v u Q I l m h d;obtain⟨p,E,i,z,rfl,rfl,n,B,q⟩:=h;cases l;obtain⟨t,rfl⟩:=m;obtain⟨J,r,pl,hz⟩:=I.list n;obtain⟨j,h1,h2,G,C,D⟩:=vL B;obtain⟨w,e,b⟩:=r.get h2;have K:=r.length;have L:=lw;have fin:EP X g A Q w s:=⟨z,H,I,b,q⟩
 by_cases f:0<=i
 ·have c:i.toNat=j:=by
   rw[QI f D]at h1
   simp_all
  exact item_listR pl.isList f (by lia) (by rw[c];simpa using e) fin d
 ·have c:(i+(J.toArray.size)).toNat=j:=by
   rw[seqIndex_neg (by exact Jc.mp ‹_›) C]at h1
   simp_all
  exact Jd pl.isList.typeIs KW.lookup
   (wpAny_getItem_list_neg pl.isList (by exact Jc.mp ‹_›) (by simp_all) (by lia) (by rw[c];simpa using e) ⟨Y,fin⟩) d
theorem xP:JX X (zp X.K):=by
 intro value a g s A H x y v u Q I c d h e;obtain⟨p,E,i,z,rfl,rfl,f,l,q⟩:=h;cases c;obtain⟨t,rfl⟩:=d;obtain⟨J,r,pl,hz⟩:=I.tuple f;obtain⟨j,h1,h2,n,B,C⟩:=vL l;obtain⟨w,m,b⟩:=r.get h2;have D:=lw;have fin:EP X g A Q w s:=⟨z,H,I,b,q⟩
 exact Jd pl.typeIs slot_tuple_getitem.lookup
  (getItem_tuple pl (by lia) (by lia) (by rw[hL,←r.length];exact h1) (by simpa using m) ⟨Y,fin⟩) e
theorem Inv.lst{p:ce}(I:Inv X g A H s)(h:H p=O (.lst E)):
  ∃(J:U cv)(n:ft),aB E J/\s.heap.get? p=O { cls:=.type "list",data:=.seq J.toArray n }/\E.length<=fx:=by
 obtain⟨z,J,n,r,e⟩:=I.hok p _ h;exact⟨J,n,r,e,z⟩
theorem wE(n:ft)(i:gV):(if (1:gV) > 0 then max 0 (min (if i<0 then i+n else i) (n:gV)) else max (-1) (min (if i<0 then i+n else i) ((n:gV) - 1)))=((HT.D' n 0 (O i):ft):gV):=by
 show _=((if i<0 then (i+(n)).toNat else min i.toNat n:ft):gV)
 by_cases h:i<0
 ·rw[mu h,mu h,Kc (by lia),Int.max_comm]
  simp_all
 ·rw[ks h,ks h];obtain⟨k,rfl⟩:=HE (Int.not_lt.mp h);simp only[nI];rcases Nat.le_total k n with z |z
  ·rw[Cj z,Kc (HY.mpr z)];simp_all
  ·rw[Nat.min_eq_right z,Int.min_eq_right (HY.mpr z)];exact Int.max_eq_right (Ca _)
theorem zm2(lo hi:eH gV)(n:ft):(JF lo hi cx n).1=((HT.D' n 0 lo:ft):gV)/\(JF lo hi cx n).2.1=((HT.D' n n hi:ft):gV)/\(JF lo hi cx n).2.2=1:=by
 refine⟨?_,?_,Y⟩
 ·cases lo with
  |none=>rfl
  |some i=>exact wE n i
 ·cases hi with
  |none=>rfl
  |some i=>exact wE n i
theorem zm1(J:U cv)(lo hi:eH gV):slicePick J.toArray lo hi cx=((J.drop (HT.D' J.length 0 lo)).take (HT.D' J.length J.length hi - HT.D' J.length 0 lo)).toArray:=by
 obtain⟨h1,h2,a⟩:=zm2 lo hi J.toArray.size
 delta slicePick
 simp only[h1,h2,a];simp only[sliceRange_one,pick_run] <;> rfl
inductive zt(K:fy)(x:V)(lo:eH gV)(hi:eH gV)(H:Hp)(Q:VK):Prop
 |i(a E:_)(_:x = .ref a)(_:n7 K H a E)(_:∀p,H p=cx->Q (.ref p) (upd H p (.lst (dF E lo hi))))
theorem Sg:JU X (zt X.K):=by
 intro g s A H x v vl vu lo hi sl Q I e f pl i h;obtain⟨a,E,rfl,j,q⟩:=h;cases e;obtain⟨J,r,d,hz⟩:=I.list j;have c:=r.length;refine⟨"list",_,KW.lookup,d.isList.typeIs,?_⟩;refine wpAny_getItem_list_slice d.isList f pl i .none (by simp) ?_ (by simp_all);rw[zm1,←c];refine⟨.ref s.heap.objs.size,_,I.laid (t':=s.toks) (λb l q=>b_ _ q) (dv _) ?_,Y,q _ (I.hok.fresh (dv _))⟩;exact⟨jE (wO E lo hi) hz,_,0,(r.drop (HT.D' E.length 0 lo)).take (HT.D' E.length E.length hi - HT.D' E.length 0 lo),f6 _ Y⟩
def bN:V->n_
 |.non=>c0
 |.bl _=>c0
 |.int _=>c0
 |.str _=>c0
 |_=>d_
def Es:V->V->n_
 |.non,.non=>c0
 |.bl a,.bl b=>a ==b
 |.bl a,.int b=>(if a then 1 else 0) ==b
 |.int a,.bl b=>a ==(if b then 1 else 0)
 |.int a,.int b=>a ==b
 |.str a,.str b=>a ==b
 |_,_=>d_
theorem qM{x:V}(d:aD y u)(c:aD x v)(f:bN y=c0)(e:bN x=c0):Iz on s u v (Es y x):=by
 cases y with
 |non=>
  cases d;cases x with
  |non=>cases c;exact HQ _
  |bl b=>cases c;exact Ni b
  |int b=>obtain⟨t,rfl⟩:=c;exact GQ b t
  |str b=>obtain⟨t,rfl⟩:=c;exact GR b t
  |_=>exact hQ (show d_=c0 from e) kC
 |bl a=>
  cases d;cases x with
  |non=>cases c;exact Nj a
  |bl b=>cases c;exact Nk a b
  |int b=>obtain⟨t,rfl⟩:=c;exact Nl a b t
  |str b=>obtain⟨t,rfl⟩:=c;exact Nm a b t
  |_=>exact hQ (show d_=c0 from e) kC
 |int a=>
  obtain⟨t',rfl⟩:=d;cases x with
  |non=>cases c;exact GU a t'
  |bl b=>cases c;exact Nn a t' b
  |int b=>obtain⟨t,rfl⟩:=c;exact No a t' b t
  |str b=>obtain⟨t,rfl⟩:=c;exact Hk a t' b t
  |_=>exact hQ (show d_=c0 from e) kC
 |str a=>
  obtain⟨t',rfl⟩:=d;cases x with
  |non=>cases c;exact GV a t'
  |bl b=>cases c;exact Np a t' b
  |int b=>obtain⟨t,rfl⟩:=c;exact Hl a t' b t
  |str b=>obtain⟨t,rfl⟩:=c;exact Nq a t' b t
  |_=>exact hQ (show d_=c0 from e) kC
 |_=>exact hQ (show d_=c0 from f) kC
def GO(x:V)(u:cv):n_:=match u with
 |.none=>Es .non x
 |.bool b=>Es (.bl b) x
 |.int i _=>Es (.int i) x
 |.str z _=>Es (.str z) x
 |_=>d_
theorem lg{x:V}(r:aD y u)(f:bN y=c0):GO x u=Es y x:=by
 cases y with
 |non=>cases r;rfl
 |bl b=>cases r;rfl
 |int i=>obtain⟨t,rfl⟩:=r;rfl
 |str z=>obtain⟨t,rfl⟩:=r;rfl
 |_=>exact hQ (show d_=c0 from f) kC
theorem kT{x:V}:∀{E:U V}{us:U cv},aB E us->E.all bN=c0->us.any (GO x)=E.any λy=>Es y x
 |_,_,.nil,_=>rfl
 |y::E,u::us,.cons r t,f=>by
  simp only[Ck,sB]at f;simp only[y_,y_,lg r f.1,kT t f.2]
theorem iO{on:BF}{s:f0}{x:V}{v:cv}(b:aD x v)(c:bN x=c0):∀{E:U V}{us:U cv},aB E us->E.all bN=c0->∀u∈us,Iz on s u v (GO x u)
 |_,_,.nil,_=>λu a=>by cases a
 |y::E,u::us,.cons r t,f=>λd a=>by
  simp only[Ck,sB]at f;rcases f_.mp a with rfl |a
  ·rw[lg r f.1];exact qM r b f.1 c
  ·exact iO b c t f.2 d a
def GP(x:V)(E:U V):n_:=E.any λy=>Es y x
inductive MS(K:fy)(neg:n_)(x:V)(y:V)(H:Hp)(Q:VK):Prop
 |i(p E:_)(_:y = .ref p)(_:(n7 K H p E\/th K H p E))(_:bN x=c0)(_:E.all bN=c0)(_:Q (.bl (if neg then !GP x E else GP x E)) H)
theorem ZO:DI X (su .In) (MS X.K d_):=by
 intro g s A H x y v u Q I b e h;obtain⟨p,E,rfl,a,c,fs,q⟩:=h;cases e;rcases a with a |a
 ·obtain⟨J,r,pl,hz⟩:=I.list a;refine SeqAt.in_listAt (GO x) pl.isList (λw d=>iO b c r fs w (by simp_all)) ⟨.bl _,H,I,Y,?_⟩;rw[show J.toArray.any (GO x)=J.any (GO x) by simp,kT r fs];exact q
 ·obtain⟨J,r,pl,hz⟩:=I.tuple a;refine SeqAt.in_tupleAt (GO x) pl (λw d=>iO b c r fs w (by simpa using d)) ⟨.bl _,H,I,Y,?_⟩;rw[show J.toArray.any (GO x)=J.any (GO x) by simp,kT r fs];exact q
theorem yY:DI X (su .NotIn) (MS X.K c0):=by
 intro g s A H x y v u Q I b e h;obtain⟨p,E,rfl,a,c,fs,q⟩:=h;cases e;rcases a with a |a
 ·obtain⟨J,r,pl,hz⟩:=I.list a;refine SeqAt.notIn_listAt (GO x) pl.isList (λw d=>iO b c r fs w (by simp_all)) ⟨.bl _,H,I,Y,?_⟩;rw[show J.toArray.any (GO x)=J.any (GO x) by simp,kT r fs];exact q
 ·obtain⟨J,r,pl,hz⟩:=I.tuple a;refine SeqAt.notIn_tupleAt (GO x) pl (λw d=>iO b c r fs w (by simpa using d)) ⟨.bl _,H,I,Y,?_⟩;rw[show J.toArray.any (GO x)=J.any (GO x) by simp,kT r fs];exact q
theorem wq:bw X (.builtin "len") (λE H Q=>∃p ys,E=[.ref p]/\(n7 X.K H p ys\/th X.K H p ys)/\Q (.int ys.length) H):=by
 intro g s A H E us Q I r h;obtain⟨p,ys,rfl,b,q⟩:=h;obtain⟨u,rfl,c⟩:=df r;cases c;have d:=lw;rcases b with b |b
 ·obtain⟨J,r',pl,hz⟩:=I.list b;have a:=r'.length;exact Calls.call_len_list pl.isList (by simp only[hL] <;> lia) ⟨.int ys.length,H,I.tok _,⟨s.toks+1,by rw[hL,a]⟩,q⟩
 ·obtain⟨J,r',pl,hz⟩:=I.tuple b;have a:=r'.length;exact len_tuple pl (by simp only[hL] <;> lia) ⟨.int ys.length,H,I.tok _,⟨s.toks+1,by rw[hL,a]⟩,q⟩
theorem mO:bw X (.builtin "len") (λE H Q=>∃z,E=[.str z]/\z.length<=fx/\Q (.int z.length) H):=by
 intro g s A H E us Q I r h;obtain⟨z,rfl,hz,q⟩:=h;obtain⟨u,rfl,t,rfl⟩:=df r;have a:=lw;exact len_str (by lia) ⟨.int z.length,H,I.tok _,⟨_,Y⟩,q⟩
theorem bw.or{f:cv}{r r':U V->Hp->VK->Prop}(h:bw X f r)(h':bw X f r'):bw X f (λE H Q=>r E H Q\/r' E H Q):=by
 intro g s A H E us Q I a q;rcases q with q |q
 ·exact h g s A H E us Q I a q
 ·exact h' g s A H E us Q I a q
theorem TR:bw X (.type "list") (λE H Q=>∃p ys,E=[.ref p]/\(n7 X.K H p ys\/th X.K H p ys)/\∀l,H l=cx->Q (.ref l) (upd H l (.lst ys))):=by
 intro g s A H E us Q I r h;obtain⟨p,ys,rfl,a,q⟩:=h;obtain⟨u,rfl,m⟩:=df r;cases m;have fin:∀(J),aB ys J->ys.length<=fx->∀(h') (c'),(∀b j,s.heap.get? b=O j->h'.get? b=O j)->
   h'.get? s.heap.objs.size=O { cls:=.type "list",dict:=cx,data:=.seq J.toArray c',slots:=#[] }->EP X g A Q (.ref s.heap.objs.size) { s with heap:=h' }:=λJ r' hz h' c' c e=>
  ⟨.ref s.heap.objs.size,_,I.laid (t':=s.toks) c (dv _) (show bo X.prog X.w _ h' _ (.lst ys) from⟨hz,J,c',r',e⟩),Y,q _ (I.hok.fresh (dv _))⟩
 rcases a with a |a
 ·obtain⟨J,r',pl,hz⟩:=I.list a;have d:=r'.length;obtain⟨o,f,i,n,hd⟩:=pl.isList;exact Nr p (.inl Y) f i hd (λh' c' c e=>fin J r' hz h' c' c e) (by simp_all)
 ·obtain⟨J,r',pl,hz⟩:=I.tuple a;have d:=r'.length;obtain⟨o,f,i,n,hd⟩:=pl;exact Nr p (.inr Y) f i hd (λh' c' c e=>fin J r' hz h' c' c e) (by simp only[hL] <;> lia)
theorem ZB:bw X (.type "tuple") (λE H Q=>∃p ys,E=[.ref p]/\((n7 X.K H p ys/\∀l,H l=cx->Q (.ref l) (upd H l (.tup ys)))\/(th X.K H p ys/\Q (.ref p) H))):=by
 intro g s A H E us Q I r h;obtain⟨p,ys,rfl,h⟩:=h;obtain⟨u,rfl,f⟩:=df r;cases f;rcases h with⟨a,q⟩ |⟨a,q⟩
 ·obtain⟨J,r',pl,hz⟩:=I.list a;have c:=r'.length;refine call_tuple_list pl.isList (λh' i=>?_) (by simp_all);have d:=I.kept (t':=s.toks) i;have j:Inv X g A (upd H h'.objs.size (.tup ys)) { s with heap:=h'.push { cls:=.type "tuple",data:=.seq J.toArray } }:=
   d.laid (t':=s.toks) (λb o e=>b_ _ e) (dv _) (show bo X.prog X.w _ _ _ (.tup ys) from⟨hz,J,r',Jb _ _⟩)
  exact⟨.ref h'.objs.size,_,j,Y,q _ (d.hok.fresh (dv _))⟩
 ·obtain⟨J,r',pl,hz⟩:=I.tuple a;exact call_tuple_same pl ⟨.ref p,H,I,Y,q⟩
def Ny(K:fy)(T:BP)(x:V)(H:Hp):Prop:=match x with
 |.str _=>T = "str"
 |.int _=>T = "int"
 |.ref p=>(T = "list" /\ ∃E,n7 K H p E)\/(T = "tuple" /\ ∃o,K.lookup p=O o/\o.cls = .type "tuple" /\ o.dict=cx)\/
   (T = "dict" /\ ((∃G,H p=O (.dK G))\/∃G,H p=O (.dT G)))\/(T = "set" /\ ∃S n,H p=O (.set S n))
 |_=>wa
theorem OL{T:BP}{x:V}(I:Inv X g A H s)(r:aD x v)(ty:Ny X.K T x H):
  s.TypeIs v T/\∀a,v = .ref a->∃f,s.heap.get? a=O f/\f.dict=cx:=by
 cases x with
 |str z=>
  obtain⟨t,rfl⟩:=r;cases (show T = "str" from ty);exact⟨typeIs_str s z t,λ_ e=>nomatch e⟩
 |int i=>
  obtain⟨t,rfl⟩:=r;cases (show T = "int" from ty);exact⟨K1 s i t,λ_ e=>nomatch e⟩
 |ref p=>
  cases r;rcases ty with⟨rfl,E,h⟩ |⟨rfl,o,b,j,hd⟩ |⟨rfl,b⟩ |⟨rfl,S,n,b⟩
  ·obtain⟨J,_,pl,_⟩:=I.list h;refine⟨pl.isList.typeIs,λa e=>?_⟩;cases e;obtain⟨o,n,e,c,hd,_⟩:=pl;exact⟨o,e,hd⟩
  ·refine⟨⟨o,I.kIn p o b,j⟩,λa e=>?_⟩;cases e;exact⟨o,I.kIn _ o b,hd⟩
  ·have z:∃o,s.heap.get? p=O o/\o.ExactDict:=by
    rcases b with⟨G,b⟩ |⟨G,b⟩
    ·obtain⟨_,_,_,_,o,_,_,e,ex,_⟩:=I.hok p _ b;exact⟨o,e,ex⟩
    ·obtain⟨_,_,_,_,o,_,_,e,ex,_⟩:=I.hok p _ b;exact⟨o,e,ex⟩
   obtain⟨o,e,ex⟩:=z;refine⟨⟨o,e,ex.1⟩,λa d=>?_⟩;cases d;exact⟨o,e,ex.2.1⟩
  ·obtain⟨o,_,_,_,e,ex,_⟩:=I.hok p _ b;refine⟨⟨o,e,ex.1⟩,λa d=>?_⟩;cases d;exact⟨o,e,ex.2.1⟩
 |_=>exact tj ty
def znp(K:fy)(T:BP)(r:V->U V->Hp->VK->Prop)(to:TE):TE:=λA H Q=>to A H λx H1=>Ny K T x H1/\r x [] H1 Q
def N4(K:fy)(T:BP)(r:V->U V->Hp->VK->Prop)(to:TE)(t:TA):TE:=λA H Q=>to A H λx H1=>Ny K T x H1/\t A H1 λE H2=>r x E H2 Q
variable{d:tA}{C:TA}{T m:BP}
theorem VH(j:K2 T)(c:Slot T name m)(e:K3 (.builtin m)=zJ (.type "method_descriptor"))(l:Hz X m r)(n:PE X d to)(a:BC d name X.env (eval d X.env)=eval d X.env:=by rfl)(b:(apos.endLine ==cpos.line)=c0:=by rfl):PE X (.Call (.Attribute d name apos) [] [] cpos) (znp X.K T r to):=by
 intro g s A H Q I h;refine EV a b (wd (n g s A H _ I h) λv p ⟨x,H1,f,i,ty,q⟩=>?_);obtain⟨h1,h2⟩:=OL f i ty;exact⟨T,m,j,c,e,h1,h2,BY Y (Fh (l g p A H1 x [] v [] Q f i .nil q))⟩
theorem si(q:K2 T)(c:Slot T name m)(j:K3 (.builtin m)=zJ (.type "method_descriptor"))(u:Hz X m r)(w:PE X d to)(y:PA X (e::es) C)(a:BC d name X.env (eval d X.env)=eval d X.env:=by rfl)(f:((zG cpos (i' (e::es) X.env)).all (λx=>!x.1) && (Ez cpos (C_ [] X.env)).all (λx=>x.1.isSome)
   && decide ((e::es).length+([]:U Fg).length+(if ([]:U Fg).isEmpty then 0 else 1)<30))=c0:=by rfl)(b:(apos.endLine ==cpos.line)=c0:=by rfl)(z:i' (e::es) X.env=(d_,eval e X.env)::i' es X.env:=by rfl)(i:(zG cpos (i' es X.env)).any (·.1)=d_:=by rfl):
  PE X (.Call (.Attribute d name apos) (e::es) [] cpos) (N4 X.K T r to C):=by
 intro g s A H Q I h;refine wpAny_Call_method_late a f b Y (wd (w g s A H _ I h) λv B ⟨x,H1,l,n,ty,D⟩=>?_);obtain⟨h1,h2⟩:=OL l n ty;refine⟨T,m,q,c,j,h1,h2,?_⟩;have p:=y cpos g B A H1 _ l D;rw[z]at p ⊢;refine BY (by assumption) (EW ?_);exact wd p λus s2 ⟨Z,H2,E,G,J⟩=>u g s2 A H2 x Z v us Q E n G J
end
def MY(X:Cx)(id:BP)(r:V->U V->Hp->VK->Prop):Prop:=
 ∀(g:U (ce×z_))(s:f0)(A:St)(H:Hp)(x:V)(E:U V)(v:cv)(us:U cv)(Q:VK),Inv X g A H s->aD x v->aB E us->r x E H Q->
  h_ (hY X.prog X.w) X.A (Fq (.builtin id) (v::us)) (EP X g A Q) X.xe s
theorem aB.one:∀{x:V}{us:U cv},aB [x] us->∃u,us=[u]/\aD x u
 |_,_,.cons r .nil=>⟨_,Y,r⟩
theorem aB.two{x y:V}{us:U cv}(h:aB [x,y] us):∃u v,us=[u,v]/\aD x u/\aD y v:=lY h
theorem aB.zero:∀{us:U cv},aB [] us->us=[]
 |_,.nil=>rfl
theorem aB.eraseIdx:∀{E:U V}{us:U cv}(i:ft),aB E us->aB (E.eraseIdx i) (us.eraseIdx i)
 |_,_,_,.nil=>.nil
 |_,_,0,.cons _ t=>t
 |_,_,i+1,.cons r t=>.cons r (aB.eraseIdx i t)
theorem aB.reverse(h:aB E us):aB E.reverse us.reverse:=by
 induction h with
 |nil=>exact .nil
 |cons r t a=>rw[Ep,Ep];exact aB.append a (.cons r .nil)
theorem aB.rep{E:U V}{us:U cv}(h:aB E us):∀k:ft,aB (nc k E).flatten (nc k us).flatten
 |0=>.nil
 |k+1=>by
  exact aB.append h (aB.rep h k)
theorem xU{α:Type}:∀(l:U α)(i:ft),(l.eraseIdx i).length<=l.length
 |[],_=>dv _
 |_::_,0=>BL _
 |_::r,i+1=>Gb (xU r i)
theorem xp(J:U cv):∀(k:ft)(acc:U cv),
  Md (λa b=>a++b) acc.toArray (nc k J.toArray)=(acc++(nc k J).flatten).toArray
 |0,acc=>by simp
 |k+1,acc=>by
  have e:acc.toArray++J.toArray=(acc++J).toArray:=by simp
  have c:(acc++J)++(nc k J).flatten=acc++(nc (k+1) J).flatten:=by
   grind
  rw[←c,←xp J k (acc++J),←e,List.replicate_succ,Dn]
section
variable{l:ce}{a:U V}
theorem Inv.lset{a:U cv}{f:t_ cv->t_ cv}(I:Inv X g A H s)(b:H l=O (.lst E))(e:s.heap.get? l=O { cls:=.type "list",data:=.seq J.toArray n })(c:f J.toArray=a.toArray)(d:aB ys a)(hz:ys.length<=fx):
  Inv X g A (upd H l (.lst ys)) { s with heap:=s.heap.update l (Cz f),toks:=t' }:=by
 have q:=HZ e f;rw[c]at q;refine I.write (by exact b ▸ trivial) (.inl Y) (λj u h i=>(ow s.heap (Cz f) (v_ h)).trans i) ⟨_,q⟩ ?_;exact⟨hz,a,_,d,q⟩
theorem Inv.lnew(I:Inv X g A H s)(a:aB ys J)(hz:ys.length<=fx):
  Inv X g A (upd H s.heap.objs.size (.lst ys)) { s with heap:=s.heap.push { cls:=.type "list",data:=.seq J.toArray },toks:=t' }:=
 I.laid (λ_ _ q=>b_ _ q) (dv _) ⟨hz,J,0,a,f6 _ Y⟩
theorem Inv.fresh(I:Inv X g A H s):H s.heap.objs.size=cx:=I.hok.fresh (dv _)
theorem Inv.lstM(I:Inv X g A H s)(a:H l=O (.lst E)):E.length<=fx/\∃(J:U cv)(n:ft),aB E J/\E.length=J.length/\s.heap.get? l=O { cls:=.type "list",data:=.seq J.toArray n }:=by
 obtain⟨z,J,n,r,e⟩:=I.hok l _ a;exact⟨z,J,n,r,r.length,e⟩
theorem yJ(h:n<=fx):DT n=d_:=by
 exact dV (by exact DN ‹_›)
end
inductive zmn(x:V)(Z:U V)(H:Hp)(Q:VK):Prop
 |i(l E y:_)(_:x = .ref l)(_:Z=[y])(_:H l=O (.lst E))(_:E.length<fx)(_:Q .non (upd H l (.lst (E++[y]))))
theorem jl:MY X "list.append" zmn:=by
 intro g s A H x Z v us Q I b c h;obtain⟨l,E,y,rfl,rfl,a,hz,q⟩:=h;cases b;obtain⟨u,rfl,d⟩:=c.one;obtain⟨z,J,n,r,f,e⟩:=I.lstM a;refine BX JG ⟨_,e,Y⟩ Jr (Je _ _) (IK l J.toArray n u (by simp_all)) ⟨e,?_⟩;refine⟨.non,_,I.lset (a:=J++[u]) a e (by simp) (r.append (.cons d .nil)) ?_,Y,q⟩;simp only[gT,so];assumption
inductive Tl(x:V)(Z:U V)(H:Hp)(Q:VK):Prop
 |i(l b E a:_)(_:x = .ref l)(_:Z=[.ref b])(_:H l=O (.lst E))(_:H b=O (.lst a))(_:E.length+a.length<=fx)(_:Q .non (upd H l (.lst (E++a))))
theorem yg:MY X "list.extend" Tl:=by
 intro g s A H x Z v us Q I i j h;obtain⟨l,b,E,D,rfl,rfl,f,m,hz,q⟩:=h;cases i;obtain⟨u,rfl,p⟩:=j.one;cases p;obtain⟨z,J,n,r,G,e⟩:=I.lstM f;obtain⟨K,a,w,y,B,C⟩:=I.lstM m;have d:J.toArray.size+a.toArray.size<=fx:=by grind
 have c:¬ (!J.toArray.isEmpty && DT (J.toArray.size+a.toArray.size))=c0:=by
  rw[yJ d,Ee]
  simp_all
 refine BX F.slot_list_extend ⟨_,e,Y⟩ F.entry_list_extend (F.args_list_extend_2 _ _)
  (QJ l J.toArray n b a.toArray w c (by grind) (by exact Cr ‹_›)) ⟨e,C,?_⟩
 refine⟨.non,_,I.lset (a:=J++a) f e (by simp) (r.append y) ?_,Y,q⟩
 simp_all
inductive ZE(x:V)(Z:U V)(H:Hp)(Q:VK):Prop
 |i(l E i k y:_)(_:x = .ref l)(_:Z=[.int i])(_:H l=O (.lst E)) (_ : -(2 ^ 63)<=i) (_:i<2 ^ 63) (_:Hc i E.length=O k) (_:E[k]?=O y) (_:Q y (upd H l (.lst (E.eraseIdx k))))
theorem yh:MY X "list.pop" ZE:=by
 intro g s A H x Z v us Q I c d h;obtain⟨l,E,i,k,y,rfl,rfl,b,h1,h2,m,f,q⟩:=h;cases c;obtain⟨u,rfl,j⟩:=d.one;obtain⟨t,rfl⟩:=j;obtain⟨z,J,n,r,p,e⟩:=I.lstM b;obtain⟨w,B,a⟩:=r.get f;refine BX F.slot_list_pop ⟨_,e,Y⟩ F.entry_list_pop (F.args_list_pop_2 _ _)
  (QK l J.toArray n i t k w (H_ h1 h2) (by simp_all) (by simp_all) (by simp_all)) ⟨e,?_⟩
 refine⟨y,_,I.lset (a:=J.eraseIdx k) b e ?_ (r.eraseIdx k) ?_,a,q⟩
 ·simp_all
 ·have:=xU E k;exact jE ‹_› ‹_›
inductive zmo(x:V)(y:V)(H:Hp)(Q:VK):Prop
 |i(l b E a:_)(_:x = .ref l)(_:y = .ref b)(_:H l=O (.lst E))(_:H b=O (.lst a))(_:E.length+a.length<=fx)(_:∀p,H p=cx->Q (.ref p) (upd H p (.lst (E++a))))
theorem jp:DI X (Cb .Add) zmo:=by
 intro g s A H x y v u Q I c d h;obtain⟨l,b,E,B,rfl,rfl,f,i,hz,q⟩:=h;cases c;cases d;obtain⟨z,J,n,r,C,e⟩:=I.lstM f;obtain⟨D,a,G,j,m,p⟩:=I.lstM i;refine PySem.P.add_list e p ?_ (by grind);have w:J.toArray++a.toArray=(J++a).toArray:=by simp
 rw[w];exact⟨.ref _,_,I.lnew (t':=s.toks) (r.append j) (by simp_all),Y,q _ I.fresh⟩
inductive Xm(x:V)(y:V)(H:Hp)(Q:VK):Prop
 |i(l k E:_)(_:x = .ref l)(_:y = .int k)(_:H l=O (.lst E)) (_ : -(2 ^ 63)<=k) (_:k<2 ^ 63) (_:E.length * k.toNat<=fx) (_:∀p,H p=cx->Q (.ref p) (upd H p (.lst (nc k.toNat E).flatten)))
theorem T8(E:U α)(k:ft):(nc k E).flatten.length=k * E.length:=by simp
theorem SE:DI X (Cb .Mult) Xm:=by
 intro g s A H x y v u Q I j p h;obtain⟨l,k,E,rfl,rfl,w,h1,h2,hz,q⟩:=h;cases j;obtain⟨t,rfl⟩:=p;obtain⟨z,J,n,r,G,e⟩:=I.lstM w;have c:J.toArray.size * k.toNat<=fx:=by simp_all
 have d:¬ J.toArray.size * k.toNat > (2 ^ 63 - 1) / 8:=by
  have:(fx)<=(2 ^ 63 - 1) / 8:=by decide
  lia
 have f:¬ (!Fz k)=c0:=by
  rw[H_ h1 h2]
  grind
 have b:¬ DT (J.toArray.size * k.toNat)=c0:=by
  rw[yJ c];exact kC
 have i:Md (λB C=>B++C) #[] (nc (if J.toArray.isEmpty=c0 then 0 else k.toNat) J.toArray)=(nc k.toNat J).flatten.toArray:=by
  have D:=λm=>by
   have:=xp J m [];simp only[JH]at this;omega
  rw[D];cases J with
  |nil=>simp
  |cons a r'=>rw[ks (by simp)]
 refine wpAny_binaryOp_repeat_ref (by decide) ⟨_,e,Y⟩ (λs'=>K1 s' k t) noFill_list_mul F.fills_int_mul KY repeat_list F.slot_int_index.lookup
  (BX KY (K1 s k t) F.entry_int_rmul (F.args_int_rmul_2 _ _) (int___rmul___int_list k t l J.toArray n)
   ⟨e,Y,⟨_,e,Y⟩,BX F.slot_list_mul ⟨_,e,Y⟩ F.entry_list_mul (F.args_list_mul_2 _ _) (NJ l J.toArray n k t f d b) ⟨e,?_⟩⟩)
 rw[i];exact⟨.ref _,_,I.lnew (t':=s.toks) (r.rep k.toNat) (by rw[T8,Ia];exact hz),Y,q _ I.fresh⟩
section
variable [BU κ]
def aP(G:U (κ×V))(k:κ):eH V:=(G.find? λkv=>decide (kv.1=k)).map (·.2)
def bR(G:U (κ×V))(k:κ)(v:V):U (κ×V):=
 if (G.any λkv=>decide (kv.1=k))=c0 then G.map (λkv=>if kv.1=k then (kv.1,v) else kv) else G++[(k,v)]
def fm(G:U (κ×V))(k:κ):U (κ×V):=G.filter λkv=>decide (kv.1≠k)
theorem eV{p:κ×V}{r:U (κ×V)}{k:κ}(e:p.1=k):aP (p::r) k=O p.2:=by simp[aP,e]
theorem dN{p:κ×V}{r:U (κ×V)}{k:κ}(e:¬ p.1=k):aP (p::r) k=aP r k:=by simp[aP,e]
theorem jv(k:κ):∀G:U (κ×V),(G.any λkv=>decide (kv.1=k))=(aP G k).isSome
 |[]=>rfl
 |p::r=>by
  simp only[y_];by_cases e:p.1=k
  ·simp only[eV e,fo e,Bool.true_or,Option.isSome_some]
  ·simp only[dN e,dV e];exact jv k r
theorem Qz(k j:κ)(y:V):∀G:U (κ×V),aP (G.map λkv=>if kv.1=k then (kv.1,y) else kv) j=(aP G j).map λx=>if j=k then y else x
 |[]=>rfl
 |p::r=>by
  have a:=Qz k j y r;rw[n5];by_cases h:p.1=k
  ·rw[mu h];by_cases e:p.1=j
   ·rw[eV (p:=(p.1,y)) e,eV e,FV,mu (e.symm.trans h)]
   ·rw[dN (p:=(p.1,y)) e,dN e,a]
  ·rw[ks h];by_cases e:p.1=j
   ·rw[eV e,eV e,FV,ks (λz=>h (e.trans z))]
   ·rw[dN e,dN e,a]
theorem P7(k j:κ)(y:V):∀G:U (κ×V),aP G k=cx->aP (G++[(k,y)]) j=if j=k then O y else aP G j
 |[],_=>by
  by_cases e:k=j
  ·rw[mu e.symm];exact eV (p:=(k,y)) e
  ·rw[ks (λz=>e z.symm)];exact dN (p:=(k,y)) e
 |p::r,a=>by
  rw[Js];have b:¬ p.1=k:=λz=>by rw[eV z]at a;cases a
  rw[dN b]at a;by_cases e:p.1=j
  ·rw[eV e,eV e,ks (λz=>b (e.trans z))]
  ·rw[dN e,dN e,(P7 k j y r a)]
theorem Rt(G:U (κ×V))(k j:κ)(y:V):aP (bR G k y) j=if j=k then O y else aP G j:=by
 delta bR
 by_cases a:(G.any λkv=>decide (kv.1=k))=c0
 ·rw[mu a,Qz];rw[jv]at a;by_cases e:j=k
  ·obtain⟨x,b⟩:=BI.mp a
   grind
  ·simp_all
 ·rw[ks a];refine P7 k j y G ?_;rw[jv]at a
  simp_all
theorem nE(G:U (κ×V))(k:κ)(v:V):(bR G k v).length<=G.length+1:=by
 delta bR
 split
 ·simp_all
 ·simp_all
theorem oy{G:U (κ×V)}{k:κ}(v:V)(h:aP G k=cx):bR G k v=G++[(k,v)]:=by
 delta bR
 rw[jv,h]
 simp_all
theorem cZ.isSome_eq{o:eH V}{u:eH cv}(r:cZ o u):o.isSome=u.isSome:=by
 cases o with
 |none=>cases u with
  |none=>rfl
  |some _=>exact (show wa from r).elim
 |some _=>cases u with
  |none=>exact (show wa from r).elim
  |some _=>rfl
theorem cZ.getD{o:eH V}{u:eH cv}{d:V}{d':cv}(r:cZ o u)(a:aD d d'):aD (o.getD d) (u.getD d'):=by
 cases o with
 |none=>cases u with
  |none=>exact a
  |some _=>exact (show wa from r).elim
 |some _=>cases u with
  |none=>exact (show wa from r).elim
  |some _=>exact r
theorem KV.val{G:U (κ×V)}{Z:U (κ×cv)}(r:KV G Z)(k:κ):cZ (aP G k) (Gy Z k):=by
 induction r with
 |nil=>exact zF
 |@cons p q ps a h t d=>
  obtain⟨h1,h2⟩:=h;by_cases e:p.1=k
  ·have c:=h1.symm.trans e;have b:Gy (q::a) k=O q.2:=by simp[Gy,c]
   rw[eV e,b];exact h2
  ·have c:¬ q.1=k:=λz=>e (h1.trans z);have b:Gy (q::a) k=Gy a k:=by simp[Gy,c]
   rw[dN e,b];exact d
theorem KV.any{G:U (κ×V)}{Z:U (κ×cv)}(r:KV G Z)(k:κ):(G.any λkv=>decide (kv.1=k))=Z.any λkv=>decide (kv.1=k):=by
 induction r with
 |nil=>rfl
 |cons h t a=>simp only[y_,y_,a,h.1]
theorem KV.repl{G:U (κ×V)}{Z:U (κ×cv)}(r:KV G Z)(k:κ)(b:aD y u):
  KV (G.map λkv=>if kv.1=k then (kv.1,y) else kv) (Z.map λkv=>if kv.1=k then (kv.1,u) else kv):=by
 induction r with
 |nil=>exact .nil
 |@cons p q ps c h t a=>
  simp only[n5,n5];refine .cons ?_ a
  lia
theorem KV.put{G:U (κ×V)}{Z:U (κ×cv)}(r:KV G Z)(k:κ)(a:aD y u):KV (bR G k y) (MD Z k u):=by
 delta bR MD
 rw[r.any k];by_cases e:(Z.any λkv=>decide (kv.1=k))=c0
 ·rw[mu e,mu e];exact r.repl k a
 ·rw[ks e,ks e];exact Paired.snoc r ⟨Y,a⟩
theorem KV.drop{G:U (κ×V)}{Z:U (κ×cv)}(r:KV G Z)(k:κ):KV (fm G k) (without Z k):=by
 unfold KV at r ⊢
 delta fm without
 induction r with
 |nil=>exact .nil
 |@cons p q ps f h t c=>
  obtain⟨h1,h2⟩:=h;simp only[E4,E4];by_cases e:p.1=k
  ·simp_all
  ·have d:¬ q.1=k:=λz=>e (h1.trans z);have a:decide (p.1≠k)=c0:=by simp[e]
   have b:decide (q.1≠k)=c0:=by simp[d]
   rw[mu a,mu b];exact .cons ⟨h1,h2⟩ c
theorem KV.keys{G:U (κ×V)}{Z:U (κ×cv)}(r:KV G Z):G.map (·.1)=Z.map (·.1):=by
 unfold KV at r;induction r with
 |nil=>rfl
 |cons h t a=>rw[n5,n5,a,h.1]
theorem KV.length{G:U (κ×V)}{Z:U (κ×cv)}(r:KV G Z):G.length=Z.length:=Paired.length r
theorem wX(G:U (κ×V))(k:κ):(fm G k).length<=G.length:=ER _ _
end
theorem io{k:Key}(r:aD (kV k) u):(cy Aa w).is k u=c0:=by
 cases k with
 |inl i=>cases i with
  |none=>cases (show u=Dg from r);rfl
  |some i=>obtain⟨t,e⟩:=(show ∃t,u=DY i t from r);subst e;exact Zc Aa w i t
 |inr x=>obtain⟨t,e⟩:=(show ∃t,u=DZ x t from r);subst e;exact zis Aa w x t
theorem xL{Aa:sJ}{w:uF}:∀{a:U Key}{us:U cv},aB (a.map kV) us->ItemsAre (cy Aa w) a us
 |[],_,r=>by rw[HF]at r;cases r;exact .nil
 |k::a,_,r=>by
  cases r with
  |cons h t=>exact .cons (io h) (xL t)
abbrev KT(H:Hp):U (U Key×V)->U (U Key×ce×cv)->Prop:=Paired λp q=>p.1=q.1/\H q.2.1=O (.tup (p.1.map kV))/\aD p.2 q.2.2
theorem KT.val{G:U (U Key×V)}{E:U (U Key×ce×cv)}(r:KT H G E)(k:U Key):cZ (aP G k) ((IL E k).map (·.2)):=by
 induction r with
 |nil=>exact zF
 |@cons p q ps a h t d=>
  obtain⟨h1,_,h2⟩:=h;by_cases e:p.1=k
  ·have c:=h1.symm.trans e;have b:IL (q::a) k=O q.2:=by simp[IL,c]
   rw[eV e,b];exact h2
  ·have c:¬ q.1=k:=λz=>e (h1.trans z);have b:IL (q::a) k=IL a k:=by simp[IL,c]
   rw[dN e,b];exact d
theorem KT.repl{G:U (U Key×V)}{E:U (U Key×ce×cv)}(r:KT H G E)(k:U Key)(a:aD y u):
  KT H (G.map λkv=>if kv.1=k then (kv.1,y) else kv) (E.map (putAt k u)):=by
 induction r with
 |nil=>exact .nil
 |@cons p q ps d h t b=>
  rw[n5];refine .cons ?_ b;obtain⟨h1,h2,c⟩:=h
  delta putAt
  by_cases e:p.1=k
  ·rw[mu e,mu (h1.symm.trans e)];exact⟨h1,h2,a⟩
  ·rw[ks e,ks (λz=>e (h1.trans z))];exact⟨h1,h2,c⟩
theorem KT.put{G:U (U Key×V)}{E:U (U Key×ce×cv)}(r:KT H G E)(k:U Key)(c:H b=O (.tup (k.map kV)))(a:aD y u):
  KT H (bR G k y) (storedH E k b u):=by
 have e:(G.any λkv=>decide (kv.1=k))=(IL E k).isSome:=by
  simp only[jv,(r.val k).isSome_eq,I0]
 delta bR storedH
 rw[e];by_cases q:(IL E k).isSome=c0
 ·rw[mu q,mu q];exact r.repl k a
 ·rw[ks q,ks q];exact Paired.snoc r ⟨Y,c,a⟩
theorem KT.keeps{G:U (U Key×V)}{E:U (U Key×ce×cv)}(r:KT H G E)(a:∀b ys,H b=O (.tup ys)->H' b=O (.tup ys)):KT H' G E:=
 Paired.mapP r λ_ _ z=>⟨z.1,a _ _ z.2.1,z.2.2⟩
theorem zC{u:HO}(ok:Ew Aa w H h)(e:Rd H a u):bo Aa w H h a u:=e.ok ok
theorem iK(ok:Ew Aa w H h)(e:Rd H a (.dK G)):G.length<=fx/\(a ==BG)=d_/\∃Z,KV G Z/\h.DictOf (cy Aa w) a Z:=
 show bo Aa w H h a (.dK G) from zC ok e
theorem jR(ok:Ew Aa w H h)(e:H a=O (.dK G)):G.length<=fx/\(a ==BG)=d_/\∃Z,KV G Z/\h.DictOf (cy Aa w) a Z:=iK ok (.inl e)
theorem nC{b:U Key}(ok:Ew Aa w H h)(e:H a=O (.tup (b.map kV))):(GY (cy Aa w)).is h b a:=by
 obtain⟨_,J,r,o,h1,h2,n,c⟩:=(show bo Aa w H h a (.tup (b.map kV)) from ok a _ e)
 exact⟨o,J.toArray,n,h1,h2,c,by simpa using xL r⟩
theorem kZ{G:U (U Key×V)}(ok:Ew Aa w H h)(e:Rd H a (.dT G)):G.length<=fx/\(a ==BG)=d_/\
  ∃E,KT H G E/\h.DictOfH (GY (cy Aa w)) a E:=by
 obtain⟨z,y,E,r,o,es,ep,h1,h2,c,d,f⟩:=(show bo Aa w H h a (.dT G) from zC ok e)
 refine⟨z,y,E,r,o,es,ep,h1,h2,c,d,λx b=>?_,f⟩;have all:∀{l:U (U Key×V)}{m:U (U Key×ce×cv)},KT H l m->∀x∈m,(GY (cy Aa w)).is h x.1 x.2.1:=by
  intro l m q;induction q with
  |nil=>intro x b;exact nomatch b
  |@cons p q ps i j t g=>
   intro x b;rcases f_.mp b with e |b
   ·subst e;exact nC ok (by simp_all)
   ·exact g x b
 exact all r x b
theorem Tx{G:U (U Key×V)}(ok:Ew Aa w H h)(e:H a=O (.dT G)):G.length<=fx/\(a ==BG)=d_/\
  ∃E,KT H G E/\h.DictOfH (GY (cy Aa w)) a E:=kZ ok (.inl e)
def fh(H:Hp)(a:ce)(y:V)(r:eH V):Prop:=
 (∃G k,Rd H a (.dK G)/\y=kV k/\r=aP G k)\/∃G k b,Rd H a (.dT G)/\y = .ref b/\H b=O (.tup (k.map kV))/\r=aP G k
def gZ(H:Hp)(a:ce)(y v:V)(H':Hp):Prop:=
 (∃G k,H a=O (.dK G)/\y=kV k/\G.length<fx/\H'=upd H a (.dK (bR G k v)))\/
 ∃G k b,H a=O (.dT G)/\y = .ref b/\H b=O (.tup (k.map kV))/\G.length<fx/\H'=upd H a (.dT (bR G k v))
theorem fh.k{H:Hp}{a:ce}{G:U (Key×V)}{k:Key}(e:H a=O (.dK G)):fh H a (kV k) (aP G k):=.inl ⟨G,k,.inl e,Y,Y⟩
theorem fh.t{G:U (U Key×V)}{k:U Key}(e:H a=O (.dT G))(c:H b=O (.tup (k.map kV))):fh H a (.ref b) (aP G k):=.inr ⟨G,k,b,.inl e,Y,c,Y⟩
theorem gZ.k{H:Hp}{a:ce}{G:U (Key×V)}{k:Key}{v:V}(e:H a=O (.dK G))(b:G.length<fx):gZ H a (kV k) v (upd H a (.dK (bR G k v))):=.inl ⟨G,k,e,Y,b,Y⟩
theorem gZ.t{G:U (U Key×V)}{k:U Key}{v:V}(e:H a=O (.dT G))(c:H b=O (.tup (k.map kV)))(d:G.length<fx):
  gZ H a (.ref b) v (upd H a (.dT (bR G k v))):=.inr ⟨G,k,b,e,Y,c,d,Y⟩
section
variable{v:V}{r:cv}{d:eH V}
theorem Inv.big(I:Inv X g A H s):BG<s.heap.objs.size:=by
 exact BM (by decide) ((I.mod.glob.keeps I.bk).lt)
theorem YS(r:on.units+1<F8)(I:Inv X g A H s)(Ab:fh H a y (O v))(q:aD y u)(h:∀f s',Inv X g A H s'->aD v f->Q f s'):
  h_ (hY X.prog X.w) on (FJ (.ref a) u) Q no s:=by
 rcases Ab with⟨G,k,e,i,l⟩ |⟨G,k,b,e,i,w,l⟩
 ·subst i;obtain⟨z,hd,Z,c,j⟩:=iK I.hok e;obtain⟨f,m,d⟩:=cZ.some_of (by rw[l];exact c.val k);exact Hd (io q) j.mapOf m (h f _ (I.tok _) d)
 ·subst i;cases (show u=ql b from q);obtain⟨z,hd,E,c,j⟩:=kZ I.hok e;obtain⟨f,m,d⟩:=cZ.some_of (v:=v) (by rw[l];exact c.val k);obtain⟨p,x,n⟩:=rk.mp m;refine wpAny_getItem_heap (Gc r) (nC I.hok w) j x ?_;simp only[n];exact h f _ (I.tok _) d
theorem Y3(m:on.units+1<F8)(I:Inv X g A H s)(Ab:fh H a y d)(j:aD y u)(h:∀s',Inv X g A H s'->Q (.bool (!d.isSome)) s'):
  h_ (hY X.prog X.w) on (su .NotIn u (.ref a)) Q no s:=by
 rcases Ab with⟨G,k,e,f,l⟩ |⟨G,k,b,e,f,n,l⟩
 ·subst f;obtain⟨z,hd,Z,c,i⟩:=iK I.hok e;refine ME (io j) hd i.mapOf ?_;rw[←(c.val k).isSome_eq,←l];exact h _ (I.tok _)
 ·subst f;cases (show u=ql b from j);obtain⟨z,hd,E,c,i⟩:=kZ I.hok e;refine wpAny_notIn_heap (Gc m) (nC I.hok n) hd i ?_;have q:=(c.val k).isSome_eq;simp only[I0]at q;simp only[←q,←l];exact h _ (I.tok _)
theorem kY{c:HO}(I:Inv X g A H s)(d:M2 (H a))(e:wh a s.heap h')(f:∃q,h'.get? a=O q)(new:bo X.prog X.w (upd H a c) h' a c):
  Inv X g A (upd H a c) { s with heap:=h',toks:=t' }:=
 I.write d (.inl Y) (λb q h z=>(e.2 b h).trans z) f new
theorem jQ{Z:U (Key×cv)}(z:G.length<=fx)(hd:(a ==BG)=d_)(b:KV G Z)(c:h'.DictOf (cy Aa w) a Z):
  bo Aa w H' h' a (.dK G):=⟨z,hd,Z,b,c⟩
theorem WZ{Q:J9->f0->Prop}(J:on.units+1<F8)(I:Inv X g A H s)(Ab:gZ H a y v H')(x:aD y u)(B:aD v r)(h:∀s',Inv X g A H' s'->Q () s'):
  h_ (hY X.prog X.w) on (setItem (.ref a) u r) Q no s:=by
 rcases Ab with⟨G,k,e,j,l,m⟩ |⟨G,k,b,e,j,C,l,m⟩
 ·subst j m;obtain⟨z,hd,Z,d,n⟩:=jR I.hok e;have hz:Z.length<=fx:=by exact d.length ▸ z
  have p:(bR G k v).length<=fx:=by have:=nE G k v;exact jE ‹_› ‹_›
  refine wpAny_setItem_pairs (io x) n λh' f w=>h _ ?_;have K:∃q,h'.get? a=O q:=by obtain⟨q,_,_,i,_⟩:=f;exact⟨q,i⟩
  exact kY I (by rw[e];exact zF) w K (jQ p hd (d.put k B) f)
 ·subst j m;cases (show u=ql b from x);obtain⟨z,hd,E,d,n⟩:=Tx I.hok e;have hz:E.length<=fx:=by exact (Paired.length d) ▸ z
  have p:(bR G k v).length<=fx:=by have:=nE G k v;exact jE ‹_› ‹_›
  refine wpAny_setItem_heap (Gc J) (nC I.hok C) n λh' f w=>h _ ?_;obtain⟨q,es,ep,i,h2,L,M,_,N⟩:=f;refine kY I (by rw[e];exact zF) w ⟨q,i⟩ ⟨p,hd,_,(d.put k C B).keeps λc ys D=>?_,q,es,ep,i,h2,L,M,N⟩;rw[ag (bO D e (λz=>nomatch z))];exact D
end
section
variable{k:Key}
theorem zoZ{Q:J9->f0->Prop}(I:Inv X g A H s)(e:H a=O (.dK G))(f:aD (kV k) u)(l:(aP G k).isSome=c0)(h:∀s',Inv X g A (upd H a (.dK (fm G k))) s'->Q () s'):
  h_ (hY X.prog X.w) on (delItem (.ref a) u) Q no s:=by
 obtain⟨z,hd,Z,b,d⟩:=jR I.hok e;refine wpAny_delItem_slot d.typeIs (by decide) Jt
  (Fi Jt d.typeIs F.entry_dict_delitem (F.args_dict_delitem_2 _ _) (meets_dict_delitem_pairs (cy X.prog X.w) a (io f)) ⟨Z,d,by rw[←b.length];exact z,by rw[←(b.val k).isSome_eq];exact l,λh' c i=>h _ ?_⟩)
 have j:∃q,h'.get? a=O q:=let⟨q,_,_,m,_⟩:=c;⟨q,m⟩;exact kY I (by rw[e];exact zF) i j (jQ (jE (wX G k) z) hd (b.drop k) c)
theorem YA{v:V}{b:U cv}(I:Inv X g A H s)(e:H a=O (.dK G))(j:aD (kV k) u)(l:aP G k=O v)(n:b=[]\/∃x,b=[x])(h:∀d s',Inv X g A (upd H a (.dK (fm G k))) s'->aD v d->Q d s'):h_ (hY X.prog X.w) on (Fq (.builtin "dict.pop") (.ref a::u::b)) Q no s:=by
 obtain⟨z,hd,Z,c,p⟩:=jR I.hok e;obtain⟨d,r,m⟩:=cZ.some_of (v:=v) (o:=Gy Z k) (by exact l ▸ (c.val k));have w:(keyPart u).isSome=c0:=by
  cases k with
  |inl i=>cases i with
   |none=>cases (show u=Dg from j);rfl
   |some i=>obtain⟨t,q⟩:=(show ∃t,u=DY i t from j);subst q;rfl
  |inr x=>obtain⟨t,q⟩:=(show ∃t,u=DZ x t from j);subst q;rfl
 have y:argsOk "dict.pop" ⟨.ref a::u::b,[]⟩:=by
  rcases n with q |⟨x,q⟩
  ·subst q;exact F.args_dict_pop_2 _ _
  ·subst q;exact F.args_dict_pop_3 _ _ _
 refine Fi KZ p.typeIs F.entry_dict_pop y (meets_dict_pop_there (cy X.prog X.w) a (io j) b n w)
  ⟨Z,d,p,by exact c.length ▸ z,r,λh' f B=>h d _ ?_ m⟩
 have C:∃q,h'.get? a=O q:=let⟨q,_,_,D,_⟩:=f;⟨q,D⟩;exact kY I (by exact e ▸ zF) B C (jQ (jE (wX G k) z) hd (c.drop k) f)
theorem wR(I:Inv X g A H s)(e:Rd H a (.dK G))(h:∀t s',Inv X g A H s'->Q (.int G.length t) s'):h_ (hY X.prog X.w) on (Fq (.builtin "len") [.ref a]) Q no s:=by
 obtain⟨z,hd,Z,b,c⟩:=iK I.hok e;refine call_len_dict hd c (by rw[←b.length];rw[BB]at z;lia) ?_;rw[←b.length];exact h _ _ (I.tok _)
end
def mt(i:tA):Prop:=∀ov a,Hm i d_ ov a=NI [ov,a] (FJ ov a)
theorem uS{a:tA}{T id:BP}(j:E1 (.type T) "__getitem__" =zJ (O (.builtin id)))(l:mt a)(h:h_ (hY prog w) on (eval value env) (λo d=>h_ (hY prog w) on (eval a env) (λi b=>b.TypeIs o T/\h_ (hY prog w) on (FJ o i) Q no b) no d) no s):
  h_ (hY prog w) on (eval (.Subscript value a pos) env) Q no s:=by
 refine K0 (pu h (λo d f=>pu f (λi b c=>?_) λ_ _ x=>x) λ_ _ x=>x);obtain⟨m,c⟩:=c;refine b7 ?_;refine b7 (Eh m j ?_);have fin:h_ (hY prog w) on (Hm a d_ o i) (λr e=>h_ (hY prog w) on (letTemporaryGo value o r >>=λ_=>zJ r) Q no e) no b:=by
  rw[l o i];exact wpAny_operating (pu c (λr e g=>b7 (wpAny_letTemporaryGo (eM g))) λ_ _ x=>x)
 first
  |exact eM (b7 fin)
theorem Yw{o:eH V}(I:Inv X g A H s)(Ab:fh H a y o):s.TypeIs (.ref a) "dict" :=by
 rcases Ab with⟨G,k,e,_,_⟩ |⟨G,k,b,e,_,_,_⟩
 ·obtain⟨_,_,Z,_,c⟩:=iK I.hok e;exact c.typeIs
 ·obtain⟨_,_,E,_,c⟩:=kZ I.hok e;exact c.typeIs
inductive T3(Q:VK)(x:V)(y:V)(H2:Hp):Prop
 |i(a v:_)(_:x = .ref a)(_:fh H2 a y (O v))(_:Q v H2)
def Yp(td ty:TE):TE:=λA H Q=>td A H λx H1=>ty A H1 λy H2=>T3 Q x y H2
inductive VS(Q:VK)(y:V)(x:V)(H2:Hp):Prop
 |i(a o:_)(_:x = .ref a)(_:fh H2 a y o)(_:Q (.bl (!o.isSome)) H2)
def Xj(ty td:TE):TE:=λA H Q=>ty A H λy H1=>td A H1 λx H2=>VS Q y x H2
inductive Zw(D:fE)(A:St)(v:V)(x:V)(y:V)(c:Hp):Prop
 |i(a b:_)(_:x = .ref a)(_:gZ c a y v b)(_:D.nx A b)
def zN(td ty tv:TE):TS:=λD A H=>tv A H λv H1=>td A H1 λx H2=>ty A H2 λy a=>Zw D A v x y a
section
variable{b i:tA}{ty:TE}
theorem og(e:X.A.units+1<F8)(f:PE X b td)(hi:PE X i ty)(j:mt i):PE X (.Subscript b i pos) (Yp td ty):=by
 intro g s A H Q I h;refine uS F9.lookup j (wd (f g s A H _ I h) λu l ⟨x,H1,m,n,p⟩=>wd (hi g l A H1 _ m p) λz s2 ⟨y,H2,d,q,a,v,ex,Ab,r⟩=>?_);subst ex;obtain rfl:u=ql a:=n;exact⟨Yw d Ab,YS e d Ab q λB C w c=>⟨v,H2,w,c,r⟩⟩
theorem XO(c:X.A.units+1<F8)(hi:PE X i ty)(d:PE X b td):PC X .NotIn i b (Xj ty td):=by
 intro g s A H Q I h;refine wd (hi g s A H _ I h) λr e ⟨y,H1,f,j,l⟩=>wd (d g e A H1 _ f l) λu s2 ⟨x,H2,m,n,a,ov,ex,Ab,p⟩=>?_;subst ex;obtain rfl:u=ql a:=n;exact Y3 c m Ab j λv q=>⟨.bl (!ov.isSome),H2,q,Y,p⟩
theorem sK(c:X.A.units+1<F8)(d:PE X b td)(hi:PE X i ty)(e:PE X value tv)(f:Eu value (O (.Subscript b i pos')) pos.line X.env=zJ d_):
  PS X (.Assign [.Subscript b i pos'] value pos) (zN td ty tv):=by
 intro g s A H D I h;refine wpAny_Assign_Subscript (wd (e g s A H _ I h) λr j ⟨v,H1,l,m,n⟩=>wd (d g j A H1 _ l n) λu s2 ⟨x,H2,p,q,w⟩=>wd (hi g s2 A H2 _ p w) λJ K ⟨y,L,z,B,a,C,ex,Ab,E⟩=>?_) f;subst ex;obtain rfl:u=ql a:=q;exact WZ c z Ab B m λM G=>⟨A,C,G,E⟩
end
theorem UG(h:sG)(a:BG<h.objs.size):bo Aa w H (h.push { cls:=.type "dict",data:=.dict #[] }) h.objs.size (.dK []):=
 ⟨ot _,x4.mpr (v_ (g_ a)),[],.nil,HG h⟩
def WY:TE:=λ_ H Q=>∀p,H p=cx->Q (.ref p) (upd H p (.dK []))
theorem lE:PE X (.Dict [] [] pos) WY:=λg s A H Q I h=>
 wpAny_Dict_empty ⟨.ref s.heap.objs.size,_,I.laid (t':=s.toks) (λ_ _ q=>b_ _ q) (dv _) (UG s.heap I.big),Y,h _ (I.hok.fresh (dv _))⟩
structure M1(X:Cx)(o:tA)(m:hO)(apos:KN)(e:tA)(cpos:KN):Prop where
 base:BC o m X.env (eval o X.env)=eval o X.env
 few:((zG cpos (i' [e] X.env)).all (λx=>!x.1) && (Ez cpos (C_ [] X.env)).all (λx=>x.1.isSome)
  && decide (([e]:U tA).length+([]:U Fg).length+(if ([]:U Fg).isEmpty then 0 else 1)<30))=c0
 line:(apos.endLine ==cpos.line)=c0
 trees:zG cpos (i' [e] X.env)=[(d_,eval e X.env)]
def O3(H:Hp)(a:ce):Prop:=(∃G,Rd H a (.dK G))\/∃G,Rd H a (.dT G)
theorem U_(I:Inv X g A H s)(d:O3 H a):
  s.TypeIs (.ref a) "dict" /\ (∀b,ql a = .ref b->∃c,s.heap.get? b=O c/\c.dict=cx)/\(a ==BG)=d_:=by
 rcases d with⟨G,e⟩ |⟨G,e⟩
 ·obtain⟨_,hd,Z,_,f⟩:=iK I.hok e;refine⟨f.typeIs,λb q=>?_,hd⟩;cases q;obtain⟨c,_,_,h1,h2,_⟩:=f;exact⟨c,h1,h2.2.1⟩
 ·obtain⟨_,hd,E,_,f⟩:=kZ I.hok e;refine⟨f.typeIs,λb q=>?_,hd⟩;cases q;obtain⟨c,_,_,h1,h2,_⟩:=f;exact⟨c,h1,h2.2.1⟩
section
variable{d:V}{r:cv}{a:eH V}
end
inductive znA(ty:TE)(A:St)(Q:VK)(x:V)(H1:Hp):Prop
 |i(a:_)(_:x = .ref a)(_:O3 H1 a)(_:ty A H1 λy H2=>∃G k v,H2 a=O (.dK G)/\y=kV k/\aP G k=O v/\Q v (upd H2 a (.dK (fm G k))))
def Vr(td ty:TE):TE:=λA H Q=>td A H λx H1=>znA ty A Q x H1
section
variable{b f:tA}{ty c:TE}
theorem UB(i:PE X b td)(j:PE X e ty)(m:M1 X b "pop" apos e cpos):PE X (.Call (.Attribute b "pop" apos) [e] [] cpos) (Vr td ty):=by
 intro g s A H Q I h;refine wpAny_Call_method m.base m.few m.line Gd KZ F.type_dict_pop (wd (i g s A H _ I h) λu n ⟨x,H1,f,p,a,ex,d,q⟩=>?_);subst ex;obtain rfl:u=ql a:=p;obtain⟨r,w,_⟩:=U_ f d;refine⟨r,w,?_⟩;rw[m.trees];refine BY Y (EW (Dk (wd (j g n A H1 _ f q) λK s2 ⟨y,H2,z,B,G,k,v,C,D,l,E⟩=>Du ?_)));subst D;exact YA z C B l (.inl Y) λL M J c=>⟨v,_,J,c,E⟩
end
namespace Att
open PySem PySem.W PySem.Calls PyProof.Rows
theorem WJ{Aa:MF}: ∀(ns:U gV)(Z:U cv),WellAll Aa h Z (ns.map WData.int)->FK Z ns:=by
 intro ns;induction ns with
 |nil=>
  intro Z w;cases w;exact .nil
 |cons n ns c=>
  intro Z w;cases w with
  |cons a b=>
   cases a;exact .cons _ _ (c _ b)
theorem zmV{l:OpenLaw}(p:l.most=O n){Aa:MF}{b:U WData}{c:U cv}(e:l.row.toRowW.claim.pre b=c0)(j:WellAll Aa h c b):
  ∃a Z ns,c=[ql a]/\b=[WData.list (ns.map WData.int)]/\h.get? a=O { cls:=.type "list",data:=.seq Z.toArray }/\FK Z ns/\ns.length<=n:=by
 have m:WShape.hasAll [] b [.list .int]=c0:=(pre_splitW e).1;have q:l.pre.holds [] { args:=b }=c0:=(pre_splitW e).2;obtain⟨d,r,rfl,h1,h2⟩:=hasAllW_cons m;obtain rfl:=hasAllW_nil h2;obtain⟨E,rfl,s⟩:=hasW_list h1;obtain⟨ns,rfl⟩:=items_int s;have f:ns.length<=n:=by
  have i:(WTm.not (.lt (.lit (.int (n))) (.len (.arg 0)))).holds [] { args:=[.list (ns.map .int)] }=c0:=by
   have i:=(holds_andW q).1;rw[p]at i;exact i
  have x:=condW_of i (w_not (w_lt w_lit (w_len_list (w_arg Y))))
  simp_all
 cases j with
 |cons u v=>
  cases v;cases u with
  |list w g=>exact⟨_,_,ns,Y,Y,w,WJ ns _ g,f⟩
theorem Xx(l:OpenLaw)(a:U WData):l.row.toRowW.claim.post a (.bool c0) a=c0:=
 postW_of
  (show WShape.has [] (.bool c0) .bool=c0 by rfl)
  (show (WTm.eq .res (.lit (.bool c0))).value [] { args:=a,res:=O (.bool c0),after:=a }=O (.bool (c0 ==c0)) from w_eq_bool (w_res Y) w_lit) Y
theorem HN{l:OpenLaw}{d:DefRec}(B:l.most=O n)(m:d.params.defaults=[])(Fq:∀(w:uF)(c b:f0)(mg p:hO->eH cv)(g:ce)(o:z_)(pm cd doc:cv)(a:ce)(Z:U cv)(ns:U gV),
   Ground q loose [] XP w c mg p b.heap->YP w b.heap->
   b.heap.get? g=O o->o.data = .func (docDef d.name d.params d.body d.scope pm cd doc)->b.heap.CodeRec cd d.name->mg d.name=O (.ref g)->
   b.heap.get? a=O { cls:=.type "list",data:=.seq Z.toArray }->FK Z ns->ns.length<=n->b.gens = #[]->
   C7 (hY l.prog w) HH (.call (.ref g) ⟨[.ref a],[]⟩) (λr s'=>r = .ok (.ret (.bool c0))/\OldK b.heap s'.heap/\s'.os=b.os/\Fc s'.gens) b):
  WalkO q loose XP YP l.row.toRowW d [] (λf Z=>IA f Z):=by
 intro w c b mg p G C g o pm cd doc D kV E hd s x u H y z P h A I v J;obtain rfl:D = .none:=Dflts.none x m;obtain rfl:kV = .none:=Dflts.noKw x;obtain⟨a,Z,ns,rfl,rfl,i,e,j⟩:=zmV B h v;refine enter_call (Co (Fq w c b mg p g o pm cd doc a Z ns G C E (fd_plain hd) s u i e j H) λr s' K=>?_);obtain⟨rfl,h2,L,M⟩:=K;exact⟨.inl ⟨.bool c0,.bool c0,[],Y,λ_=>rfl,.bool c0,Xx l _,λ_=>⟨EG,λ_ N=>(nomatch N)⟩⟩,h2,L,M⟩
section
variable{K:Frag}
end
end Att
theorem u7:∀{Z:U cv}{ns:U gV},FK Z ns->aB (ns.map V.int) Z
 |_,_,.nil=>.nil
 |_,_,.cons n t h=>.cons ⟨t,Y⟩ (u7 h)
def bE(s:nW)(j:ft):nW:=match s with
 |.ClassDef _ _ _ body _ _ _ _ _ _ _=>body.getD j (.Pass ⟨0,0,0,0⟩)
 |_=>.Pass ⟨0,0,0,0⟩
def dR(s:nW):ET:=match s with
 |.FunctionDef _ a _ _ _ _ _ _ _ _=>a
 |_=>{ posonlyargs:=[],args:=[],vararg:=cx,kwonlyargs:=[],kw_defaults:=[],kwarg:=cx,defaults:=[] }
def cF(s:nW):U nW:=match s with
 |.FunctionDef _ _ b _ _ _ _ _ _ _=>b
 |_=>[]
def aR(s:nW):Ey:=match s with
 |.FunctionDef _ _ _ _ _ _ sc _ _ _=>sc
 |_=>{ kind:=.function,names:=[],isGenerator:=d_,isCoroutine:=d_ }
abbrev q_:HL:=λ_ _ _ _ _ _=>wa
abbrev E0:XK:=λ_ _ _=>wa
theorem av  : di q_ X E0:=λ_ _ _ _ _ _ _ h=>h.elim
structure vr(K:fy)(x qual:hO)(st:nW)(f:ce)(fd:B'):Prop where
 ex:∃(oc:cv)(od:eH ce)(kV doc pm:cv)(an:eH ce)(cdv ct:cv)(osl:t_ (eH cv)),
  fd=CG x qual (dR st) (cF st) (aR st) .none kV doc pm an cdv ct/\K.lookup f=O ⟨oc,od,.func fd,osl⟩/\CO K cdv qual=c0
 kp:BD K (.ref f)=c0
theorem vr.ok{f:ce}{k:ft}(F:vr K x N st f fd)(S:cn Ac ps (aR st))(len:∀Z H Q no,sp Z H Q no->Z.length=ps.length)(a:∀(cdv:cv)(on:BF)(outer:U FZ)(s:f0)(H:Hp)(Z:U V)(Q:VK)(no:XK),bj k (on.deeper (Ej N (aR st) s.heap.objs.size f cdv))->sp Z H Q no->
   ∃t,FX (c6 q_ Aa w K mg base Ac N (aR st) f cdv on outer s H no).nox (cF st) t/\t { nx:=λ_ H'=>Q .non H',rt:=Q } (fC Ac Z) H):ap Aa w K mg base q_ (k+1) f fd ps sp:=by
 obtain⟨oc,od,kV,doc,pm,an,cdv,ct,osl,rfl,lk,b⟩:=F.ex;refine qP lk b S len λon outer s H Z Q no d c=>?_;obtain⟨t,h,q⟩:=a cdv on outer s H Z Q no d c;exact⟨t,h.nox,q⟩
theorem vr.binds{f:ce}(F:vr K x N st f fd)(h:∀(kV doc pm:cv)(an:eH ce)(cdv ct:cv)(us:U cv),us.length=ps.length->HX (CG x N (dR st) (cF st) (aR st) .none kV doc pm an cdv ct) ⟨us,[]⟩=zJ (ps.zip us)):cM K fd ps []:=by
 obtain⟨oc,od,kV,doc,pm,an,cdv,ct,osl,rfl,lk,a⟩:=F.ex;exact .all (h kV doc pm an cdv ct)
theorem m8{f:ce}{kV:cv}(l:K.lookup f=O ⟨oc,od,.func (CG x N (dR st) (cF st) (aR st) .none kV doc pm an cdv ct),osl⟩)(c:CO K cdv N=c0)(k:BD K (.ref f)=c0):vr K x N st f (CG x N (dR st) (cF st) (aR st) .none kV doc pm an cdv ct):=⟨⟨oc,od,kV,doc,pm,an,cdv,ct,osl,Y,l,c⟩,k⟩
theorem iM{k:ft}(a:bj k on):on.units+1<F8:=Cd (IM (by decide) _) a.units
theorem aV(h:n<=1000):n<fx:=Cd h (by decide)
theorem pv(i:ft)(b:X.N[i]?=O x:=by rfl)(c:Mx X.env.scope x:=by first |exact gS Y |exact zs (gS Y) |exact zs (zs Y))(hd:(x ==("__debug__" : hO))=d_:=by decide)(a:(x ==("__classdict__" : hO))=d_:=by decide):PE X (.Name x pos) (cL i):=RW b c hd a
theorem jP:bw X (.builtin "len") (λE H Q=>∃a G,E=[V.ref a]/\H a=O (.dK G)/\Q (.int G.length) H):=by
 intro g s A H E us Q I r h;obtain⟨a,G,rfl,b,q⟩:=h;obtain⟨u,rfl,c⟩:=df r;cases c;exact wR I (.inl b) λt s' d=>⟨.int G.length,H,d,⟨t,Y⟩,q⟩
theorem ak{on B:Prop}(h:B):if d_=c0 then on else B:=by
 exact h
theorem aw{on B:Prop}(h:on):if c0=c0 then on else B:=by
 exact h
def ad(H H':Hp):Prop:=∀b o,H b=O o->H' b=O o
theorem ad.refl(H:Hp):ad H H:=λ_ _ h=>h
theorem ad.trans(a:ad H H1)(b:ad H1 H2):ad H H2:=λc o h=>b c o (a c o h)
theorem ad.free(e:ad H H'){l:ce}(h:H' l=K4):H l=K4:=by
 cases q:H l with
 |none=>rfl
 |some o=>
  rw[e l o q]at h;cases h
theorem ad.seq(e:ad H H')(h:n7 K H a E):n7 K H' a E:=by
 rcases h with (h |⟨o,h⟩) |h
 ·exact .inl (.inl (e _ _ h))
 ·exact .inl (.inr ⟨o,e _ _ h⟩)
 ·exact .inr h
section
variable [BU κ]
theorem RE{G:U (κ×V)}{k:κ}(h:aP G k=cx):¬ k∈G.map (·.1):=by
 intro m;obtain⟨p,a,e⟩:=nk.mp m;have q:(G.any λkv=>decide (kv.1=k))=c0:=E5.mpr ⟨p,a,fo e⟩;rw[jv,h]at q
 grind
end
def eX(cells:U (hO×ce)):U (hO×CZ)->U (hO×ce)->U (hO×ce)
 |[],acc=>acc
 | (n,k)::r,acc=>if (k ==sC)=c0 then eX cells r ((n,(cells.lookup n).getD 0)::acc) else eX cells r acc
theorem qF(cells:U (hO×ce)):∀(l:U (hO×CZ))(acc:U (hO×ce))(x:hO)(c:ce),
  (eX cells l acc).lookup x=O c->((x,sC)∈l/\c=(cells.lookup x).getD 0)\/acc.lookup x=O c
 |[],_,_,_,h=>.inr h
 | (n,k)::r,acc,x,c,h=>by
  unfold eX at h
  split at h
  ·rename_i a
   have a:k=sC:=by simpa using a
   rcases qF cells r _ x c h with⟨m,e⟩ |e
   ·exact .inl ⟨hE _ m,e⟩
   ·grind
  ·rcases qF cells r acc x c h with⟨m,e⟩ |e
   ·exact .inl ⟨hE _ m,e⟩
   ·exact .inr e
theorem mR(cells:U (hO×ce)):∀(l:U (hO×CZ))(acc:U (hO×ce))(x:hO),
  ((x,sC)∈l\/∃c,acc.lookup x=O c)->∃c,(eX cells l acc).lookup x=O c
 |[],_,_,h=>by
  rcases h with h |h
  ·cases h
  ·exact h
 | (n,k)::r,acc,x,h=>by
  unfold eX
  split
  ·rename_i a
   refine mR cells r _ x ?_;rcases h with h |⟨c,h⟩
   ·rcases f_.mp h with h |h
    ·injection h with h1 h2
     simp_all
    ·exact .inl h
   ·right
    grind
  ·rename_i a
   refine mR cells r _ x ?_
   grind
theorem Uh(h:∀x,(x,sC)∈L.names->∃c,env.cells.lookup x=O c):
  K5 L env=zJ (eX env.cells L.names []):=by
 have d:∀(l:U (hO×CZ))(acc:U (hO×ce))(f:hO×CZ->U (hO×ce)->M4 (ForInStep (U (hO×ce)))),
   (∀n k a,f (n,k) a=if (k ==sC)=c0 then cellOf env n >>=λc=>zJ (.yield ((n,c)::a)) else zJ (.yield a))->
   (∀x,(x,sC)∈l->∃c,env.cells.lookup x=O c)->(forIn l acc f:M4 (U (hO×ce)))=zJ (eX env.cells l acc):=by
  intro l;induction l with
  |nil=>intro acc f _ _;rfl
  |cons p r m=>
   intro acc f e g;obtain⟨n,k⟩:=p;rw[Do,e];unfold eX;by_cases b:(k ==sC)=c0
   ·rw[mu b,mu b];have i:k=sC:=by simpa using b
    obtain⟨c,q⟩:=g n (by exact i ▸ j_);rw[show cellOf env n=zJ c from by delta cellOf;rw[q],q];exact m _ f e λx j=>g x (hE _ j)
   ·rw[ks b,ks b];exact m _ f e λx j=>g x (hE _ j)
 refine (tS (λt:M4 (U (hO×ce))=>t >>=λa=>zJ a) (d L.names [] _ ?_ h)).trans ?_
 ·intro n k a;rfl
 ·simp_all
def vf(M:Model)(on:BF)(no:cv->f0->Prop)(C:ce)(x:cv)(s':f0):Prop:=
 ∃m,s'.heap.Ns C m/\∀h',wh C s'.heap h'->∀a:FZ,a.locals=C->h_ M on (passOn "comprehension.variables-let-go" x a:M4 cv) (λ_ _=>wa) no { s' with heap:=h' }
def ba(X:Cx)(Ac:U hO)(L:Ey)(C:ce)(fp:U ce)(s:f0)(H:Hp):Cx where
 prog:=X.prog
 w:=X.w
 K:=X.K
 mg:=X.mg
 base:=X.base
 A:=X.A
 N:=Ac
 s₀:=s
 H₀:=H
 env:=compEnvC L (eX X.env.cells L.names []) C X.env
 outer:=X.stack
 stack:=X.stack
 ex:=fp
 fn:=λ_=>d_
 calm:=X.calm
 pn:=[]
 xe:=notedBy (hY X.prog X.w) X.A (compEnvC L (eX X.env.cells L.names []) C X.env) (vf (hY X.prog X.w) X.A X.xe C)
structure dD(X:Cx)(N:U hO)(scope:Ey)(fr:U (eH ft)):Prop where
 kind:scope.kind = .function
 nocell:(scope.names.all λx=>decide (x.2≠.cell))=c0
 locs:(scope.names.all λx=>decide (x.2 = .local->scope.names.lookup x.1=O .local))=c0
 free:(scope.names.all λx=>decide (x.2 = .free->X.env.scope.names.lookup x.1=O .cell))=c0
 len:fr.length=N.length
 pl:((rd N.length).all λi=>match fr[i]? with
  |some (O j)=>decide (X.N[j]?=N[i]?/\∃x,N[i]?=O x/\scope.names.lookup x=O .free)
  |_=>c0)=c0
def stC(fr:U (eH ft))(A:St):St:=fr.map λo=>o.bind λj=>(A[j]?).join
def Wk(A a:St):Prop:=a.length=A.length/\∀(i:ft) v,A[i]?=O (O v)->a[i]?=O (O v)
theorem Wk.set{v:V}(h:A[i]?=O cx):Wk A (A.set i (O v)):=by
 refine⟨by simp,λj w a=>?_⟩;by_cases e:i=j
 ·grind
 ·simp_all
theorem Wk.refl(A:St):Wk A A:=⟨Y,λ_ _ h=>h⟩
theorem Wk.trans{A c d:St}(a:Wk A c)(b:Wk c d):Wk A d:=⟨b.1.trans a.1,λi v h=>b.2 i v (a.2 i v h)⟩
def g8(X:Cx)(ifs:U tA)(t:TT):Prop:=
 ∀(g:U (ce×z_))(s:f0)(A:St)(H:Hp)(Q:n_->Hp->Prop),Inv X g A H s->t A H Q->
  h_ (hY X.prog X.w) X.A (forIn ifs c0 λc r=>if r=c0 then do let ok ←isTrue c X.env (eval c X.env);zJ (Ev ok) else zJ (Ev r)) (TP X g A Q) X.xe s
def lX:TT:=λ_ H Q=>Q c0 H
theorem bn  : g8 X [] lX:=λ_ _ _ H _ I h=>wpAny_tests_nil ⟨H,I,h⟩
theorem kg{c:tA}{t:TT}(h:PT X c t):g8 X [c] t:=λg s A H Q I q=>wpAny_tests_one (h g s A H Q I q)
theorem ze2{a:tA}{it acc:cv}(I:ft->f0->Prop)(u:cv->f0->Prop)(C:∀e s',u e s'->notedBy (hY prog w) on env (λx D=>R (.error x) D) e s')(turn:∀n s,I n s->h_ (hY prog w) on (Fd it) (λr b=>match r with
   |none=>R (.ok .next) b
   |some v=>h_ (hY prog w) on (Hv a it v) (λ_ d=>h_ (hY prog w) on (M8 a env v) (λ_ g=>
     h_ (hY prog w) on (forIn ifs c0 λc r=>if r=c0 then do let ok ←isTrue c env (eval c env);zJ (Ev ok) else zJ (Ev r)) (λok f=>
      if ok=c0 then h_ (hY prog w) on (eval elt env) (λx i=>
       h_ (hY prog w) on (Fq (.builtin "list.append") [acc,x]) (λ_ j=>∃m,m<n/\I m j) u i) u f
      else ∃m,m<n/\I m f) u g) u d) u b) u s)(n:ft)(h:I n s):
  C7 (hY prog w) on (.compLoop (.ListComp elt [⟨a,iter,ifs,0⟩] L pos) 0 it acc env) R s:=by
 refine codeAny_loop Y I (λn s E=>?_) n h;refine wpAny_noted (pu ?_ (λ_ _ q=>q) C);rw[compTurn_list];refine b7 (Nt (b7 (pu (turn n s E) (λr b l=>?_) λ_ _ h'=>h')));cases r with
 |none=>exact eM l
 |some v=>
  refine b7 (pu l (λ_ d y=>?_) λ_ _ h'=>h');refine b7 (pu y (λ_ g z=>b7 (pu z (λok f p=>?_) λ_ _ h'=>h')) λ_ _ h'=>h');cases ok with
  |false=>exact eM ⟨Y,p⟩
  |true=>
   exact b7 (b7 (pu p (λx i A=>b7 (pu A (λ_ j B=>eM (eM ⟨Y,B⟩)) λ_ _ h'=>h')) λ_ _ h'=>h'))
theorem xZ{env:FZ}:∀{a:U (hO×CZ)}{x:hO},a.lookup x=O .free->
  (a.map λ(n,k)=>if (k ==sC && env.scope.kind == .function && env.kindOf n ==O .cell) then (n,C8) else (n,k)).lookup x=O .cell\/
  (a.map λ(n,k)=>if (k ==sC && env.scope.kind == .function && env.kindOf n ==O .cell) then (n,C8) else (n,k)).lookup x=O .free
 |[],_,h=>by simp at h
 | (n,k)::r,x,h=>by
  have d:=@xZ env r x;rw[n5];simp only[C9]at h;by_cases c:x=n
  ·subst c;have e:k = .free:=by simpa using h
   subst e;dsimp only
   split
   ·left;simp
   ·right;simp
  ·have b:(x ==n)=d_:=by simpa using c
   rw[b]at h;rcases d h with q |q
   ·left;dsimp only
    split <;> (simp only[C9,b];exact q)
   ·right;dsimp only
    split <;> (rw[C9,b];exact q)
theorem x5{env:FZ}:∀{a:U (hO×CZ)}{x:hO},
    ((a.map λ(n,k)=>if (k ==sC && env.scope.kind == .function && env.kindOf n ==O .cell) then (n,C8) else (n,k)).lookup x=O .cell\/
     (a.map λ(n,k)=>if (k ==sC && env.scope.kind == .function && env.kindOf n ==O .cell) then (n,C8) else (n,k)).lookup x=O .free)->
    (x,sC)∈a\/(x,C8)∈a
  |[],_,h=>by simp at h
  | (n,k)::r,x,h=>by
    have c:=@x5 env r x;rw[n5]at h;by_cases b:x=n
    · subst b
      dsimp only at h
      split at h
      · rename_i d
        simp at d;exact .inl (by simp_all)
      · simp at h
        grind
    · have e:(x ==n)=d_:=by simpa using b
      have:(r.map λ(n,k)=>if (k ==sC && env.scope.kind == .function && env.kindOf n ==O .cell) then (n,C8) else (n,k)).lookup x=O .cell\/
          (r.map λ(n,k)=>if (k ==sC && env.scope.kind == .function && env.kindOf n ==O .cell) then (n,C8) else (n,k)).lookup x=O .free:=by
        dsimp only at h
        split at h <;> (simp only[C9,e]at h;exact h)
      rcases c this with q |q
      · exact .inl (hE _ q)
      · exact .inr (hE _ q)
theorem dD.cell{fr:U (eH ft)}(S:dD X Ac L fr):∀x∈L.names,x.2≠.cell:=λx a=>
 t9 (i_.mp S.nocell x a)
theorem dD.loc{fr:U (eH ft)}(S:dD X Ac L fr):∀x∈L.names,x.2 = .local->L.names.lookup x.1=O .local:=λx a=>
 t9 (i_.mp S.locs x a)
theorem dD.fre{fr:U (eH ft)}(S:dD X Ac L fr):∀x,(x,sC)∈L.names->X.env.scope.names.lookup x=O .cell:=λx a=>
 t9 (i_.mp S.free _ a) Y
theorem dD.get{fr:U (eH ft)}(S:dD X Ac L fr)(h:fr[i]?=O (O j))(a:Ac[i]?=O x):
  X.N[j]?=O x/\L.names.lookup x=O .free:=by
 have hi:=(cs.mp a).1;have q:=i_.mp S.pl i (Dw.mpr hi)
 simp_all
theorem ZY{fr:U (eH ft)}{d:sG}{E:z_}(S:dD X Ac L fr)(I:Inv X g A H s2)(G:∀b∈fp,fF X g H b)(K:∀b∈fp,b<s2.heap.objs.size)(s:∀b o,s2.heap.get? b=O o->d.get? b=O o)(hD:d.get? s2.heap.objs.size=O E)(M:∀v,E.data≠.cell v)(N:d.Ns (s2.heap.objs.size+1) m):
  Inv (ba X Ac L (s2.heap.objs.size+1) fp s2 H) [(s2.heap.objs.size,E)] (stC fr A) H { s2 with heap:=d,toks:=t' }:=by
 have f:∀x c,(eX X.env.cells L.names []).lookup x=O c->X.env.cells.lookup x=O c:=λx c e=>by
  rcases qF _ _ _ x c e with⟨m,q⟩ |q
  ·obtain⟨c',B⟩:=I.ok.has x (.inl (S.fre x m));rw[B]at q ⊢;rw[q];rfl
  ·cases q
 have P:∀b∈F5 X.stack,b≠s2.heap.objs.size+1/\b≠s2.heap.objs.size:=λb C=>by
  obtain⟨_,o,D,_⟩:=I.stack.mem C;have:=e_ D;exact⟨g_ (sI this),g_ this⟩
 refine⟨⟨I.ok.mod,S.kind,I.ok.glob,I.ok.blt,BL _,λx y c h1 h2=>I.ok.inj x y c (f x c h1) (f y c h2),λx hx=>?_,λx c hf=>vb hf,I.ok.hd,I.ok.frames,.inl Y,λb C=>⟨?_,λx c e=>?_⟩,
   I.bs,jE I.ok.bsz I.sz,λb o e C=>?_,λb C hs=>?_,I.stack,I.stkFree⟩,
  rfl,I.bare,Un.kept s,⟨m,N,λi x v h1 h2 h3=>?_⟩,λx c e=>?_,I.hok.fresh (BL _),λx c e=>I.freeC x c (f x c e),λp hp=>?_,I.hok.kept s,?_⟩
 ·refine mR _ _ _ x (.inl ?_);rcases x5 hx with q |q
  ·exact q
  ·exact hQ Y (S.cell _ q)
 ·have:=K b C;exact g_ (sI this)
 ·exact (G b C).2.2.2.2.1 x c (f x c e)
 ·have q:=G b C;rcases q.2.2.2.1 with z |z
  ·exact I.ok.noex b o e z
  ·have:=(I.ok.bs b o e).1;exact hQ (hJ (e_ this) z) (rc _)
 ·rcases f_.mp (I.stkSub b hs) with z |z
  ·exact (G b C).2.1 z
  ·exact (G b C).2.2.1 z
 ·-- Q R of Q def J it
  unfold stC at h2;rw[cc]at h2;cases e:fr[i]? with
  |none=>rw[e]at h2;cases h2
  |some o=>
   rw[e]at h2;cases o with
   |none=>cases h2
   |some j=>
    have h:(A[j]?).join=O v:=kn h2;obtain⟨a,b⟩:=S.get e h1;have T:A[j]?=O (O v):=by
     cases q:A[j]? with
     |none=>rw[q]at h;cases h
     |some o=>rw[q]at h;cases o with
      |none=>cases h
      |some w=>cases h;rfl
    have n:=ri b;have hk:=S.fre x n;obtain⟨mX,A0,Z⟩:=I.loc;obtain⟨u,r,l⟩:=Z j x v a T (.inr (.inl hk));refine⟨u,r,.inr ⟨?_,?_⟩⟩
    ·exact xZ b
    ·rcases l with⟨k,_⟩ |⟨_,c,ec,z⟩
     ·have k':X.env.scope.names.lookup x=O .local:=k;rw[hk]at k';cases k'
     ·obtain⟨c',B⟩:=mR X.env.cells L.names [] x (.inl n);have:=f x c' B;rw[ec]at this;cases this;obtain⟨o,D,hd⟩:=z;exact⟨c,B,o,s c o D,hd⟩
 ·obtain⟨v,o,D,hd⟩:=I.cell x c (f x c e);exact⟨v,o,s c o D,hd⟩
 ·have e:p=(s2.heap.objs.size,E):=by simpa[ba]using hp
  subst e;refine⟨hD,I.hok.fresh (dv _),?_,λz=>(P _ z).2 Y,M⟩;exact g_ (up _)
 ·delta stC
  rw[bd];exact S.len
theorem Wz{j:St}{k:ft}(I:Inv X g A H s2)(i:∀b∈fp,fF X g H b)(f:Inv (ba X Ac L (s2.heap.objs.size+1) fp s2 H) [(s2.heap.objs.size,{ cls:=.type "list",data:=.seq J.toArray k })] j H' s')(r:aB acc J)(hz:acc.length<=fx):
  Inv X g A (upd H' s2.heap.objs.size (.lst acc)) s':=by
 obtain⟨l,h,s,v,_⟩:=f.pin (s2.heap.objs.size,{ cls:=.type "list",data:=.seq J.toArray k }) (by simp[ba]);have ne:∀b o,s2.heap.get? b=O o->b≠s2.heap.objs.size:=λb o e=>g_ (e_ e);have a:∀b o,H b=O o->b≠s2.heap.objs.size:=λb o e=>g_ (I.hok.lt e);have B:=f.base;have u:Un (F5 X.stack) fp H (upd H' s2.heap.objs.size (.lst acc)) s2.heap s'.heap:=
  ⟨B.keep,B.slot,λb o e n y=>by rw[ag (ne b o e)];exact B.free b o e n y,B.there,λb E e=>by rw[ag (a b _ e)];exact B.tups b E e,
   λb o w e=>by rw[ag (a b _ e)];exact B.frzs b o w e,λb ps e=>by exact (ag (a b _ e)) ▸ (B.tbls b ps e)⟩
 have m:Ew X.prog X.w (upd H' s2.heap.objs.size (.lst acc)) s'.heap:=λb o e=>by
  by_cases d:b=s2.heap.objs.size
  ·subst d;rw[af]at e;cases e;exact⟨hz,J,k,r,l⟩
  ·rw[ag d]at e;exact (f.hok b o e).stay (λc w _ q=>q) (λc q=>by exact (ag (aF q h)) ▸ q) λc E q=>by rw[ag (aF q h)];exact q
 exact I.call' f.os u m f.bare λb d=>⟨(i b d).2.2.2.1,(i b d).2.1,λx c e=>(i b d).2.2.2.2.1 x c e,λp z=>(i b d).2.2.2.2.2 p z⟩
def oU(fr:U (eH ft))(wi:TI)(Ab:TG)(tc:TT)(te:TE):TE:=λA H Q=>wi A H λAe H1=>
  ∃W:ft->ft->U V->Hp->Prop,(∃m,W 0 m [] H1)/\∀i m acc H,W i m acc H->
    (Ae.stop i H/\∀p,H p=cx->Q (.ref p) (upd H p (.lst acc)))\/
    (Ae.go i H/\acc.length<fx/\∀x H',Ae.yld i H x H'->Ab x (stC fr A) H' λa H2=>Wk (stC fr A) a/\tc a H2 λb d=>
       if b=c0 then te a d λy e=>∃c,c<m/\W (i+1) c (acc++[y]) e else ∃c,c<m/\W (i+1) c acc d)
theorem wL{fr:U (eH ft)}{tn:ft->sG->Prop}{W:ft->ft->U V->Hp->Prop}{m0:ft}{RR:cv->ce->Result->f0->Prop}(S:dD X Ac L fr)(hc:X.calm=c0)(hb:PG (ba X Ac L (s2.heap.objs.size+1) fp s2 H2) tg Ab/\g8 (ba X Ac L (s2.heap.objs.size+1) fp s2 H2) ifs tc/\PE (ba X Ac L (s2.heap.objs.size+1) fp s2 H2) elt te)(I2:Inv X g A H2 s2)(T:fJ X.prog X.w X.K tg Ae fp it tn)(Z:tn 0 s2.heap)(f2:∀b∈fp,fF X g H2 b)(w0:W 0 m0 [] H2)(turn:∀i m acc H,W i m acc H->(Ae.stop i H/\Qe acc H)\/
      (Ae.go i H/\acc.length<fx/\∀x H',Ae.yld i H x H'->Ab x (stC fr A) H' λK H2=>Wk (stC fr A) K/\tc K H2 λb M=>
       if b=c0 then te K M λy H4=>∃D,D<m/\W (i+1) D (acc++[y]) H4 else ∃D,D<m/\W (i+1) D acc M))(AB:∀s' acc H' m,Inv X g A (upd H' s2.heap.objs.size (.lst acc)) s'->s'.heap.Ns (s2.heap.objs.size+1) m->H' s2.heap.objs.size=cx->H' (s2.heap.objs.size+1)=cx->Qe acc H'->RR (.ref s2.heap.objs.size) (s2.heap.objs.size+1) (.ok .next) s')(A0:∀x s',vf (hY X.prog X.w) X.A X.xe (s2.heap.objs.size+1) x s'->RR (.ref s2.heap.objs.size) (s2.heap.objs.size+1) (.error x) s'):
    h_ (hY X.prog X.w) X.A (newList []) (λacc A1=>h_ (hY X.prog X.w) X.A (Ib L X.env.globals (eX X.env.cells L.names []) [] X.env.qual cx .none (O X.env)) (λE A2=>
      C7 (hY X.prog X.w) X.A (.compStart (.ListComp elt [⟨tg,iter,ifs,0⟩] L pos) 0 (.ref it) acc { E with scope:=relabel L X.env }) (RR acc E.locals) A2) no A1) no s2:=by
  refine DM (wpAny_newFunctionEnv S.cell (by intro y hy;simp at hy) (λG h f=>?_) S.kind);rw[tJ]at h f ⊢;have A3:∀b∈fp,b<s2.heap.objs.size:=λb a=>by
    obtain⟨o,ho,_⟩:=T.obj 0 _ Z b a;exact e_ ho
  have A4:=λb o e=>
    f.extBut b o (g_ (sI (e_ e))) (b_ _ (b_ _ e))
  have hD:G.get? s2.heap.objs.size=O { cls:=.type "list",data:=.seq ([]).toArray 0 }:=
    f.extBut _ _ (g_ (up _)) (b_ _ (f6 _ Y))
  have j:=ZY (t':=s2.toks+([]:U (hO×cv)).length) S I2 f2 A3 A4 hD (λv=>by intro z;cases z) h;have l:=T.keep 0 _ _ Z λb _ o e=>A4 b o e;have I:C7 (hY X.prog X.w) X.A (.compLoop (.ListComp elt [⟨tg,iter,ifs,0⟩] L pos) 0 (.ref it) (.ref s2.heap.objs.size) (ba X Ac L (s2.heap.objs.size+1) fp s2 H2).env)
      (RR (.ref s2.heap.objs.size) (s2.heap.objs.size+1)) { s2 with heap:=G,toks:=s2.toks+([]:U (hO×cv)).length }:=by
    refine ze2 (λn s'=>∃i acc H' J k,Inv (ba X Ac L (s2.heap.objs.size+1) fp s2 H2) [(s2.heap.objs.size,{ cls:=.type "list",data:=.seq J.toArray k })] (stC fr A) H' s'/\
      aB acc J/\acc.length<=fx/\tn i s'.heap/\(∀b∈fp,H' b=cx)/\W i n acc H')
      (ba X Ac L (s2.heap.objs.size+1) fp s2 H2).xe (λe s' q=>pu q (λ_ _ q=>A0 _ _ q) λ_ _ q=>A0 _ _ q) ?_ m0
      ⟨0,[],H2,[],0,j,.nil,ot _,l,λb a=>(f2 b a).1,w0⟩
    rintro n s3 ⟨i,acc,M,J,k,I3,rv,hz,A5,A6,w3⟩;have A7:=λb a=>rs (A3 b a);have s:∀{H':Hp}{ob:z_},(∀b∈fp,H' b=cx)->∀b∈fp,fF (ba X Ac L (s2.heap.objs.size+1) fp s2 H2) [(s2.heap.objs.size,ob)] H' b:=λ{H' ob} hn b a=>
      ⟨hn b a,(j.ok.exf b a).1,j.ok.exfs b a,.inl a,(j.ok.exf b a).2,λp N=>by
        have e:p=(s2.heap.objs.size,ob):=by simpa[ba]using N
        subst e;exact A7 b a⟩
    obtain⟨AC,AD,AE⟩:=hb;rcases turn i n acc M w3 with⟨A8,qn⟩ |⟨go,AJ,step⟩
    · refine pu (T.done (ba X Ac L (s2.heap.objs.size+1) fp s2 H2) Y Y Y hc i _ s3 _ M (ba X Ac L (s2.heap.objs.size+1) fp s2 H2).xe I3 (s A6) A5 A8) (λr s4 ⟨hr,I4⟩=>?_) λ_ _ x=>x
      subst hr;obtain⟨mC,AF,_⟩:=I4.loc;exact AB s4 acc M mC (Wz I2 f2 I4 rv hz) AF (I4.pin (s2.heap.objs.size,{ cls:=.type "list",data:=.seq J.toArray k }) (by simp[ba])).2.1 I4.free qn
    · refine pu (T.item (ba X Ac L (s2.heap.objs.size+1) fp s2 H2) Y Y Y hc i _ s3 _ M (ba X Ac L (s2.heap.objs.size+1) fp s2 H2).xe I3 (s A6) A5 go) (λr s4 ⟨u,hr,h4⟩=>?_) λ_ _ x=>x
      subst hr;refine pu h4 (λ_ s5 ⟨x,H5,I5,r5,y5,P,AG⟩=>?_) λ_ _ x=>x;refine pu (AC _ s5 _ H5 x u _ (I5.pinned (s AG) (T.obj _ _ P)) r5 (step x H5 y5)) (λ_ s6 ⟨w,H6,I6,wk,q6⟩=>?_) λ_ _ x=>x;refine pu (AD _ s6 w H6 _ I6 q6) (λb s7 ⟨H7,I7,q7⟩=>?_) λ_ _ x=>x;have B:∀{C:f0}{Q:Hp},Inv (ba X Ac L (s2.heap.objs.size+1) fp s2 H2) ([(s2.heap.objs.size,{ cls:=.type "list",data:=.seq J.toArray k })]++lI fp s5.heap) w Q C->tn (i+1) C.heap/\∀b∈fp,Q b=cx:=λ{C Q} R=>by
        refine⟨T.keep _ _ _ P λb a o e=>(R.pin (b,o) (s_ _ (s_ _ (nH a e)))).1,λb a=>?_⟩;obtain⟨o,e,d⟩:=T.obj _ _ P b a;exact (R.pin (b,o) (s_ _ (s_ _ (nH a e)))).2.1
      cases b with
      |false=>
        rw[ks kC]at q7 ⊢;obtain⟨D,hm,w7⟩:=q7;obtain⟨t7,f7⟩:=B I7;exact⟨D,hm,i+1,acc,H7,J,k,(I7.unpinned).weak wk.1.symm wk.2,rv,hz,t7,f7,w7⟩
      |true=>
        refine pu (AE _ s7 w H7 _ I7 q7) (λy C ⟨yv,Q,R,ry,D,hm,w8⟩=>?_) λ_ _ x=>x;obtain⟨t8,f8⟩:=B R;obtain⟨e8,n8,l8,AH,d8⟩:=R.pin (s2.heap.objs.size,{ cls:=.type "list",data:=.seq J.toArray k }) (by simp[ba]);have hl:=rv.length;refine BX JG ⟨_,e8,Y⟩ Jr (Je _ _) (IK s2.heap.objs.size J.toArray k y (by rw[hL];simp_all)) ⟨e8,?_⟩;have q:=HZ e8 (·.push y);have q':(C.heap.update s2.heap.objs.size (Cz (·.push y))).get? s2.heap.objs.size=O { cls:=.type "list",data:=.seq (J++[y]).toArray (k+1) }:=by
          first
            |simpa using q
        have A9:∀b o,b≠s2.heap.objs.size->C.heap.get? b=O o->(C.heap.update s2.heap.objs.size (Cz (·.push y))).get? b=O o:=λb o a e=>
          (ow C.heap _ (v_ a)).trans e
        have AA:Inv (ba X Ac L (s2.heap.objs.size+1) fp s2 H2) [] w Q C:=R.pins_of λp N=>hQ N (by simp[ba]);have I9:=AA.turned (t':=C.toks) A9 n8 l8 (.inr (dv _)) (λx c e z=>by
          obtain⟨v,o,ho,hd⟩:=AA.cell x c e;simp only[z,e8]at ho;cases ho;cases hd) (λp N=>hQ N (by simp[ba]))
        have AI:Inv (ba X Ac L (s2.heap.objs.size+1) fp s2 H2) [(s2.heap.objs.size,{ cls:=.type "list",data:=.seq (J++[y]).toArray (k+1) })] w Q _:=I9.pins_of λp N=>by
          have e:p=(s2.heap.objs.size,{ cls:=.type "list",data:=.seq (J++[y]).toArray (k+1) }):=by simpa[ba]using N
          subst e;exact⟨q',n8,l8,AH,λv=>by intro z;cases z⟩
        refine⟨D,hm,i+1,acc++[yv],Q,J++[y],k+1,AI.weak wk.1.symm wk.2,rv.append (.cons ry .nil),by simp only[gT,so];assumption,?_,f8,w8⟩;exact T.keep _ _ _ t8 λb a o e=>A9 b o (v_ (A7 b a)) e
  exact codeAny_compStart_list I (T.self _ 0 _ _ _ l I)
theorem dD.clos{fr:U (eH ft)}(S:dD X Ac L fr)(I:Inv X g A H s):K5 L X.env=zJ (eX X.env.cells L.names []):=
 Uh λx a=>I.ok.has x (.inl (S.fre x a))
theorem wM{a:St}(I:Inv X g a H s2)(d:Inv X g A H' s')(c:H' (s2.heap.objs.size+1)=cx)(f:wh (s2.heap.objs.size+1) s'.heap h'):Inv X g A H' { s' with heap:=h' }:=by
 obtain⟨n,h,p,i,j,l⟩:=I.fpOk (H':=H') (BL _) c;exact d.turned (t':=s'.toks) (λb o m e=>(f.2 b m).trans e) c h i j l
def vD(CX:HL)(X:Cx)(Ac:U hO)(L:Ey)(no:XK):Prop:=∀(fp:U ce)(s:f0)(H:Hp)(g:U (ce×z_))(A:St),Inv X g A H s->(∀b∈fp,fF X g H b)->
 di CX (ba X Ac L (s.heap.objs.size+1) fp s H) no
theorem V8{no:XK}{fr:U (eH ft)}(S:dD X Ac L fr)(f:X.calm=c0)(i:vD CX X Ac L no)(hi:PI X tg iter wi)(j:∀C fp s H,di CX (ba X Ac L C fp s H) no->PG (ba X Ac L C fp s H) tg Ab/\g8 (ba X Ac L C fp s H) ifs tc/\PE (ba X Ac L C fp s H) elt te)(l:∀x,Bc iter X.env x=zJ x:=by intro _;rfl):
  PE X (.ListComp elt [⟨tg,iter,ifs,0⟩] L pos) (oU fr wi Ab tc te):=by
 intro g s A H Q I h;refine IB Y l (S.clos I) S.kind S.loc (wd (hi g s A H _ I h) λv z h1=>wd h1 λn s2 h2=>?_);obtain⟨it,fp,B,Ae,H2,e,a,T,b,d,W,⟨D,p⟩,turn⟩:=h2;subst e;refine wL S f (j _ _ _ _ (i fp s2 H2 g A a d)) a T b d p turn ?_ λx s' q=>q;intro s' acc H' m r u w y q;refine⟨m,u,λh' c=>⟨.ref s2.heap.objs.size,_,wM a r ?_ c,Y,q _ w⟩⟩;exact (ag (rs (up _))) ▸ y
theorem n9{fr:U (eH ft)}(S:dD X Ac L fr)(a:X.calm=c0)(hi:PI X tg iter wi)(b:∀C fp s H,PG (ba X Ac L C fp s H) tg Ab/\g8 (ba X Ac L C fp s H) ifs tc/\PE (ba X Ac L C fp s H) elt te)(c:∀x,Bc iter X.env x=zJ x:=by intro _;rfl):
  PE X (.ListComp elt [⟨tg,iter,ifs,0⟩] L pos) (oU fr wi Ab tc te):=
 V8 (CX:=λ_ _ _ _ _ _=>wa) (no:=λ_ _ _=>wa) S a (λ_ _ _ _ _ _ _ _ _ _ _ _ _ _ q=>q.elim) hi (λC fp s H _=>b C fp s H) c
theorem VI{no:XK}{y:hO}{fr:U (eH ft)}(w:X.N.Nodup)(f:X.N[i]?=O y)(z:Loc X.env.scope y)(S:dD X Ac L fr)(B:X.calm=c0)(E:vD CX X Ac L no)(hi:PI X tg iter wi)(G:∀C fp s H,di CX (ba X Ac L C fp s H) no->PG (ba X Ac L C fp s H) tg Ab/\g8 (ba X Ac L C fp s H) ifs tc/\PE (ba X Ac L C fp s H) elt te)(j:Eu (.ListComp elt [⟨tg,iter,ifs,0⟩] L pos) (O (.Name y py)) spos.line X.env=zJ c0:=by rfl)(J:X.fn y=c0\/X.env.scope.names.lookup y=O .local:=by first |exact .inl Y |exact .inr Y |assumption)(K:∀x,Bc iter X.env x=zJ x:=by intro _;rfl):
  PS X (.Assign [.Name y py] (.ListComp elt [⟨tg,iter,ifs,0⟩] L pos) spos) (ky (oU fr wi Ab tc te) (fv i)):=by
 intro g s A H D I h;rw[exec_Assign_Name_used _ _ _ _ j];refine b7 (Nt (b7 ?_));refine b7 (pu (IB Y K (S.clos I) S.kind S.loc
  (wd (hi g s A H _ I h) λv s1 h1=>wd h1 λM s2 h2=>?_)) (λ_ s' N=>eM (eM N)) λ_ _ e=>e)
 obtain⟨it,fp,tn,Ae,H2,e,c,T,l,u,W,⟨m0,P⟩,turn⟩:=h2;subst e;refine wL S B (G _ _ _ _ (E fp s2 H2 g A c u)) c T l u P turn ?_ λx s' q=>q;intro s' acc H' m Q R Z hC q;refine KR (P6 (v:=.ref s2.heap.objs.size) Q w f z Y (λA0 n b=>?_) J);obtain⟨a,b,d⟩:=b;have p:s2.heap.objs.size+1≠a:=by
  rcases d with d |d
  ·rw[d];exact rs (sI c.lt)
  ·obtain⟨v,o,ho,_⟩:=c.cell y a d;exact rs (sI (e_ ho))
 refine⟨m,R.sameBut b p,λh' r=>⟨_,_,wM c n ?_ r,q _ Z⟩⟩;exact (ag (rs (up _))) ▸ hC
theorem zma{y:hO}{fr:U (eH ft)}(c:X.N.Nodup)(a:X.N[i]?=O y)(d:Loc X.env.scope y)(S:dD X Ac L fr)(e:X.calm=c0)(hi:PI X tg iter wi)(f:∀C fp s H,PG (ba X Ac L C fp s H) tg Ab/\g8 (ba X Ac L C fp s H) ifs tc/\PE (ba X Ac L C fp s H) elt te)(b:Eu (.ListComp elt [⟨tg,iter,ifs,0⟩] L pos) (O (.Name y py)) spos.line X.env=zJ c0:=by rfl)(g:X.fn y=c0\/X.env.scope.names.lookup y=O .local:=by first |exact .inl Y |exact .inr Y |assumption)(h:∀x,Bc iter X.env x=zJ x:=by intro _;rfl):
  PS X (.Assign [.Name y py] (.ListComp elt [⟨tg,iter,ifs,0⟩] L pos) spos) (ky (oU fr wi Ab tc te) (fv i)):=
 VI (CX:=λ_ _ _ _ _ _=>wa) (no:=λ_ _ _=>wa) c a d S e (λ_ _ _ _ _ _ _ _ _ _ _ _ _ _ q=>q.elim) hi (λC fp s H _=>f C fp s H) b g h
def yl(Aa:sJ)(w:uF):HL:=λouter H s no e s'=>
 ∃(a:ce)(cls d:cv)(H':Hp)(B:sG),e = .ref a/\s'.os=s.os/\Fc s'.gens/\Heap.FlyingW B outer a cls d s'.heap/\H' a=cx/\
  Un (F5 outer) [] H H' s.heap s'.heap/\Ew Aa w H' B/\(∀b o,s.heap.get? b=O o->b∉F5 outer->∃c,B.get? b=O c/\(H b=cx->c=o))/\no cls cx H'
theorem bo.there{o:HO}(x:bo Aa w H h a o):∃b,h.get? a=O b:=by
 cases o with
 |lst E=>obtain⟨_,_,_,_,e⟩:=x;exact⟨_,e⟩
 |tup E=>obtain⟨_,_,_,o,e,_⟩:=x;exact⟨o,e⟩
 |dK G=>obtain⟨_,_,_,_,o,_,_,e,_⟩:=x;exact⟨o,e⟩
 |dT G=>obtain⟨_,_,_,_,o,_,_,e,_⟩:=x;exact⟨o,e⟩
 |set S n=>obtain⟨o,_,_,_,e,_⟩:=x;exact⟨o,e⟩
 |ins C dx fs=>obtain⟨_,_,_,e,_⟩:=x;exact⟨_,e⟩
 |own y=>exact x
 |xd fs=>obtain⟨_,⟨o,_,_,e,_⟩,_⟩:=x;exact⟨o,e⟩
 |rng lo hi=>obtain⟨_,_,_,e⟩:=x;exact⟨_,e⟩
 |frz b u=>obtain⟨e,_⟩:=x;exact⟨_,e⟩
 |tbl ps=>exact⟨_,x⟩
 |met f y=>exact⟨_,x⟩
 |ext c=>obtain⟨_,e,_⟩:=x;exact e
theorem Un.fly{fs:U ce}(u:Un fs [] H H' h h1)(m:B.StaysIn h2)(p:h1.UpToSlots h2)(Fj:∀b o,h.get? b=O o->b∉fs->∃a,B.get? b=O a/\(H b=cx->a=o))(r:∀b∈fs,∃o,h1.get? b=O o/\∀Z,o.data≠.fields Z):Un fs [] H H' h h2 where
 keep:=λb o e n c _=>by
  obtain⟨a,i,q⟩:=Fj b o e c;exact (q n) ▸ (m b a i)
 slot:=λb o e n c s=>by
  obtain⟨sl,g⟩:=u.slot b o e n c s;obtain⟨v,d,j⟩:=r b c;rw[g]at d;cases d;obtain⟨f,l⟩:=p b _ g j;exact⟨f,l⟩
 free:=u.free
 there:=λb o e s=>by
  by_cases c:b∈fs
  ·obtain⟨v,g,j⟩:=r b c;obtain⟨f,l⟩:=p b _ g j;exact⟨_,l⟩
  ·obtain⟨a,i,_⟩:=Fj b o e c;exact⟨a,m b a i⟩
 tups:=u.tups
 frzs:=u.frzs
 tbls:=u.tbls
def vF(X:Cx)(no:XK):Prop:=∀(g:U (ce×z_))(A:St)(H:Hp)(s:f0)(h':sG)(e:ce)(cls:cv)(a:U cv),
 Inv X g A H s->Heap.MadeExcOf s.heap h' e cls a->no cls cx H->X.xe (.ref e) { s with heap:=h' }
section
variable{f:ce}{E:XK}
theorem de:vF (c6 (yl Aa w) Aa w K mg base Ac N L f cd on outer s H E) E:=by
 intro g A H1 l h' e cls r I m x;have p:∀env∈(c6 (yl Aa w) Aa w K mg base Ac N L f cd on outer s H E).stack,∀b,env.frame=O b->b∈F5 (c6 (yl Aa w) Aa w K mg base Ac N L f cd on outer s H E).stack:=
  λenv y b a=>Ed.mpr ⟨env,y,a⟩
 have d:∀b o,H1 b=O o->b∉F5 (c6 (yl Aa w) Aa w K mg base Ac N L f cd on outer s H E).stack:=λb o e a=>by
  rw[I.stkFree b a]at e;cases e
 have get:∀b o,l.heap.get? b=O o->b∉F5 (c6 (yl Aa w) Aa w K mg base Ac N L f cd on outer s H E).stack->(Kq l.heap (F5 (c6 (yl Aa w) Aa w K mg base Ac N L f cd on outer s H E).stack)).get? b=O o:=
  λb o e a=>LJ _ e a
 refine wpAny_leaves_madeW I.ok.frames Y (λb o q=>M5 _ q) (W.funFrames_hide I.stack p) m λh2 t v P Q C=>?_;have h:∀b o,s.heap.get? b=O o->b∉F5 outer->b∉F5 (c6 (yl Aa w) Aa w K mg base Ac N L f cd on outer s H E).stack:=λb o e a D=>by
  rcases f_.mp (I.stkSub b D) with z |z
  ·have:=e_ e;exact hQ (hJ this I.ok.above) (by simp_all)
  ·exact a z
 have B:=I.base;have Fj:∀b o,s.heap.get? b=O o->b∉F5 outer->∃i,(Kq l.heap (F5 (c6 (yl Aa w) Aa w K mg base Ac N L f cd on outer s H E).stack)).get? b=O i/\(H b=cx->i=o):=λb o e a=>by
  obtain⟨i,j⟩:=B.there b o e (by intro z;exact hQ (show b∈([]) from z) (by simp));refine⟨i,get b i j (h b o e a),λn=>?_⟩;have:=B.keep b o e n a (by intro z;exact hQ (show b∈([]) from z) (by simp))
  grind
 refine⟨e,cls,.ref t,H1,_,Y,I.os,I.bare,v,?_,?_,?_,Fj,x⟩
 ·cases q:H1 e with
  |none=>rfl
  |some o=>
   obtain⟨R,j⟩:=(I.hok e o q).there;have:=m.new
   grind
 ·refine Un.fly B v.1 ((K_ m.keeps).trans C) Fj λb a=>?_;obtain⟨_,o,G,J⟩:=I.funs.mem a;exact⟨o,G,J⟩
 ·exact λb o j=>(I.hok b o j).stay (λc u M q=>get c u q (by
   rcases M with z |z
   ·exact z ▸ (d b o j)
   ·exact d c _ z)) (λ_ q=>q) λ_ _ q=>q
theorem bU:di (yl Aa w) (c6 (yl Aa w) Aa w K mg base Ac N L f cd on outer s H E) E:=by
 rintro g A H1 R e s' I ⟨a,cls,r,H',B,rfl,os,c,h,v,u,i,Fj,x⟩;refine L1 I.ok.frames Y h λh2 l y=>?_;have C:=u.fly l.1 y Fj λb d=>by
  obtain⟨_,o,D,G⟩:=h.2.2.1.mem d;exact⟨o,D,G⟩
 have m:=I.call' (s':={ s' with heap:=h2 }) os C (i.kept l.1) c λb d=>hQ d (by simp);refine⟨a,cls,r,H',B,Y,m.os,c,l,v,m.base,i,λb o e d=>?_,x⟩;have j:b∉F5 (c6 (yl Aa w) Aa w K mg base Ac N L f cd on outer s H E).stack:=λJ=>by
  rcases f_.mp (I.stkSub b J) with z |z
  ·have:=e_ e;exact hQ (hJ this I.ok.above) (by simp_all)
  ·exact d z
 obtain⟨M,p⟩:=I.base.there b o e (by intro z;exact hQ (show b∈([]) from z) (by simp));obtain⟨P,Q,q⟩:=Fj b M p j;refine⟨P,Q,λn=>?_⟩;have k:=I.base.keep b o e n d (by intro z;exact hQ (show b∈([]) from z) (by simp));rw[p]at k;rw[q (I.base.free b o e n (by intro z;exact hQ (show b∈([]) from z) (by simp)))];exact kn k
end
structure fV(K:fy)(C:ce):Prop where
 ex:W.excIn K C [.type "ValueError", .type "Exception", .type "BaseException", .type "object"] "ValueError.__new__" =c0
theorem Tw{o:eH z_}{f:eH ce->ClassData->t_ (eH cv)->n_}(q:IN (λ_=>n_) o f (λ_=>d_)=c0):∃b cd sl,o=O ⟨.type "type",b,.cls cd,sl⟩/\f b cd sl=c0:=by
 rcases o with _ |⟨cls,b,a,sl⟩
 ·simp_all
 have d:∃c,cls = .type c:=by cases cls <;> first |exact⟨_,Y⟩ |exact vb q
 obtain⟨c,rfl⟩:=d;have e:c = "type" :=by
  by_cases z:c = "type"
  ·exact z
  ·delta IN W.nsOkIn._sparseCasesOn_4 W.excIn._sparseCasesOn_6 at q
   dsimp only at q
   simp_all
 subst e;have g:∃cd,a = .cls cd:=by cases a <;> first |exact⟨_,Y⟩ |exact vb q
 obtain⟨cd,rfl⟩:=g;exact⟨b,cd,sl,Y,q⟩
inductive X0(a:U cv)(l:U (eH cv))(Ab:ce->U cv->eH cv->eH cv->eH cv->eH cv->BP->eH cv->n_):Prop
 |i(b c d e f g n h:_)(_:a = .ref b :: c)(_:l=[d,e,f,g,O (.builtin n),h])(_:Ab b c d e f g n h=c0)
theorem zhy{a:U cv}{l:U (eH cv)}{Ab:ce->U cv->eH cv->eH cv->eH cv->eH cv->BP->eH cv->n_}(q:W.excIn.match_1 (λ_ _=>n_) a l Ab (λ_ _=>d_)=c0):X0 a l Ab:=by
 have d:∃c b,a = .ref c :: b:=by
  rcases a with _ |⟨m,b⟩
  ·exact vb q
  ·cases m <;> first |exact⟨_,_,Y⟩ |exact vb q
 obtain⟨c,b,rfl⟩:=d;rcases l with _ |⟨e,_ |⟨f,_ |⟨g,_ |⟨h,_ |⟨v,r⟩⟩⟩⟩⟩
 iterate 5 exact vb q
 have i:∃n,v=O (.builtin n):=by
  rcases v with _ |v
  ·exact vb q
  ·cases v <;> first |exact⟨_,Y⟩ |exact vb q
 obtain⟨n,rfl⟩:=i;rcases r with _ |⟨j,_ |⟨_,_⟩⟩
 ·simp_all
 ·exact⟨c,b,e,f,g,h,n,j,Y,Y,q⟩
 ·exact vb q
inductive pW(h:sG)(C:ce):Prop
 |i(b Ac d q bs a e sub f col g j l m n p c:_)(_:h.get? C=O (QL d q C Ac bs b a e sub f col g j l m n p "ValueError.__new__"))(_:h.Ns Ac c)(_:c "__init__" =cx)(_:OwnTail h [.type "ValueError", .type "Exception", .type "BaseException", .type "object"] b)
theorem pW.mk(X:K.In h){c Ac e q bs a f sub g col i j l m n p}(r:K.lookup C=O (QL e q C Ac bs c a f sub g col i j l m n p "ValueError.__new__"))(s:W.tailIn K [.type "ValueError", .type "Exception", .type "BaseException", .type "object"] c=c0)(b:W.nsOkIn K Ac=c0)(d:Dp K Ac "__init__" =O cx):pW h C:=
 ⟨c,Ac,e,q,bs,a,f,sub,g,col,i,j,l,m,n,p,_,X _ _ r,.of_isNs (W.isNs_of_in X b),W.nsMap_none_of_in X b d,W.tail_of_in X s⟩
theorem fV.obj(c:fV K C)(X:K.In h):pW h C:=by
 obtain⟨g,⟨i,bs,d,ns,j,hd,m,sub,p,col,del⟩,⟨l⟩,e,q⟩:=Tw c.ex;obtain⟨r,s,u,v,w,x,n,y,rfl,rfl,q⟩:=zhy q;simp only[sB,Fe,Bool.not_eq_true']at q;obtain⟨⟨⟨⟨⟨rfl,rfl⟩,rfl⟩,f⟩,a⟩,b⟩:=q;exact .mk X e f a b
def X1(no:XK)(C:ce)(t:TA):TS:=λ_ A H=>t A H λZ H1=>Z.length<=fx/\no (.ref C) cx H1
theorem c9{no:XK}{d:tA}{t:TA}(T:vF X no)(c:fV X.K C)(n:X.calm=c0)(p:Gl X x)(r:X.mg x=O (.ref C))(u:PA X (d::es) t)(i:(x ==("__debug__" : hO))=d_:=by decide)(m:i' (d::es) X.env=(d_,eval d X.env)::i' es X.env:=by rfl)(j:(zG cpos (i' es X.env)).any (·.1)=d_:=by rfl):
  PS X (.Raise (O (.Call (.Name x np) (d::es) [] cpos)) cx pos) (X1 no C t):=by
 intro g s A H D I h;obtain⟨bm,v,w,q,bs,a,z,sub,B,col,E,G,J,K,L,M,mN,N,P,l,TL⟩:=c.obj I.ok.mod.kin;refine wpAny_Raise_call_subT (nm:=w) (q:=q) (N:=v) (bs:=bs) (hdct:=a) (sn:=z) (sub:=sub) (ab:=B) (col:=col) (dd:=E) (k0:=G) (k1:=J) (k2:=K) (k3:=L) (k5:=M)
  F.excBase_ValueError (TL.hasType Y) (I.ok.hd n) (by rw[m];show (d_ || (zG cpos (i' es X.env)).any (·.1))=d_;rw[j];rfl) l (gd I p r ⟨Y,?_⟩ i)
 have b:=u cpos g s A H _ I h;rw[m]at b ⊢;refine EW (pu b (λus s2 ⟨Z,H2,f,Q,R,S⟩=>⟨Y,by exact Q.length ▸ R,f.bk _ _ N,P.keeps f.bk,TL.keeps f.bk,λh' e hx=>?_⟩) λ_ _ y=>y);exact T g A H2 s2 h' e _ _ f hx S
def fW(a:ce)(cls:cv):HO:=.ext λh=>∃o Z,h.get? a=O o/\o.cls=cls/\o.data = .fields Z
theorem Wj{o:z_}{Z:t_ cv}(e:h.get? a=O o)(d:o.cls=cls)(hd:o.data = .fields Z):bo Aa w H h a (fW a cls):=
 ⟨⟨o,Z,e,d,hd⟩,⟨o,e⟩,by rintro h1 h2 ⟨c,b,f,c',d'⟩ k;exact⟨c,b,k c f,c',d'⟩⟩
theorem Inv.track{o:HO}(I:Inv X g A H s)(G:H a=cx)(J:X.s₀.heap.get? a=cx)(l:a≠X.env.locals)(r:∀x c,X.env.cells.lookup x=O c->c≠a)(w:∀p∈X.pn++g,p.1≠a)(new:bo X.prog X.w (upd H a o) s.heap a o):Inv X g A (upd H a o) s:=by
 have i:∀b f,X.s₀.heap.get? b=O f->b≠a:=λb f e z=>by grind
 have d:∀b u,H b=O u->b≠a:=λb u e z=>by grind
 refine⟨I.ok,I.os,I.bare,⟨I.base.keep,I.base.slot,λb f e n y=>by rw[ag (i b f e)];exact I.base.free b f e n y,I.base.there,λb E e=>?_,λb f u e=>?_,λb ps e=>?_⟩,
  I.loc,I.cell,by rw[ag (v_ l)];exact I.free,λx c e=>by rw[ag (r x c e)];exact I.freeC x c e,λp h=>?_,λb u e=>?_,I.len⟩
 ·have q:=I.base.tups b E e;exact (ag (d b _ q)) ▸ q
 ·have q:=I.base.frzs b f u e;exact (ag (d b _ q)) ▸ q
 ·obtain⟨m,q⟩:=I.base.tbls b ps e;exact⟨m,by exact (ag (d b _ q)) ▸ q⟩
 ·obtain⟨B,C,D⟩:=I.pin p h;exact⟨B,by rw[ag (w p h)];exact C,D⟩
 ·by_cases j:b=a
  ·subst j;rw[af]at e;grind
  ·rw[ag j]at e;exact (I.hok b u e).stay (λc v _ q=>q) (λc q=>by exact (ag (d c _ q)) ▸ q) λc E q=>by exact (ag (d c _ q)) ▸ q
theorem Inv.locals{h':sG}{i:hO->eH cv}{a:St}{t':ft}(I:Inv X g A H s)(f:wh X.env.locals s.heap h')(r:h'.Ns X.env.locals i)(w:a.length=A.length)(x:∀(j:ft)(y:hO)(v:V),X.N[j]?=O y->a[j]?=O (O v)->Mx X.env.scope y->∃u,aD v u/\vB X.env h' i y u):Inv X g a H { s with heap:=h',toks:=t' }:=by
 have d:∀b o,X.s₀.heap.get? b=O o->b≠X.env.locals:=λb o e=>g_ (hJ (e_ e) I.ok.above);refine⟨I.ok,I.os,I.bare,⟨λb o e n l h=>(f.2 b (d b o e)).trans (I.base.keep b o e n l h),λb o e n l h=>?_,I.base.free,λb o e h=>?_,I.base.tups,I.base.frzs,I.base.tbls⟩,
  ⟨i,r,x⟩,λy c e=>?_,I.free,I.freeC,λp B=>?_,λb u e=>?_,w.trans I.len⟩
 ·obtain⟨sl,q⟩:=I.base.slot b o e n l h;exact⟨sl,(f.2 b (d b o e)).trans q⟩
 ·obtain⟨C,q⟩:=I.base.there b o e h;exact⟨C,(f.2 b (d b o e)).trans q⟩
 ·obtain⟨v,z⟩:=I.cell y c e;exact⟨v,z.sameBut f (I.cne y c e)⟩
 ·obtain⟨D,E,m,G⟩:=I.pin p B;exact⟨(f.2 p.1 m).trans D,E,m,G⟩
 ·refine (I.hok b u e).stay (λc v J q=>(f.2 c ?_).trans q) (λ_ q=>q) λ_ _ q=>q;rintro rfl;rcases J with z |z
  ·rw[←z,I.free]at e;cases e
  ·rw[I.free]at z;cases z
theorem ym{n:hO}{Q:J9->f0->Prop}(I:Inv X g A H s)(w:X.N.Nodup)(hi:X.N[i]?=O n)(d:X.env.scope.names.lookup n=O .local)(h:∀s',Inv X g (A.set i cx) H s'->Q () s'):h_ M on (do bindName X.env n .none;unbindBehindTheSuite X.env n pos) Q no s:=by
 refine b7 (wpAny_bindName (lS (v:=.non) I w hi (.inl d) Y (λD f=>?_) (.inr d)));have a:i<A.length:=by rw[I.len];exact (cs.mp hi).1
 refine EH ?_;obtain⟨m,E,x⟩:=f.loc;have l:∃u,m n=O u:=by
  obtain⟨u,_,q⟩:=x i n .non hi (by rw[EA a]) (.inl d);rcases q with⟨_,q⟩ |⟨k,_⟩
  ·exact⟨u,q⟩
  ·have k:X.env.scope.names.lookup n=O .cell\/X.env.scope.names.lookup n=O .free:=k
   simp_all
 obtain⟨u,l⟩:=l;refine wpAny_unbindName_local d E l (by rw[I.ok.kind];rfl) λh' L p b=>h _ (f.locals (t':=D.toks) b p (by simp) λj y v B C G=>?_);have r:j≠i:=λz=>by
  simp_all
 rw[DQ (v_ r)]at C;obtain⟨J,K,q⟩:=x j y v B (by rw[DQ (v_ r)];exact C) G;refine⟨J,K,?_⟩;rcases q with⟨k,e⟩ |⟨k,c,e,z⟩
 ·refine .inl ⟨k,?_⟩;have:y≠n:=λe=>r (e7 w B (e ▸ hi))
  grind
 ·exact .inr ⟨k,c,e,z.sameBut b (f.cne y c e)⟩
def iI(X:Cx)(pn:U (ce×z_))(a:cv->f0->Prop):Cx:={ X with pn:=pn,xe:=a }
def iH(X:Cx)(a:ce):Cx:={ X with A:=X.A.mark (O (.ref a)),calm:=d_,xe:=λ_ _=>wa }
section
variable{d:cv->f0->Prop}
theorem Cx.Ok.toTry(ok:X.Ok):(iI X pn d).Ok:=
 ⟨ok.mod,ok.kind,ok.glob,ok.blt,ok.above,ok.inj,ok.has,ok.cab,ok.hd,ok.frames,ok.stk,ok.exf,ok.bs,ok.bsz,ok.noex,ok.exfs,ok.funs,ok.frf⟩
theorem Cx.Ok.ofTry(ok:(iI X pn d).Ok):X.Ok:=
 ⟨ok.mod,ok.kind,ok.glob,ok.blt,ok.above,ok.inj,ok.has,ok.cab,ok.hd,ok.frames,ok.stk,ok.exf,ok.bs,ok.bsz,ok.noex,ok.exfs,ok.funs,ok.frf⟩
theorem Inv.toTry(I:Inv X g A H s):Inv (iI X (X.pn++g) d) [] A H s:=
 ⟨I.ok.toTry,I.os,I.bare,I.base,I.loc,I.cell,I.free,I.freeC,λp a=>I.pin p (by simpa[iI]using a),I.hok,I.len⟩
theorem Inv.ofTry(I:Inv (iI X (X.pn++g) d) pins' A H s):Inv X g A H s:=
 ⟨I.ok.ofTry,I.os,I.bare,I.base,I.loc,I.cell,I.free,I.freeC,λp a=>I.pin p (DP _ a),I.hok,I.len⟩
theorem Cx.Ok.toSuite(ok:X.Ok):(iH X a).Ok:=
 ⟨ok.mod,ok.kind,ok.glob,ok.blt,ok.above,ok.inj,ok.has,ok.cab,λz=>vb z,ok.frames,ok.stk,ok.exf,ok.bs,ok.bsz,ok.noex,ok.exfs,ok.funs,ok.frf⟩
theorem Cx.Ok.ofSuite(hd:X.calm=c0->X.A.handled=cx)(ok:(iH X a).Ok):X.Ok:=
 ⟨ok.mod,ok.kind,ok.glob,ok.blt,ok.above,ok.inj,ok.has,ok.cab,hd,ok.frames,ok.stk,ok.exf,ok.bs,ok.bsz,ok.noex,ok.exfs,ok.funs,ok.frf⟩
theorem Inv.toSuite(I:Inv X g A H s):Inv (iH X a) g A H s:=
 ⟨I.ok.toSuite,I.os,I.bare,I.base,I.loc,I.cell,I.free,I.freeC,I.pin,I.hok,I.len⟩
theorem Inv.ofSuite(hd:X.calm=c0->X.A.handled=cx)(I:Inv (iH X a) g A H s):Inv X g A H s:=
 ⟨I.ok.ofSuite hd,I.os,I.bare,I.base,I.loc,I.cell,I.free,I.freeC,I.pin,I.hok,I.len⟩
def Za(K:fy)(R:ce)(c i:ft)(tb:XK->TS)(ts:TS):TS:=λD A H=>
 tb (λcls _ H'=>Jf K cls (.ref R)=O c0/\∀a,H' a=cx->
  ts { nx:=λb H2=>D.nx (b.set i cx) H2,rt:=D.rt } ((nc c cx).set i (O (.ref a))) (upd H' a (fW a cls))) D A H
theorem X4{R:ce}{n:hO}{J:KN}{b0:nW}{l:U nW}{tb:XK->TS}{ts:TS}(A0:X.stack=X.env::X.outer)(A9:X.env.frame=O X.env.locals)(hex:X.ex=[])(hN:X.N.Nodup)(hi:X.N[i]?=O n)(hl:X.env.scope.names.lookup n=O .local)(hg:Gl X x)(hm:X.mg x=O (.ref R))(hb:∀pn d no,di (yl X.prog X.w) (iI X pn d) no->FX (iI X pn d) body (tb no))(hs:∀a,FX (iH X a) (b0::l) ts)(AA:(x ==("__debug__" : hO))=d_:=by decide):
  PS X (.Try body [.ExceptHandler (O (.Name x np)) (O n) (b0::l) J] [] [] pos) (Za X.K R X.N.length i tb ts):=by
 intro g s A H D I h;refine wpAny_Try_except ?_;have w:X.A.frames=O (X.env::X.outer):=by exact A0 ▸ I.ok.frames
 have A1:di (yl X.prog X.w) (iI X (X.pn++g) (λe A2=>h_ (hY X.prog X.w) X.A (noteFrame e X.env) (λ_ A3=>h_ (hY X.prog X.w) X.A (L4 e cx) (λ_ A4=>
   h_ (hY X.prog X.w) X.A (handleBy e X.env [.ExceptHandler (O (.Name x np)) (O n) (b0::l) J]) (SP X g D) X.xe A4) X.xe A3) X.xe A2))
   (λcls _ H'=>Jf X.K cls (.ref R)=O c0/\∀a,H' a=cx->
    ts { nx:=λAB H2=>D.nx (AB.set i cx) H2,rt:=D.rt } ((nc X.N.length cx).set i (O (.ref a))) (upd H' a (fW a cls))):=by
  rintro pins' AC H1 s1 e s' I' ⟨a,cls,a0,H',B,rfl,os,K,C,ha,u,A5,Fj,AD,AE⟩;have T:=I'.ofTry;have L:∀b∈F5 X.stack,∃o,s'.heap.get? b=O o/\∀Z,o.data≠.fields Z:=λb E=>by
   obtain⟨_,o,M,nf⟩:=C.2.2.1.mem E;exact⟨o,M,nf⟩
  have MG:s1.heap.get? a=cx:=by
   cases q:s1.heap.get? a with
   |none=>rfl
   |some o=>
    by_cases E:a∈F5 X.stack
    ·obtain⟨o',AF,nf⟩:=L a E;obtain⟨oe,Z,_,_,_,he,_,hd,_⟩:=C.2.2.2;rw[AF]at he;cases he;exact hQ hd (nf Z)
    ·obtain⟨o',e',_⟩:=Fj a o q E;have:=C.2.1;rw[e']at this;cases this
  refine wpAny_looks_onW w A9 (A0 ▸ C) λh4 N A6=>?_;refine wpAny_landsW N λh5 G A7=>?_;have I5:=T.call' (s':={ s' with heap:=h5 }) os (u.fly G.1 (A6.trans A7) Fj L) (A5.kept G.1) K λb z=>hQ z (by simp);obtain⟨ob,AG,A8⟩:=G.there;have AH:Inv (iH X a) g AC H' { s' with heap:=h5 }:=I5.toSuite;refine wpAny_handleBy_cons (codeAny_handlers_test (gd AH hg hm ?_ AA)) (by intro q;cases q);refine (W.exm_one I5.kIn (A8 ▸ (K6 AG).andThen .now) AD).here ?_;refine codeAny_handlers_suite_as ?_;refine lands_againW G λh6 P AI=>?_;have I6:=T.call' (s':={ s' with heap:=h6 }) os (u.fly P.1 ((A6.trans A7).trans AI) Fj L) (A5.kept P.1) K λb z=>hQ z (by simp);have AJ:Inv X g (nc X.N.length cx) H' { s' with heap:=h6 }:=I6.weak (by simp only[B1,I6.len]) λj v e=>by
   rw[E3]at e
   split at e <;> cases e
  obtain⟨oe,Z,_,_,_,AK,⟨AL,_⟩,AM,_⟩:=P.2.2.2;have I7:Inv X g (nc X.N.length cx) (upd H' a (fW a cls)) { s' with heap:=h6 }:=by
   refine AJ.track ha ?_ ?_ (λy c e z=>?_) (λp hp z=>?_) (Wj AK AL AM)
   ·cases q:X.s₀.heap.get? a with
    |none=>rfl
    |some o=>
     obtain⟨o',e'⟩:=T.base.there a o q (by rw[hex];simp);rw[MG]at e';cases e'
   ·rintro rfl;obtain⟨m,⟨o,_,_,M,_⟩,_⟩:=T.loc;rw[MG]at M;cases M
   ·obtain⟨v,o,M,_⟩:=T.cell y c e;rw[z,MG]at M;cases M
   ·have:=(T.pin p hp).1;rw[z,MG]at this;cases this
  have AN:Inv (iH X a) g (nc X.N.length cx) (upd H' a (fW a cls)) { s' with heap:=h6 }:=I7.toSuite;refine lS (X:=iH X a) (v:=.ref a) AN hN hi (.inl hl) Y (λs8 I8=>?_) (.inr hl);refine pu (hs a g s8 _ _ _ I8 (AE a ha)) (λf s9 q9=>?_) (λ_ _ z=>z.elim);cases f with
  |next=>
   obtain⟨AO,H9,I9,q⟩:=q9;exact ym (I9.ofSuite I.ok.hd) hN hi hl λAQ Q=>⟨_,_,Q,q⟩
  |ret v=>
   obtain⟨v9,AO,H9,I9,rv,q⟩:=q9;exact ym (I9.ofSuite I.ok.hd) hN hi hl λAQ Q=>⟨_,_,_,Q,rv,q⟩
  |brk=>
   obtain⟨_,_,_,q⟩:=q9;exact tj q
  |cont=>
   obtain⟨_,_,_,q⟩:=q9;exact tj q
 refine pu (hb _ _ _ A1 [] s A H D I.toTry h) (λf s1 q=>?_) λe s1 q=>q;cases f with
 |next=>
  obtain⟨r,H1,S,q⟩:=q;exact Ei ⟨r,H1,S.ofTry,q⟩
 |ret v=>
  obtain⟨v1,r,H1,S,rv,q⟩:=q;exact⟨v1,r,H1,S.ofTry,rv,q⟩
 |brk=>
  obtain⟨r,H1,S,q⟩:=q;exact⟨r,H1,S.ofTry,q⟩
 |cont=>
  obtain⟨r,H1,S,q⟩:=q;exact⟨r,H1,S.ofTry,q⟩
end
structure iC(K:fy)(C:ce):Prop where
 cl:(MH K C).isSome=c0
 ga:BQ K (.ref C) "__getattribute__" =O (O (.builtin "BaseException.__getattribute__"))
 gn:BQ K (.ref C) "__getattr__" =O cx
 ca:BQ K (.ref C) "__class__" =O (O (.builtin "object.__class__"))
 cg:GG K (.builtin "object.__class__") "__get__" =O (O (.builtin "getset_descriptor.__get__"))
 ck:Ij K (.builtin "object.__class__")=O c0
 cm:Iy K C (.type "object")=O c0
 sb:W.subIn K (.ref C) (.type "BaseException")=O c0
inductive mn(x C:ce)(h:sG):Prop
 |i(o Z:_)(_:h.get? x=O o)(_:o.cls = .ref C)(_:o.data = .fields Z)
theorem mn.ty{x:ce}(p:mn x C h):MI M h (K3 (.ref x)) (.ref C):=by
 obtain⟨o,Z,e,a,_⟩:=p;exact a ▸ (K6 e).andThen .now
section
open Builtin Builtin.ObjectAttr Builtin.Getset_descriptor
variable{x:ce}
theorem zfq{Q:eH cv->f0->Prop}(k:iC K C)(X:K.In s.heap)(I:mn x C s.heap)(h:Q (O (.ref C)) { s with toks:=s.toks+1 }):
  h_ (hY prog w) on (Gz (.ref x) "__class__") Q no s:=by
 obtain⟨c,Ab,d,t,os⟩:=s;have b:=I.ty (M:=hY prog w);have e:=Fs (M:=hY prog w) X k.ga;have f:=W.looks_subIn (M:=hY prog w) X k.sb;have i:=W.looks_mroIn (M:=hY prog w) X k.cm;refine b7 (wpAny_mkText (b7 (D_ (sA (b7 (b.at (b7 (e.at ?_))))))));dsimp only;refine b7 ?_;refine (Fs (M:=hY prog w) X k.gn).at ?_;refine b7 (D_ (sA ?_));dsimp only;refine Ff (FA F.attrBase_ValueError.ga.plain F.entry_bexc_ga ?_);have j:builtinKind "BaseException.__getattribute__" =O .slot:=by decide +kernel
 have a:splitId "BaseException.__getattribute__" =O ("BaseException","__getattribute__"):=by decide +kernel
 refine b7 ?_
 delta isInstance
 refine b7 (b.at (f.at ?_));refine EC (F.args_bexc_ga (.ref x) (.str "__class__" t)) ?_;have g:MI (hY prog w) c (Ju (.ref x) (.ref C) "__class__") (.bind (.builtin "getset_descriptor.__get__") (.builtin "object.__class__")):=
  (Fs (M:=hY prog w) X k.ca).andThen ((W.looks_specialIn (M:=hY prog w) X k.cg).andThen ((show MI (hY prog w) c (Jv (O (.builtin "object.__class__")) (O (.builtin "getset_descriptor.__get__"))) (O (.builtin "getset_descriptor.__get__", .builtin "object.__class__")) from (W.looks_takesIn (M:=hY prog w) X k.ck).andThen .now).andThen (W.Looks.tag .now)))
 refine b7 (EC Y ?_);dsimp only;refine b7 (EC Y ?_);refine b7 (b.at (b7 (g.at ?_)));dsimp only;refine b7 (sA (Ff ?_));refine FA K'.plain W.KF.entry_gs
  (K'.check _ _ _ _ _ _ _ _ W.KF.type_class (W.KF.args_gs _ _ _) ?_)
 unfold Dx.«getset_descriptor.__get__» descrGet;rw[W.dga_obj];refine b7 (eM ?_)
 delta descrGetter descrCheckInstance descrNameAndClass isInstance
 simp only[W.KF.owner_class]
 repeat lk
 refine⟨IP _ (by decide +kernel),?_⟩;refine ss W.KF.entry_class ?_
 repeat lk
 exact h
theorem R_(k:iC K C):W.KitX K (.ref x) (.ref C) (mn x C) where
 ty:=λ_ _ _ p=>p.ty
 it:=λM h X _=>by
  obtain⟨cd,a⟩:=BI.mp k.cl
  delta MH at a
  split at a
  ·rename_i c
   intro e f g s' d q;exact b7 (M9 (d _ _ (X _ _ c)) (eM q))
  ·cases a
 ne:=λh i j J n sl X b=>by
  obtain⟨cd,a⟩:=BI.mp k.cl;refine Bool.eq_false_iff.mpr λq=>?_;rw[←(NK (Fe.mp q))]at b
  delta MH at a
  split at a
  ·rename_i c
   have z:=(X _ _ c).symm.trans b;cases z
  ·cases a
 ca:=λX I h=>zfq k X I h
end
inductive i3(K:fy)(H:Hp)(x c:V)(b:n_):Prop
 |i(d:_)(_:vH d=O c)(_:(∀u,aD c u->u=d))(_:((∃t,eW K H x t/\n' K t d=O b)\/∃a C,x = .ref a/\H a=O (fW a (.ref C))/\iC K C/\n' K (.ref C) d=O b))
theorem Rf:bw X (.builtin "isinstance") (λE H Q=>∃x c b,E=[x,c]/\i3 X.K H x c b/\Q (.bl b) H):=by
 intro g s A H E us Q I i h;obtain⟨x,c,b,rfl,⟨p,_,d,h1⟩,q⟩:=h;obtain⟨u,r,rfl,f,j⟩:=lY i;cases d _ j;rcases h1 with⟨t,ty,e⟩ |⟨a,C,rfl,l,k,e⟩
 ·exact zg3 I f ty e λtk=>⟨.bl b,H,I.tok tk,Y,q⟩
 ·cases (show u=ql a from f);obtain⟨⟨o,Z,h2,m,n⟩,_⟩:=(show bo X.prog X.w H s.heap a (fW a (.ref C)) from I.hok a _ l)
  exact Cq (R_ k) I.kIn ⟨o,Z,h2,m,n⟩ e (λz=>nomatch z) λtk=>⟨.bl b,H,I.tok tk,Y,q⟩
theorem vJ:∀bs:U n_,(rd bs.length).all (λi=>bs.getD i d_)=bs.all id
 |[]=>rfl
 |b::bs=>by
  simp only[r_,Dy,Ck,Dz,Ck,←vJ bs];rfl
theorem wo(l:X.calm=c0):bw X (.builtin "all") (λE H Q=>∃(p:ce)(bs:U n_),E=[.ref p]/\n7 X.K H p (bs.map V.bl)/\Q (.bl (bs.all id)) H):=by
 intro g s A H E us Q I m h;obtain⟨p,bs,rfl,n,q⟩:=h;obtain⟨u,rfl,f⟩:=df m;cases f;obtain⟨J,r,pl,hz⟩:=I.list n;have lt:p<s.heap.objs.size:=by
  obtain⟨o,_,e,_⟩:=pl;exact e_ e
 have a:bs.length=J.length:=by
  have:=r.length
  simp_all
 refine call_all_walk (C6 pl.isList ?_);refine⟨_,_,_,_,_,_,λi=>bs.getD i d_,Y,DJ (A:=X.A.in1) (I.ok.hd l) _ p (g_ lt) J.toArray,⟨⟨_,f6 _ Y,Y,Y⟩,pl.isList.push _⟩,?_,λh' tk w=>?_⟩
 ·intro i v s' x y c d;have c:J[i]?=O v:=by simpa using c
  have hi:i<bs.length:=by rw[a];exact (cs.mp c).1
  obtain⟨u,j,f⟩:=r.get (i:=i) (x:=V.bl bs[i]) (by simp[hi]);rw[c]at j;cases j;cases (show v=Cs bs[i] from f);have e:bs.getD i d_=bs[i]:=by simp[ hi]
  have d:x (bs.getD i d_) s':=d;rw[e]at d;exact eM d
 ·refine⟨.bl (bs.all id),H,I.kept (t':=tk) λb o e=>?_,?_,q⟩
  rotate_left
  ·show _=Cs _;simp only[hL,←a,vJ]
  ·exact w b o (by simpa using g_ (e_ e)) (b_ _ e)
theorem RD(n:X.calm=c0):bw X (.builtin "max") (λE H Q=>∃(p:ce)(ns:U gV)(M:gV),E=[.ref p]/\n7 X.K H p (ns.map V.int)/\M∈ns/\(∀a∈ns,a<=M)/\Q (.int M) H):=by
 intro g s A H E us Q I w h;obtain⟨p,ns,M,rfl,x,f,c,q⟩:=h;obtain⟨u,rfl,y⟩:=df w;cases y;obtain⟨J,r,pl,hz⟩:=I.list x;have hi:=nA r;obtain⟨b,e⟩:=hi.allInts.items;have l:ns=b.toList.map (·.1):=by
  have L:=hi.numsOf;have N:=IC b
  grind
 have d:0<b.size:=by
  have:ns.length=b.size:=by grind
  rw[←this];exact DA f
 refine max_intList (I.ok.hd n) (e ▸ pl.isList) d λv h' tk z B=>?_;obtain⟨t,rfl⟩:=ED z;obtain⟨h1,h2⟩:=argBest_gt (Cn b) (b.size - 1);have C:Cn b (w_ (λi j=>decide (Cn b i > Cn b j)) (b.size - 1))∈ns:=by
  rw[l,EX];exact getD_mem (by simp only[bd,li];omega)
 have D:∀a∈ns,a<=Cn b (w_ (λi j=>decide (Cn b i > Cn b j)) (b.size - 1)):=λa m=>by
  rw[l]at m;obtain⟨j,G,rfl⟩:=JI m;simp only[bd,li]at G;rw[←EX];exact h2 j (by exact DS ‹_›)
 have K:Cn b (w_ (λi j=>decide (Cn b i > Cn b j)) (b.size - 1))=M:=by
  have P:=c _ C;have R:=D _ f;omega
 exact⟨.int M,H,I.kept (t':=tk) B,⟨t,by rw[K]⟩,q⟩
theorem wv(n:X.calm=c0):bw X (.builtin "min") (λE H Q=>∃(p:ce)(ns:U gV)(M:gV),E=[.ref p]/\n7 X.K H p (ns.map V.int)/\M∈ns/\(∀a∈ns,M<=a)/\Q (.int M) H):=by
 intro g s A H E us Q I w h;obtain⟨p,ns,M,rfl,x,f,c,q⟩:=h;obtain⟨u,rfl,y⟩:=df w;cases y;obtain⟨J,r,pl,hz⟩:=I.list x;have hi:=nA r;obtain⟨b,e⟩:=hi.allInts.items;have l:ns=b.toList.map (·.1):=by
  have L:=hi.numsOf;have N:=IC b
  grind
 have d:0<b.size:=by
  have:ns.length=b.size:=by grind
  rw[←this];exact DA f
 refine min_intList (I.ok.hd n) (e ▸ pl.isList) d λv h' tk z B=>?_;obtain⟨t,rfl⟩:=ED z;obtain⟨h1,h2⟩:=argBest_lt (Cn b) (b.size - 1);have C:Cn b (w_ (λi j=>decide (Cn b i<Cn b j)) (b.size - 1))∈ns:=by
  rw[l,EX];exact getD_mem (by simp only[bd,li];omega)
 have D:∀a∈ns,Cn b (w_ (λi j=>decide (Cn b i<Cn b j)) (b.size - 1))<=a:=λa m=>by
  rw[l]at m;obtain⟨j,G,rfl⟩:=JI m;simp only[bd,li]at G;rw[←EX];exact h2 j (by exact DS ‹_›)
 have K:Cn b (w_ (λi j=>decide (Cn b i<Cn b j)) (b.size - 1))=M:=by
  have P:=c _ C;have R:=D _ f;omega
 exact⟨.int M,H,I.kept (t':=tk) B,⟨t,by rw[K]⟩,q⟩
theorem jT:∀{x:V},bN x=c0->Es x x=c0
 |.non,_=>rfl
 |.bl b,_=>by simp[Es]
 |.int i,_=>by simp[Es]
 |.str z,_=>by simp[Es]
def eY:U V->U V->n_
 |[],[]=>c0
 |x::E,y::ys=>Es x y && eY E ys
 |_,_=>d_
theorem w6:∀{E:U V},E.all bN=c0->eY E E=c0
 |[],_=>rfl
 |x::E,h=>by
  simp only[Ck,sB]at h;unfold eY;simp only[jT h.1,w6 h.2];rfl
theorem qN:∀{E ys:U V},E.length≠ys.length->eY E ys=d_
 |[],_::_,_=>rfl
 |_::_,[],_=>rfl
 |x::E,y::ys,h=>by
  unfold eY;simp only[qN (by simpa using h),Ee]
theorem qO:∀{E ys:U V},E.length=ys.length->(rd E.length).all (λj=>Es (E.getD j .non) (ys.getD j .non))=eY E ys
 |[],[],_=>rfl
 |x::E,y::ys,h=>by
  have h':E.length=ys.length:=by simpa using h
  simp only[r_,Dy,Ck,Dz];unfold eY;simp only[←qO h'];rfl
 |[],_::_,h=>by simp at h
theorem Uo(f:X.A.units<F8):DI X (su .Eq) (λx y H Q=>∃(p q:ce)(E ys:U V),x = .ref p/\y = .ref q/\n7 X.K H p E/\n7 X.K H q ys/\E.all bN=c0/\ys.all bN=c0/\Q (.bl (eY E ys)) H):=by
 intro g s A H x y v u Q I l m h;obtain⟨p,q,E,ys,rfl,rfl,n,w,z,B,k⟩:=h;cases l;cases m;obtain⟨J,r,pl,_⟩:=I.list n;obtain⟨c,i,d,_⟩:=I.list w;have l1:=r.length;have l2:=i.length;by_cases e:E.length=ys.length
 ·refine SeqAt.eq_listAt (e:=λj=>Es (E.getD j .non) (ys.getD j .non)) pl.isList d.isList (by simp only[hL,hL];simp_all) f (λj h1 h2=>?_) ?_
  ·simp only[hL]at h1 h2;obtain⟨a,N,C⟩:=r.get (i:=j) (x:=E[j]'(by simp_all)) (by simp);obtain⟨b,P,D⟩:=i.get (i:=j) (x:=ys[j]'(by simp_all)) (by simp);have G:J.toArray[j]=a:=by
    simp_all
   have K:c.toArray[j]=b:=by
    simp_all
   simp only[G,K];have L:E.getD j .non=E[j]'(by simp_all):=by simp[ show j<E.length by simp_all]
   have M:ys.getD j .non=ys[j]'(by simp_all):=by simp[ show j<ys.length by simp_all]
   simp only[L,M];exact qM C D (i_.mp z _ (j' _)) (i_.mp B _ (j' _))
  ·refine⟨.bl (eY E ys),H,I,?_,k⟩;show _=Cs _;simp only[hL,←l1,qO e]
 ·refine SeqAt.eq_list_lengthsAt pl.isList d.isList (by simp only[hL];simp;simp_all) f ⟨.bl (eY E ys),H,I,?_,k⟩;rw[qN e];rfl
theorem RV:Hz X "list.count" (λx Z H Q=>∃(p:ce)(E:U V)(y:V),x = .ref p/\Z=[y]/\H p=O (.lst E)/\E.all bN=c0/\bN y=c0/\Q (.int (E.countP λz=>Es z y)) H):=by
 intro g s A H x Z v us Q I d i h;obtain⟨p,E,y,rfl,rfl,j,c,l,q⟩:=h;cases d;obtain⟨u,rfl,m⟩:=i.one;obtain⟨z,J,n,r,C,e⟩:=I.lstM j;refine BX F.slot_list_count ⟨_,e,Y⟩ F.entry_list_count (F.args_list_count_2 _ _) (SeqAt.list_countAt p J.toArray n cx #[] u (GO y)) ⟨e,λw D=>iO m l r c w (by simp_all),?_⟩;refine⟨.int (E.countP λz=>Es z y),H,I.tok _,⟨s.toks,?_⟩,q⟩;have:∀{E:U V}{us:U cv},aB E us->E.all bN=c0->us.countP (GO y)=E.countP λz=>Es z y:=by
  intro E us r;induction r with
  |nil=>intro _;rfl
  |@cons a b l1 l2 h t B=>
   intro f;simp only[Ck,sB]at f;simp only[Jw,Jw,B f.2,lg h f.1]
 rw[ this r c]
theorem nM:Hz X "list.index" (λx Z H Q=>∃(p:ce)(E:U V)(y:V)(j:ft),x = .ref p/\Z=[y]/\H p=O (.lst E)/\E.all bN=c0/\bN y=c0/\
  (∃z,E[j]?=O z/\Es z y=c0)/\(∀m z,m<j->E[m]?=O z->Es z y=d_)/\Q (.int j) H):=by
 intro g s A H x Z v us Q I K L h;obtain⟨p,E,y,j,rfl,rfl,M,B,N,⟨T,c,P⟩,d,q⟩:=h;cases K;obtain⟨u,rfl,R⟩:=L.one;obtain⟨z,J,n,r,hl,e⟩:=I.lstM M;have hj:=(cs.mp c).1;have val:∀(m:ft) (f),∃b,E[m]?=O b/\GO y J[m]=Es b y:=λm f=>by
  have i:m<E.length:=by lia
  obtain⟨a,C,S⟩:=r.get (i:=m) (x:=E[m]) (by simp[i]);have:J[m]?=O J[m]:=by simp
  rw[this]at C;cases C;exact⟨E[m],by simp,lg S (i_.mp B _ (j' _))⟩
 refine BX F.slot_list_index ⟨_,e,Y⟩ F.entry_list_index (F.args_list_index_2 _ _) (SeqAt.list_indexAt p J.toArray n cx #[] u (GO y) j (by simp only[hL];lia) ?_ ?_ ?_) ⟨e,λw hw=>iO R N r B w (by simp_all),?_⟩
 ·have:=lw
  lia
 ·obtain⟨b,D,G⟩:=val j (by lia)
  grind
 ·intro m f l;obtain⟨b,D,G⟩:=val m f;simpa using G.trans (d m b l D)
 ·exact⟨.int j,H,I.tok _,⟨_,Y⟩,q⟩
theorem zoj(l:ce)(items:t_ cv)(n:ft)(p:eH ce)(sl:t_ (eH cv))(x:cv)(e:cv->n_)(j:ft)(A:j<items.size)(q:e items[j]=c0)(f:∀m (B:m<items.size),m<j->e items[m]=d_):
  Meets (Dx.«tuple.index» ⟨[.ref l,x],[]⟩)
   (λon R s=>s.heap.get? l=O { cls:=.type "tuple",dict:=p,data:=.seq items n,slots:=sl }/\(∀y,y∈items->Iz on.in1 s y x (e y))/\R (.ok (.ret (.int j s.toks))) { s with toks:=s.toks+1 }):=by
 intro prog w on R s h;obtain⟨r,Ab,d,tk,os⟩:=s;obtain⟨u,v,h⟩:=h;unfold Dx.«tuple.index»;simp only[Kd]
 wp_walk using wpAny_loadPart' u,wpAny_forIn_list _ (λcX b s'=>b.1=cx/\s'=⟨r,Ab,d,tk,os⟩/\∃i,i<=j/\cX=List.range' i (items.size - i)) _
 case turn=>
  rintro y cX b s' ⟨C,rfl,i,hi,c⟩;have a:i<items.size:=by exact Cd ‹_› ‹_›
  rw[show items.size - i=(items.size - i - 1)+1 by lia]at c;injection c with h1 h2
  subst h1;have z:items[y]?=O items[y]:=by simp[a]
  rw[z];refine b7 (v items[y] (Array.getElem_mem a) prog w _ _ ?_);by_cases g:y=j
  ·subst g
   wp_walk
   exact h
  ·rw[f y a (by exact FD ‹_› ‹_›)]
   wp_walk
   refine⟨Y,Y,y+1,by exact FD ‹_› ‹_›,?_⟩;rw[h2];congr 1
 case fin=>
  rintro b s' ⟨_,rfl,i,hi,c⟩;rw[show items.size - i=(items.size - i - 1)+1 by lia,List.range'_succ]at c;cases c
 case h=>
  exact⟨Y,Y,0,ot _,by simp[Ke]⟩
theorem yk:Hz X "tuple.index" (λx Z H Q=>∃(p:ce)(E:U V)(y:V)(j:ft),x = .ref p/\Z=[y]/\th X.K H p E/\E.all bN=c0/\bN y=c0/\
  (∃z,E[j]?=O z/\Es z y=c0)/\(∀m z,m<j->E[m]?=O z->Es z y=d_)/\Q (.int j) H):=by
 intro g s A H x Z v us Q I K L h;obtain⟨p,E,y,j,rfl,rfl,M,l,N,⟨z0,c,P⟩,d,q⟩:=h;cases K;obtain⟨u,rfl,R⟩:=L.one;obtain⟨J,r,⟨o,B,S,n,hd⟩,hz⟩:=I.tuple M;obtain⟨oc,od,da,sl⟩:=o;subst S hd;have hl:=r.length;have hj:=(cs.mp c).1;have val:∀(m:ft) (e),∃b,E[m]?=O b/\GO y J[m]=Es b y:=λm e=>by
  have f:m<E.length:=by lia
  obtain⟨a,C,T⟩:=r.get (i:=m) (x:=E[m]) (by simp);have:J[m]?=O J[m]:=by simp
  rw[this]at C;cases C;exact⟨E[m],by simp[f],lg T (i_.mp l _ (j' _))⟩
 refine BX F.slot_tuple_index ⟨_,B,Y⟩ F.entry_tuple_index (F.args_tuple_index_2 _ _) (zoj p J.toArray n od sl u (GO y) j (by simp only[hL];lia) ?_ ?_) ⟨B,λw hw=>iO R N r l w (by simp_all),?_⟩
 ·obtain⟨b,D,G⟩:=val j (by lia)
  grind
 ·intro m e i;obtain⟨b,D,G⟩:=val m e;simpa using G.trans (d m b i D)
 ·exact⟨.int j,H,I.tok _,⟨_,Y⟩,q⟩
theorem Wv:Hz X "int.bit_length" (λx Z H Q=>∃i:gV,x = .int i/\Z=[]/\Q (.int (E7 i)) H):=by
 intro g s A H x Z v us Q I a b h;obtain⟨i,rfl,rfl,q⟩:=h;obtain⟨t,rfl⟩:=a;cases b;exact call_gives F.slot_int_bit_length Y F.entry_int_bit_length (F.args_int_bit_length_1 _) (K7 i t) ⟨.int _,H,I.tok _,⟨_,Y⟩,q⟩
theorem bi{i:gV}(a:∃t,X.mg x=O (.int i t))(b:Gl X x:=by rfl)(hd:(x ==("__debug__" : hO))=d_:=by decide):PE X (.Name x pos) (tC (.int i)):=by
 obtain⟨t,e⟩:=a;exact y8 b e ⟨t,Y⟩ hd
theorem dJ(b:X.mg x=O (.ref a))(c:Gl X x:=by rfl)(hd:(x ==("__debug__" : hO))=d_:=by decide):PE X (.Name x pos) (tC (.ref a)):=
 y8 c b Y hd
theorem gM{n:BP}(a:X.mg x=cx)(b:Dj x=O (.type n))(c:Gl X x:=by rfl)(d:x ≠ "__name__" :=by decide)(hd:(x ==("__debug__" : hO))=d_:=by decide):PE X (.Name x pos) (tC (.ty n)):=
 Tp c a b Y d hd
theorem gG{x:V}{T:BP}{t:cv}{b:n_}(ty:eW K H x t)(e:n' K t (.type T)=O b):i3 K H x (.ty T) b:=
 ⟨.type T,Y,λ_ r=>r,.inl ⟨t,ty,e⟩⟩
theorem zg1{D:ce}{b:n_}(h:H a=O (fW a (.ref C)))(k:iC K C)(e:n' K (.ref C) (.ref D)=O b):i3 K H (.ref a) (.ref D) b:=
 ⟨.ref D,Y,λ_ r=>r,.inr ⟨a,C,Y,h,k,e⟩⟩
theorem WV{T:BP}{b:n_}(h:H a=O (fW a (.ref C)))(k:iC K C)(e:n' K (.ref C) (.type T)=O b):i3 K H (.ref a) (.ty T) b:=
 ⟨.type T,Y,λ_ r=>r,.inr ⟨a,C,Y,h,k,e⟩⟩
def CW(n:ft)(Pv:ft->U V->Hp->Prop)(i m:ft)(acc:U V)(H:Hp):Prop:=m=n - i/\i<=n/\Pv i acc H
theorem cw{Pv:ft->U V->Hp->Prop}(hi:i<n)(h:Pv (i+1) acc H):∃a,a<n - i/\CW n Pv (i+1) a acc H:=⟨n - (i+1),by omega,Y,hi,h⟩
theorem cE{fr:U (eH ft)}(Pv:ft->U V->Hp->Prop)(j:Pv 0 [] H)(l:∀i acc H,i<=E.length->Pv i acc H->n7 K H a E/\acc.length<=i)(hz:E.length<=fx)(n:∀i x acc H,E[i]?=O x->i<E.length->Pv i acc H->Ab x (stC fr A) H λc H2=>Wk (stC fr A) c/\tc c H2 λb f=>
   if b=c0 then te c f λy g=>∃d,d<E.length - i/\CW E.length Pv (i+1) d (acc++[y]) g else ∃d,d<E.length - i/\CW E.length Pv (i+1) d acc f)(hd:∀acc H,Pv E.length acc H->Qe acc H):
  ∃W:ft->ft->U V->Hp->Prop,(∃m,W 0 m [] H)/\∀i m acc H,W i m acc H->
   ((Ko K a).stop i H/\Qe acc H)\/
   ((Ko K a).go i H/\acc.length<fx/\∀x H',(Ko K a).yld i H x H'->Ab x (stC fr A) H' λc H2=>Wk (stC fr A) c/\tc c H2 λb f=>
    if b=c0 then te c f λy g=>∃d,d<m/\W (i+1) d (acc++[y]) g else ∃d,d<m/\W (i+1) d acc f):=by
 refine⟨CW E.length Pv,⟨E.length,by simp,ot _,j⟩,?_⟩;rintro i m acc H ⟨rfl,hi,p⟩;obtain⟨q,r⟩:=l i acc H hi p;by_cases h:i<E.length
 ·refine .inr ⟨⟨E,E[i],q,by simp⟩,by lia,λx H' y=>?_⟩;obtain⟨e,y⟩:=y;subst e;exact n i x acc _ (y E q) h p
 ·have e:i=E.length:=by lia
  subst e;exact .inl ⟨⟨E,q,dv _⟩,hd acc H p⟩
theorem mT{fr:U (eH ft)}(Pv:ft->U V->Hp->Prop)(j:Pv 0 [] H)(l:∀i acc H,i<=E.length->Pv i acc H->th K H a E/\acc.length<=i)(hz:E.length<=fx)(n:∀i x acc H,E[i]?=O x->i<E.length->Pv i acc H->Ab x (stC fr A) H λc H2=>Wk (stC fr A) c/\tc c H2 λb f=>
   if b=c0 then te c f λy g=>∃d,d<E.length - i/\CW E.length Pv (i+1) d (acc++[y]) g else ∃d,d<E.length - i/\CW E.length Pv (i+1) d acc f)(hd:∀acc H,Pv E.length acc H->Qe acc H):
  ∃W:ft->ft->U V->Hp->Prop,(∃m,W 0 m [] H)/\∀i m acc H,W i m acc H->
   ((Kl K a).stop i H/\Qe acc H)\/
   ((Kl K a).go i H/\acc.length<fx/\∀x H',(Kl K a).yld i H x H'->Ab x (stC fr A) H' λc H2=>Wk (stC fr A) c/\tc c H2 λb f=>
    if b=c0 then te c f λy g=>∃d,d<m/\W (i+1) d (acc++[y]) g else ∃d,d<m/\W (i+1) d acc f):=by
 refine⟨CW E.length Pv,⟨E.length,by simp,ot _,j⟩,?_⟩;rintro i m acc H ⟨rfl,hi,p⟩;obtain⟨q,r⟩:=l i acc H hi p;by_cases h:i<E.length
 ·refine .inr ⟨⟨E,E[i],q,by simp⟩,by lia,λx H' y=>?_⟩;obtain⟨e,y⟩:=y;subst e;exact n i x acc _ (y E q) h p
 ·have e:i=E.length:=by lia
  subst e;exact .inl ⟨⟨E,q,dv _⟩,hd acc H p⟩
theorem iG{fr:U (eH ft)}(Pv:ft->U V->Hp->Prop)(h:Pv 0 [] H)(j:∀i acc H,i<=n->Pv i acc H->acc.length<=i)(hz:n<=fx)(l:∀i acc H,i<n->Pv i acc H->Ab (.int (lo+i)) (stC fr A) H λa H2=>Wk (stC fr A) a/\tc a H2 λb d=>
   if b=c0 then te a d λy g=>∃c,c<n - i/\CW n Pv (i+1) c (acc++[y]) g else ∃c,c<n - i/\CW n Pv (i+1) c acc d)(hd:∀acc H,Pv n acc H->Qe acc H):
  ∃W:ft->ft->U V->Hp->Prop,(∃m,W 0 m [] H)/\∀i m acc H,W i m acc H->
   ((JV lo n).stop i H/\Qe acc H)\/
   ((JV lo n).go i H/\acc.length<fx/\∀x H',(JV lo n).yld i H x H'->Ab x (stC fr A) H' λa H2=>Wk (stC fr A) a/\tc a H2 λb d=>
    if b=c0 then te a d λy g=>∃c,c<m/\W (i+1) c (acc++[y]) g else ∃c,c<m/\W (i+1) c acc d):=by
 refine⟨CW n Pv,⟨n,by simp,ot _,h⟩,?_⟩;rintro i m acc H ⟨rfl,hi,p⟩;have q:=j i acc H hi p;by_cases f:i<n
 ·refine .inr ⟨f,by lia,λx H' y=>?_⟩;obtain⟨e,y⟩:=y;subst e y;exact l i acc _ f p
 ·have e:i=n:=by lia
  subst e;exact .inl ⟨dv _,hd acc H p⟩
theorem tT{on B:Hp->Prop}(h:on H):lX A H (λb a=>if b=c0 then on a else B a):=by
 assumption
theorem vr.okX{f:ce}{k:ft}(F:vr K x N st f fd)(S:cn Ac ps (aR st))(len:∀Z H Q no,sp Z H Q no->Z.length=ps.length)(a:∀(cdv:cv)(on:BF)(outer:U FZ)(s:f0)(H:Hp)(Z:U V)(Q:VK)(no:XK),bj k (on.deeper (Ej N (aR st) s.heap.objs.size f cdv))->sp Z H Q no->
   ∃t,FX (c6 (yl Aa w) Aa w K mg base Ac N (aR st) f cdv on outer s H no) (cF st) t/\t { nx:=λ_ H'=>Q .non H',rt:=Q } (fC Ac Z) H):ap Aa w K mg base (yl Aa w) (k+1) f fd ps sp:=by
 obtain⟨oc,od,kV,doc,pm,an,cdv,ct,osl,rfl,lk,b⟩:=F.ex;exact qP lk b S len λon outer s H Z Q no d c=>a cdv on outer s H Z Q no d c
theorem vr.o{f:ce}{k:ft}(F:vr K x N st f fd)(Ac:U hO)(a:Ac.Nodup->∀(cdv:cv)(on:BF)(outer:U FZ)(s:f0)(H:Hp)(Z:U V)(Q:VK)(no:XK),bj k (on.deeper (Ej N (aR st) s.heap.objs.size f cdv))->sp Z H Q no->
   ∃t,FX (c6 q_ Aa w K mg base Ac N (aR st) f cdv on outer s H no).nox (cF st) t/\t { nx:=λ_ H'=>Q .non H',rt:=Q } (fC Ac Z) H)(S:cn Ac ps (aR st):=by exact⟨Y,Y,Y,by decide +kernel,Y,by decide +kernel,by decide +kernel⟩)(len:∀Z H Q no,sp Z H Q no->Z.length=ps.length:=by rintro _ _ _ _ ⟨⟩;subst_vars;rfl):ap Aa w K mg base q_ (k+1) f fd ps sp:=F.ok S len (a S.nd)
theorem vr.oX{f:ce}{k:ft}(F:vr K x N st f fd)(Ac:U hO)(a:Ac.Nodup->∀(cdv:cv)(on:BF)(outer:U FZ)(s:f0)(H:Hp)(Z:U V)(Q:VK)(no:XK),bj k (on.deeper (Ej N (aR st) s.heap.objs.size f cdv))->sp Z H Q no->
   ∃t,FX (c6 (yl Aa w) Aa w K mg base Ac N (aR st) f cdv on outer s H no) (cF st) t/\t { nx:=λ_ H'=>Q .non H',rt:=Q } (fC Ac Z) H)(S:cn Ac ps (aR st):=by exact⟨Y,Y,Y,by decide +kernel,Y,by decide +kernel,by decide +kernel⟩)(len:∀Z H Q no,sp Z H Q no->Z.length=ps.length:=by rintro _ _ _ _ ⟨⟩;subst_vars;rfl):ap Aa w K mg base (yl Aa w) (k+1) f fd ps sp:=F.okX S len (a S.nd)
theorem ay{p:ce}{o:HO}(h:ad H H')(a:H' p=cx):ad H (upd H' p o):=λb u e=>by
 exact (ag (aF (h b u e) a)) ▸ (h b u e)
inductive uG(Aa:sJ)(w:uF)(K:fy)(mg:hO->eH cv)(base:sG)(CX:HL)(k:ft)(x:hO)(ps:U hO)(sp:Sp):Prop
 |i(f fd:_)(_:ap Aa w K mg base CX k f fd ps sp)(_:mg x=O (.ref f))(_:BD K (.ref f)=c0)(_:cM K fd ps [])
theorem uG.pe{k:ft}{no:XK}{t:TA}(C:uG X.prog X.w X.K X.mg X.base CX k x ps sp)(c:bj j X.A)(d:di CX X no)(g:PA X (e::es) t)(h:k<=j:=by decide)(i:Gl X x:=by rfl)(a:(x ==("__debug__" : hO))=d_:=by decide)(l:i' (e::es) X.env=(d_,eval e X.env)::i' es X.env:=by rfl)(b:(zG pos (i' es X.env)).any (·.1)=d_:=by rfl):
  PE X (.Call (.Name x p) (e::es) [] pos) (uT sp [] no t):=by
 obtain⟨f,fd,G,m,n,q⟩:=C;exact Y6 G (c.mono h) i m n q .nil d g a l b
inductive aZ(Aa:sJ)(w:uF)(K:fy)(mg:hO->eH cv)(base:sG)(CX:HL)(k:ft)(C:ce)(m:hO)(ps:U hO)(sp:Sp):Prop
 |i(f fd:_)(_:ap Aa w K mg base CX k f fd ps sp)(_:i4 K C m f)(_:cM K fd ps [])
inductive iA(Aa:sJ)(w:uF)(K:fy)(mg:hO->eH cv)(base:sG)(CX:HL)(k:ft)(C:ce)(ps:U hO)(sp:Sp):Prop
 |i(f fd:_)(_:ap Aa w K mg base CX k f fd ps sp)(_:Mk K C f)(_:cM K fd ps [])
section
variable{a:tA}
inductive Yy(K:fy)(Q:n_->Hp->Prop)(x:V)(H':Hp):Prop
 |i(p E:_)(_:x = .ref p)(_:n7 K H' p E)(_:Q (!E.isEmpty) H')
def OA(K:fy)(ta:TE):TT:=λA H Q=>ta A H λx H'=>Yy K Q x H'
theorem TZ(c:PE X a ta)(d:∀b,isTrue a X.env b=(do let v ←b;FI a.pos;EB [v] (IV v)):=by intro _;rfl):PT X a (OA X.K ta):=by
 intro g s A H Q I h;exact IW (wd (c g s A H _ I h) λv f ⟨x,H1,i,j,p,E,e,l,m⟩=>by
  subst e;exact NT g f A H1 (.ref p) v Q i j ⟨_,.inl ⟨E,l,Y⟩,m⟩) (d _)
structure vG(c:TT)(tb:TS)(D:fE)(σ:St)(H:Hp):Prop where
 go:Q7 c tb D σ H
theorem sM{c:tA}(a:IJ (hY X.prog X.w) X.A X.env X.xe)(b:PT X c tc)(d:FX X body tb):PS X (.While c body [] pos) (vG tc tb):=
 λg s A H D I h=>RH a b d g s A H D I h.go
inductive Xe(wi:TI)(A:St)(H:Hp)(R:It->Hp->Prop):Prop
 |i(a:It->Hp->Prop)(_:wi A H a)(_:∀Ae H1,a Ae H1->R Ae H1)
theorem PI.mono(h:PI X tg iter wi):PI X tg iter (Xe wi):=by
 intro g s A H R I q;obtain⟨b,q,k⟩:=q;exact wd (h g s A H b I q) λv m c=>wd c λd s2 ⟨it,fp,f,Ae,H2,e,i,T,a,j,l⟩=>⟨it,fp,f,Ae,H2,e,i,T,a,j,k _ _ l⟩
structure vy(J:It)(g:TG)(tb:TS)(D:fE)(σ:St)(H1:Hp):Prop where
 go:∃W:ft->ft->St->Hp->Prop,(∃m,W 0 m σ H1)/\∀i m σ H,W i m σ H->
  (J.stop i H/\D.nx σ H)\/(J.go i H/\∃N:St->Hp->Prop,(∀σ' H',N σ' H'->∃m',m'<m/\W (i+1) m' σ' H')/\∀x H',J.yld i H x H'->g x σ H' λσ2 H2=>tb { D with nx:=N,ct:=N,bk:=D.nx } σ2 H2)
def WN(wi:TI)(Ab:TG)(tb:TS):TS:=λD A H=>wi A H λAe H1=>vy Ae Ab tb D A H1
theorem fg(a:IJ (hY X.prog X.w) X.A X.env X.xe)(b:X.calm=c0)(hi:PI X tg iter wi)(c:PG X tg Ab)(d:FX X body tb)(e:∀x,Bc iter X.env x=zJ x:=by intro _;rfl):PS X (.For tg iter body [] pos) (WN wi Ab tb):=
 λg s A H D I h=>zk a b hi.mono c d e g s A H D I ⟨_,h,λ_ _ q=>q.go⟩
structure kN(fr:U (eH ft))(J:It)(g:TG)(tc:TT)(te:TE)(σ:St)(H1:Hp)(Q:VK):Prop where
  go:∃W:ft->ft->U V->Hp->Prop,(∃m,W 0 m [] H1)/\∀i m acc H,W i m acc H->
    (J.stop i H/\∀p,H p=cx->Q (.ref p) (upd H p (.lst acc)))\/
    (J.go i H/\acc.length<fx/\∀x H',J.yld i H x H'->g x (stC fr σ) H' λσ2 H2=>Wk (stC fr σ) σ2/\tc σ2 H2 λb H3=>
       if b=c0 then te σ2 H3 λy H4=>∃m',m'<m/\W (i+1) m' (acc++[y]) H4 else ∃m',m'<m/\W (i+1) m' acc H3)
def OP(fr:U (eH ft))(wi:TI)(Ab:TG)(tc:TT)(te:TE):TE:=λA H Q=>wi A H λAe H1=>kN fr Ae Ab tc te A H1 Q
theorem bK{fr:U (eH ft)}(S:dD X Ac L fr)(a:X.calm=c0)(hi:PI X tg iter wi)(b:∀C fp s H,PG (ba X Ac L C fp s H) tg Ab/\g8 (ba X Ac L C fp s H) ifs tc/\PE (ba X Ac L C fp s H) elt te)(c:∀x,Bc iter X.env x=zJ x:=by intro _;rfl):
  PE X (.ListComp elt [⟨tg,iter,ifs,0⟩] L pos) (OP fr wi Ab tc te):=
 λg s A H Q I h=>n9 S a hi.mono b c g s A H Q I ⟨_,h,λ_ _ q=>q.go⟩
theorem gN{y:hO}{fr:U (eH ft)}(c:X.N.Nodup)(a:X.N[i]?=O y)(d:Loc X.env.scope y)(S:dD X Ac L fr)(e:X.calm=c0)(hi:PI X tg iter wi)(f:∀C fp s H,PG (ba X Ac L C fp s H) tg Ab/\g8 (ba X Ac L C fp s H) ifs tc/\PE (ba X Ac L C fp s H) elt te)(b:Eu (.ListComp elt [⟨tg,iter,ifs,0⟩] L pos) (O (.Name y py)) spos.line X.env=zJ c0:=by rfl)(j:X.fn y=c0\/X.env.scope.names.lookup y=O .local:=by first |exact .inl Y |exact .inr Y |assumption)(l:∀x,Bc iter X.env x=zJ x:=by intro _;rfl):
  PS X (.Assign [.Name y py] (.ListComp elt [⟨tg,iter,ifs,0⟩] L pos) spos) (ky (OP fr wi Ab tc te) (fv i)):=
 λg s A H D I h=>zma c a d S e hi.mono f b j l g s A H D I ⟨_,h,λ_ _ q=>q.go⟩
theorem u8{c:TT}(Pv:St->Hp->Prop)(d:St->Hp->ft)(g:Pv A H)(h:∀m A H,m=d A H->Pv A H->c A H λb H1=>if b=c0 then ∃Ac:St->Hp->Prop,(∀a H',Ac a H'->∃f,f<m/\(f=d a H'/\Pv a H'))/\tb { D with nx:=Ac,ct:=Ac,bk:=D.nx } A H1 else D.nx A H1):vG c tb D A H:=
 ⟨λm A H=>m=d A H/\Pv A H,⟨_,Y,g⟩,by rintro m A H ⟨e,p⟩;exact h m A H e p⟩
theorem wN{Pv:St->Hp->Prop}{b:St->Hp->ft}{m:ft}:∀a H',(Pv a H'/\b a H'<m)->∃c,c<m/\(c=b a H'/\Pv a H'):=λ_ _ h=>⟨_,h.2,Y,h.1⟩
theorem cS{E:U α}{i:gV}{v:α}(a:0<=i)(h:E[i.toNat]?=O v):FY E i=O v:=by
 have:=dX h
 rwa[Db a]at this
theorem ad.new{p:ce}{o:HO}(a:H p=cx):ad H (upd H p o):=ay (ad.refl H) a
end
inductive V5(K:fy)(E:U V)(H:Hp)(Q:VK):Prop
 |i(p ys:_)(_:E=[.ref p])(_:(n7 K H p ys\/th K H p ys))(_:Q (.int ys.length) H)
inductive Ss(K:fy)(E:U V)(H:Hp)(Q:VK):Prop
 |i(p ys:_)(_:E=[.ref p])(_:(n7 K H p ys\/th K H p ys))(_:∀l,H l=cx->Q (.ref l) (upd H l (.lst ys)))
inductive UL(K:fy)(E:U V)(H:Hp)(Q:VK):Prop
 |i(x c b:_)(_:E=[x,c])(_:i3 K H x c b)(_:Q (.bl b) H)
inductive To(K:fy)(E:U V)(H:Hp)(Q:VK):Prop
 |i(p:ce)(bs:U n_)(_:E=[.ref p])(_:n7 K H p (bs.map V.bl))(_:Q (.bl (bs.all id)) H)
inductive zmz(K:fy)(E:U V)(H:Hp)(Q:VK):Prop
 |i(p:ce)(ns:U gV)(M:gV)(_:E=[.ref p])(_:n7 K H p (ns.map V.int))(_:M∈ns)(_:(∀a∈ns,a<=M))(_:Q (.int M) H)
inductive W8(K:fy)(E:U V)(H:Hp)(Q:VK):Prop
 |i(p:ce)(ns:U gV)(M:gV)(_:E=[.ref p])(_:n7 K H p (ns.map V.int))(_:M∈ns)(_:(∀a∈ns,M<=a))(_:Q (.int M) H)
inductive QW(K:fy)(x:V)(y:V)(H:Hp)(Q:VK):Prop
 |i(p q:ce)(E ys:U V)(_:x = .ref p)(_:y = .ref q)(_:n7 K H p E)(_:n7 K H q ys)(_:E.all bN=c0)(_:ys.all bN=c0)(_:Q (.bl (eY E ys)) H)
inductive YZ(K:fy)(x:V)(Z:U V)(H:Hp)(Q:VK):Prop
 |i(p:ce)(E:U V)(y:V)(j:ft)(_:x = .ref p)(_:Z=[y])(_:th K H p E)(_:E.all bN=c0)(_:bN y=c0)(_:(∃z,E[j]?=O z/\Es z y=c0))(_:(∀m z,m<j->E[m]?=O z->Es z y=d_))(_:Q (.int j) H)
section
variable(K:fy){a:tA}
theorem bF(h:X.K=K:=by rfl):JX X (oz K):=h ▸ xN
theorem aT(h:X.K=K:=by rfl):JX X (zp K):=h ▸ xP
theorem tU(h:X.K=K:=by rfl):JU X (zt K):=h ▸ Sg
theorem km(h:X.K=K:=by rfl):JU X (zu K):=h ▸ XS
theorem iU(h:X.K=K:=by rfl):DI X (su .In) (MS K d_):=h ▸ ZO
theorem ZM(h:X.K=K:=by rfl):DI X (su .NotIn) (MS K c0):=h ▸ yY
theorem DI.ex{r r':R2}(h:DI X f r)(k:∀x y H Q,r' x y H Q->r x y H Q):DI X f r':=λ_ _ _ _ _ _ _ _ _ I l m n=>h _ _ _ _ _ _ _ _ _ I l m (k _ _ _ _ n)
theorem bw.ex{f:cv}{r r':U V->Hp->VK->Prop}(h:bw X f r)(k:∀x H Q,r' x H Q->r x H Q):bw X f r':=λ_ _ _ _ _ _ _ I m n=>h _ _ _ _ _ _ _ I m (k _ _ _ n)
theorem Hz.ex{f:BP}(h:Hz X f r)(k:∀x y H Q,r' x y H Q->r x y H Q):Hz X f r':=λ_ _ _ _ _ _ _ _ _ I l m n=>h _ _ _ _ _ _ _ _ _ I l m (k _ _ _ _ n)
theorem YB(g:X.A.units+1<F8)(h:X.K=K:=by rfl):DI X (su .Eq) (QW K):=by
 subst h;exact (Uo (Jx g)).ex λ_ _ _ _ ⟨a,b,c,d,e,f,Ab,h,i,j,k⟩=>⟨a,b,c,d,e,f,Ab,h,i,j,k⟩
theorem cD(h:X.K=K:=by rfl):bw X (.builtin "len") (V5 K):=by subst h;exact wq.ex λ_ _ _ ⟨a,b,c,d,e⟩=>⟨a,b,c,d,e⟩
theorem wu(h:X.K=K:=by rfl):bw X (.type "list") (Ss K):=by subst h;exact TR.ex λ_ _ _ ⟨a,b,c,d,e⟩=>⟨a,b,c,d,e⟩
theorem dj(h:X.K=K:=by rfl):bw X (.builtin "isinstance") (UL K):=by subst h;exact Rf.ex λ_ _ _ ⟨a,b,c,d,e,f⟩=>⟨a,b,c,d,e,f⟩
theorem jO(f:X.calm=c0)(h:X.K=K:=by rfl):bw X (.builtin "all") (To K):=by subst h;exact (wo f).ex λ_ _ _ ⟨a,b,c,d,e⟩=>⟨a,b,c,d,e⟩
theorem V'(g:X.calm=c0)(h:X.K=K:=by rfl):bw X (.builtin "max") (zmz K):=by subst h;exact (RD g).ex λ_ _ _ ⟨a,b,c,d,e,f,Ab,h⟩=>⟨a,b,c,d,e,f,Ab,h⟩
theorem VA(g:X.calm=c0)(h:X.K=K:=by rfl):bw X (.builtin "min") (W8 K):=by subst h;exact (wv g).ex λ_ _ _ ⟨a,b,c,d,e,f,Ab,h⟩=>⟨a,b,c,d,e,f,Ab,h⟩
theorem Vu(h:X.K=K:=by rfl):Hz X "tuple.index" (YZ K):=by subst h;exact yk.ex λ_ _ _ _ ⟨a,b,c,d,e,f,Ab,h,i,j,k,l⟩=>⟨a,b,c,d,e,f,Ab,h,i,j,k,l⟩
theorem Sw(c:PE X a ta)(h:X.K=K:=by rfl)(d:∀b,isTrue a X.env b=(do let v ←b;FI a.pos;EB [v] (IV v)):=by intro _;rfl):PT X a (OA K ta):=by
 subst h;exact TZ c d
theorem bz{f:hO}(a:PE X e ta)(b:BC e f X.env (eval e X.env)=eval e X.env)(h:X.K=K:=by rfl):PE X (.Attribute e f pos) (ix K ta f):=by
 subst h;exact cO a b
variable{g:tA}{q:TA}{T p:BP}
theorem cU(j:K2 T)(d:Slot T name p)(i:K3 (.builtin p)=zJ (.type "method_descriptor"))(l:Hz X p r)(m:PE X g to)(n:PA X (e::es) q)(h:X.K=K:=by rfl)(b:BC g name X.env (eval g X.env)=eval g X.env:=by rfl)(f:((zG cpos (i' (e::es) X.env)).all (λx=>!x.1) && (Ez cpos (C_ [] X.env)).all (λx=>x.1.isSome)
   && decide ((e::es).length+([]:U Fg).length+(if ([]:U Fg).isEmpty then 0 else 1)<30))=c0:=by rfl)(c:(apos.endLine ==cpos.line)=c0:=by rfl)(s:i' (e::es) X.env=(d_,eval e X.env)::i' es X.env:=by rfl)(a:(zG cpos (i' es X.env)).any (·.1)=d_:=by rfl):
  PE X (.Call (.Attribute g name apos) (e::es) [] cpos) (N4 K T r to q):=by
 subst h;exact si j d i l m n b f c s a
end
theorem Inv.turnedL(I:Inv X g A H s)(k:∀b o,b∉ch->s.heap.get? b=O o->h'.get? b=O o)(f:∀b∈ch,fF X g H b):Inv X g A H { s with heap:=h',toks:=t' }:=by
 have d:∀b u,H b=O u->b∉ch:=λb u e z=>by rw[(f b z).1]at e;cases e
 refine I.step (g':=s.gens) (d':=s.drawn) (λb h=>?_) (λb o _ _ a e _=>k b o a e) (λb o _ _ a e _=>⟨o.slots,k b o a e⟩) (λ_ _ _ _ n=>n)
  (λb o a e=>⟨o,k b o a e⟩) (λ_ _ e=>e) (λ_ _ _ e=>e) (λb ps e=>⟨#[],by simp_all⟩) (λm i=>?_) (λb u e=>?_) I.bare
 ·obtain⟨y,j,B,l,p,w⟩:=f b h;exact⟨l,j,p,w⟩
 ·obtain⟨o,es,ep,x,r⟩:=i;exact⟨o,es,ep,k _ o (λz=>(f _ z).2.1 Y) x,r⟩
 ·refine (I.hok b u e).stay (λc v a q=>k c v ?_ q) (λ_ q=>q) λ_ _ q=>q;rcases a with z |z
  ·exact z ▸ (d b u e)
  ·exact d c _ z
def LI(K:fy)(a b:ce):It:=
  ⟨λi H=>∃E ys x y,n7 K H a E/\n7 K H b ys/\E[i]?=O x/\ys[i]?=O y,
   λi H v H'=>∃T,H T=cx/\v = .ref T/\∀E ys,n7 K H a E->n7 K H b ys->∃x y,E[i]?=O x/\ys[i]?=O y/\H'=upd H T (.tup [x,y]),
   λi H=>∃E ys,n7 K H a E/\n7 K H b ys/\(E.length<=i\/ys.length<=i)⟩
theorem M'{e f:ce}(h:c∈[a,b,d,e,f]):c=a\/c=b\/c=d\/c=e\/c=f:=by simp_all
theorem oS{TI TO:ce}(h:c∈[z,TO,i1,i2]):c∈[z,TI,TO,i1,i2]:=by grind
theorem iR{x:ce}(h1:x≠a)(h2:x≠b)(d:x≠c):x∉[a,b,c]:=by simp_all
theorem nP{x:ce}(h:x∉[a,b,c,d]):x≠a/\x≠b/\x≠c/\x≠d:=by simpa using h
theorem UY{k:ft}(a b z TI TO i1 i2:ce)(D:G0 z TI TO i1 i2 a b):
  fJ Aa w K (.Tuple elts k pos) (LI K a b) [z,TI,TO,i1,i2] z (λi h=>G1 h z TI TO .none/\BR h TI (.ref i1) (.ref i2)/\(∃c d,BR h TO c d)/\h.IsListIter i1 a i/\h.IsListIter i2 b i) where
 mem:=by simp
 obj:=λi h st c G=>by
  obtain⟨h1,h2,⟨_,_,m⟩,⟨o1,e1,c1,d1⟩,⟨o2,e2,c2,d2⟩⟩:=st;rcases M' G with rfl |rfl |rfl |rfl |rfl
  ·exact⟨_,h1,λv z=>by cases z⟩
  ·exact⟨_,h2,λv z=>by cases z⟩
  ·exact⟨_,m,λv z=>by cases z⟩
  ·exact⟨o1,e1,λv z=>by rw[d1]at z;cases z⟩
  ·exact⟨o2,e2,λv z=>by rw[d2]at z;cases z⟩
 keep:=λi h h' st kk=>by
  obtain⟨h1,h2,⟨c,d,m⟩,B,C⟩:=st;exact⟨kk z (.head _) _ h1,kk TI (.tail _ (.head _)) _ h2,⟨c,d,kk TO (.tail _ (.tail _ (.head _))) _ m⟩,B.at λo e=>kk i1 (.tail _ (.tail _ (.tail _ (.head _)))) o e,C.at λo e=>kk i2 (.tail _ (.tail _ (.tail _ (.tail _ (.head _))))) o e⟩
 item:=by
  intro X J hw hK G i g s A H no I S st hg;subst J hw hK;obtain⟨E,ys,x,y,r,u,hx,hy⟩:=hg;obtain⟨ia,ra,pa,_⟩:=I.list r;obtain⟨ib,rb,pb,_⟩:=I.list u;obtain⟨ux,L,A0⟩:=ra.get hx;obtain⟨uy,M,A1⟩:=rb.get hy;have A5:=(cs.mp L).1;have A6:=(cs.mp M).1;have W:=WalksT.zip2 (prog:=X.prog) (w:=X.w) (I.ok.hd G) z TI TO i1 i2 a b D ia.toArray ib.toArray;obtain⟨h1,h2,m,B,C⟩:=id st;refine W.item i s _ _ (by simp only[hL,hL];exact Nat.le_min.mpr ⟨‹_›,‹_›⟩) ⟨h1,h2,m,B,C,pa.isList,pb.isList⟩ λT A4 h' tk J Z N hM hk=>?_;refine⟨.ref T,Y,W.go elts k pos i T { s with heap:=h',toks:=tk } _ _ hM λP l Q=>?_⟩;obtain⟨x',y',ex,ey,rfl⟩:=J;have A2:ux=x':=by
   have:ia[i]?=O x':=by simpa using ex
   rw[L]at this;exact kn this
  have A3:uy=y':=by
   have:ib[i]?=O y':=by simpa using ey
   rw[M]at this;exact kn this
  subst A2 A3;have I1:Inv X g A H { s with heap:=P,toks:=tk }:=I.turnedL (λc o f e=>Q c o f (hk c o f e)) λc f=>S c (oS f);have R:=I.hok.fresh Z;have j:∀{c:ce}{o:z_},s.heap.get? c=O o->c≠T:=λe=>g_ (hJ (e_ e) Z);have I2:Inv X g A (upd H T (.tup [x,y])) { s with heap:=P,toks:=tk }:=by
   refine I1.track R ?_ (λe=>?_) (λn c e q=>?_) (λp hp e=>?_) ?_
   ·cases q:X.s₀.heap.get? T with
    |none=>rfl
    |some o=>exact hQ (hJ (e_ q) (jE I.sz Z)) (rc _)
   ·exact hQ (hJ I.lt Z) (by exact e ▸ (rc _))
   ·obtain⟨v,o,ho,_⟩:=I.cell n c e;exact j ho q
   ·exact j (I.pin p hp).1 e
   ·exact⟨by show 2<=fx;decide,[ux,uy],.cons A0 (.cons A1 .nil),(N.at λo e=>Q T o (W.apart i T _ hM) e)⟩
  refine⟨.ref T,_,I2,Y,⟨T,R,Y,λA7 A8 qa qb=>?_⟩,⟨l.1,l.2.1,l.2.2.1,l.2.2.2.1,l.2.2.2.2.1⟩,λc f=>?_⟩
  ·rw[I.list_inj qa r,I.list_inj qb u];exact⟨x,y,hx,hy,Y⟩
  ·have:c≠T:=by
    obtain⟨c1,d1,m⟩:=m;obtain⟨o1,e1,_⟩:=B;obtain⟨o2,e2,_⟩:=C;rcases M' f with rfl |rfl |rfl |rfl |rfl
    ·exact j h1
    ·exact j h2
    ·exact j m
    ·exact j e1
    ·exact j e2
   rw[ag this];exact (S c f).1
 done:=by
  intro X J hw hK G i g s A H no I S st hg;subst J hw hK;obtain⟨E,ys,r,u,hl⟩:=hg;obtain⟨ia,ra,pa,_⟩:=I.list r;obtain⟨ib,rb,pb,_⟩:=I.list u;obtain⟨h1,h2,⟨c,d,m⟩,B,C⟩:=id st;have l1:=ra.length;have l2:=rb.length;refine JJ (I.ok.hd G) D h1 h2 m B C pa.isList pb.isList ?_ λh' hk=>⟨Y,I.turnedL (t':=s.toks) (λc o f e=>hk c o (λq=>f (by simp[q])) (λq=>f (by simp[q])) (λq=>f (by simp[q])) (λq=>f (by simp[q])) e) λc f=>S c (oS f)⟩
  rcases hl with h |h
  ·exact .inl (by simp;simp_all)
  ·exact .inr (by simp;simp_all)
 self:=λ_ _ _ _ _ st h=>DW st.1 h
inductive ZC(K:fy)(R:It->Hp->Prop)(Z:U V)(H1:Hp):Prop
 |i(a b E ys:_)(_:Z=[.ref a,.ref b])(_:n7 K H1 a E)(_:n7 K H1 b ys)(_:R (LI K a b) H1)
def zgM(K:fy)(ta:TA):TI:=λA H R=>ta A H λZ H1=>ZC K R Z H1
theorem om(K:fy){k:ft}{a b:tA}{ta:TA}(v:Gl X "zip")(w:X.mg "zip" =cx)(x:PA X [a,b] ta)(y:X.K=K:=by rfl)(S:i' [a,b] X.env=[(d_,eval a X.env),(d_,eval b X.env)]:=by rfl)(i:i' [b] X.env=[(d_,eval b X.env)]:=by rfl):
  PI X (.Tuple elts k tpos) (.Call (.Name "zip" p) [a,b] [] pos) (zgM K ta):=by
 subst y;intro g s A H R I h;refine HS (eZ I v w PyProof.Rows.Boot.«zip» (oD (wd (x pos g s A H _ I h) λus d ⟨Z,H1,f,z,B⟩=>?_) (by simp_all) (by rw[i];rfl)));obtain⟨a,b,E,ys,e,C,D,q⟩:=B;subst e;cases z with
 |cons r j=>
  cases j with
  |cons r' j=>
   cases j;cases r;cases r';obtain⟨T,ra,l,_⟩:=f.list C;obtain⟨ib,rb,m,_⟩:=f.list D;have G:a<d.heap.objs.size:=by obtain⟨o,_,e,_⟩:=l;exact e_ e
   have lb:b<d.heap.objs.size:=by obtain⟨o,_,e,_⟩:=m;exact e_ e
   refine call_zip_2 l.isList m.isList λh' n J L M N P Q=>?_;refine DW n ?_;refine⟨d.heap.objs.size+4,[d.heap.objs.size+4,d.heap.objs.size+2,d.heap.objs.size+3,d.heap.objs.size,d.heap.objs.size+1],_,_,H1,Y,f.kept (t':=d.toks) Q,UY a b _ _ _ _ _ (NL G lb),⟨n,J,⟨_,_,L⟩,M,N⟩,λc u=>?_,q⟩;have:d.heap.objs.size<=c:=by
    simp only[f_,m_,u3]at u;rcases u with rfl |rfl |rfl |rfl |rfl <;> lia
   exact f.fpOk this (f.hok.fresh this)
theorem eA(K:fy){k:ft}{t:Lh}(b:X.calm=c0)(h:Mv X es t)(c:X.K=K:=by rfl)(d:(DV es X.env).length=n:=by rfl)(a:(DV es X.env).findIdx? (·.1)=cx:=by rfl):PG X (.Tuple es k pos) (qY K n t):=by
 subst c;exact Sl b h d a
theorem qI{fr:U (eH ft)}(Pv:ft->U V->Hp->Prop)(r:Pv 0 [] H)(n:ft)(C:n=min E.length ys.length)(s:∀i acc H,i<=n->Pv i acc H->n7 K H a E/\n7 K H b ys/\acc.length<=i)(hz:n<=fx)(u:∀i x y acc H T,E[i]?=O x->ys[i]?=O y->i<n->Pv i acc H->H T=cx->Ab (.ref T) (stC fr A) (upd H T (.tup [x,y])) λc H2=>Wk (stC fr A) c/\tc c H2 λb f=>
   if b=c0 then te c f λy g=>∃d,d<n - i/\CW n Pv (i+1) d (acc++[y]) g else ∃d,d<n - i/\CW n Pv (i+1) d acc f)(hd:∀acc H,Pv n acc H->Qe acc H):
  ∃W:ft->ft->U V->Hp->Prop,(∃m,W 0 m [] H)/\∀i m acc H,W i m acc H->
   ((LI K a b).stop i H/\Qe acc H)\/
   ((LI K a b).go i H/\acc.length<fx/\∀x H',(LI K a b).yld i H x H'->Ab x (stC fr A) H' λc H2=>Wk (stC fr A) c/\tc c H2 λb f=>
    if b=c0 then te c f λy g=>∃d,d<m/\W (i+1) d (acc++[y]) g else ∃d,d<m/\W (i+1) d acc f):=by
 refine⟨CW n Pv,⟨n,by simp,ot _,r⟩,?_⟩;rintro i m acc H ⟨rfl,hi,p⟩;obtain⟨h,j,D⟩:=s i acc H hi p;by_cases l:i<n
 ·refine .inr ⟨⟨E,ys,E[i]'(by lia),ys[i]'(by lia),h,j,by simp,by simp⟩,by lia,λv H' q=>?_⟩;obtain⟨T,w,rfl,q⟩:=q;obtain⟨x,y,z,B,rfl⟩:=q E ys h j;exact u i x y acc _ T z B l p w
 ·have e:i=n:=by lia
  subst e;exact .inl ⟨⟨E,ys,h,j,by lia⟩,hd acc H p⟩
theorem PS.nox{t:TS}(h:PS X.nox st t):PS X st t:=λg s A H D I a=>
 pu (h g s A H D (I.wish _) a) (λ_ _ q=>q.unwish) λ_ _ z=>tj z
theorem cf    : di (yl Aa w) X E0:=by
 rintro _ _ _ _ _ _ _ ⟨_,_,_,_,_,_,_,_,_,_,_,_,_,h⟩;exact h.elim
section
variable(K:fy)
theorem vK:∀bs:U n_,(rd bs.length).any (λi=>bs.getD i d_)=bs.any id
 |[]=>rfl
 |b::bs=>by
  simp only[r_,Dy,y_,La,y_,←vK bs];rfl
inductive YQ(K:fy)(E:U V)(H:Hp)(Q:VK):Prop
 |i(p:ce)(bs:U n_)(_:E=[.ref p])(_:n7 K H p (bs.map V.bl))(_:Q (.bl (bs.any id)) H)
theorem wp(l:X.calm=c0)(m:X.K=K:=by rfl):bw X (.builtin "any") (YQ K):=by
 subst m;intro g s A H E us Q I n h;obtain⟨p,bs,rfl,w,q⟩:=h;obtain⟨u,rfl,f⟩:=df n;cases f;obtain⟨J,r,pl,hz⟩:=I.list w;have lt:p<s.heap.objs.size:=by
  obtain⟨o,_,e,_⟩:=pl;exact e_ e
 have a:bs.length=J.length:=by
  have:=r.length
  simp_all
 refine call_any_walk (C6 pl.isList ?_);refine⟨_,_,_,_,_,_,λi=>bs.getD i d_,Y,DJ (A:=X.A.in1) (I.ok.hd l) _ p (g_ lt) J.toArray,⟨⟨_,f6 _ Y,Y,Y⟩,pl.isList.push _⟩,?_,λh' tk x=>?_⟩
 ·intro i v s' y z c d;have c:J[i]?=O v:=by simpa using c
  have hi:i<bs.length:=by rw[a];exact (cs.mp c).1
  obtain⟨u,j,f⟩:=r.get (i:=i) (x:=V.bl bs[i]) (by simp[hi]);rw[c]at j;cases j;cases (show v=Cs bs[i] from f);have e:bs.getD i d_=bs[i]:=by simp[ hi]
  have d:y (bs.getD i d_) s':=d;rw[e]at d;exact eM d
 ·refine⟨.bl (bs.any id),H,I.kept (t':=tk) λb o e=>?_,?_,q⟩
  rotate_left
  ·show _=Cs _;simp only[hL,←a,vK]
  ·exact x b o (by simpa using g_ (e_ e)) (b_ _ e)
inductive ZW(K:fy)(x:V)(y:V)(H:Hp)(Q:VK):Prop
 |i(p q:ce)(E ys:U V)(_:x = .ref p)(_:y = .ref q)(_:n7 K H p E)(_:n7 K H q ys)(_:E.all bN=c0)(_:ys.all bN=c0)(_:Q (.bl (!eY E ys)) H)
theorem Ue(f:X.A.units+1<F8)(l:X.K=K:=by rfl):DI X (su .NotEq) (ZW K):=by
 subst l;have f:=Jx f;intro g s A H x y v u Q I m n h;obtain⟨p,q,E,ys,rfl,rfl,w,z,B,C,k⟩:=h;cases m;cases n;obtain⟨J,r,pl,_⟩:=I.list w;obtain⟨c,i,d,_⟩:=I.list z;have l1:=r.length;have l2:=i.length;by_cases e:E.length=ys.length
 ·refine Me (e:=λj=>Es (E.getD j .non) (ys.getD j .non)) pl.isList d.isList (by simp only[hL,hL];simp_all) f (λj h1 h2=>?_) X.prog X.w _ _ ?_
  ·simp only[hL]at h1 h2;obtain⟨a,R,D⟩:=r.get (i:=j) (x:=E[j]'(by simp_all)) (by simp);obtain⟨b,S,G⟩:=i.get (i:=j) (x:=ys[j]'(by simp_all)) (by simp);have L:J.toArray[j]=a:=by
    simp_all
   have M:c.toArray[j]=b:=by
    simp_all
   simp only[L,M];have N:E.getD j .non=E[j]'(by simp_all):=by simp[ show j<E.length by simp_all]
   have P:ys.getD j .non=ys[j]'(by simp_all):=by simp[ show j<ys.length by simp_all]
   simp only[N,P];exact qM D G (i_.mp B _ (j' _)) (i_.mp C _ (j' _))
  ·refine⟨.bl (!eY E ys),H,I,?_,k⟩;show _=Cs _;simp only[hL,←l1,qO e]
 ·refine Mf pl.isList d.isList (by simp only[hL];simp;simp_all) f X.prog X.w _ _ ⟨.bl (!eY E ys),H,I,?_,k⟩;rw[qN e];rfl
end
section
variable(K:fy)
inductive zn1(K:fy)(Q:VK)(x:V)(H1:Hp):Prop
 |i(a E:_)(_:x = .ref a)(_:n7 K H1 a E)(_:∀p,H1 p=cx->Q (.ref p) (upd H1 p (.lst E.reverse)))
def Up(K:fy)(te:TE):TE:=λA H Q=>te A H λx H1=>zn1 K Q x H1
end
theorem RZ:E1 (.type "list_reverseiterator") "__len__" =zJ cx:=Y
theorem Vs:E1 (.type "list_reverseiterator") "__length_hint__" =zJ (O (.builtin "list_reverseiterator.__length_hint__")):=Y
theorem SD{l:ce}(A:on.handled=cx)(d:s.heap.IsRevIter I l ((items.size:gV) - 1))(B:s.heap.IsList l items)(p:l≠I)(C:items.size<=fx)(S:ce)(g:cv)(h:ft)(D:s.heap.get? S=O { cls:=.type "list",data:=.seq #[] h })(j:S≠I)(q:S≠l)(hR:∀h' tk a c',(∀b o,b≠S->b≠I->s.heap.get? b=O o->h'.get? b=O o)->h'.get? S=O { cls:=.type "list",dict:=cx,data:=.seq a c',slots:=#[] }->
   Jg (λi v=>items[items.size - 1 - i]?=O v) a items.size->R (.ok (.ret g)) { s with heap:=h',toks:=tk }):
  h_ (hY prog w) on.in1 (Mg (.ref S) (.ref I) g)
   (λfin s'=>match fin with |.done f=>R (.ok f) s' |.again c'=>c'.quiet=c0/\C7 (hY prog w) on c' R s') (λe s'=>R (.error e) s') s:=by
 have r:(0)<=items.size/\s.heap.IsRevIter I l ((items.size) - 1 - ((0):gV))/\s.heap.IsList l items:=⟨ot _,by simpa using d,B⟩
 have u:S∉[I,l]:=by simp[j,q]
 have n:=d.typeIs;refine b7 (Gx n ?_);have h1:FM (.ref S) (.ref I)=d_:=by simp[FM,j]
 have h2:(Dh "list_reverseiterator" ==Dh "list")=d_:=by decide
 have J:(Dh "list_reverseiterator" ==Dh "tuple")=d_:=by decide
 simp only[h1];refine b7 (wpAny_pyIter_revIter d ?_);refine b7 (sA ?_);refine b7 (Eh n RZ ?_);refine b7 (Eh n Vs ?_);refine b7 (He (b:=c0) n (by rw[isSubtype_type];kernel_rfl) ?_);refine eM ?_;refine eM ⟨u_ F.plain_extend_loop _,codeAny_extend_loopS ((Walks.listRev (prog:=prog) (w:=w) (A:=on.in1) A I l p items).toS) C _ u _ items.size 0 _ _ _ Y (ot _) r D (ItemsOf.nil _) λs' a c' z x m=>?_⟩;rw[Moved.eq_with z];refine hR s'.heap s'.toks a c' (λb E G y e=>z.heap b E (λc=>?_) e) x m;rcases f_.mp c with H |c
 ·exact G H
 ·exact y (by simpa using c)
theorem zeN{l:ce}(y:on.handled=cx)(g:s.heap.IsRevIter I l ((items.size:gV) - 1))(x:s.heap.IsList l items)(q:l≠I)(z:items.size<=fx)(A:∀h' tk a c',(∀b o,b≠I->s.heap.get? b=O o->h'.get? b=O o)->
   h'.get? s.heap.objs.size=O { cls:=.type "list",dict:=cx,data:=.seq a c',slots:=#[] }->Jg (λi v=>items[items.size - 1 - i]?=O v) a items.size->Q (.ref s.heap.objs.size) { s with heap:=h',toks:=tk }):
  h_ (hY prog w) on (Fq (.type "list") [.ref I]) Q no s:=by
 refine MJ (Q₁:=λobj c=>obj = .ref s.heap.objs.size/\c={ s with heap:=s.heap.push { cls:=.type "list",data:=.seq #[] } }) F.called_list (F.typeCall_list_1 _) F.entry_list_init
  (code_list_new _ ⟨Y,Y⟩) λobj c h=>?_
 obtain⟨rfl,rfl⟩:=h;have p:(s.heap.push { cls:=.type "list",data:=.seq #[] }).get? s.heap.objs.size=O { cls:=.type "list",data:=.seq #[] }:=f6 _ Y;have j:I<s.heap.objs.size:=by obtain⟨o,e,_⟩:=g;exact e_ e
 have m:l<s.heap.objs.size:=by obtain⟨o,e,_⟩:=x;exact e_ e
 refine⟨⟨_,p,Y⟩,F.args_list_init_2 _ _,?_⟩;refine b7 ?_;refine b7 (rx p Y (eM ?_));refine b7 (Cu p Y ?_);have d:=x_ (Cz (λ_=>(#[]))) p Y;have f:∀b o,b≠s.heap.objs.size->s.heap.get? b=O o->((s.heap.push { cls:=.type "list",data:=.seq #[] }).update s.heap.objs.size (Cz (λ_=>(#[])))).get? b=O o:=
  λb o r e=>(ow _ _ (v_ r)).trans (b_ _ e)
 refine SD (on:=on.in1) y (g.at λo e=>f _ o (g_ j) e) (x.at λo e=>f _ o (g_ m) e) q z _ .none _ d (rs j) (rs m) λh' tk a c' B u n=>?_;exact⟨Y,A h' tk a c' (λb o r e=>B b o (g_ (e_ e)) r (f b o (g_ (e_ e)) e)) u n⟩
section
variable(K:fy)
theorem aB.rev:∀{E:U V}{us:U cv},aB E us->aB E.reverse us.reverse:=by
 intro E us r;induction r with
 |nil=>exact .nil
 |cons h t a=>simp only[Ep,Ep];exact a.append (.cons h .nil)
theorem Ri{acc:t_ cv}(h:Jg (λi v=>J.toArray[J.toArray.size - 1 - i]?=O v) acc J.toArray.size):acc=J.reverse.toArray:=by
 obtain⟨h1,h2⟩:=h;apply Array.ext
 ·simp[h1]
 ·intro i a b;have q:J.toArray[J.toArray.size - 1 - i]?=O acc[i]:=h2 i acc[i] (by simp);have hi:i<J.length:=by simp_all
  have lt:J.length - 1 - i<J.length:=by omega
  simp_all
theorem Xq(B:X.calm=c0)(j:Gl X "list")(l:X.mg "list" =cx)(m:Gl X "reversed")(n:X.mg "reversed" =cx)(C:PE X e te)(D:X.K=K:=by rfl)(v:i' [e] X.env=[(d_,eval e X.env)]:=by rfl):
  PE X (.Call (.Name "list" p2) [.Call (.Name "reversed" p3) [e] [] p4] [] pos) (Up K te):=by
 subst D;intro g s A H Q I h;refine uz (eZ I j l PyProof.Rows.Boot.«list» ?_ (by decide) (by decide));refine oD ?_ Y Y;refine Dk ?_;refine uz (eZ I m n PyProof.Rows.Boot.«reversed» ?_ (by decide) (by decide));refine oD ?_ (by rw[v];rfl) Y;simp only[v];refine Dk (wd (C g s A H _ I h) λu c ⟨x,H1,p,G,a,E,L,M,q⟩=>Du ?_);subst L;cases G;obtain⟨J,w,pl,hz⟩:=p.list M;have y:=w.length;have lt:a<c.heap.objs.size:=by obtain⟨o,_,e,_⟩:=pl;exact e_ e
 refine call_reversed_list pl.isList ?_;refine Du ?_;have r:(c.heap.push (revObj a ((J.toArray.size) - 1))).IsRevIter c.heap.objs.size a ((J.toArray.size) - 1):=⟨_,f6 _ Y,Y,Y⟩
 refine zeN (I.ok.hd B) r (pl.isList.push _) (g_ lt) (by rw[hL];simp_all) λh' tk z c' N d f=>?_;rw[Ri f]at d;have keep:=λb o e=>N b o (g_ (e_ e)) (b_ _ e);have i:c.heap.objs.size<=(c.heap.push (revObj a ((J.toArray.size) - 1))).objs.size:=by rw[tJ];exact BL _
 refine⟨.ref _,_,p.laid (t':=tk) (o:=.lst E.reverse) keep i ⟨by simp_all,J.reverse,c',w.rev,d⟩,Y,q _ (p.hok.fresh i)⟩
end
def be(ys:U hO):hO:=⟨((ys.map λy=>y.cps.toList).flatten).toArray⟩
theorem lU{a b:hO}(h:a.cps.toList=b.cps.toList):a=b:=by
 cases a;simp_all
theorem eJ(a b:hO):(a++b).cps.toList=a.cps.toList++b.cps.toList:=by
 exact Array.toList_append
theorem N_:∀{ys:U hO}{us:U cv},aB (ys.map V.str) us->StrsAre us ys
 |[],_,.nil=>.nil
 |y::_,_,.cons r t=>by
  obtain⟨k,rfl⟩:=(show ∃t,_=DZ y t from r)
  exact .cons y k (N_ t)
section
variable(K:fy)
theorem XJ(h:X.K=K:=by rfl):Hz X "str.join" (λx Z H Q=>∃(z:hO)(p:ce)(ys:U hO),x = .str z/\Z=[.ref p]/\n7 K H p (ys.map V.str)/\(ys.map (·.length)).sum+ys.length * z.length<=16777216/\Q (.str (Txt.join z ys)) H):=by
 subst h;intro g s A H x Z v us Q I a b c;obtain⟨z,p,ys,rfl,rfl,d,hz,q⟩:=c;obtain⟨t,rfl⟩:=a;obtain⟨u,rfl,e⟩:=b.one;cases e;obtain⟨J,r',pl,_⟩:=I.list d;exact join_list pl.isList (by simpa using N_ r') hz λt' k=>⟨.str _,H,I.tok _,⟨_,Y⟩,q⟩
end
theorem Sy:("" : hO).cps.toList=[]:=Y
theorem Hj:∀ys:U hO,(K8 "" ys).cps.toList=(ys.map λy=>y.cps.toList).flatten
 |[]=>rfl
 |[x]=>by simp[K8]
 |x::y::r=>by
  show ((x++(""))++K8 "" (y::r)).cps.toList=_;simp only[eJ,eJ,Hj (y::r),Sy,Dl];rfl
theorem lu(ys:U hO):Txt.join "" ys=be ys:=by
 exact (StrLaws.glued_eq_join _ _).trans (lU (Hj ys))
theorem gF(ys:U hO):(be ys).cps.toList=(ys.map λy=>y.cps.toList).flatten:=Y
theorem iL(ys:U hO):(be ys).length=(ys.map (·.length)).sum:=by
 show (be ys).cps.size=_;simp only[←li,gF,List.length_flatten,p_];rfl
theorem ZZ(a b:U hO):be (a++b)=be a++be b:=by
 apply lU;simp only[eJ,gF,gF,gF,dn,CU]
def L9(hi:gV)(n:ft):It:=⟨λi _=>i<n,λi H x H'=>H'=H/\x = .int (hi - i),λi _=>n<=i⟩
theorem RC(it:ce)(hi:gV)(n:ft):fJ Aa w K tg (L9 hi n) [it] it (λi h=>QF h it (hi+(i:ft) * (-1)) ((n:gV) - (i:ft)) (-1)) where
 mem:=by simp
 obj:=λi h st b a=>by
  simp_all
 keep:=λi h h' st k=>k it (by simp) _ st
 item:=by
  intro X f j l m i g s A H no I d st p;subst f j l;obtain⟨q,r,z,u,x,y⟩:=d it (by simp);refine (KS (prog:=X.prog) (w:=X.w) (I.ok.hd m) it hi (-1) n).item i s _ _ p st λv h' tk B c kk=>?_;obtain⟨t,rfl⟩:=B;have C:Inv X g A H { s with heap:=h',toks:=tk }:=I.turned (λb o a e=>kk b o (by simpa using a) e) q r u x y;refine⟨_,Y,jY c Y Y (by decide) ⟨.int (hi - i),H,C,⟨t,?_⟩,⟨Y,Y⟩,c,λb a=>(d b a).1⟩⟩
  grind
 done:=by
  intro X f j l m i g s A H no I d st p;subst f j l;obtain⟨q,r,z,u,x,y⟩:=d it (by simp);exact IY (I.ok.hd m) st (by have:n<=i:=p;lia) λh' D=>⟨Y,I.turned (t':=s.toks) (λb o a e=>D b o a e) q r u x y⟩
 self:=λ_ _ _ _ _ st h=>IZ st h
theorem zx(a b:gV):Cw a b (-1)=if b<a then a - b else 0:=by
 delta Cw
 simp_all
theorem Tf{a b:gV}(e : -(2 ^ 62)<=a)(c:a<2 ^ 62)(f : -(2 ^ 62)<=b)(d:b<2 ^ 62):Gm a b (-1)=c0:=by
 delta Gm
 rw[zx];simp only[L5,sB,JK,CB,show ¬ ((-1) > 0) by decide,MK]
 grind
inductive VM(R:It->Hp->Prop)(Z:U V)(H1:Hp):Prop
 |i(i j:gV)(_:Z=[.int i,.int j,.int (-1)])(_:(-(2 ^ 61)<=i/\i<2 ^ 61/\-(2 ^ 61)<=j/\j<2 ^ 61))(_:R (L9 i (i - j).toNat) H1)
def Z6(ta:TA):TI:=λA H R=>ta A H λZ H1=>VM R Z H1
theorem Zu{R:It->Hp->Prop}{hi:gV}{t u v:J_}(I:Inv X g A H s)(h1 : -(2 ^ 62)<=hi)(h2:hi<2 ^ 62)(c : -(2 ^ 62)<=lo)(d:lo<2 ^ 62)(q:R (L9 hi (hi - lo).toNat) H):h_ (hY X.prog X.w) X.A (IX (.ref s.heap.objs.size)) (NC X g A tg R) no { s with heap:=s.heap.push { cls:=.type "range",data:=.fields #[.int hi t,.int lo u,.int (-1) v] },toks:=tk }:=by
 refine Ku (Ka ..) (Tf h1 h2 c d) ?_;have a:Inv X g A H { s with heap:=s.heap.push { cls:=.type "range",data:=.fields #[.int hi t,.int lo u,.int (-1) v] },toks:=tk }:=I.kept λb o e=>b_ _ e;refine⟨(s.heap.push { cls:=.type "range",data:=.fields #[.int hi t,.int lo u,.int (-1) v] }).objs.size,[(s.heap.push { cls:=.type "range",data:=.fields #[.int hi t,.int lo u,.int (-1) v] }).objs.size],_,_,H,Y,
  a.kept (t':=tk) λb o e=>b_ _ e,RC _ hi (hi - lo).toNat,?_,λb f=>?_,q⟩
 ·have h:hi+((0:ft):gV) * (-1)=hi:=by simp
  have i:(((hi - lo).toNat:ft):gV) - ((0:ft):gV)=Cw hi lo (-1):=by rw[zx];split <;> lia
  simp only[h,i];exact f6 _ Y
 ·have e:b=(s.heap.push { cls:=.type "range",data:=.fields #[.int hi t,.int lo u,.int (-1) v] }).objs.size:=by simpa using f
  subst e;exact a.fpOk (dv _) (a.hok.fresh (dv _))
theorem zlY{a b c:tA}{ta:TA}(n:Gl X "range")(u:X.mg "range" =cx)(v:PA X [a,b,c] ta)(z:i' [a,b,c] X.env=[(d_,eval a X.env),(d_,eval b X.env),(d_,eval c X.env)]:=by rfl)(f:i' [b,c] X.env=[(d_,eval b X.env),(d_,eval c X.env)]:=by rfl):PI X tg (.Call (.Name "range" p) [a,b,c] [] pos) (Z6 ta):=by
 intro g s A H R I h;refine HS (eZ I n u Kv (oD (wd (v pos g s A H _ I h) λus B ⟨Z,H1,w,x,m⟩=>?_) (by simp_all) (by rw[f];rfl)));obtain⟨i,j,e,⟨m,C,D,E⟩,q⟩:=m;subst e;cases x with
 |cons r d=>
  cases d with
  |cons r' d=>
   cases d with
   |cons l d=>
    cases d;obtain⟨t,rfl⟩:=r;obtain⟨t',rfl⟩:=r';obtain⟨y,rfl⟩:=l;exact call_range_3 (by decide) (Zu w (by lia) (by lia) (by lia) (by lia) q) (gS (G_ (by exact Nat.le_add_left _ _)))
theorem WC{fr:U (eH ft)}(Pv:ft->U V->Hp->Prop)(h:Pv 0 [] H)(j:∀i acc H,i<=n->Pv i acc H->acc.length<=i)(hz:n<=fx)(l:∀i acc H,i<n->Pv i acc H->Ab (.int (lo - i)) (stC fr A) H λa H2=>Wk (stC fr A) a/\tc a H2 λb d=>
   if b=c0 then te a d λy g=>∃c,c<n - i/\CW n Pv (i+1) c (acc++[y]) g else ∃c,c<n - i/\CW n Pv (i+1) c acc d)(hd:∀acc H,Pv n acc H->Qe acc H):
  ∃W:ft->ft->U V->Hp->Prop,(∃m,W 0 m [] H)/\∀i m acc H,W i m acc H->
   ((L9 lo n).stop i H/\Qe acc H)\/
   ((L9 lo n).go i H/\acc.length<fx/\∀x H',(L9 lo n).yld i H x H'->Ab x (stC fr A) H' λa H2=>Wk (stC fr A) a/\tc a H2 λb d=>
    if b=c0 then te a d λy g=>∃c,c<m/\W (i+1) c (acc++[y]) g else ∃c,c<m/\W (i+1) c acc d):=by
 refine⟨CW n Pv,⟨n,by simp,ot _,h⟩,?_⟩;rintro i m acc H ⟨rfl,hi,p⟩;have q:=j i acc H hi p;by_cases f:i<n
 ·refine .inr ⟨f,by lia,λx H' y=>?_⟩;obtain⟨e,y⟩:=y;subst e y;exact l i acc _ f p
 ·have e:i=n:=by lia
  subst e;exact .inl ⟨dv _,hd acc H p⟩
def V4(K:fy)(ta:TE):TT:=λA H Q=>ta A H λx H'=>∃k,qf K x H' k/\Q k H'
theorem Zs(K:fy){a:tA}(c:PE X a ta)(h:X.K=K:=by rfl)(d:∀b,isTrue a X.env b=(do let v ←b;FI a.pos;EB [v] (IV v)):=by intro _;rfl):PT X a (V4 K ta):=by
 subst h;exact U8 c d
structure Jl(X:Cx)(e:tA)(t:TE):Prop where
 h:PE X e t
structure JW(X:Cx)(b:U nW)(t:TS):Prop where
 h:FX X b t
structure Li(X:Cx)(es:U tA)(t:TA):Prop where
 h:PA X es t
section
variable{a b:tA}{j:TE}{d:TA}{g m q:U nW}{u f l n:TS}
theorem cj:Li X [] gO:=⟨ae⟩
theorem aM(a:PE X e te)(b:Li X es d)(c:i' (e::es) X.env=(d_,eval e X.env)::i' es X.env:=by rfl):Li X (e::es) (iw te d):=⟨aa a b.h c⟩
theorem fS(h:Li X es d):Jl X (.List es pos) (OF d):=⟨cP h.h⟩
theorem lG{r:R2}(c:JX X r)(d:Jl X a ta)(e:PE X b j)(f:vE b):Jl X (.Subscript a b pos) (Jn r ta j):=⟨aG c d.h e f⟩
theorem LG(h:PE X e te):Jl X e te:=⟨h⟩
theorem d9(a:Jl X e te)(b:Li X es d)(c:i' (e::es) X.env=(d_,eval e X.env)::i' es X.env:=by rfl):Li X (e::es) (iw te d):=⟨aa a.h b.h c⟩
theorem eR{c:ft}(h:Li X es d):Jl X (.Tuple es c pos) (Ow d):=⟨cz h.h⟩
theorem j8{op:Gw}{r:R2}(c:DI X (Cb op) r)(d:Jl X a ta)(e:Jl X b j):Jl X (.BinOp a op b pos) (Jn r ta j):=⟨aq c d.h e.h⟩
theorem lH(K:fy)(i:PE X a ta)(j:PA X (e::es) d)(h:X.K=K:=by rfl)(c:BC a "join" X.env (eval a X.env)=eval a X.env:=by rfl)(g:((zG cpos (i' (e::es) X.env)).all (λx=>!x.1) && (Ez cpos (C_ [] X.env)).all (λx=>x.1.isSome)
   && decide ((e::es).length+([]:U Fg).length+(if ([]:U Fg).isEmpty then 0 else 1)<30))=c0:=by rfl)(f:(apos.endLine ==cpos.line)=c0:=by rfl)(l:i' (e::es) X.env=(d_,eval e X.env)::i' es X.env:=by rfl)(b:(zG cpos (i' es X.env)).any (·.1)=d_:=by rfl):
  Jl X (.Call (.Attribute a "join" apos) (e::es) [] cpos) (N4 K "str" (λx Z H Q=>∃(z:hO)(p:ce)(ys:U hO),x = .str z/\Z=[.ref p]/\n7 K H p (ys.map V.str)/\(ys.map (·.length)).sum+ys.length * z.length<=16777216/\Q (.str (Txt.join z ys)) H) ta d):=⟨cU K F.plainAttrs_str F.slot_str_join F.type_str_join (XJ K h) i j h c g f l b⟩
theorem bY(h1:PS X st u)(h2:JW X g f):JW X (st::g) (gP u f):=⟨ao h1 h2.h⟩
theorem ox(h1:PS X st u):JW X [st] u:=⟨aj h1⟩
theorem ir(a:Jl X e te):JW X [.Return (O e) pos] (uW te):=⟨aj (aA a.h)⟩
theorem jq(a:X.N.Nodup)(hi:X.N[i]?=O x)(b:Loc X.env.scope x)(c:Jl X e te)(d:JW X g f)(h:Eu e (O (.Name x pos')) pos.line X.env=zJ d_:=by rfl)(j:X.fn x=c0\/X.env.scope.names.lookup x=O .local:=by first |exact .inl Y |exact .inr Y |assumption):JW X (.Assign [.Name x pos'] e pos::g) (gP (ky te (fv i)) f):=
 ⟨ao (aK a hi b c.h h j) d.h⟩
theorem zl(a:PT X e tc)(b:JW X m l)(c:JW X g f):JW X (.If e m [] pos::g) (gP (lV tc l lW) f):=⟨ao (aN a b.h aO) c.h⟩
end
theorem gb{b:U nW}{R:TS->Prop}(h:∃t,JW X b t/\R t):∃t,FX X b t/\R t:=by obtain⟨t,h1,h2⟩:=h;exact⟨t,h1.h,h2⟩
section
open PySem.W
def gI(E:t_ cv)(c:ft):z_:={ cls:=.type "list",dict:=cx,data:=.seq E c,slots:=#[] }
def Kp(wr:U ce)(S:ce)(h h':sG):Prop:=∀b o,b∉wr->b≠S->h.get? b=O o->h'.get? b=O o
section
variable{S:ce}{P:ft->cv->Prop}{a:ft->sG->Prop}
theorem zif(W:Lb prog w on.in1 I fp wr n P a)(J:QM prog w on.in1 .Gt P bt)(i:S∉fp):∀(k j:ft)(s:f0)(g:cv)(c:ft),n=j+1+k->a (j+1) s.heap->P (w_ bt j) g->s.heap.get? S=O (gI #[g,g] c)->
  (∀v h' tk,P (w_ bt (n - 1)) v->Kp wr S s.heap h'->R (.ok (.ret v)) { s with heap:=h',toks:=tk })->C7 (hY prog w) on (.builtin "max.loop" ⟨[.ref I,.none,.ref S],kw⟩) R s:=by
 have r:=λz=>i (W.sub _ z);have K:(toString "max" ++ toString ".loop") = "max.loop" :=by decide
 intro k;induction k with
 |zero=>
  intro j s g c A st y u d;refine ss EI ?_;refine b7 (rx u Y ?_);refine b7 (x3 (W.done s _ _ (by exact A ▸ st) λh' tk p=>?_));have f:=p S _ r u;refine b7 (Cu f Y (b7 (BV (eM ?_))));exact d g _ tk (by exact A ▸ y) λb o h q e=>(ow _ _ (v_ q)).trans (p b o h e)
 |succ k G=>
  intro j s g c A st y u d;refine ss EI ?_;refine b7 (rx u Y ?_);show h_ _ on.in1 (Ea (tryCatch (Fd (.ref I)) _) _) _ _ s;refine b7 (x3 (W.item (j+1) s _ _ (by simp_all) st λv h' tk pv x p=>?_));have f:=p S _ r u;show h_ _ on.in1 (Ea (tryCatch (EB [v,v] (Ea (QN .Gt v g) _)) _) _) _ _ _;refine b7 (x3 (sA (b7 (J (j+1) (w_ bt j) v g _ _ _ pv y ?_))));refine b7 (sA (tx (b7 (BV (eM ?_)))));cases H:bt (j+1) (w_ bt j) with
  |true=>
   refine b7 (Cu f Y (b7 (BV ?_)));have B:=W.frame _ _ (Ge h' S (Cz λ_=>#[v,v])) x λb h o e=>(ow h' _ (show S≠b from λz=>i (z ▸ h))).trans e;have C:P (w_ bt (j+1)) v:=by simp only[w_,H];exact pv
   exact eM ⟨u_ EJ _,G (j+1) _ v _ (by lia) B C (x_ _ f Y) λD h2 l E m=>d D h2 l E λb o h q e=>m b o h q ((ow _ _ (v_ q)).trans (p b o h e))⟩
  |false=>
   refine b7 (BV ?_);have C:P (w_ bt (j+1)) g:=by simp only[w_,H];exact y
   exact eM ⟨u_ EJ _,G (j+1) _ g c (by lia) x C f λD h2 l E m=>d D h2 l E λb o h q e=>m b o h q (p b o h e)⟩
theorem UX(W:Lb prog w on.in1 I fp wr n P a)(u:QM prog w on.in1 .Gt P bt)(d:S∉fp)(pos:0<n){c:ft}(st:a 0 s.heap)(p:s.heap.get? S=O (gI #[] c))(f:∀v h' tk,P (w_ bt (n - 1)) v->Kp wr S s.heap h'->R (.ok (.ret v)) { s with heap:=h',toks:=tk }):C7 (hY prog w) on (.builtin "max.loop" ⟨[.ref I,.none,.ref S],kw⟩) R s:=by
 have A:(toString "max" ++ toString ".loop") = "max.loop" :=by decide
 refine ss EI ?_;refine b7 (rx p Y ?_);refine b7 (x3 (W.item 0 s _ _ pos st λv h' tk pv i q=>?_));have g:=q S _ (λz=>d (W.sub _ z)) p;show h_ _ on.in1 (Ea (updateSeq S (λ_=>#[v,v])) _) _ _ _;refine b7 (Cu g Y ?_);have j:=W.frame _ _ (Ge h' S (Cz λ_=>#[v,v])) i λb h o e=>(ow h' _ (show S≠b from λz=>d (z ▸ h))).trans e;exact eM ⟨u_ EJ _,zif W u d (n - 1) 0 _ v _ (by lia) j pv (x_ _ g Y) λx h2 l y m=>f x h2 l y λb o h r e=>m b o h r ((ow _ _ (v_ r)).trans (q b o h e))⟩
theorem UI(W:Lb prog w on.in1 I fp wr 0 P a)(g:S∉fp){c:ft}{k:hO}{d:cv}(st:a 0 s.heap)(h:s.heap.get? S=O (gI #[] c))(f:∀h' tk,Kp wr S s.heap h'->R (.ok (.ret d)) { s with heap:=h',toks:=tk }):C7 (hY prog w) on (.builtin "max.loop" ⟨[.ref I,.none,.ref S],[(k,d)]⟩) R s:=by
 refine ss EI ?_;refine b7 (rx h Y ?_);refine b7 (x3 (W.done s _ _ st λh' tk i=>?_));refine b7 (Gf ?_);exact eM (f h' tk λb o j _ e=>i b o j e)
end
section
variable{l:ce}{c:t_ (gV×J_)}{d:cv}
theorem We(a d:cv):argsOk "max" ⟨[a],[(DF "default",d)]⟩:=by rfl
theorem zic(x:on.handled=cx)(y:s.heap.IsList l (DO c))(one:∀v h' tk,0<c.size->(DO c)[w_ (λi j=>decide (Cn c i > Cn c j)) (c.size - 1)]?=O v->(∀b o,s.heap.get? b=O o->h'.get? b=O o)->Q v { s with heap:=h',toks:=tk })(g:∀h' tk,c.size=0->(∀b o,s.heap.get? b=O o->h'.get? b=O o)->Q d { s with heap:=h',toks:=tk }):
  h_ (hY prog w) on (Fq (.builtin "max") [.ref l] [(DF "default",d)]) Q no s:=by
 have A:(toString "max" ++ toString ".loop") = "max.loop" :=by decide
 have a:(DO c).size=c.size:=by simp[DO]
 refine kmk_tree F.kind_max F.plain_max F.entry_max (We _ _) ?_;refine b7 (EC (show EY "max" ["key","default"] 0 ⟨[],[(DF "default",d)]⟩=zJ [cx,O d] from Y) (b7 (eM (b7 (NM y λr e st q ne=>?_)))));subst e;refine b7 (ID ?_ (ot _));have W:=DJ (prog:=prog) (w:=w) (A:=on.in1) x s.heap.objs.size l ne (DO c);have f:=λz=>rc _ (q _ z);have h:∀{h':sG},Kp [s.heap.objs.size] (s.heap.push { cls:=.type "list_iterator",data:=.fields #[.ref l,.int 0 0] }).objs.size ((s.heap.push { cls:=.type "list_iterator",data:=.fields #[.ref l,.int 0 0] }).push (gI #[] 0)) h'->
   ∀b o,s.heap.get? b=O o->h'.get? b=O o:=λm b o e=>by
  have lt:=e_ e;refine m b o (by simpa using g_ lt) (λz=>?_) (b_ _ (b_ _ e));simp only[z,tJ]at lt;exact hQ (BM (up _) lt) (rc _)
 have n:=W.frame 0 _ ((s.heap.push { cls:=.type "list_iterator",data:=.fields #[.ref l,.int 0 0] }).push (gI #[] 0)) st λb _ o e=>b_ _ e;refine eM ⟨u_ EJ _,?_⟩;by_cases pos:0<c.size
 ·exact UX W (CmpOf.ints_gt (Cn c) (λ_ _=>ED)) f (by exact a ▸ pos) n (f6 _ Y) λv h' tk p m=>one v h' tk pos (by exact a ▸ p) (h m)
 ·have u:c.size=0:=by simp_all
  simp only[a,u]at W;exact UI W f n (f6 _ Y) λh' tk m=>g h' tk u (h m)
end
section
variable{S:ce}{P:ft->cv->Prop}{a:ft->sG->Prop}
theorem TF(W:Lb prog w on.in1 I fp wr n P a)(J:QM prog w on.in1 .Lt P bt)(i:S∉fp):∀(k j:ft)(s:f0)(g:cv)(c:ft),n=j+1+k->a (j+1) s.heap->P (w_ bt j) g->s.heap.get? S=O (gI #[g,g] c)->
  (∀v h' tk,P (w_ bt (n - 1)) v->Kp wr S s.heap h'->R (.ok (.ret v)) { s with heap:=h',toks:=tk })->C7 (hY prog w) on (.builtin "min.loop" ⟨[.ref I,.none,.ref S],kw⟩) R s:=by
 have r:=λz=>i (W.sub _ z);have K:(toString "min" ++ toString ".loop") = "min.loop" :=by decide
 intro k;induction k with
 |zero=>
  intro j s g c A st y u d;refine ss EK ?_;refine b7 (rx u Y ?_);refine b7 (x3 (W.done s _ _ (by exact A ▸ st) λh' tk p=>?_));have f:=p S _ r u;refine b7 (Cu f Y (b7 (BV (eM ?_))));exact d g _ tk (by exact A ▸ y) λb o h q e=>(ow _ _ (v_ q)).trans (p b o h e)
 |succ k G=>
  intro j s g c A st y u d;refine ss EK ?_;refine b7 (rx u Y ?_);show h_ _ on.in1 (Ea (tryCatch (Fd (.ref I)) _) _) _ _ s;refine b7 (x3 (W.item (j+1) s _ _ (by simp_all) st λv h' tk pv x p=>?_));have f:=p S _ r u;show h_ _ on.in1 (Ea (tryCatch (EB [v,v] (Ea (QN .Lt v g) _)) _) _) _ _ _;refine b7 (x3 (sA (b7 (J (j+1) (w_ bt j) v g _ _ _ pv y ?_))));refine b7 (sA (tx (b7 (BV (eM ?_)))));cases H:bt (j+1) (w_ bt j) with
  |true=>
   refine b7 (Cu f Y (b7 (BV ?_)));have B:=W.frame _ _ (Ge h' S (Cz λ_=>#[v,v])) x λb h o e=>(ow h' _ (show S≠b from λz=>i (z ▸ h))).trans e;have C:P (w_ bt (j+1)) v:=by simp only[w_,H];exact pv
   exact eM ⟨u_ EL _,G (j+1) _ v _ (by lia) B C (x_ _ f Y) λD h2 l E m=>d D h2 l E λb o h q e=>m b o h q ((ow _ _ (v_ q)).trans (p b o h e))⟩
  |false=>
   refine b7 (BV ?_);have C:P (w_ bt (j+1)) g:=by simp only[w_,H];exact y
   exact eM ⟨u_ EL _,G (j+1) _ g c (by lia) x C f λD h2 l E m=>d D h2 l E λb o h q e=>m b o h q (p b o h e)⟩
theorem Xc(W:Lb prog w on.in1 I fp wr n P a)(u:QM prog w on.in1 .Lt P bt)(d:S∉fp)(pos:0<n){c:ft}(st:a 0 s.heap)(p:s.heap.get? S=O (gI #[] c))(f:∀v h' tk,P (w_ bt (n - 1)) v->Kp wr S s.heap h'->R (.ok (.ret v)) { s with heap:=h',toks:=tk }):C7 (hY prog w) on (.builtin "min.loop" ⟨[.ref I,.none,.ref S],kw⟩) R s:=by
 have A:(toString "min" ++ toString ".loop") = "min.loop" :=by decide
 refine ss EK ?_;refine b7 (rx p Y ?_);refine b7 (x3 (W.item 0 s _ _ pos st λv h' tk pv i q=>?_));have g:=q S _ (λz=>d (W.sub _ z)) p;show h_ _ on.in1 (Ea (updateSeq S (λ_=>#[v,v])) _) _ _ _;refine b7 (Cu g Y ?_);have j:=W.frame _ _ (Ge h' S (Cz λ_=>#[v,v])) i λb h o e=>(ow h' _ (show S≠b from λz=>d (z ▸ h))).trans e;exact eM ⟨u_ EL _,TF W u d (n - 1) 0 _ v _ (by lia) j pv (x_ _ g Y) λx h2 l y m=>f x h2 l y λb o h r e=>m b o h r ((ow _ _ (v_ r)).trans (q b o h e))⟩
theorem SH(W:Lb prog w on.in1 I fp wr 0 P a)(g:S∉fp){c:ft}{k:hO}{d:cv}(st:a 0 s.heap)(h:s.heap.get? S=O (gI #[] c))(f:∀h' tk,Kp wr S s.heap h'->R (.ok (.ret d)) { s with heap:=h',toks:=tk }):C7 (hY prog w) on (.builtin "min.loop" ⟨[.ref I,.none,.ref S],[(k,d)]⟩) R s:=by
 refine ss EK ?_;refine b7 (rx h Y ?_);refine b7 (x3 (W.done s _ _ st λh' tk i=>?_));refine b7 (Gf ?_);exact eM (f h' tk λb o j _ e=>i b o j e)
end
section
variable{l:ce}{c:t_ (gV×J_)}{d:cv}
theorem Yu(a d:cv):argsOk "min" ⟨[a],[(DF "default",d)]⟩:=by rfl
theorem SS(x:on.handled=cx)(y:s.heap.IsList l (DO c))(one:∀v h' tk,0<c.size->(DO c)[w_ (λi j=>decide (Cn c i<Cn c j)) (c.size - 1)]?=O v->(∀b o,s.heap.get? b=O o->h'.get? b=O o)->Q v { s with heap:=h',toks:=tk })(g:∀h' tk,c.size=0->(∀b o,s.heap.get? b=O o->h'.get? b=O o)->Q d { s with heap:=h',toks:=tk }):
  h_ (hY prog w) on (Fq (.builtin "min") [.ref l] [(DF "default",d)]) Q no s:=by
 have A:(toString "min" ++ toString ".loop") = "min.loop" :=by decide
 have a:(DO c).size=c.size:=by simp[DO]
 refine kmk_tree F.kind_min F.plain_min F.entry_min (Yu _ _) ?_;refine b7 (EC (show EY "min" ["key","default"] 0 ⟨[],[(DF "default",d)]⟩=zJ [cx,O d] from Y) (b7 (eM (b7 (NM y λr e st q ne=>?_)))));subst e;refine b7 (ID ?_ (ot _));have W:=DJ (prog:=prog) (w:=w) (A:=on.in1) x s.heap.objs.size l ne (DO c);have f:=λz=>rc _ (q _ z);have h:∀{h':sG},Kp [s.heap.objs.size] (s.heap.push { cls:=.type "list_iterator",data:=.fields #[.ref l,.int 0 0] }).objs.size ((s.heap.push { cls:=.type "list_iterator",data:=.fields #[.ref l,.int 0 0] }).push (gI #[] 0)) h'->
   ∀b o,s.heap.get? b=O o->h'.get? b=O o:=λm b o e=>by
  have lt:=e_ e;refine m b o (by simpa using g_ lt) (λz=>?_) (b_ _ (b_ _ e));simp only[z,tJ]at lt;exact hQ (BM (up _) lt) (rc _)
 have n:=W.frame 0 _ ((s.heap.push { cls:=.type "list_iterator",data:=.fields #[.ref l,.int 0 0] }).push (gI #[] 0)) st λb _ o e=>b_ _ e;refine eM ⟨u_ EL _,?_⟩;by_cases pos:0<c.size
 ·exact Xc W (CmpOf.ints_lt (Cn c) (λ_ _=>ED)) f (by exact a ▸ pos) n (f6 _ Y) λv h' tk p m=>one v h' tk pos (by exact a ▸ p) (h m)
 ·have u:c.size=0:=by simp_all
  simp only[a,u]at W;exact SH W f n (f6 _ Y) λh' tk m=>g h' tk u (h m)
end
section
variable(K:fy)
theorem xH(r:aB (ns.map V.int) J):∃a:t_ (gV×J_),J.toArray=DO a/\ns=a.toList.map (·.1):=by
 have hi:=nA r;obtain⟨a,e⟩:=hi.allInts.items;refine⟨a,e,?_⟩;have c:=hi.numsOf;have b:=IC a;rw[←e]at b;simp_all
inductive zq(E:U V)(d:V)(H:Hp)(Q:VK):Prop
 |i(p:ce)(ns:U gV)(_:E=[.ref p])(_:n7 K H p (ns.map V.int))(_:(ns=[]->Q d H))(_:∀M:gV,M∈ns->(∀a∈ns,a<=M)->Q (.int M) H)
inductive zr(E:U V)(d:V)(H:Hp)(Q:VK):Prop
 |i(p:ce)(ns:U gV)(_:E=[.ref p])(_:n7 K H p (ns.map V.int))(_:(ns=[]->Q d H))(_:∀M:gV,M∈ns->(∀a∈ns,M<=a)->Q (.int M) H)
def pT(X:Cx)(id:BP)(k:hO)(r:U V->V->Hp->VK->Prop):Prop:=
 ∀(g:U (ce×z_))(s:f0)(A:St)(H:Hp)(E:U V)(us:U cv)(d:V)(a:cv)(Q:VK),Inv X g A H s->aB E us->aD d a->r E d H Q->
  h_ (hY X.prog X.w) X.A (Fq (.builtin id) us [(k,a)]) (EP X g A Q) X.xe s
theorem X7(l:X.calm=c0)(h:X.K=K:=by rfl):pT X "max" "default" (zq K):=by
 subst h;intro g s A H E us d D Q I m n w;obtain⟨p,ns,rfl,x,y,q⟩:=w;obtain⟨u,rfl,z⟩:=df m;cases z;obtain⟨J,r,pl,hz⟩:=I.list x;obtain⟨c,e,f⟩:=xH r;refine zic (I.ok.hd l) (e ▸ pl.isList) (λv h' tk pos B b=>?_) (λh' tk G b=>⟨d,H,I.kept (t':=tk) b,n,y ?_⟩)
 ·obtain⟨t,rfl⟩:=ED B;obtain⟨h1,h2⟩:=argBest_gt (Cn c) (c.size - 1);refine⟨.int _,H,I.kept (t':=tk) b,⟨t,Y⟩,q _ ?_ λa i=>?_⟩
  ·rw[f,EX];exact getD_mem (by simp only[bd,li];omega)
  ·rw[f]at i;obtain⟨j,C,rfl⟩:=JI i;simp only[bd,li]at C;rw[←EX];exact h2 j (by exact DS ‹_›)
 ·grind
theorem Ua(l:X.calm=c0)(h:X.K=K:=by rfl):pT X "min" "default" (zr K):=by
 subst h;intro g s A H E us d D Q I m n w;obtain⟨p,ns,rfl,x,y,q⟩:=w;obtain⟨u,rfl,z⟩:=df m;cases z;obtain⟨J,r,pl,hz⟩:=I.list x;obtain⟨c,e,f⟩:=xH r;refine SS (I.ok.hd l) (e ▸ pl.isList) (λv h' tk pos B b=>?_) (λh' tk G b=>⟨d,H,I.kept (t':=tk) b,n,y ?_⟩)
 ·obtain⟨t,rfl⟩:=ED B;obtain⟨h1,h2⟩:=argBest_lt (Cn c) (c.size - 1);refine⟨.int _,H,I.kept (t':=tk) b,⟨t,Y⟩,q _ ?_ λa i=>?_⟩
  ·rw[f,EX];exact getD_mem (by simp only[bd,li];omega)
  ·rw[f]at i;obtain⟨j,C,rfl⟩:=JI i;simp only[bd,li]at C;rw[←EX];exact h2 j (by exact DS ‹_›)
 ·grind
variable{c:BP}{k:hO}{f:tA}{b:TA}{r:U V->V->Hp->VK->Prop}
def YF(r:U V->V->Hp->VK->Prop)(b:TA)(td:TE):TE:=λA H Q=>b A H λZ H1=>td A H1 λd H2=>r Z d H2 Q
theorem y7(j:pT X c k r)(l:Gl X x)(m:X.mg x=cx)(n:Dj x=O (.builtin c))(q:PA X (e::es) b)(hd:PE X f td)(u:x ≠ "__name__" :=by decide)(a:(x ==("__debug__" : hO))=d_:=by decide)(v:zG pos (i' (e::es) X.env)=(d_,eval e X.env)::zG pos (i' es X.env):=by rfl)(i:(zG pos (i' (e::es) X.env)).any (·.1)=d_:=by rfl):PE X (.Call (.Name x p) (e::es) [⟨O k,f,kpos⟩] pos) (YF r b td):=by
 intro g s A H Q I h;refine uz (eZ I l m n ?_ u a);refine Mh (wd (q pos g s A H _ I h) λus w ⟨Z,H1,y,z,B⟩=>?_) v i Y Y;refine kws_cons (wd (hd g w A H1 _ y B) λC s2 ⟨d,H2,D,E,G⟩=>kws_nil ?_);exact j g s2 A H2 Z us d C Q D z E G
end
end
section
open PySem.W
inductive Wf(x:V)(Z:U V)(H:Hp)(Q:VK):Prop
 |i(a:ce)(G:U (Key×V))(k:Key)(v:V)(_:x = .ref a)(_:Z=[kV k,v])(_:H a=O (.dK G))(_:(∀z,aP G k=O z->Q z H))(_:(aP G k=cx->G.length<fx/\Q v (upd H a (.dK (bR G k v)))))
theorem yj:Hz X "dict.setdefault" Wf:=by
 intro g s A H x Z m us Q I n p r;obtain⟨a,G,k,v,rfl,rfl,e,w,B⟩:=r;cases (show m=ql a from n);obtain⟨L,vu,rfl,C,d⟩:=p.two;obtain⟨z,hd,i,b,j⟩:=jR I.hok e;have hz:i.length<=fx:=by exact b.length ▸ z
 have val:=b.val k;refine Fi F.slot_dict_setdefault j.typeIs F.entry_dict_setdefault (F.args_dict_setdefault_3 _ _ _) (kt_meets_setdefault (cy X.prog X.w) a (io C) hd vu) ⟨i,j,hz,λu h=>?_,λh h' f D=>?_⟩
 ·rw[h]at val;cases c:aP G k with
  |none=>rw[c]at val;exact val.elim
  |some y=>
   rw[c]at val;exact⟨y,H,I.tok _,val,w y c⟩
 ·rw[h]at val;cases c:aP G k with
  |some y=>rw[c]at val;exact val.elim
  |none=>
   obtain⟨l,q⟩:=B c;have E:(bR G k v).length<=fx:=by have:=nE G k v;exact jE ‹_› ‹_›
   have J:∃q,h'.get? a=O q:=by obtain⟨q,_,_,K,_⟩:=f;exact⟨q,K⟩
   exact⟨v,_,kY I (by exact e ▸ zF) D J (jQ E hd (b.put k d) f),d,q⟩
theorem u6:∀{E:U V}{us:U cv},E.length=us.length->(∀(j:ft)(x:V)(u:cv),E[j]?=O x->us[j]?=O u->aD x u)->aB E us
 |[],[],_,_=>.nil
 |[],_::_,h,_=>nomatch h
 |x::E,u::us,h,r=>.cons (r 0 x u Y Y) (u6 (GH h) λj y z h1 h2=>r (j+1) y z h1 h2)
theorem sO{k:Key}(h:(cy Aa w).is k v=c0):aD (kV k) v:=by
 rcases fO h with⟨rfl,rfl⟩ |⟨i,t,rfl,rfl⟩ |⟨x,t,rfl,rfl⟩
 ·rfl
 ·exact⟨t,Y⟩
 ·exact⟨t,Y⟩
theorem xT{G:U (κ×V)}{a:U (κ×cv)}(r:KV G a)(j:ft):(G[j]?).map (·.1)=(a[j]?).map (·.1):=by
 induction r generalizing j with
 |nil=>rfl
 |cons h t b=>
  cases j with
  |zero=>exact tS O h.1
  |succ j=>exact b j
inductive Vt(E:U V)(H:Hp)(Q:VK):Prop
 |i(a:ce)(G:U (Key×V))(_:E=[.ref a])(_:H a=O (.dK G))(_:∀l,H l=cx->Q (.ref l) (upd H l (.lst (G.map λkv=>kV kv.1))))
theorem wt(l:X.calm=c0):bw X (.type "list") Vt:=by
 intro g s A H E us Q I m n;obtain⟨a,G,rfl,e,q⟩:=n;obtain⟨u,rfl,p⟩:=df m;cases p;obtain⟨z,hd,D,b,v⟩:=jR I.hok e;have f:=b.length;obtain⟨ep,d⟩:=v.dictAt;refine kdl_call (kdl_dict hd) (I.ok.hd l) d (by simp_all) λh' tk acc c w Ab it=>?_;have r:aB (G.map λkv=>kV kv.1) acc.toList:=by
  refine u6 (by simp only[bd,f];exact it.1.symm.trans li.symm) λj x u h1 h2=>?_;obtain⟨k,y,h,B⟩:=it.2 j u (by simp_all);have i:j<G.length:=by rw[f];exact (cs.mp h).1
  simp only[cc,a_ i]at h1;cases h1;have C:G[j].1=k:=by
   have:=xT b j;rw[h,a_ i]at this
   simp_all
  show aD (kV G[j].1) u;rw[C];exact sO B
 exact⟨.ref s.heap.objs.size,_,I.laid (t':=tk) w (dv _) (show bo X.prog X.w _ h' _ (.lst _) from⟨by simp_all,acc.toList,c,r,by simp_all⟩),Y,q _ (I.hok.fresh (dv _))⟩
end
inductive iB(Aa:sJ)(w:uF)(K:fy)(mg:hO->eH cv)(base:sG)(CX:HL)(k:ft)(x:hO)(ps:U hO)(keys:U hO)(sp:hO->Sp):Prop
 |i(a:ce)(es:t_ DX)(n:ft)(_:mg x=O (.ref a))(_:K.lookup a=O ⟨.type "dict",cx,.dict es n,#[]⟩)(_:EM w.params es.toList)(_:∀y∈keys,∃(f:ce)(fd:B'),Dp K a y=O (O (.ref f))/\ap Aa w K mg base CX k f fd ps (sp y)/\BD K (.ref f)=c0/\cM K fd ps [])
inductive XT(keys:U hO)(sp:hO->Sp)(no:XK)(t:TA)(A:St)(Q:VK)(y:V)(H1:Hp):Prop
 |i(x:_)(_:y = .str x)(_:x∈keys)(_:t A H1 λZ H2=>sp x (Z++[]) H2 Q no)
def Su(keys:U hO)(sp:hO->Sp)(no:XK)(ti:TE)(t:TA):TE:=λA H Q=>ti A H λy H1=>XT keys sp no t A Q y H1
theorem iB.pe{k:ft}{keys:U hO}{sp:hO->Sp}{no:XK}{sp':KN}{i:tA}{t:TA}(C:iB X.prog X.w X.K X.mg X.base CX k x ps keys sp)(B:bj j X.A)(D:di CX X no)(hi:PE X i ti)(E:PA X (e::es) t)(G:k<=j:=by decide)(J:Gl X x:=by rfl)(K:mt i:=by (intro _ _;rfl))(d:(x ==("__debug__" : hO))=d_:=by decide)(c:eval (.Call (.Subscript (.Name x p) i sp') (e::es) [] pos) X.env=(do HW pos (←eval (.Subscript (.Name x p) i sp') X.env) [] (zG pos (i' (e::es) X.env)) (Ez pos (C_ [] X.env))):=by rfl)(L:i' (e::es) X.env=(d_,eval e X.env)::i' es X.env:=by rfl)(l:(zG pos (i' es X.env)).any (·.1)=d_:=by rfl):
  PE X (.Call (.Subscript (.Name x p) i sp') (e::es) [] pos) (Su keys sp no ti t):=by
 obtain⟨a,ds,n,M,u,N,P⟩:=C;intro g s A H Q I h;refine HS (uS F9.lookup K (gd I J M (wd (hi g s A H _ I h) λiv R ⟨y,H1,v,S,z,T,hz,q⟩=>?_) d)) c;subst T;obtain⟨tk,rfl⟩:=S;obtain⟨f,fd,hn,A0,m,hb⟩:=P z hz;have b:=Ik (prog:=X.prog) v.kIn u N;refine⟨b.typeIs,Hd (Gg X.prog X.w z tk) b (W.find_K u hn) ?_⟩;refine EU I.ok.mod.kin m (wd (E pos g _ A H1 _ (v.tok (R.toks+1)) q) λus s2 ⟨Z,H2,w,r,q2⟩=>⟨w.kIn,?_⟩) L l;exact lO A0 (B.mono G) hb .nil D w r q2
section
open PySem.NumText
def bq(l:U ft):Prop:=∀c∈l,c=48\/c=49
def fM(l:U ft):ft:=l.foldl (λacc c=>acc * 2+(c - 48)) 0
theorem zd8{c:ft}(h:c=48\/c=49)(a:t_ ft)(b:n_):step 2 (a,b) c=O (a.push (c - 48),c0):=by
 rcases h with rfl |rfl <;> rfl
theorem vN:∀(l:U ft)(a:t_ ft)(b:n_),bq l->l.foldlM (step 2) (a,b)=O ((l.map (· - 48)).foldl Array.push a,b || !l.isEmpty)
 |[],a,b,_=>by simp
 |c::r,a,b,h=>by
  rw[List.foldlM_cons,zd8 (h c j_)];show r.foldlM (step 2) (a.push (c - 48),c0)=_;rw[vN r _ c0 λd hd=>h d (hE _ hd)];simp
theorem UW(h:bq l)(a:l≠[]):digits? 2 l=O (l.map (· - 48)).toArray:=by
 unfold digits?;rw[vN l _ _ h]
 grind
theorem vO(h:bq l)(p:ft->n_)(a:p 48=d_)(h1:p 49=d_):l.dropWhile p=l:=by
 cases l with
 |nil=>rfl
 |cons c r=>
  have:p c=d_:=by rcases h c j_ with e |e <;> rw[e] <;> assumption
  simp_all
theorem Xb(h:bq l):bq l.reverse:=λc a=>h c (List.mem_reverse.mp a)
theorem zd7(h:bq l):sign l=(d_,l):=by
 cases l with
 |nil=>rfl
 |cons c r=>rcases h c j_ with e |e <;> rw[e] <;> rfl
theorem Yz(h:bq l):based 2 l=(2,d_,l):=by
 match l,h with
 |[],_=>rfl
 |[c],h=>rcases h c j_ with e |e <;> rw[e] <;> rfl
 |c::d::r,h=>
  rcases h c j_ with e |e <;> rcases h d (hE _ j_) with a |a <;> rw[e,a] <;> rfl
theorem UN(l:U ft)(a:ft):(l.map (· - 48)).foldl (λacc d=>acc * 2+d) a=l.foldl (λacc c=>acc * 2+(c - 48)) a:=by
 rw[List.foldl_map]
theorem UC(h:bq l)(a:l≠[]):(int_private% "readNumeral") 0 2 l=(int_private% "Numeral.value") (fM l:gV):=by
 rw[readNumeral_eq,vO h blank Y Y,zd7 h];rw[Yz h];simp only[vO (Xb h) blank Y Y,List.reverse_reverse,UW h a];show (int_private% "Numeral.value") (((l.map (· - 48)).toArray.foldl (λacc d=>acc * 2+d) 0:ft):gV)=_;rw[List.foldl_toArray,UN];rfl
theorem vP:∀{l:U ft},bq l->l.takeWhile (· !=0)=l
 |[],_=>rfl
 |c::r,h=>by
  have:(c !=0)=c0:=by rcases h c j_ with e |e <;> rw[e] <;> rfl
  rw[List.takeWhile_cons,this,mu Y,vP λd hd=>h d (hE _ hd)]
theorem Y0(a b:cv):checkTypeCall "int" ⟨[a,b],[]⟩=zJ ():=by rfl
theorem Yq(a b:cv):checkBuiltinCall "int.__new__" ⟨[.type "int",a,b],[]⟩=zJ ():=by kernel_rfl
structure XN(p:Prop):Prop where
 out:p
theorem Rk(c:bq l)(b:l≠[])(g:l.length<=640)(h:Q (.int (fM l) s.toks) { s with toks:=s.toks+1 }):
  h_ M on ((int_private% "intFromText") v l 2) Q no s:=by
 have d:=vP c;have a:=UC c b;rw[←d]at a;have a:(int_private% "readNumeral") 0 2 (l.takeWhile (· !=0))=(int_private% "Numeral.value") (fM l):=by rw[a,d]
 repeat (any_goals (first |assumption | (with_reducible refine FE (fo e) ?_) | (with_reducible refine FE (fo f) ?_) |wp_step))
 all_goals (try rw[a])
 repeat (any_goals (first |assumption | (with_reducible refine FE (fo e) ?_) | (with_reducible refine FE (fo f) ?_) |wp_step))
theorem IT{z:U ft}(e:z=l)(b:bq l)(a:l≠[])(c:l.length<=640)(h:Q (.int (fM l) s.toks) { s with toks:=s.toks+1 }):
  h_ M on ((int_private% "intFromText") v z (Int.toNat 2)) Q no s:=by
 subst e;exact Rk b a c h
theorem W6{x:Mi}{u t:J_}(f:bq x.cps.toList)(a:x.cps.toList≠[])(i:x.length<=640):Gives (Dx.«int.__new__» ⟨[.type "int", .str x u,.int 2 t],[]⟩) (.int (fM x.cps.toList)):=
 .of_wp λM on no s Q h=>by
  obtain⟨m,Ab,d,tk,os⟩:=s;have n:=F.conv_sub_int;have p:=F.madeHere_int;have q:K3 (.str x u)=zJ (.type "str"):=Y;have j:x.cps.all (· < 128)=c0:=by
   rw[Array.all_eq_true_iff_forall_mem];intro c l;rcases f c (HU.mpr l) with e |e <;> rw[e] <;> rfl
  have b:x.cps.toList.length<=640:=by rw[li];exact i
  have g:=XN.mk (JM f (JM a b));clear f a i b
  repeat (any_goals (first |assumption | ((with_reducible show h_ _ _ ((int_private% "intFromText") _ _ _) _ _ _);refine IT (mu j) g.out.1 g.out.2.1 g.out.2.2 ?_) |wp_step))
  all_goals first |exact⟨_,Y,h⟩ |skip
inductive WS(E:U V)(H:Hp)(Q:VK):Prop
 |i(z:hO)(_:E=[.str z,.int 2])(_:bq z.cps.toList)(_:z.cps.toList≠[])(_:z.length<=640)(_:Q (.int (fM z.cps.toList)) H)
theorem V2:bw X (.type "int") WS:=by
 intro g s A H E us Q I r h;obtain⟨z,rfl,d,c,e,q⟩:=h;obtain⟨a,b,rfl,⟨t,rfl⟩,⟨k,rfl⟩⟩:=r.two;refine callType_new F.called_int F.newNe_int (Y0 _ _) (Yq _ _) (λobj=>Jh obj _ _) F.entry_int_new (W6 d c e).meets ?_;exact (show (Made.int (fM z.cps.toList)).post _ s from⟨Y,⟨.int _,H,I.tok _,⟨_,Y⟩,q⟩⟩)
theorem wG(c:ft):∀l:U ft,Mj c l=((l.count c:ft):gV)
 |[]=>rfl
 |n::r=>by
  rw[Ml,wG c r,List.count_cons];by_cases e:n=c
  ·subst e;simp;omega
  ·have:(n ==c)=d_:=by simpa using e
   simp_all
theorem PV(x:Mi)(c:ft):Txt.count x ⟨#[c]⟩=((x.cps.toList.count c:ft):gV):=(Mm x c).trans (wG c x.cps.toList)
theorem yi:Hz X "str.count" (λx Z H Q=>∃z y:hO,x = .str z/\Z=[.str y]/\Q (.int (Txt.count z y)) H):=by
 intro g s A H x Z v us Q I a b h;obtain⟨z,y,rfl,rfl,q⟩:=h;obtain⟨t,rfl⟩:=a;obtain⟨u,rfl,⟨k,rfl⟩⟩:=b.one;exact SC.count ⟨.int _,H,I.tok _,⟨_,Y⟩,q⟩
inductive TJ(x:V)(lo:eH gV)(hi:eH gV)(H:Hp)(Q:VK):Prop
 |i(z:hO)(a b:ft)(_:x = .str z)(_:lo=O (a:gV))(_:hi=O (b:gV))(_:a<=b)(_:b<=z.length)(_:z.length<=fx)(_:Q (.str ⟨((z.cps.toList.drop a).take (b - a)).toArray⟩) H)
theorem UM(z:hO){a b:ft}(c:a<=b)(d:b<=z.length):Txt.slice z (O (a:gV)) (O (b:gV))=⟨((z.cps.toList.drop a).take (b - a)).toArray⟩:=by
 delta Txt.slice
 rw[StrLaws.sliced_plain z c d,StrLaws.strSliceIndices_plain c d]
 split
 ·rename_i h
  have h:b - a=z.length:=by simpa using h
  have e:a=0:=by lia
  subst e;rw[h];rw[List.drop_zero,xv (by exact li ▸ (dv _))]
 ·rfl
theorem Ot:JU X TJ:=by
 intro g s A H x v vl vu lo hi sl Q I d e pl f h;obtain⟨z,a,b,rfl,rfl,rfl,c,i,hz,q⟩:=h;obtain⟨t,rfl⟩:=d;obtain⟨ta,rfl⟩:∃ta,vl = .int (a) ta:=by cases pl;exact⟨_,Y⟩
 obtain⟨tb,rfl⟩:∃tb,vu = .int (b) tb:=by cases f;exact⟨_,Y⟩
 refine⟨"str",_,F.slot_str_getitem.lookup,typeIs_str _ _ _,?_⟩;refine wpAny_getItem_str_slice (l:=O ((a),ta)) (u:=O ((b),tb)) (st:=cx) e Y ?_;refine post_val_or_str ⟨jE (Txt.slice_le z (O (a)) (O (b))) hz,λt' k=>⟨.str _,H,I.tok k,⟨t',?_⟩,q⟩⟩;show DZ (Txt.slice z (O (a)) (O (b))) t'=_;rw[UM z c i]
end
def cp(E:U α)(k:ft)(y:α):U α:=E.take k++y::E.drop k
inductive Rw(x:V)(Z:U V)(H:Hp)(Q:VK):Prop
 |i(l:ce)(E:U V)(i:gV)(y:V)(_:x = .ref l)(_:Z=[.int i,y])(_:H l=O (.lst E))(_:0<=i)(_:i<=E.length)(_:E.length<1000000)(_:Q .non (upd H l (.lst (cp E i.toNat y))))
theorem VW(r:aB E J)(a:aD y u)(k:ft):aB (cp E k y) (cp J k u):=(r.take k).append (.cons a (r.drop k))
theorem WW:MY X "list.insert" Rw:=by
 intro g s A H x Z v us Q I d f h;obtain⟨l,E,i,y,rfl,rfl,c,w,B,hz,q⟩:=h;cases d;obtain⟨C,u,rfl,j,m⟩:=f.two;obtain⟨t,rfl⟩:=j;obtain⟨z,J,n,r,D,e⟩:=I.lstM c;have a:¬ (!Fz i)=c0:=by
  rw[H_ (by lia) (by lia)];decide
 have b:J.toArray.size<=fx:=by rw[hL];lia
 refine BX F.slot_list_insert ⟨_,e,Y⟩ F.entry_list_insert (F.args_list_insert_3 _ _ _) (QO l J.toArray n i t u a b) ⟨e,?_⟩;refine⟨.non,_,I.lset (a:=cp J i.toNat u) c e ?_ (VW r m i.toNat) ?_,Y,q⟩
 ·show ((J.toArray.extract 0 (if i<0 then (i+(J.toArray.size)).toNat else min i.toNat J.toArray.size)).push u++J.toArray.extract (if i<0 then (i+(J.toArray.size)).toNat else min i.toNat J.toArray.size))=(cp J i.toNat u).toArray;have p:(if i<0 then (i+(J.toArray.size)).toNat else min i.toNat J.toArray.size)=i.toNat:=by
   rw[ks (by lia),hL];lia
  rw[p];simp[cp];rw[xv (by simp)]
 ·show (cp E i.toNat y).length<=fx
  delta cp
  simp only[gT,gv,r_,yy,BB]
  lia
inductive Nz(B:sG)(l:U FZ)(e:ce)(cls a:cv)(h:sG):Prop
 |i(b:_)(_:B.StaysIn h)(_:B.get? e=cx)(_:h.FunFrames B l)(_:h.TracedAtW B e cls a b)
section
variable{l:U FZ}{e L:ce}{a:cv}{Q:J9->f0->Prop}
theorem Nz.mark{o:eH ce}(f:Nz B l e cls a s.heap)(k:∀h',Nz B l e cls a h'->s.heap.UpToSlots h'->Q () { s with heap:=h' }):h_ M on (L4 (.ref e) o) Q no s:=by
 obtain⟨x,p,q,r,u,Z,T,y,ts,j,v,hd,h1,m,n,i,dT,w⟩:=f;have z:3<ts.size:=(Array.getElem?_eq_some_iff.mp w).1;have g:∀(b:ce)(Ab:z_->z_),b≠T->(s.heap.update T Ab).get? b=s.heap.get? b:=λb Ab c=>ow _ _ (v_ c);have nt:∀b d,s.heap.get? b=O d->(∀Z,d.data≠.fields Z)->b≠T:=by
  rintro b d c h rfl;rw[i]at c;cases c;exact h ts dT
 unfold L4;refine b7 (tO j hd h1 ?_);rw[mu (by simp:(ql T !=Dg)=c0)];refine Ic i dT z (k _ ⟨_,λb d c=>?_,q,r.of_keeps λb d c h=>⟨d,?_,Y⟩,u,Z,T,_,_,?_,v,hd,h1,m,n,x_ _ i (Il (Ek dT _)),Ek dT _,by simp[z];rfl⟩ λb d c h=>⟨d.slots,?_⟩)
 ·rw[g b _ (by rintro rfl;rw[m]at c;cases c)];exact p b d c
 ·rw[g b _ (nt b d c h)];exact c
 ·rw[g e _ (v_ n)];exact j
 ·rw[g b _ (nt b d c h)];exact c
end
section
variable{a:U hO}{f:ce}{E:XK}
end
section
open PySem.Builtin.Str
end
section
variable{k:ft}{f:ce}{E:XK}{m:hO}{b:tA}{a:TA}
end
def O8(z:hO):It:=⟨λi _=>i<z.length,λi H x H'=>H'=H/\∃c,z.cps.toList[i]?=O c/\x = .str ⟨#[c]⟩,λi _=>z.length<=i⟩
theorem VP(z:hO)(t:J_)(it:ce):fJ Aa w K tg (O8 z) [it] it (λi h=>h.IsStrIter it "str_ascii_iterator" z t i) where
 mem:=by simp
 obj:=λi h st b a=>by
  have e:b=it:=by simpa using a
  subst e;obtain⟨o,e,c,d⟩:=st;exact⟨o,e,λv z=>by rw[d]at z;cases z⟩
 keep:=λi h h' st k=>by
  obtain⟨o,e,r⟩:=st;exact⟨o,k it (by simp) o e,r⟩
 item:=by
  intro X m n p C i g s A H no I l st f;subst m n p;have f:i<z.cps.size:=f;obtain⟨q,u,E,x,y,B⟩:=l it (by simp);have D:z.cps[i]?=O z.cps[i]:=by simp[f]
  refine wpAny_pyNext_ascii_item st D λh' j G=>?_;have J:Inv X g A H { s with heap:=h',toks:=s.toks+1 }:=I.turned (t':=s.toks+1) (λb o a e=>(G.2 b a).trans e) q u x y B;obtain⟨o,e,c,d⟩:=id j;exact⟨_,Y,jY (s:={ s with heap:=h',toks:=s.toks+1 }) e c d (by decide) ⟨.str ⟨#[z.cps[i]]⟩,H,J,⟨_,Y⟩,⟨Y,_,by exact Array.getElem?_toList ▸ D,Y⟩,j,λb a=>(l b a).1⟩⟩
 done:=by
  intro X m n p C i g s A H no I l st f;subst m n p;have f:z.cps.size<=i:=f;obtain⟨q,u,E,x,y,B⟩:=l it (by simp);exact wpAny_pyNext_ascii_end (I.ok.hd C) st (by simp[f]) λh' L=>⟨Y,I.turned (t':=s.toks) (λb o a e=>L b o a e) q u x y B⟩
 self:=λ_ _ _ _ _ st h=>wpAny_pyIter_striter_ascii st h
inductive V6(R:It->Hp->Prop)(x:V)(H1:Hp):Prop
 |i(z:hO)(_:x = .str z)(_:z.cps.all (· < 128)=c0)(_:R (O8 z) H1)
def Z0(tl:TE):TI:=λA H R=>tl A H λx H1=>V6 R x H1
theorem VX{l:tA}(d:PE X l tl):PI X tg l (Z0 tl):=by
 intro g s A H R I h;refine wd (d g s A H _ I h) λv a ⟨x,H1,c,f,i⟩=>?_;obtain⟨z,e,j,q⟩:=i;subst e;obtain⟨t,rfl⟩:=f;refine wpAny_pyIter_ascii j ?_;refine⟨a.heap.objs.size,[a.heap.objs.size],_,_,H1,Y,c.kept (t':=a.toks) λb o e=>b_ _ e,VP z t _,⟨_,f6 _ Y,Y,Y⟩,λb m=>?_,q⟩;have e:b=a.heap.objs.size:=by simpa using m
 subst e;exact c.fpOk (dv _) (c.hok.fresh (dv _))
section
variable{k:ft}{E:XK}{y m:hO}{b:tA}{a:TA}
end
section
open PySem.Builtin.Str
end
theorem ap.or0{k:ft}{f:ce}(F:ap Aa w K mg base q_ k f fd ps sp)(b:ap Aa w K mg base CX k f fd ps sp'):
  ap Aa w K mg base CX k f fd ps (λZ H Q no=>sp Z H Q no\/sp' Z H Q no):=
 ⟨λZ H Q no h=>h.elim (F.len Z H Q no) (b.len Z H Q no),λon outer s H a us Z Q no c d g i h=>h.elim (λh=>Co (F.run on outer s H a us Z Q no c d g i h) λr s' j=>by
  cases r with
  |error e=>exact tj j
  |ok l=>cases l <;> exact j) (λh=>b.run on outer s H a us Z Q no c d g i h)⟩
section
variable [BU κ] {f:KeyKind prog w κ}
theorem o4{v:ce}{Q:BP->f0->Prop}(T:s.TypeIs (.ref v) "dict_valueiterator")(q:Q "dict_valueiterator" s):h_ (hY prog w) on (typeNameOfWhole (.ref v)) Q no s:=wpAny_typeNameOfWhole_valiter T q
theorem yD{v:ce}{e:ft}{ps:U (κ×cv)}{k:κ}{y:cv}(a:s.heap.IsValIter v d i ps.length e)(m:s.heap.DictAt f d ps e)(h:ps[i]?=O (k,y))(q:∀h',h'.IsValIter v d (i+1) ps.length e->wh v s.heap h'->Q y { s with heap:=h' }):h_ (hY prog w) on (rN (.ref v)) Q no s:=by
 obtain⟨u,g,n,b⟩:=id a;obtain⟨x,es,j,z,l,A,p2,B⟩:=id m
 delta rN;refine b7 (wb a.typeIs BZ
  (zB BZ a.typeIs Gn ?_ (Gh _)))
 refine b7 (eM (b7 (b7 (b7 (o4 a.typeIs (eM (b7 (ML g b ?_))))))));have C:EE "dict_valueiterator" =d_:=by decide
 have sz:es.size=ps.length:=by rw[←p2.length];simp
 refine b7 (eM (b7 (Lc j l ?_)));rw[ks (by rw[sz];simp)];refine b7 (eM (b7 (Mn j l ?_)));rw[ks (by simp)];refine eM ?_;have lt:i<es.size:=by rw[sz];exact (cs.mp h).1
 have p:=(p2.get? (e:=es[i]) (by simp[lt]) h).2;simp only[ nI,Array.getElem?_eq_getElem lt];refine b7 (b7 (o4 a.typeIs (eM (b7 (Ft a.typeIs ?_)))));show h_ _ _ (setField (.ref v) 1 (DE ((i)+1)) >>=_) _ _ s;refine b7 (Ic g b (by simp) ?_);have c:(s.heap.update v (Ld (·.setIfInBounds 1 (DE ((i)+1))))).IsValIter v d (i+1) ps.length e:=
  ⟨_,x_ _ g (Il (Ek b _)),(Obj.cls_mapFields ..).trans n,by rw[Ek b];simp[DE]⟩
 generalize r:s.heap.update v (Ld (·.setIfInBounds 1 (DE ((i)+1))))=h' at c;refine b7 (sA (b7 (Ft c.typeIs (b7 (Ft c.typeIs ?_)))));exact eM (eM ⟨_,Y,eM (p ▸ q _ c (r ▸ G6 ..))⟩)
theorem XV{v:ce}{e:ft}{ps:U (κ×cv)}(j:on.handled=cx)(a:s.heap.IsValIter v d i ps.length e)(l:s.heap.DictAt f d ps e)(m:ps[i]?=cx)(q:∀h' x,Im v s.heap h'->(∃o,h'.get? x=O o/\o.cls = .type "StopIteration")->no (.ref x) { s with heap:=h' }):h_ (hY prog w) on (rN (.ref v)) Q no s:=by
 obtain⟨n,b,p,c⟩:=id a;obtain⟨r,es,g,u,h,y,p2,z⟩:=id l
 delta rN;refine b7 (wb a.typeIs BZ
  (zB BZ a.typeIs Gn ?_ (Gh _)))
 refine b7 (eM (b7 (b7 (b7 (o4 a.typeIs (eM (b7 (ML b c ?_))))))));have A:EE "dict_valueiterator" =d_:=by decide
 have sz:es.size=ps.length:=by rw[←p2.length];simp
 refine b7 (eM (b7 (Lc g h ?_)));rw[ks (by rw[sz];simp)];refine b7 (eM (b7 (Mn g h ?_)));rw[ks (by simp)];refine eM ?_;have lt:es.size<=i:=by rw[sz];simpa using m
 simp only[ nI,Array.getElem?_eq_none lt];refine b7 (b7 (o4 a.typeIs (eM ?_)));show h_ _ _ (setField (.ref v) 0 .none >>=_) _ _ s;refine b7 (Ic b c (by simp) ?_);refine b7 ?_;refine b7 (DM (b7 (EC (a:=Dg) (by first |rfl | (simp only[firstArgMember];rfl)) (DM ?_ (by size_fits)))) (by size_fits));refine b7 (wpAny_handled ?_);rw[show on.in1.handled=cx from j];exact b7 (eM (wpAny_throw (q _ _ (((G6 ..).extBut.push _).push _) ⟨_,f6 _ Y,Y⟩)))
structure M_(z TI TO i1 i2:ce):Prop where
 a1:TI≠z
 a2:TO≠z
 a3:i1≠z
 a4:i2≠z
 a5:TO≠i1
 a6:TO≠i2
 a7:i1≠i2
def fk(Af:U ce)(S:sG->Prop):Prop:=∀h h',S h->(∀c o,c∉Af->h.get? c=O o->h'.get? c=O o)->S h'
theorem fk.but{Af:U ce}(Ab:fk Af S)(a:S h)(b:wh c h h')(d:c∈Af):S h':=Ab h h' a λx o f e=>b.extBut x o (λz=>f (z ▸ d)) e
theorem ZS{TI TO:ce}{x y a b:cv}{I g J h:sG->Prop}(D:M_ z TI TO i1 i2)(j:G1 s.heap z TI TO .none)(t0:BR s.heap TI (.ref i1) (.ref i2))(u0:BR s.heap TO a b)(p1:I s.heap)(p2:J s.heap)(g1:fk [z,TO,i2] I)(d:fk [z,TO,i2] g)(K:fk [z,TO,i1] J)(l:fk [z,TO,i1] h)(n1:∀(on:BF)(no:cv->f0->Prop)(s:f0)(Q:cv->f0->Prop),I s.heap->(∀h',g h'->wh i1 s.heap h'->Q x { s with heap:=h' })->h_ (hY prog w) on (rN (.ref i1)) Q no s)(n2:∀(on:BF)(no:cv->f0->Prop)(s:f0)(Q:cv->f0->Prop),J s.heap->(∀h',h h'->wh i2 s.heap h'->Q y { s with heap:=h' })->h_ (hY prog w) on (rN (.ref i2)) Q no s)(q:∀h',G1 h' z TI TO (DE s.heap.objs.size)->BR h' TO x y->g h'->h h'->BR h' s.heap.objs.size x y->h'.objs.size=s.heap.objs.size+1->
   (∀c o,c∉[z,TO,i1,i2]->s.heap.get? c=O o->h'.get? c=O o)->Q (.ref s.heap.objs.size) { s with heap:=h' }):
  h_ (hY prog w) on (Dx.«zip.__next__» ⟨[.ref z],[]⟩) (λr s1=>∃v,r = .done (.ret v)/\Q v s1) no s:=by
 refine b7 (m:=QP (.ref z) 2) (tO j Y (x:=.bool d_) Y ?_);refine b7 (tO j Y Y (b7 (rx t0 Y ?_)));refine b7 ?_
 delta B_;refine b7 (tO j Y Y (eM ?_))
 refine b7 (Gf (b7 (tO j Y Y (b7 (BH j (by simp) λhA zA m=>?_)))));refine b7 ?_;simp only[Jy,JN,Do,Kf];refine b7 (b7 (EH ?_));refine b7 (n1 _ _ _ _ (g1.but p1 m (by simp)) λhB pB n=>eM ?_);have P:=n.extBut _ _ D.a5 (m.extBut _ _ D.a2 u0);refine b7 (rx P Y (b7 (FF P λhC uC p=>b7 (BV (eM ?_)))));refine b7 (b7 (EH ?_));refine b7 (n2 _ _ _ _ (K.but (K.but (K.but p2 m (by simp)) n (by simp)) p (by simp)) λhF pF u=>eM ?_);have R:=u.extBut _ _ D.a6 uC;refine b7 (rx R Y (b7 (FF R λi E A=>b7 (BV (eM (eM ?_))))));replace E:BR i TO x y:=E;refine b7 (rx E Y (b7 (MN ?_)));have sz:i.objs.size=s.heap.objs.size:=by simp only[A.1,u.1,p.1,n.1,m.1]
 have S:=A.extBut _ _ D.a2.symm (u.extBut _ _ D.a4.symm (p.extBut _ _ D.a2.symm (n.extBut _ _ D.a3.symm zA)));have kG:∀c o,c∉[z,TO,i1,i2]->s.heap.get? c=O o->i.get? c=O o:=λc o f e=>by
  simp only[f_,m_,u3,Ie]at f;obtain⟨G,T,c3,c4⟩:=f;exact A.extBut _ _ T (u.extBut _ _ c4 (p.extBut _ _ T (n.extBut _ _ c3 (m.extBut _ _ G e))))
 have q1:=d.but (d.but (d.but pB p (by simp)) u (by simp)) A (by simp);have q2:=l.but pF A (by simp);have B:=e_ S;refine b7 ?_
 delta Jz;have zH:G1 (i.push { cls:=.type "tuple",data:=.seq #[x,y] }) z TI TO .ellipsis:=b_ _ S
 refine b7 (BH zH (by simp) λhI zI L=>?_);refine BH zI (by simp) λM X N=>?_;have H:∀c o,c≠z->i.get? c=O o->M.get? c=O o:=λc o G e=>N.extBut _ _ G (L.extBut _ _ G (b_ _ e));have Z:=N.extBut _ _ (rs B) (L.extBut _ _ (rs B) (f6 _ Y));have C:M.objs.size=i.objs.size+1:=by simp only[N.1,L.1,tJ]
 rw[sz]at X Z C;refine eM ⟨_,Y,?_⟩;rw[sz];exact q M X (H _ _ D.a2 E) (d _ _ q1 λc o f e=>H c o (λy=>f (y ▸ j_)) e) (l _ _ q2 λc o f e=>H c o (λy=>f (y ▸ j_)) e) Z C λc o f e=>H c o (λy=>f (y ▸ j_)) (kG c o f e)
theorem Wd{TI TO:ce}{a b:cv}{u v:sG->Prop}{Q:Fin->f0->Prop}(D:M_ z TI TO i1 i2)(h:G1 s.heap z TI TO .none)(T:BR s.heap TI (.ref i1) (.ref i2))(X:BR s.heap TO a b)(p1:u s.heap)(p2:v s.heap)(H:fk [z,TO,i2] u)(y:fk [z,TO,i1] v)(i:(∃x,∀(on:BF)(no:cv->f0->Prop)(s:f0)(Q:cv->f0->Prop),u s.heap->(∀h',wh i1 s.heap h'->Q x { s with heap:=h' })->h_ (hY prog w) on (rN (.ref i1)) Q no s)/\
    (∀(j:BF)(no:cv->f0->Prop)(s:f0)(Q:cv->f0->Prop),j.handled=cx->v s.heap->(∀h' x,Im i2 s.heap h'->(∃o,h'.get? x=O o/\o.cls = .type "StopIteration")->no (.ref x) { s with heap:=h' })->h_ (hY prog w) j (rN (.ref i2)) Q no s)\/
   (∀(j:BF)(no:cv->f0->Prop)(s:f0)(Q:cv->f0->Prop),j.handled=cx->u s.heap->(∀h' x,Im i1 s.heap h'->(∃o,h'.get? x=O o/\o.cls = .type "StopIteration")->no (.ref x) { s with heap:=h' })->h_ (hY prog w) j (rN (.ref i1)) Q no s))(I:on.handled=cx)(q:∀h' e,(∀c o,c∉[z,TO,i1,i2]->s.heap.get? c=O o->h'.get? c=O o)->(∃o,h'.get? e=O o/\o.cls = .type "StopIteration")->no (.ref e) { s with heap:=h' }):h_ (hY prog w) on (Dx.«zip.__next__» ⟨[.ref z],[]⟩) Q no s:=by
 refine b7 (m:=QP (.ref z) 2) (tO h Y (x:=.bool d_) Y ?_);refine b7 (tO h Y Y (b7 (rx T Y ?_)));refine b7 ?_
 delta B_;refine b7 (tO h Y Y (eM ?_))
 refine b7 (Gf (b7 (tO h Y Y (b7 (BH h (by simp) λhA J g=>?_)))));refine b7 ?_;simp only[Jy,JN,Do,Kf];refine b7 (b7 (EH ?_));rcases i with⟨⟨x,i⟩,Z⟩ |i
 ·refine b7 (i _ _ _ _ (H.but p1 g (by simp)) λK d=>eM ?_);have L:=d.extBut _ _ D.a5 (g.extBut _ _ D.a2 X);refine b7 (rx L Y (b7 (FF L λhC uC A=>b7 (BV (eM ?_)))));refine b7 (b7 (EH ?_));refine b7 (Z _ _ _ _ I (y.but (y.but (y.but p2 g (by simp)) d (by simp)) A (by simp)) λhF e M B=>?_);obtain⟨o,f,l⟩:=B;have N:G1 hF z TI TO .ellipsis:=M _ _ D.a4.symm (A.extBut _ _ D.a2.symm (d.extBut _ _ D.a3.symm J));have C:e≠z:=λr=>by subst r;rw[N]at f;cases f;simp at l
  refine BH N (by simp) λE _ m=>q E e (λc o n r=>?_) ⟨o,m.extBut _ _ C f,l⟩;simp only[f_,m_,u3,Ie]at n;obtain⟨p,P,G,R⟩:=n;exact m.extBut _ _ p (M _ _ R (A.extBut _ _ P (d.extBut _ _ G (g.extBut _ _ p r))))
 ·refine b7 (i _ _ _ _ I (H.but p1 g (by simp)) λK e d B=>?_);obtain⟨o,f,l⟩:=B;have S:G1 K z TI TO .ellipsis:=d _ _ D.a3.symm J;have C:e≠z:=λr=>by subst r;rw[S]at f;cases f;simp at l
  refine BH S (by simp) λE _ m=>q E e (λc o n r=>?_) ⟨o,m.extBut _ _ C f,l⟩;simp only[f_,m_,u3,Ie]at n;obtain⟨p,P,G,R⟩:=n;exact m.extBut _ _ p (d _ _ G (g.extBut _ _ p r))
end
def M0(h:sG)(a b:z_):sG:=((h.push a).push b).push { cls:=.type "tuple",data:=.seq #[.ref h.objs.size,.ref (h.push a).objs.size] }
def L8(h:sG)(a b:z_):sG:=(M0 h a b).push { cls:=.type "tuple",data:=.seq #[.none,.none] }
def JZ(h:sG)(a b:z_):sG:=(L8 h a b).push { cls:=.type "zip",data:=.fields #[.none,.bool d_,.bool d_,.ref ((h.push a).push b).objs.size,.ref (M0 h a b).objs.size] }
theorem TQ(h:sG)(a b:z_)(q:a.isFreed=d_)(r:b.isFreed=d_):(JZ h a b).get? h.objs.size=O a/\(JZ h a b).get? (h.objs.size+1)=O b/\
  BR (JZ h a b) (h.objs.size+2) (.ref h.objs.size) (.ref (h.objs.size+1))/\BR (JZ h a b) (h.objs.size+3) .none .none/\G1 (JZ h a b) (h.objs.size+4) (h.objs.size+2) (h.objs.size+3) .none/\
  (∀c o,h.get? c=O o->(JZ h a b).get? c=O o)/\(L8 h a b).objs.size=h.objs.size+4:=by
 have d:(h.push a).objs.size=h.objs.size+1:=tJ ..;have f:((h.push a).push b).objs.size=h.objs.size+2:=by rw[tJ,d]
 have g:(M0 h a b).objs.size=h.objs.size+3:=by delta M0;rw[tJ,f]
 have j:(L8 h a b).objs.size=h.objs.size+4:=by delta L8;rw[tJ,g]
 have i:∀c o,((h.push a).push b).get? c=O o->(JZ h a b).get? c=O o:=λc o e=>b_ _ (b_ _ (b_ _ e));have l:(JZ h a b).get? ((h.push a).push b).objs.size=O _:=b_ _ (b_ _ (f6 _ Y));have m:(JZ h a b).get? (M0 h a b).objs.size=O _:=b_ _ (f6 _ Y);have n:(JZ h a b).get? (L8 h a b).objs.size=O _:=f6 _ Y;have p:=i _ _ (f6 _ r);rw[d]at p;rw[f,d]at l;rw[g]at m;rw[j,f,g]at n;exact⟨i _ _ (b_ _ (f6 _ q)),p,l,m,n,λc o e=>i _ _ (b_ _ (b_ _ e)),j⟩
section
variable [BU κ] {a:KeyKind prog w κ}
theorem RS(v d l:ce)(ps:U (κ×cv))(e:ft)(E:t_ cv):
  MeetsIn prog w (Dx.«zip.__new__» ⟨[.type "zip", .ref v,.ref l],[]⟩) (λ_ R s=>s.heap.IsValuesView v d/\s.heap.DictAt a d ps e/\s.heap.IsList l E/\∀h',(∀c o,s.heap.get? c=O o->h'.get? c=O o)->h'.IsValIter s.heap.objs.size d 0 ps.length e->h'.IsListIter (s.heap.objs.size+1) l 0->
   BR h' (s.heap.objs.size+2) (.ref s.heap.objs.size) (.ref (s.heap.objs.size+1))->BR h' (s.heap.objs.size+3) .none .none->G1 h' (s.heap.objs.size+4) (s.heap.objs.size+2) (s.heap.objs.size+3) .none->
   R (.ok (.ret (.ref (s.heap.objs.size+4)))) { s with heap:=h' }):=
 .of_wp λon R s h=>by
  obtain⟨b,Ab,f,tk,os⟩:=s;obtain⟨g,i,j,q⟩:=h;have D:=sub_zip;have m:=g;have n:=i;have p:Heap.IsList (K9 ⟨b.push { cls:=.type "dict_valueiterator",data:=.fields #[.ref d,.int 0 0,.int ps.length 0,.int e 0] },Ab,f,tk,os⟩) l E:=MO j _
  wp_walk using Kg m n,C6 p
  refine⟨_,Y,?_⟩;obtain⟨u,x,y,z,A,B,C⟩:=TQ b { cls:=.type "dict_valueiterator",data:=.fields #[.ref d,.int 0 0,.int ps.length 0,.int e 0] } { cls:=.type "list_iterator",data:=.fields #[.ref l,.int 0 0] } Y Y;have r:=q _ B ⟨_,u,Y,Y⟩ ⟨_,x,Y,Y⟩ y z A;rw[show (K9 ⟨b,Ab,f,tk,os⟩).objs.size+4=(L8 b _ _).objs.size from C.symm]at r;exact r
end
def met{κ:Type}[BU κ]:U κ->U κ->U κ
 |acc,[]=>acc
 |acc,k::r=>met (if k∈acc then acc else acc++[k]) r
section
variable [BU κ] {a:KeyKind prog w κ} {G:t_ M3->t_ M3->Prop} {P:ft->cv->Prop} {c:ft->f0->Prop}
def cu(a:U κ)(i:ft):U κ:=met [] (a.take i)
theorem yb:∀(acc l:U κ)(k:κ),met acc (l++[k])=(if k∈met acc l then met acc l else met acc l++[k])
 |acc,[],k=>rfl
 |acc,j::r,k=>yb _ r k
theorem nJ:∀(acc l:U κ),(met acc l).length<=acc.length+l.length
 |acc,[]=>dv _
 |acc,j::r=>by
  have h:=nJ (if j∈acc then acc else acc++[j]) r;have h2:(if j∈acc then acc else acc++[j]).length<=acc.length+1:=by split <;> simp
  show (met _ r).length<=acc.length+(r.length+1)
  lia
theorem S7(W:WalksS prog w on.in1 I fp wr G n P c)(S:ce)(J:S∉fp)(d:U κ)(hn:d.length=n)(Q:∀(i:ft)(v:cv),P i v->∃k,d[i]?=O k/\a.is k v=c0/\v.scannable=c0)(x:n+1<Hf):
  ∀(m i:ft)(s:f0),n - i=m->i<=n->c i s->s.heap.SetOf a S (λk=>decide (k∈cu d i)) (cu d i).length->
   (∀s',Moved (S::wr) G s s'->s'.heap.SetOf a S (λk=>decide (k∈cu d n)) (cu d n).length->R (.ok (.ret .none)) s')->
   C7 (hY prog w) on (.builtin "set.update.loop" { pos:=[.ref S,.ref I] }) R s:=by
 have K:=λh=>J (W.sub _ h);have L:∀b∈wr,b∈S::wr:=λb h=>hE _ h;intro m;induction m with
 |zero=>
  intro i s T hi st y q;have e:i=n:=by lia
  subst e;refine ss Io ?_;refine b7 (W.done s _ _ st λs' g=>?_);refine eM (q s' (g.mono L) ?_);obtain⟨o,es,ep,t,e,r⟩:=y;exact⟨o,es,ep,t,g.heap S _ K e,r⟩
 |succ m X=>
  intro i s T hi st y q;have lt:i<n:=by lia
  refine ss Io ?_;rw[HI Ip _];refine b7 (W.item i s _ _ lt st λv s' Z z g=>?_);obtain⟨k,ek,l,A⟩:=Q i v Z;have B:s'.heap.SetOf a S (λk=>decide (k∈cu d i)) (cu d i).length:=by
   obtain⟨o,es,ep,tb,e,r⟩:=y;exact⟨o,es,ep,tb,g.heap S _ K e,r⟩
  refine b7 (sA ?_)
  delta setAdd;refine sA (b7 (a.pyHash l ?_))
  have p:(cu d i).length+1<Hf:=by
   have:=nJ [] (d.take i);rw[gv]at this;have:(cu d i).length<=0+min i d.length:=this
   lia
  have es:cu d (i+1)=(if k∈cu d i then cu d i else cu d i++[k]):=by
   delta cu
   simp only[ke,ek];exact yb [] _ k
  refine wpAny_setAddHashed_of l A B p λh' M C=>?_;have D:h'.SetOf a S (λk=>decide (k∈cu d (i+1))) (cu d (i+1)).length:=by
   have e1:(λj=>decide (j∈cu d (i+1)))=λj=>decide (j∈cu d i) || decide (j=k):=by
    funext j
    rw[es];by_cases f:k∈cu d i
    ·rw[mu f];by_cases N:j=k
     ·subst N;simp[f]
     ·simp[N]
    ·rw[ks f];simp
   have e2:(cu d (i+1)).length=(if decide (k∈cu d i)=c0 then (cu d i).length else (cu d i).length+1):=by
    rw[es];by_cases f:k∈cu d i
    ·rw[mu f,mu (fo f)]
    ·rw[ks f,ks (by simp[f])];simp
   simp only[e1,e2];exact C
  refine eM ⟨u_ Ip _,X (i+1) _ (by lia) lt (W.frame _ s' _ _ z (BL _) λb x o e=>?_) D λE H u=>?_⟩
  ·rw[M.2 b (λh:b=S=>J (by exact h ▸ x))];exact e
  ·refine q E (Moved.trans W.gtrans ((g.mono L).then_heap (BL _) λb o x e=>?_) H) u;rw[M.2 b (λh:b=S=>x (by exact h ▸ j_))];exact e
end
section
variable [BU κ] {a:KeyKind prog w κ}
abbrev gf(a:n_):z_:={ cls:=.type "set",dict:=cx,data:=.set #[] 0 (.fresh 0 0 a) }
set_option maxHeartbeats 4000001 in
theorem QY{l:ce}{J:t_ cv}{f:U κ}(L:on.handled=cx)(M:s.heap.IsList l J)(C:f.length=J.size)(N:∀(i:ft)(v:cv),J[i]?=O v->∃k,f[i]?=O k/\a.is k v=c0/\v.scannable=c0)(m:J.size+1<Hf)(q:∀(h':sG)(tk:ft),h'.SetOf a s.heap.objs.size (λk=>decide (k∈met [] f)) (met [] f).length->(∀b o,b<s.heap.objs.size->s.heap.get? b=O o->h'.get? b=O o)->Q (.ref s.heap.objs.size) { s with heap:=h',toks:=tk }):h_ (hY prog w) on (Fq (.type "set") [.ref l]) Q no s:=by
 have em:cu f J.size=met [] f:=by unfold cu;rw[←C,gl]
 obtain⟨c,tl,h0⟩:=Dc.mro;have h1:=Dc.made;have h2:=Dc.sub;have D:=Dc.notType;have h4:=Dc.canCreate;have h5:=F.typeCall_set_1 (.ref l);refine Ff (codeAny_of_tree (?_:h_ _ _ (callAny (.type "set") _) _ _ _));refine eM ⟨IP _ (by decide +kernel),ss F.entry_type_call ?_⟩;rw[Around.under_plain (weight_type_call_type "set" [.ref l] []) Y]
 repeat (any_goals first |assumption |wp_step)
 refine Co (code_set_new_1 (.ref l) (E:=no) (Q₁:=λx E=>∃d:n_,x = .ref s.heap.objs.size/\E={ s with heap:=s.heap.push (gf d) }) λd=>⟨d,Y,Y⟩) λr E p=>?_;cases r with
 |error e=>exact p
 |ok P=>
  cases P with
  |ret x=>
   obtain⟨d,rfl,rfl⟩:=p;have G:(s.heap.push (gf d)).get? s.heap.objs.size=O (gf d):=f6 _ Y;have R:GJ { s with heap:=s.heap.push (gf d) } (.ref s.heap.objs.size) "set" := ⟨_,G,Y⟩
   have i1:=Dc.init.lookup;have i2:=Dc.init.bind (.ref s.heap.objs.size)
   repeat (any_goals first |assumption |wp_step)
   refine Co (FA (R:=wants (λr s2=>r = .none/\∃h' tk,s2={ s with heap:=h',toks:=tk }/\h'.SetOf a s.heap.objs.size (λk=>decide (k∈met [] f)) (met [] f).length/\
     (∀b o,b<s.heap.objs.size->s.heap.get? b=O o->h'.get? b=O o)) no) Dc.init.plain F.entry_set_init (check_set_init_1 R ?_)) λS s2 h=>?_
   ·obtain⟨T,H,cl,I,dl⟩:=M;obtain⟨oc,od,oa,os⟩:=T;simp only at cl dl;subst cl;subst dl;have u:(s.heap.push (gf d)).get? l=O { cls:=.type "list",dict:=od,data:=.seq J I,slots:=os }:=b_ _ H;have j1:=F.sub_list_set;have j2:=F.sub_list_frozenset;have j3:(Dh "list" ==Dh "dict")=d_:=by decide
    have K:(s.heap.push (gf d)).IsList l J:=⟨_,u,Y,I,Y⟩
    unfold Dx.«set.__init__» noKeywords JO;generalize X:IX=PI
    wp_walk
    subst X;refine C6 K (b7 (MP ?_));have j:l<s.heap.objs.size:=e_ H;have D:on.in1.in1.in1.handled=cx:=by simp[L]
    have y:(s.heap.push (gf d)).objs.size=s.heap.objs.size+1:=tJ ..;have Z:l≠(s.heap.push (gf d)).objs.size:=by rw[y];exact g_ (sI j)
    have nS:s.heap.objs.size∉[(s.heap.push (gf d)).objs.size,l]:=by
     rw[y];simp only[f_,m_,u3,Ie];exact⟨g_ (up _),rs j⟩
    refine S7 (a:=a) ((DJ D _ l Z J).toS) s.heap.objs.size nS f C N m (J.size - 0) 0 _ (by omega) (ot _) ⟨⟨_,f6 _ Y,Y,Y⟩,(K.push _)⟩ ?_ λs' n g=>?_
    ·have g0:((s.heap.push (gf d)).push { cls:=.type "list_iterator",data:=.fields #[.ref l,.int 0 0] }).get? s.heap.objs.size=O (gf d):=b_ _ G;have:=(Mo (knd:=a) d).setOf g0 (by unfold Hf;omega);exact this
    ·rw[em]at g;obtain⟨h',g',d',z,o'⟩:=s';have eg:g'=s.gens:=n.gens;have ed:d'=s.drawn:=n.drawn;have eo:o'=s.os:=n.os;subst eg;subst ed;subst eo;refine eM (eM ⟨Y,h',z,Y,g,λb o m e=>?_⟩);refine n.heap b o ?_ (b_ _ (b_ _ e));simp only[f_,m_,u3,Ie];exact⟨g_ m,by rw[y];exact g_ (sI m)⟩
   ·cases S with
    |error e=>exact h
    |ok A=>
     cases A with
     |ret r=>
      obtain⟨rfl,h',tk,rfl,g,B⟩:=h
      repeat (any_goals first |assumption |wp_step)
      exact q _ _ g B
     |_=>exact h.elim
  |_=>exact p.elim
end
section
open PySem.W
section
variable{T:BP}{r:ce}{g:sG->Prop}{P:ft->cv->Prop}
theorem Vp{Q:U cv->f0->Prop}(K:KdlSrc prog w T r d n P g)(i:on.handled=cx)(ok:g s.heap)(j:n<=fx)(q:∀(h':sG)(tk:ft)(acc:t_ cv),(∀b o,s.heap.get? b=O o->h'.get? b=O o)->s.heap.objs.size<h'.objs.size->Jg P acc n->Q acc.toList { s with heap:=h',toks:=tk }):h_ (hY prog w) on (collect (.ref r)) Q no s:=by
 have lt:=K.there _ ok
 delta collect;refine b7 (MP (ss entry_proto_collect' ?_))
 refine b7 (DM (eM ⟨u_ F.plain_list_iadd _,ss entry_list_iadd' ?_⟩));have l:(s.heap.push { cls:=.type "list",data:=.seq ([]).toArray }).get? s.heap.objs.size=O { cls:=.type "list",data:=.seq #[] }:=f6 _ Y;have m:=kdl_extend (s:={ s with heap:=s.heap.push { cls:=.type "list",data:=.seq ([]:U cv).toArray } })
  (R:=λ(x) (h)=>∃(h':sG)(tk:ft)(acc:t_ cv)(c:ft),x = .ok (.ret (.ref s.heap.objs.size))/\h={ s with heap:=h',toks:=tk }/\(∀b o,s.heap.get? b=O o->h'.get? b=O o)/\h'.get? s.heap.objs.size=O { cls:=.type "list",dict:=cx,data:=.seq acc c,slots:=#[] }/\Jg P acc n)
  K i (K.keep _ _ ok λb _ o e=>b_ _ e) s.heap.objs.size (rs lt.1) (rs lt.2) (.ref s.heap.objs.size) 0 l
  (λh' tk acc c a Ab it=>⟨h',tk,acc,c,Y,Y,λb o e=>a b o (g_ (e_ e)) (b_ _ e),Ab,it⟩) j
 refine pu m (λfin h x=>?_) λe h x=>?_
 ·cases fin with
  |done f=>
   obtain⟨h',tk,acc,c,e,rfl,a,Ab,it⟩:=x;cases e;exact b7 (Ks Ab (eM (q h' tk acc a (e_ Ab) it)))
  |again u=>
   refine⟨x.1,Co x.2 λy s2 z=>?_⟩;obtain⟨h',tk,acc,c,rfl,rfl,a,Ab,it⟩:=z;exact b7 (Ks Ab (eM (q h' tk acc a (e_ Ab) it)))
 ·obtain⟨_,_,_,_,p,_⟩:=x;cases p
theorem zm8(K:KdlSrc prog w T r d n P g)(x:on.handled=cx)(ok:g s.heap)(h:n<64)(y:∀Z:U cv,Z.length=n->(∀(j:ft)(v:cv),Z[j]?=O v->P j v)->FK Z ns)(q:∀(a:ce)(h':sG)(tk:ft)(f:t_ cv)(e:ft)(c:U gV),(∀b o,s.heap.get? b=O o->h'.get? b=O o)->s.heap.objs.size<=a->h'.get? a=O (seqObj "list" f e)->FK f.toList c->c.Perm ns->c.Pairwise (·<=·)->Q (.ref a) { s with heap:=h',toks:=tk }):h_ (hY prog w) on (Fq (.builtin "sorted") [.ref r]) Q no s:=by
 refine Calls.call_function_entry kind_sorted plain_sorted entry_sorted (args_sorted1 _) ?_;refine b7 (eM (b7 (Vp K x ok (f' (BM h (by decide))) λh1 tk acc l hz m=>?_)));have p:acc.toList.length=n:=by simpa only[li]using m.1
 refine b7 (ID ?_ (by exact p ▸ (f' (BM h (by decide)))));have i:(h1.push (seqObj "list" acc.toList.toArray 0)).get? h1.objs.size=O (seqObj "list" acc.toList.toArray 0):=f6 _ Y;refine b7 (sA (zB slot_list_sort ⟨_,i,Y⟩ entry_list_sort (list_sort_tree i (y acc.toList p λj v e=>m.2 j v (by grind)) (by simp_all) λf c z A B=>⟨_,Y,?_⟩) (args_list_sort _)));obtain⟨e,C⟩:=sortedHeap_at i;refine eM ⟨_,Y,q _ _ _ f e c (λb o u=>?_) (f' hz) C z A B⟩;have lb:=e_ (l _ _ u);rw[sortedHeap_old (g_ lb) (by rw[tJ];exact sI lb)];exact b_ _ (l _ _ u)
end
end
theorem yW:DI X (su .LtE) (λx y H Q=>∃i j,x = .str i/\y = .str j/\Q (.bl (!decide (j.cps.toList<i.cps.toList))) H):=by
 intro g s A H x y v u Q I a b h;obtain⟨i,j,rfl,rfl,q⟩:=h;obtain⟨t,rfl⟩:=a;obtain⟨t',rfl⟩:=b;exact P.le_str (bx I q Y)
theorem Inv.frz(I:Inv X g A H s)(e:H d=O (.dK G)):∃o,Inv X g A (upd H d (.frz o (.dK G))) s:=by
 obtain⟨z,y,Z,r,o,es,ep,a,c⟩:=id (I.hok d _ e);refine⟨o,I.write (h':=s.heap) (t':=s.toks) (by rw[e];trivial) (.inl Y) (λb u _ q=>q) ⟨o,a⟩ ⟨a,z,y,Z,r,o,es,ep,a,c⟩⟩
def Zi(ts:TS):TS:=λD A H=>ts { D with nx:=λa H1=>∃d G,H1 d=O (.dK G)/\∀o,D.nx a (upd H1 d (.frz o (.dK G))) } A H
theorem Ww{t:TS}(h:PS X st t):PS X st (Zi t):=by
 intro g s A H D I b;refine pu (h g s A H _ I b) (λf j q=>?_) λ_ _ z=>z;cases f with
 |next=>
  obtain⟨a,H1,c,d,G,e,q⟩:=q;obtain⟨o,i⟩:=c.frz e;exact⟨a,_,i,q o⟩
 |brk=>exact q
 |cont=>exact q
 |ret u=>exact q
def g9(p d:ce):HO:=.ext λh=>h.IsValuesView p d
theorem Ud{p:ce}(e:h.IsValuesView p d):bo Aa w H h p (g9 p d):=
 ⟨e,(by obtain⟨o,a,_⟩:=e;exact⟨o,a⟩),by rintro h1 h2 ⟨o,a,r⟩ k;exact⟨o,k o a,r⟩⟩
inductive X2(Q:VK)(x:V)(H1:Hp):Prop
 |i(d G:_)(_:x = .ref d)(_:Rd H1 d (.dK G))(_:∀p,H1 p=cx->Q (.ref p) (upd H1 p (g9 p d)))
def Ug(to:TE):TE:=λA H Q=>to A H λx H1=>X2 Q x H1
theorem sm{o:tA}(n:PE X o to)(f:BC o "values" X.env (eval o X.env)=eval o X.env:=by rfl)(i:(apos.endLine ==cpos.line)=c0:=by rfl):PE X (.Call (.Attribute o "values" apos) [] [] cpos) (Ug to):=by
 intro g s A H Q I h;refine EV f i (wd (n g s A H _ I h) λv m ⟨x,H1,l,p,d,G,ex,hd,q⟩=>?_);subst ex;cases p;obtain⟨z,r,Z,w,j⟩:=iK l.hok hd;refine⟨"dict","dict.values",Gd,JP,F.type_dict_values,j.typeIs,λa e=>?_,BY Y (Fh ?_)⟩
 ·cases e;obtain⟨o,es,ep,y,c,_⟩:=j;exact⟨o,y,c.2.1⟩
 ·refine Fi JP j.typeIs F.entry_dict_values (F.args_dict_values_1 _) (meets_dict_values (cy X.prog X.w) d r) ⟨⟨Z,j⟩,?_⟩;exact⟨.ref m.heap.objs.size,_,l.laid (t':=m.toks) (λb u q=>b_ _ q) (dv _) (Ud ⟨_,f6 _ Y,Y,Y⟩),Y,q _ (l.hok.fresh (dv _))⟩
theorem Inv.view{p:ce}(I:Inv X g A H s)(e:H p=O (g9 p d)):s.heap.IsValuesView p d:=(I.hok p _ e).1
def OO(o:z_)(d:ce)(G:U (Key×V)):It:=⟨λi H=>H d=O (.frz o (.dK G))/\i<G.length,λi H x H'=>H'=H/\∃k,G[i]?=O (k,x),λi H=>H d=O (.frz o (.dK G))/\G.length<=i⟩
theorem Inv.dictAt{o:z_}{d:ce}{G:U (Key×V)}(I:Inv X g A H s)(e:H d=O (.frz o (.dK G))):∃Z es ep,KV G Z/\o.data = .dict es ep/\s.heap.DictAt (cy X.prog X.w) d Z ep:=by
 obtain⟨b,z,y,Z,r,f⟩:=I.hok d _ e;obtain⟨ep,h⟩:=f.dictAt;obtain⟨i,es,a,c,dt,q⟩:=id h;rw[b]at a;cases a;exact⟨Z,es,ep,r,dt,h⟩
theorem nD:∀{G:U (Key×V)}{Z:U (Key×cv)},KV G Z->∀{i:ft}{k:Key}{x:V},G[i]?=O (k,x)->∃u,Z[i]?=O (k,u)/\aD x u
 |_,_,.nil,i,k,x,h=>by cases h
 |_,_,.cons (b:=b) hd tl,0,k,x,h=>by
  cases h;obtain⟨h1,h2⟩:=hd;subst h1;exact⟨b.2,Y,h2⟩
 |_,_,.cons hd tl,j+1,k,x,h=>nD tl h
theorem YW{o:z_}{es:t_ DX}(hd:o.data = .dict es ep)(L:n=G.length):fJ Aa w K tg (OO o d G) [it] it (λi h=>h.IsValIter it d i n ep) where
 mem:=by simp
 obj:=λi h st b a=>by
  have e:b=it:=by simpa using a
  subst e;obtain⟨o,e,c,d⟩:=st;exact⟨o,e,λv z=>by rw[d]at z;cases z⟩
 keep:=λi h h' st k=>st.at λo e=>k it (by simp) o e
 item:=by
  intro X m p q M i g s A H no I l st f;subst m p q L;obtain⟨f,hi⟩:=f;obtain⟨Z,x,y,r,dt,at'⟩:=I.dictAt f;rw[hd]at dt;cases dt;obtain⟨B,C,N,D,E,J⟩:=l it (by simp);have ex:=a_ hi;obtain⟨u,P,Q⟩:=nD r ex;rw[r.length]at st ⊢;refine wpAny_pyNext_values_item st at' P λh' j R=>?_;obtain⟨o1,S,T,d1⟩:=id j;exact⟨u,Y,jY S T d1 (by decide) ⟨G[i].2,H,(I.turned (t':=s.toks) (λb o a e=>(R.2 b a).trans e) B C D E J),Q,⟨Y,G[i].1,ex⟩,j,λb a=>(l b a).1⟩⟩
 done:=by
  intro X m p q M i g s A H no I l st f;subst m p q L;obtain⟨f,hi⟩:=f;obtain⟨Z,x,y,r,dt,at'⟩:=I.dictAt f;rw[hd]at dt;cases dt;obtain⟨B,C,N,D,E,J⟩:=l it (by simp);rw[r.length]at st hi;exact wpAny_pyNext_values_end (I.ok.hd M) st at' (B3 hi) λh' eb=>⟨Y,I.turned (t':=s.toks) (λb o a e=>eb b o a e) B C D E J⟩
 self:=λ_ _ _ _ _ st h=>wpAny_pyIter_valiter st h
inductive zgL(R:It->Hp->Prop)(x:V)(H1:Hp):Prop
 |i(p d o G:_)(_:x = .ref p)(_:H1 p=O (g9 p d))(_:H1 d=O (.frz o (.dK G)))(_:R (OO o d G) H1)
def Z1(tl:TE):TI:=λA H R=>tl A H λx H1=>zgL R x H1
theorem ZA{l:tA}(f:PE X l tl):PI X tg l (Z1 tl):=by
 intro g s A H R I h;refine wd (f g s A H _ I h) λv c ⟨x,H1,a,i,j⟩=>?_;obtain⟨p,d,o,G,rfl,m,hd,q⟩:=j;cases i;obtain⟨Z,es,ep,r,dt,at'⟩:=a.dictAt hd;refine Kg (a.view m) at' ?_;refine⟨c.heap.objs.size,[c.heap.objs.size],_,_,H1,Y,a.kept (t':=c.toks) λb o e=>b_ _ e,YW dt r.length.symm,⟨_,f6 _ Y,Y,Y⟩,λb n=>?_,q⟩;have e:b=c.heap.objs.size:=by simpa using n
 subst e;exact a.fpOk (dv _) (a.hok.fresh (dv _))
def vA(K:fy)(o:z_)(d:ce)(G:U (Key×V))(l:ce):It:=
  ⟨λi H=>H d=O (.frz o (.dK G))/\i<G.length/\∃ys y,n7 K H l ys/\ys[i]?=O y,
   λi H v H'=>∃T,H T=cx/\v = .ref T/\∀ys,n7 K H l ys->∃k x y,G[i]?=O (k,x)/\ys[i]?=O y/\H'=upd H T (.tup [x,y]),
   λi H=>H d=O (.frz o (.dK G))/\∃ys,n7 K H l ys/\(G.length<=i\/ys.length<=i)⟩
theorem oR{Af:U ce}(c:∀h h',S h->(∀o,h.get? a=O o->h'.get? a=O o)->(∀o,h.get? b=O o->h'.get? b=O o)->S h')(d:a∉Af)(f:b∉Af):fk Af S:=λh h' g k=>c h h' g (λo e=>k a o d e) (λo e=>k b o f e)
theorem Rg{o:z_}{es:t_ DX}{l TI TO:ce}(hd:o.data = .dict es ep)(hn:n=G.length)(D:M_ z TI TO i1 i2)(nd:∀b∈[d,l],b∉[z,TO,i1,i2])(nT:TI∉[z,TO,i1,i2]):
  fJ Aa w K (.Tuple elts kk pos) (vA K o d G l) [z,TI,TO,i1,i2] z (λi h=>G1 h z TI TO .none/\BR h TI (.ref i1) (.ref i2)/\(∃c e,BR h TO c e)/\h.IsValIter i1 d i n ep/\h.IsListIter i2 l i) where
 mem:=by simp
 obj:=λi h st c P=>by
  obtain⟨h1,h2,⟨_,_,C⟩,⟨o1,e1,c1,S⟩,⟨o2,e2,c2,T⟩⟩:=st;rcases M' P with rfl |rfl |rfl |rfl |rfl
  ·exact⟨_,h1,λv z=>by cases z⟩
  ·exact⟨_,h2,λv z=>by cases z⟩
  ·exact⟨_,C,λv z=>by cases z⟩
  ·exact⟨o1,e1,λv z=>by rw[S]at z;cases z⟩
  ·exact⟨o2,e2,λv z=>by rw[T]at z;cases z⟩
 keep:=λi h h' st kk=>by
  obtain⟨h1,h2,⟨c,d,C⟩,E,R⟩:=st;exact⟨kk z (.head _) _ h1,kk TI (.tail _ (.head _)) _ h2,⟨c,d,kk TO (.tail _ (.tail _ (.head _))) _ C⟩,E.at λo e=>kk i1 (.tail _ (.tail _ (.tail _ (.head _)))) o e,R.at λo e=>kk i2 (.tail _ (.tail _ (.tail _ (.tail _ (.head _))))) o e⟩
 item:=by
  intro X hP hw hK P i g s A H no I hf st J;subst hP hw hK hn;obtain⟨J,hi,ys,y,hq,hy⟩:=J;obtain⟨Z,A3,A4,r,dt,at'⟩:=I.dictAt J;rw[hd]at dt;cases dt;have ex:=a_ hi;obtain⟨u,hu,ru⟩:=nD r ex;obtain⟨ib,rb,pb,_⟩:=I.list hq;obtain⟨uy,A5,A6⟩:=rb.get hy;obtain⟨h1,h2,⟨ca,cb,C⟩,E,R⟩:=id st;rw[r.length]at E ⊢;have hT:s.TypeIs (.ref z) "zip" := ⟨_,h1,Y⟩
  obtain⟨S,T,d3,d4⟩:=nP (nd d (.head _));obtain⟨m1,m2,m3,m4⟩:=nP (nd l (.tail _ (.head _)));have x:∀k:ft,fk [z,TO,i2] (λh=>h.IsValIter i1 d k Z.length ep/\h.DictAt (cy X.prog X.w) d Z ep):=λk=>oR (λh h' j L M=>⟨j.1.at L,j.2.at' M⟩) (iR D.a3 D.a5.symm D.a7) (iR S T d4);have B:∀k:ft,fk [z,TO,i1] (λh=>h.IsListIter i2 l k/\h.IsList l ib.toArray):=λk=>oR (λh h' j L M=>⟨j.1.at L,j.2.at M⟩) (iR D.a4 D.a6.symm D.a7.symm) (iR m1 m2 m3)
  delta Fd;refine b7 (D_ (wb hT BN (zB BN hT EN (ZS D h1 h2 C ⟨E,at'⟩ ⟨R,pb.isList⟩ (x i) (x (i+1)) (B i) (B (i+1)) (x:=u) (y:=uy) (λon no s Q p q=>?_) (λon no s Q p q=>?_) λh' z' A7 s1 s2 tp sz kp=>?_) (E6 _))))
  ·exact yD p.1 p.2 hu λh' b1 N=>q h' ⟨b1,p.2.at' λo e=>by rw[N.2 d d3];exact e⟩ N
  ·exact Fk p.1 p.2 (by simpa using A5) λh' b1 N=>q h' ⟨b1,p.2.at λo e=>by rw[N.2 l m4];exact e⟩ N
  refine eM ⟨_,Y,wpAny_letOwnedTupleGo_zip z' λm A8 sb=>?_⟩;have I1:=I.turnedL (t':=s.toks) (λc o a e=>by
   have:=kp c o a e;rw[sb.2 c (λy=>a (y ▸ .head _))];exact this) λc a=>hf c (oS a)
  have A0:=I.hok.fresh (dv _);have A1:Gu m s.heap.objs.size #[u,uy]:=by
   have:BR m s.heap.objs.size u uy:=by show m.get? _=_;rw[sb.2 _ (rs (e_ h1))];exact tp
   exact⟨_,this,Y,_,Y⟩
  have f:∀{c:ce}{ob:z_},s.heap.get? c=O ob->c≠s.heap.objs.size:=λe=>g_ (e_ e);have I2:Inv X g A (upd H s.heap.objs.size (.tup [G[i].2,y])) { s with heap:=m }:=by
   refine I1.track A0 ?_ (λe=>?_) (λnm c e q=>?_) (λp hp e=>?_) ?_
   ·cases q:X.s₀.heap.get? s.heap.objs.size with
    |none=>rfl
    |some ob=>exact hQ (hJ (e_ q) I.sz) (rc _)
   ·exact hQ I.lt (by exact e ▸ (rc _))
   ·obtain⟨v,ob,ho,_⟩:=I.cell nm c e;exact f ho q
   ·exact f (I.pin p hp).1 e
   ·exact⟨by show 2<=fx;decide,[u,uy],.cons ru (.cons A6 .nil),A1⟩
  have kz:∀c o,c≠z->h'.get? c=O o->m.get? c=O o:=λc o P e=>by rw[sb.2 c P];exact e
  obtain⟨o1,e1,_⟩:=id E;obtain⟨o2,e2,_⟩:=id R;refine⟨.ref s.heap.objs.size,_,I2,Y,⟨_,A0,Y,λAA q'=>?_⟩,⟨A8,kz _ _ D.a1 (kp TI _ ?_ h2),⟨_,_,kz _ _ D.a2 A7⟩,s1.1.at λo e=>kz _ o D.a3 e,s2.1.at λo e=>kz _ o D.a4 e⟩,λc a=>?_⟩
  ·rw[I.list_inj q' hq];exact⟨_,_,y,ex,hy,Y⟩
  ·exact nT
  ·have:c≠s.heap.objs.size:=by
    rcases M' a with rfl |rfl |rfl |rfl |rfl
    ·exact f h1
    ·exact f h2
    ·exact f C
    ·exact f e1
    ·exact f e2
   rw[ag this];exact (hf c a).1
 done:=by
  intro X hP hw hK P i g s A H no I hf st J;subst hP hw hK hn;obtain⟨J,ys,hq,A2⟩:=J;obtain⟨Z,A3,A4,r,dt,at'⟩:=I.dictAt J;rw[hd]at dt;cases dt;obtain⟨ib,rb,pb,_⟩:=I.list hq;obtain⟨h1,h2,⟨ca,cb,C⟩,E,R⟩:=id st;rw[r.length]at E A2;have hT:s.TypeIs (.ref z) "zip" := ⟨_,h1,Y⟩
  obtain⟨S,T,d3,d4⟩:=nP (nd d (.head _));obtain⟨m1,m2,m3,m4⟩:=nP (nd l (.tail _ (.head _)));have x:fk [z,TO,i2] (λh=>h.IsValIter i1 d i Z.length ep/\h.DictAt (cy X.prog X.w) d Z ep):=oR (λh h' j L M=>⟨j.1.at L,j.2.at' M⟩) (iR D.a3 D.a5.symm D.a7) (iR S T d4);have B:fk [z,TO,i1] (λh=>h.IsListIter i2 l i/\h.IsList l ib.toArray):=oR (λh h' j L M=>⟨j.1.at L,j.2.at M⟩) (iR D.a4 D.a6.symm D.a7.symm) (iR m1 m2 m3);have lb:=rb.length
  delta Fd;refine b7 (D_ (wb (name:=DF "__next__") hT BN (zB BN hT EN (Wd D h1 h2 C ⟨E,at'⟩ ⟨R,pb.isList⟩ x B ?_ (I.ok.hd P) λh' e kp he=>?_) (E6 _))))
  ·by_cases c:Z.length<=i
   ·exact .inr λA' no s Q hh p q=>XV hh p.1 p.2 (B3 c) q
   ·have ei:Z[i]?=O (Z[i].1,Z[i].2):=a_ (by exact JQ ‹_›);refine .inl ⟨⟨Z[i].2,λon no s Q p q=>yD p.1 p.2 ei λh' _ N=>q h' N⟩,λA' no s Q hh p q=>J0 hh p.1 p.2 (by simp;simp_all) q⟩
  ·obtain⟨o,ho,A9⟩:=he;refine b7 (He ⟨o,ho,A9⟩ MQ (eM ⟨Y,I.turnedL (t':=s.toks) (λc o a e=>kp c o a e) λc a=>hf c (oS a)⟩))
 self:=λ_ _ _ _ _ st h=>DW st.1 h
theorem Ve(n:ft):M_ (n+4) (n+2) (n+3) n (n+1):=by
 constructor
 ·grind
 ·grind
 ·grind
 ·grind
 ·grind
 ·grind
 ·grind
theorem Oo{b:ft}(h:b<n):b∉([n+4,n+3,n,n+1]:U ft):=by grind
theorem Xp(n:ft):n+2∉([n+4,n+3,n,n+1]:U ft):=by simp
theorem T4{b:ft}(h:b∈([n+4,n+2,n+3,n,n+1]:U ft)):n<=b:=by grind
inductive Uj(K:fy)(R:It->Hp->Prop)(Z:U V)(H1:Hp):Prop
 |i(p d o G l ys:_)(_:Z=[.ref p,.ref l])(_:H1 p=O (g9 p d))(_:H1 d=O (.frz o (.dK G)))(_:n7 K H1 l ys)(_:R (vA K o d G l) H1)
def RG(K:fy)(ta:TA):TI:=λA H R=>ta A H λZ H1=>Uj K R Z H1
theorem zd(K:fy){k:ft}{a b:tA}{ta:TA}(x:Gl X "zip")(y:X.mg "zip" =cx)(z:PA X [a,b] ta)(B:X.K=K:=by rfl)(C:i' [a,b] X.env=[(d_,eval a X.env),(d_,eval b X.env)]:=by rfl)(i:i' [b] X.env=[(d_,eval b X.env)]:=by rfl):
  PI X (.Tuple elts k tpos) (.Call (.Name "zip" p) [a,b] [] pos) (RG K ta):=by
 subst B;intro g s A H R I h;refine HS (eZ I x y PyProof.Rows.Boot.«zip» (oD (wd (z pos g s A H _ I h) λus c ⟨Z,H1,f,D,E⟩=>?_) (by simp only[C,i]) (by rw[i];rfl)));obtain⟨pv,d,o,G,l,ys,e,J,hd,L,q⟩:=E;subst e;obtain⟨u1,u2,rfl,M,N⟩:=D.two;cases M;cases N;obtain⟨P,es,ep,r,dt,at'⟩:=f.dictAt hd;obtain⟨Q,rb,w,_⟩:=f.list L;refine callType_newIn F.called_zip (by decide) (F.typeCall_zip_2 _ _) (F.newCall_zip_2 _ _) (λobj=>Jh obj _ _) F.entry_zip_new (RS pv d l P ep Q.toArray) ⟨f.view J,at',w.isList,λh' S T v2 v3 v4 n=>⟨⟨_,n,Y⟩,?_⟩⟩;have u:=(f.hok d _ hd).lt;have v:l<c.heap.objs.size:=by obtain⟨_,e,_⟩:=w.isList;exact e_ e
 refine DW n ?_;refine⟨_,[c.heap.objs.size+4,c.heap.objs.size+2,c.heap.objs.size+3,c.heap.objs.size,c.heap.objs.size+1],_,_,H1,Y,f.kept (t':=c.toks) S,Rg dt r.length.symm (Ve _) (λb m=>?_) (Xp _),⟨n,v3,⟨_,_,v4⟩,T,v2⟩,λb m=>?_,q⟩
 ·simp only[f_,m_,u3]at m;rcases m with rfl |rfl
  ·exact Oo u
  ·exact Oo v
 ·have j:=T4 m;exact f.fpOk j (f.hok.fresh j)
section
open PySem.W
theorem kX{fr:U (eH ft)}{Q:VK}(Pv:ft->U V->Hp->Prop)(g:Pv 0 [] H)(h:∀i acc H,i<=n->Pv i acc H->acc.length<=i/\(i<n->Ae.go i H)/\(n<=i->Ae.stop i H))(hz:n<=fx)(j:∀i x acc H H',i<n->Pv i acc H->Ae.yld i H x H'->Ab x (stC fr A) H' λa H2=>Wk (stC fr A) a/\tc a H2 λb f=>
   if b=c0 then te a f λy l=>∃c,c<n - i/\CW n Pv (i+1) c (acc++[y]) l else ∃c,c<n - i/\CW n Pv (i+1) c acc f)(hd:∀acc H,Pv n acc H->∀p,H p=cx->Q (.ref p) (upd H p (.lst acc))):kN fr Ae Ab tc te A H Q:=by
 refine⟨CW n Pv,⟨n,by simp,ot _,g⟩,?_⟩;rintro i m acc H ⟨rfl,hi,p⟩;obtain⟨s,q,r⟩:=h i acc H hi p;by_cases d:i<n
 ·exact .inr ⟨q d,by lia,λx H' y=>j i x acc H H' d p y⟩
 ·have e:i=n:=by lia
  subst e;exact .inl ⟨r (dv _),hd acc H p⟩
theorem xq(Pv:ft->St->Hp->Prop)(c:Pv 0 A H)(d:∀i A H,i<=n->Pv i A H->(i<n->Ae.go i H)/\(n<=i->Ae.stop i H))(f:∀i x A H H',i<n->Pv i A H->Ae.yld i H x H'->Ab x A H' λb H2=>tb { D with nx:=Pv (i+1),ct:=Pv (i+1),bk:=D.nx } b H2)(hd:∀A H,Pv n A H->D.nx A H):vy Ae Ab tb D A H:=by
 refine⟨λi m A H=>m=n - i/\i<=n/\Pv i A H,⟨n,by simp,ot _,c⟩,?_⟩;rintro i m A H ⟨rfl,hi,p⟩;obtain⟨g,j⟩:=d i A H hi p;by_cases a:i<n
 ·exact .inr ⟨g a,Pv (i+1),λl H' h=>⟨n - (i+1),by lia,Y,a,h⟩,λx H' y=>f i x A H H' a p y⟩
 ·have e:i=n:=by lia
  subst e;exact .inl ⟨j (dv _),hd A H p⟩
def mz(p:ce)(n:ft):HO:=.ext λh=>∃o es ep t,h.get? p=O o/\o.ExactSet/\o.data = .set es ep t/\t.fits es.size=c0/\es.size=n
theorem Z7(K:fy)(m:X.calm=c0)(n:X.K=K:=by rfl):bw X (.type "set") (λE H Q=>∃(l:ce)(a:U hO),E=[.ref l]/\n7 K H l (a.map V.str)/\a.length<=100/\∀p,H p=cx->Q (.ref p) (upd H p (mz p (met [] a).length))):=by
 subst n;intro g s A H E us Q I r h;obtain⟨l,a,rfl,w,hz,q⟩:=h;obtain⟨u,rfl,e⟩:=df r;cases e;obtain⟨J,f,pl,_⟩:=I.list w;have le:=f.length;rw[bd]at le;refine QY (a:=strKind X.prog X.w) (I.ok.hd m) pl.isList (by omega) (λi v x=>?_) (by rw[hL];delta Hf;lia) λh' tk y z=>?_
 ·have c:J[i]?=O v:=by simpa using x
  have hi:i<a.length:=by rw[le];exact (cs.mp c).1
  obtain⟨u,j,e⟩:=f.get (by rw[cc,a_ hi];rfl);rw[c]at j;cases j;obtain⟨t,rfl⟩:=e;exact⟨a[i],a_ hi,Gg _ _ _ _,Y⟩
 ·obtain⟨o,es,ep,t,d,ex,B,_,_,_,C,D⟩:=y;exact⟨.ref s.heap.objs.size,_,I.laid (o:=mz s.heap.objs.size (met [] a).length) (t':=tk) (λb u q=>z b u (e_ q) q) (dv _) ⟨⟨o,es,ep,t,d,ex,B,C,D⟩,⟨o,d⟩,by rintro h1 h2 ⟨o,es,ep,t,d,r⟩ k;exact⟨o,es,ep,t,k o d,r⟩⟩,Y,q _ (I.hok.fresh (dv _))⟩
theorem zeL:bw X (.builtin "len") (λE H Q=>∃p n,E=[.ref p]/\H p=O (mz p n)/\n<=1000/\Q (.int n) H):=by
 intro g s A H E us Q I r h;obtain⟨p,n,rfl,a,j,q⟩:=h;obtain⟨u,rfl,b⟩:=df r;cases b;obtain⟨⟨o,es,ep,t,c,d,e,f,i⟩,_⟩:=I.hok p _ a;subst i;exact call_len_set c d e f (by lia) ⟨.int es.size,H,(I.tok _).tok _,⟨_,Y⟩,q⟩
theorem Ys:bw X (.builtin "len") (λE H Q=>∃a G,E=[V.ref a]/\Rd H a (.dK G)/\Q (.int G.length) H):=by
 intro g s A H E us Q I r h;obtain⟨a,G,rfl,b,q⟩:=h;obtain⟨u,rfl,c⟩:=df r;cases c;exact wR I b λt s' d=>⟨.int G.length,H,d,⟨t,Y⟩,q⟩
theorem y9:∀{l c:U gV},l.Perm c->l.Pairwise (·<=·)->c.Pairwise (·<=·)->l=c
 |[],c,p,_,_=>(List.nil_perm.mp p).symm
 |a::r,[],p,_,_=>hQ (List.perm_nil.mp p) (by simp)
 |a::r,b::r',p,h,h'=>by
  obtain⟨h1,h2⟩:=Dr.mp h;obtain⟨d,f⟩:=Dr.mp h';have e:a=b:=by
   rcases f_.mp (p.mem_iff.mp j_) with e |e
   ·exact e
   ·rcases f_.mp (p.mem_iff.mpr (j_)) with g |g
    ·exact g.symm
    ·exact Int.le_antisymm (h1 b g) (d a e)
  subst e;rw[y9 ((List.perm_cons a).mp p) h2 f]
theorem ww(G:X.calm=c0):bw X (.builtin "sorted") (λE H Q=>∃(d:ce)(ns:U gV)(i:U V),E=[.ref d]/\H d=O (.dK ((ns.zip i).map λq=>(.inl (O q.1),q.2)))/\ns.length=i.length/\ns.Pairwise (·<=·)/\ns.length<64/\∀l,H l=cx->Q (.ref l) (upd H l (.lst (ns.map V.int)))):=by
 intro g s A H E us Q I r h;obtain⟨d,ns,i,rfl,hd,hl,J,n,q⟩:=h;obtain⟨u,rfl,K⟩:=df r;cases K;obtain⟨z,L,Z,b,M⟩:=jR I.hok hd;obtain⟨ep,p⟩:=M.dictAt;have c:Z.length=ns.length:=by simp only[←b.length,bd,Ci];simp_all
 refine zm8 (ns:=ns) (kdl_dict L) (I.ok.hd G) p (by exact c ▸ n) (λus hu N=>?_) λa h' tk w e B P C R S pm T=>?_
 ·refine nA (u6 (by grind) λj x v h1 h2=>?_);obtain⟨k,y,D,e2⟩:=N j v h2;have f:j<ns.length:=by exact c ▸ (cs.mp D).1
  simp only[cc,a_ f]at h1;cases h1;have m:=xT b j;simp only[D,cc,BE (z:=(ns[j],i[j]'(by simp_all))) |>.mpr ⟨a_ f,a_ _⟩]at m;have m:(pw (O ns[j]):Key)=k:=kn m;have:=sO e2;rw[←m]at this;exact this
 ·have en:=y9 pm T J;subst en;exact⟨.ref a,_,I.laid (o:=.lst (B.map V.int)) (t':=tk) P C ⟨by simp_all,w.toList,e,u7 S,R⟩,Y,q a (I.hok.fresh C)⟩
end
theorem PE.alt{a b:TE}(h1:PE X e a)(h2:PE X e b):PE X e (λA H Q=>a A H Q\/b A H Q):=λg s A H Q I h=>h.elim (h1 g s A H Q I) (h2 g s A H Q I)
theorem DI.alt{o:cv->cv->M4 cv}{a b:R2}(h1:DI X o a)(h2:DI X o b):DI X o (λx y H Q=>a x y H Q\/b x y H Q):=λg s A H x y v u Q I c d h=>h.elim (h1 g s A H x y v u Q I c d) (h2 g s A H x y v u Q I c d)
theorem nB{D:ce}{fs:U (hO×V)}{b:n_}(h:H a=O (.ins C dx fs))(cl:HB K C)(y:BQ K (.ref C) "__class__" =O (O (.builtin "object.__class__"))/\Iy K C (.type "object")=O c0)(Ab:GG K (.builtin "object.__class__") "__get__" =O (O (.builtin "getset_descriptor.__get__"))/\Ij K (.builtin "object.__class__")=O c0)(e:n' K (.ref C) (.ref D)=O b):i3 K H (.ref a) (.ref D) b:=
 ⟨.ref D,Y,λ_ r=>r,.inl ⟨.ref C,.ins h cl y.1 Ab.1 Ab.2 y.2,e⟩⟩
theorem x9(a b:ft):decide (([a]:U ft) < [b])=decide (a<b):=by
 rw[x0];simp[List.cons_lt_cons_iff]
section
variable{k:ft}{f:ce}{d g:cv}
def Bs(Aa:sJ)(w:uF)(base:sG):Prop:=GX
def FB(K:fy)(x N:hO)(st:nW)(ps:U hO)(f:ce):Prop:=∃fd,vr K x N st f fd/\cM K fd ps []
def DD(K:fy)(mg:hO->eH cv)(x:hO)(st:nW)(ps:U hO):Prop:=∃f,mg x=O (.ref f)/\FB K x x st ps f
def MM(K:fy)(C:ce)(x N:hO)(st:nW)(ps:U hO):Prop:=∃f,i4 K C x f/\FB K x N st ps f
def II(K:fy)(C:ce)(N:hO)(st:nW)(ps:U hO):Prop:=∃f,Mk K C f/\FB K "__init__" N st ps f
theorem zfA(l:K.lookup f=O ⟨oc,od,.func (CG x N (dR st) (cF st) (aR st) .none d g pm an cd ct),sl⟩)(c:CO K cd N=c0)(k:BD K (.ref f)=c0)(h:∀(d doc pm:cv)(an:eH ce)(cdv ct:cv)(us:U cv),us.length=ps.length->HX (CG x N (dR st) (cF st) (aR st) .none d doc pm an cdv ct) ⟨us,[]⟩=zJ (ps.zip us)):FB K x N st ps f:=
 ⟨_,m8 l c k,(m8 l c k).binds h⟩
theorem uZ{p:U cv->Prop}(h:p []):∀us:U cv,us.length=0->p us
 |[],_=>h
theorem uC{p:U cv->Prop}(h:∀a us,us.length=n->p (a::us)):∀us:U cv,us.length=n+1->p us
 |a::us,e=>h a us (GH e)
def bA(x N:hO)(st:nW)(ps:U hO)(us:U cv):Prop:=∀(d doc pm:cv)(an:eH ce)(cdv ct:cv),HX (CG x N (dR st) (cF st) (aR st) .none d doc pm an cdv ct) ⟨us,[]⟩=zJ (ps.zip us)
theorem LD(l:K.lookup f=O ⟨oc,od,.func (CG x N (dR st) (cF st) (aR st) .none d g pm an cd ct),sl⟩)(c:CO K cd N=c0)(k:BD K (.ref f)=c0)(h:∀us:U cv,us.length=ps.length->bA x N st ps us):FB K x N st ps f:=
 zfA l c k λd doc pm an cdv ct us e=>h us e d doc pm an cdv ct
theorem fb0(l:K.lookup f=O ⟨oc,od,.func (CG x N (dR st) (cF st) (aR st) .none d g pm an cd ct),sl⟩)(c:CO K cd N=c0)(k:BD K (.ref f)=c0)(h:bA x N st [] []):FB K x N st [] f:=
 LD l c k (uZ (h))
theorem fb1(l:K.lookup f=O ⟨oc,od,.func (CG x N (dR st) (cF st) (aR st) .none d g pm an cd ct),sl⟩)(c:CO K cd N=c0)(k:BD K (.ref f)=c0)(h:∀a,bA x N st [p0] [a]):FB K x N st [p0] f:=
 LD l c k (uC λa=>uZ (h a))
theorem fb2(l:K.lookup f=O ⟨oc,od,.func (CG x N (dR st) (cF st) (aR st) .none d g pm an cd ct),sl⟩)(c:CO K cd N=c0)(k:BD K (.ref f)=c0)(h:∀a b,bA x N st [p0,p1] [a,b]):FB K x N st [p0,p1] f:=
 LD l c k (uC λa=>uC λb=>uZ (h a b))
theorem fb3{p2:hO}(l:K.lookup f=O ⟨oc,od,.func (CG x N (dR st) (cF st) (aR st) .none d g pm an cd ct),sl⟩)(c:CO K cd N=c0)(k:BD K (.ref f)=c0)(h:∀a b e,bA x N st [p0,p1,p2] [a,b,e]):FB K x N st [p0,p1,p2] f:=
 LD l c k (uC λa=>uC λb=>uC λe=>uZ (h a b e))
theorem fb4{p2 p3:hO}(l:K.lookup f=O ⟨oc,od,.func (CG x N (dR st) (cF st) (aR st) .none d g pm an cd ct),sl⟩)(c:CO K cd N=c0)(k:BD K (.ref f)=c0)(h:∀a b e i,bA x N st [p0,p1,p2,p3] [a,b,e,i]):FB K x N st [p0,p1,p2,p3] f:=
 LD l c k (uC λa=>uC λb=>uC λe=>uC λi=>uZ (h a b e i))
theorem fb5{p2 p3 p4:hO}(l:K.lookup f=O ⟨oc,od,.func (CG x N (dR st) (cF st) (aR st) .none d g pm an cd ct),sl⟩)(c:CO K cd N=c0)(k:BD K (.ref f)=c0)(h:∀a b e i j,bA x N st [p0,p1,p2,p3,p4] [a,b,e,i,j]):FB K x N st [p0,p1,p2,p3,p4] f:=
 LD l c k (uC λa=>uC λb=>uC λe=>uC λi=>uC λj=>uZ (h a b e i j))
theorem DD.cal(D:DD K mg x st ps)(b:Bs Aa w base)(h:∀f fd,vr K x x st f fd->ap Aa w K mg base CX k f fd ps sp):uG Aa w K mg base CX k x ps sp:=
 by obtain⟨f,m,fd,F,b⟩:=D;exact⟨f,fd,h f fd F,m,F.kp,b⟩
theorem MM.cal(D:MM K C x N st ps)(b:Bs Aa w base)(h:∀f fd,vr K x N st f fd->ap Aa w K mg base CX k f fd ps sp):aZ Aa w K mg base CX k C x ps sp:=
 by obtain⟨f,m,fd,F,b⟩:=D;exact⟨f,fd,h f fd F,m,b⟩
theorem II.cal(D:II K C N st ps)(b:Bs Aa w base)(h:∀f fd,vr K "__init__" N st f fd->ap Aa w K mg base CX k f fd ps sp):iA Aa w K mg base CX k C ps sp:=
 by obtain⟨f,m,fd,F,b⟩:=D;exact⟨f,fd,h f fd F,m,b⟩
theorem DD.rec(D:DD K mg x st ps)(b:Bs Aa w base){sp:ft->Sp}(c:∀Z H Q no,¬ sp 0 Z H Q no)(h:∀m f fd,uG Aa w K mg base CX (k+m) x ps (sp m)->vr K x x st f fd->ap Aa w K mg base CX (k+m+1) f fd ps (sp (m+1))):∀m,uG Aa w K mg base CX (k+m) x ps (sp m)
 |0=>D.cal b λf fd F=>⟨λZ H Q no z=>(c Z H Q no z).elim,λon o s H a us Z Q no _ _ _ _ z=>(c Z H Q no z).elim⟩
 |m+1=>D.cal b λf fd F=>h m f fd (DD.rec D b c h m) F
end
theorem bB{t u:TS}(h:∀Ac:St->Hp->Prop,(∀a H',u D a H'->Ac a H')->t { D with nx:=Ac } A H):gP t u D A H:=h _ λ_ _ x=>x
section
variable{a:U nW}{b u:TS}
end
theorem Gp(E:U V){b:ft}(h:b<=E.length):dF E (O (b:gV)) cx=E.drop b:=by
 delta dF
 rw[HT.Gr,HT.F6,Cj h,xv (by simp)]
theorem PI.alt{a b:TI}(c:PI X tg e a)(d:PI X tg e b):PI X tg e (λA H R=>a A H R\/b A H R):=λg s A H R I h=>h.elim (c g s A H R I) (d g s A H R I)
def del(H:Hp)(c:ce):Hp:=λb=>if b=c then cx else H b
theorem jf   : del H c c=cx:=mu Y
theorem c7(h:b≠c):del H c b=H b:=ks h
def DL(o:z_)(c:ce):HO:=.frz o (.ext λh=>h.get? c=O o)
section
variable{a:z_}{f:U ce}
theorem Ew.at(x:Ew Aa w H h)(e:H c=O (DL a c)):h.get? c=O a:=(x c _ e).1
theorem m7(e:h.get? c=O a):bo Aa w H h c (DL a c):=⟨e,e,⟨a,e⟩,λh1 h2 q k=>k _ q⟩
theorem Ew.frO(x:Ew Aa w H h)(n:H c=cx)(e:h.get? c=O a):Ew Aa w (upd H c (DL a c)) h:=λb u q=>by
 by_cases f:b=c
 ·subst f;rw[af]at q;cases q;exact m7 e
 ·rw[ag f]at q;exact (x b u q).stay (λ_ _ _ z=>z) (λd z=>by rw[ag (aF z n)];exact z) λd _ z=>by exact (ag (aF z n)) ▸ z
theorem Ew.del(x:Ew Aa w H h)(n:H c=O (DL a c)):Ew Aa w (del H c) h:=λb u q=>by
 by_cases e:b=c
 ·subst e;rw[jf]at q;cases q
 ·rw[c7 e]at q;exact (x b u q).stay (λ_ _ _ z=>z) (λd z=>by rw[c7 (bO z n nofun)];exact z) λd _ z=>by rw[c7 (bO z n nofun)];exact z
theorem Un.thaw(u:Un f [] (upd H c (DL a c)) H' h h')(n:H c=cx)(e:h.get? c=O a)(m:h'.get? c=O a):Un f [] H (L2.del H' c) h h':=by
 have i:∀{b:ce}{d:HO},H b=O d->b≠c:=λq z=>by grind
 refine⟨λb d q j l g=>?_,λb d q j l g=>?_,λb d q j g=>?_,λb d q g=>u.there b d q g,λb E q=>?_,λb d E q=>?_,λb ps q=>?_⟩
 ·by_cases z:b=c
  ·simp_all
  ·exact u.keep b d q (by rw[ag z];exact j) l g
 ·by_cases z:b=c
  ·subst z;rw[e]at q;cases q;exact⟨a.slots,m⟩
  ·exact u.slot b d q (by rw[ag z];exact j) l g
 ·by_cases z:b=c
  ·subst z;exact jf
  ·exact (c7 z) ▸ (u.free b d q (by exact (ag z) ▸ j) g)
 ·rw[c7 (i q)];exact u.tups b E (by rw[ag (i q)];exact q)
 ·rw[c7 (i q)];exact u.frzs b d E (by rw[ag (i q)];exact q)
 ·exact (c7 (i q)) ▸ (u.tbls b ps (by exact (ag (i q)) ▸ q))
theorem Un.refr(u:Un f [] (L2.del H c) H' h h')(n:H c=O (DL a c)):Un f [] H (upd H' c (DL a c)) h h':=by
 have i:∀{b:ce},H b=cx->b≠c:=λq z=>by grind
 refine⟨λb d q e j g=>u.keep b d q (by rw[c7 (i e)];exact e) j g,λb d q e j g=>u.slot b d q (by rw[c7 (i e)];exact e) j g,
  λb d q e g=>by rw[ag (i e)];exact u.free b d q (by rw[c7 (i e)];exact e) g,λb d q g=>u.there b d q g,λb E q=>?_,λb d E q=>?_,λb ps q=>?_⟩
 ·have z:=bO q n nofun;rw[ag z];exact u.tups b E (by rw[c7 z];exact q)
 ·by_cases z:b=c
  ·subst z;rw[n]at q;rw[af];exact q
  ·rw[ag z];exact u.frzs b d E (by rw[c7 z];exact q)
 ·have z:=bO q n nofun;exact (ag z) ▸ (u.tbls b ps (by exact (c7 z) ▸ q))
end
def gr(base:sG)(mg:hO->eH cv):Prop:=∃b a,mg "__builtins__" =O (.ref b)/\b≠Fb/\base.get? b=O a/\a.cls = .type "module" /\ a.dict=O Fb/\a.data = .plain
def HA(H:Hp)(c:ce)(N:hO):Prop:=∃oc Z t,H c=O (DL oc c)/\oc.data = .fields Z/\Z[1]?=O (.str N t)
def cB(H:Hp)(T:ce)(pos:KN)(N:hO):Prop:=∃ps,H T=O (.tbl ps)/\EZ ps.toList/\(DH pos ps.toList=cx\/∃c,DH pos ps.toList=O (.ref c)/\HA H c N)
def mr(H:Hp)(l:ce)(N:hO)(ar:ET)(body:tA)(sc:Ey)(cl:U (hO×ce)):Prop:=
 ∃pm c ctv,H l=O (DL (G7 "<lambda>" N ar body sc cl pm c ctv) l)/\HA H c N
def jK(T:ce)(H H':Hp):Prop:=∀b o,b≠T->H b=O o->H' b=O o
def R7(T:ce)(N:hO)(ar:ET)(body:tA)(sc:Ey)(pos:KN)(cl:U (hO×ce)):TE:=λA H Q=>cB H T pos N/\
 ∀H' l,jK T H H'->H l=cx->(∀p,cB H T p N->cB H' T p N)->mr H' l N ar body sc cl->Q (.ref l) H'
theorem WE{l:U cv}{a b:gV}{c:cv}(h:EZ l):EZ (l++[DE a,DE b,c]):=by
 fun_induction EZ l with
 |case1=>trivial
 |case2 _ _ _ _ _ _ d=>exact d h
 |case3=>exact h.elim
theorem Wi(p pos:KN)(c:cv)(l:U cv)(h:EZ l):DH p (l++[DE pos.line,DE pos.col,c])=DH p l\/(DH p l=cx/\DH p (l++[DE pos.line,DE pos.col,c])=O c):=by
 fun_induction EZ l with
 |case1=>
  show (if _ then O c else cx)=_\/_/\(if _ then O c else cx)=_
  split
  ·exact .inr ⟨Y,Y⟩
  ·exact .inl Y
 |case2 a _ b _ d r e=>
  show (if _ then O d else DH p (r++_))=(if _ then O d else DH p r)\/(if _ then O d else DH p r)=_/\(if _ then O d else DH p (r++_))=_
  split
  ·exact .inl Y
  ·exact e h
 |case3=>exact h.elim
theorem HA.mono{q:hO}(x:HA H c q)(h:∀o,H c=O o->H' c=O o):HA H' c q:=by obtain⟨oc,Z,t,e,r⟩:=x;exact⟨oc,Z,t,h _ e,r⟩
theorem mr.mono{l:ce}{body:tA}(x:mr H l N ar body sc cl)(h:∀b o,H b=O o->H' b=O o\/∃ps,o = .tbl ps):mr H' l N ar body sc cl:=by
 obtain⟨pm,c,ctv,e,oc,Z,t,a,r⟩:=x;have Ab:∀{b:ce}{o:z_},H b=O (DL o b)->H' b=O (DL o b):=λq=>(h _ _ q).elim id λz=>nomatch z;exact⟨pm,c,ctv,Ab e,oc,Z,t,Ab a,r⟩
section
variable{i:tA}{j T:ce}
theorem oh(K:K5 sc X.env=zJ cl)(L:X.env.code = .ref j)(C:Dv X.K j T=c0)(B:gr X.base X.mg)(M:defaultsOf ar X.env=([],[]):=by rfl):
  PE X (.Lambda ar i sc pos) (R7 T (X.env.qual ++ "<lambda>") ar i sc pos cl):=by
 rintro g s A H Q I ⟨⟨ps,w,ht,hc⟩,h⟩;refine W.kla_eval M ?_;have hg:=I.ok.mod.glob.keeps I.bk;have hP:=I.hok T _ w;have CH:=Mp I.kIn C;have A4:B9≠T:=λz=>by
  obtain⟨o,es,ep,e,hd,_⟩:=hg;rw[z,hP]at e;cases e;cases hd
 obtain⟨bm,ob,b1,b2,b3,b4,b5,b6⟩:=B;have bT:bm≠T:=λz=>by
  have:=I.bk _ _ b3;rw[z,hP]at this;cases this;cases b4
 have bG:bm≠B9:=λz=>by
  obtain⟨o,es,ep,e,hd,_⟩:=I.ok.mod.glob;simp only[z,e]at b3;cases b3;rw[hd]at b6;cases b6
 have BA:s.heap.BuiltinsAt X.mg T:=⟨bm,ob,b1,b2,bG,bT,I.bk _ _ b3,b4,b5,b6⟩
 rcases hc with hn |⟨c,hf,N⟩
 ·refine W.kla_makeFunction K I.ok.glob hg L CH hP ht hn A4 BA λc' ctv h' tk hx D G P R=>?_;obtain⟨c2,oc,Z,t,e2,A5,hd,hv⟩:=P;cases e2;have nT:∀{b:ce},H b=cx->b≠T:=λq z=>by subst z;rw[w]at q;cases q
  have S:=I.hok.fresh D;have m:=I.hok.fresh (jE D (f' G));have A6:=g_ G;let y:z_:=G7 "<lambda>" (X.env.qual ++ "<lambda>") ar i sc cl ((X.mg "__name__").getD .none) c' ctv;let l:=ps ++ #[DE pos.line,DE pos.col,.ref c'];let H':Hp:=upd (upd (upd H T (.tbl l)) c' (DL oc c')) h'.objs.size (DL y h'.objs.size);have a:∀b o,b≠T->H b=O o->H' b=O o:=λb o n q=>by
   show upd _ _ _ _=_;rw[ag (aF q m),ag (aF q S),ag n];exact q
  have J:H' T=O (.tbl l):=by
   show upd _ _ _ _=_;rw[ag (aF w m),ag (aF w S),af]
  have A0:H' c'=O (DL oc c'):=by
   show upd _ _ _ _=_;rw[ag A6,af]
  have A1:H' h'.objs.size=O (DL y h'.objs.size):=af;have kp:∀b o,b≠T->s.heap.get? b=O o->(h'.push y).get? b=O o:=λb o n q=>b_ _ (hx b o n q);have hl:(h'.push y).get? h'.objs.size=O y:=f6 _ Y;have fr:∀b o,s.heap.get? b=O o->H b=cx->H' b=cx:=λb o q n=>by
   show upd _ _ _ _=_;have:=e_ q;rw[ag (g_ (BM (hJ this D) G)),ag (g_ (hJ this D)),ag (nT n)];exact n
  have un:Un X.fs [] H H' s.heap (h'.push y):=by
   refine⟨λb o q n _ _=>kp b o (nT n) q,λb o q n _ _=>⟨o.slots,kp b o (nT n) q⟩,λb o q n _=>fr b o q n,λb o q _=>?_,λb E q=>a b _ (bO q w nofun) q,λb o u q=>a b _ (bO q w nofun) q,λb qs q=>?_⟩
   ·by_cases z:b=T
    ·subst z;exact⟨_,b_ _ R⟩
    ·exact⟨o,kp b o z q⟩
   ·by_cases z:b=T
    ·subst z;simp only[w]at q;cases q;exact⟨_,J⟩
    ·exact⟨#[],by rw[a b _ z q];simp⟩
  have A7:Ew X.prog X.w H' (h'.push y):=λb u q=>by
   by_cases z1:b=h'.objs.size
   ·subst z1;rw[A1]at q;cases q;exact m7 hl
   by_cases z2:b=c'
   ·subst z2;rw[A0]at q;cases q;exact m7 (b_ _ A5)
   by_cases z3:b=T
   ·subst z3;rw[J]at q;cases q;exact b_ _ R
   ·have q':H b=O u:=by rw[←q];show _=upd _ _ _ _;rw[ag z1,ag z2,ag z3]
    refine (I.hok b u q').stay (λd v hd r=>kp d v (λzz=>?_) r) (λd r=>a d _ (bO r w nofun) r) λd E r=>a d _ (bO r w nofun) r;rcases hd with rfl |hd
    ·exact z3 zz
    ·subst zz;rw[w]at hd;cases hd
  have cd:HA H' c' (X.env.qual ++ "<lambda>"):=⟨oc,Z,t,A0,hd,hv⟩
  have I':Inv X g A H' { s with heap:=h'.push y,toks:=tk }:=I.un un A7;have tr:EZ l.toList:=by
   have:=WE (a:=pos.line) (b:=pos.col) (c:=.ref c') ht;simpa[l]using this
  have kt:∀p,cB H T p (X.env.qual ++ "<lambda>")->cB H' T p (X.env.qual ++ "<lambda>"):=λp ⟨A2,e0,_,h0⟩=>by
   rw[w]at e0;cases e0;refine⟨l,J,tr,?_⟩;rw[show l.toList=ps.toList++[DE pos.line,DE pos.col,.ref c'] by simp[l]];rcases Wi p pos (.ref c') ps.toList ht with e |⟨_,e⟩
   ·rw[e];exact h0.imp id λ⟨d,f,A8,A9,t2,e3,r⟩=>⟨d,f,A8,A9,t2,a _ _ (bO e3 w nofun) e3,r⟩
   ·exact .inr ⟨c',e,cd⟩
  exact⟨.ref h'.objs.size,H',I',Y,h H' _ a m kt ⟨_,c',ctv,A1,cd⟩⟩
 ·refine W.kla_makeFunctionHit K I.ok.glob hg L CH hP ht hf BA λctv h' tk hk A3=>?_;let y:z_:=G7 "<lambda>" (X.env.qual ++ "<lambda>") ar i sc cl ((X.mg "__name__").getD .none) c ctv;have m:=I.hok.fresh A3;have a:∀b o,H b=O o->upd H h'.objs.size (DL y h'.objs.size) b=O o:=λb o q=>by rw[ag (aF q m)];exact q
  have I':Inv X g A (upd H h'.objs.size (DL y h'.objs.size)) { s with heap:=h'.push y,toks:=tk }:=
   I.laid (λb u q=>b_ _ (hk b u q)) A3 (m7 (f6 _ Y))
  exact⟨.ref h'.objs.size,_,I',Y,h _ _ (λb o _ q=>a b o q) m (λp ⟨A2,e0,t0,h0⟩=>⟨A2,a _ _ e0,t0,h0.imp id λ⟨d,f,x⟩=>⟨d,f,x.mono λo q=>a d o q⟩⟩) ⟨_,c,ctv,af,(N.mono λo q=>a c o q)⟩⟩
end
def gu(sc:Ey)(x y:hO):Prop:=sc.kind = .function/\sc.isCoroutine=d_/\sc.isGenerator=d_/\x≠y/\sc.names.lookup y=O .free/\(∀p∈sc.names,(p.2 = .cell\/p.2 = .free)->p.1=x\/p.1=y)/\
 ((sc.names.lookup x=O .local/\∀n c,Dm n sc.names [(y,c)]=[(y,c)])\/(sc.names.lookup x=O .cell/\∀n c,Dm n sc.names [(y,c)]=[(x,n),(y,c)]))
def gH(sc:Ey)(Af:ce)(y:hO)(c:ce):U (hO×ce):=Dm (Af+1) sc.names [(y,c)]
theorem gu.cells{y:hO}(S:gu sc x y)(Af c:ce){z:hO}(h:(gH sc Af y c).lookup z=O d):(z=y/\d=c)\/(z=x/\d=Af+1/\sc.names.lookup x=O .cell):=by
 obtain⟨_,_,_,a,_,_,⟨h1,h2⟩ |⟨h1,h2⟩⟩:=S
 ·delta gH at h
  rw[h2]at h;have:=ri h;simp at this;exact .inl this
 ·delta gH at h
  rw[h2]at h;have:=ri h;simp at this;rcases this with q |q
  ·exact .inr ⟨q.1,q.2,h1⟩
  ·exact .inl q
theorem gu.celly{y:hO}(S:gu sc x y)(Af c:ce):(gH sc Af y c).lookup y=O c:=by
 obtain⟨_,_,_,a,_,_,⟨h1,h2⟩ |⟨h1,h2⟩⟩:=S
 ·delta gH
  simp_all
 ·delta gH
  rw[h2,C9,x4.mpr (v_ a)];simp
theorem gu.cellx{y:hO}(S:gu sc x y)(Af c:ce)(h:sc.names.lookup x=O .cell):(gH sc Af y c).lookup x=O (Af+1):=by
 obtain⟨_,_,_,a,_,_,⟨h1,h2⟩ |⟨h1,h2⟩⟩:=S
 ·grind
 ·delta gH
  simp_all
theorem TV{y:hO}{Ab:ce}{i:eH ce}{Q:FZ->f0->Prop}(S:gu sc x y)(h:∀h' tk m,(∀b o,s.heap.get? b=O o->h'.get? b=O o)->h'.Ns s.heap.objs.size m->(sc.names.lookup x=O .local->m x=O u)->(sc.names.lookup x=O .cell->h'.IsCell (s.heap.objs.size+1) (O u))->
   Q (newEnv sc s.heap.objs.size Ab (gH sc s.heap.objs.size y c) N i cd cx b) { s with heap:=h',toks:=tk }):
  h_ M on (Ib sc Ab [(y,c)] [(x,u)] N i cd cx b) Q no s:=by
 have j:=S.1;simp only[Ib,Option.isSome_none,IQ,MK];refine b7 (wpAny_alloc ?_);refine b7 (wpAny_layCells _ (λname kind cells=>by grind) _ _ _ _ ?_);rw[show ({ s with heap:=s.heap.push { cls:=.type "frame",data:=.dict #[] } }:f0).heap.objs.size=s.heap.objs.size+1 from tJ ..];have l:∀b o,s.heap.get? b=O o->(pushCells (s.heap.push { cls:=.type "frame",data:=.dict #[] }) sc.names).get? b=O o:=λb o q=>Mq _ _ _ _ (b_ _ q);have v:(pushCells (s.heap.push { cls:=.type "frame",data:=.dict #[] }) sc.names).Ns s.heap.objs.size λ_=>cx:=(Heap.Ns.new s.heap (.type "frame")).keeps (Mq _ _);refine b7 ?_;simp only[Do];refine b7 (b7 ?_);rcases S.2.2.2.2.2.2 with⟨e,w⟩ |⟨e,w⟩
 ·refine Jp e v (λh' f d=>eM ?_) (by rw[j];rfl);refine eM (eM (h _ _ _ (λb o q=>d.extBut b o (g_ (e_ q)) (l b o q)) f (λ_=>by simp) λz=>?_));rw[z]at e;cases e
 ·have ok:=cellsFrom_ok sc.names (s.heap.push { cls:=.type "frame",data:=.dict #[] }) (s.heap.objs.size+1) [] ⟨λ_ _ B=>(nomatch B),EG⟩ (by simp_all);rw[tJ]at ok;have C:(Dm (s.heap.objs.size+1) sc.names []).lookup x=O (s.heap.objs.size+1):=by
   have app:∀(ns:U (hO×CZ)) (n) (a b:U (hO×ce)),Dm n ns (a++b)=Dm n ns a++b:=by
    intro ns;induction ns with
    |nil=>exact λ_ _ _=>rfl
    |cons p r A=>
     intro n a b;unfold Dm
     split
     ·exact A (n+1) ((p.1,n)::a) b
     ·exact A n a b
   have q:=w (s.heap.objs.size+1) c;rw[show [(y,c)]=[]++[(y,c)] from Y,app]at q;have D:Dm (s.heap.objs.size+1) sc.names []=[(x,s.heap.objs.size+1)]:=List.append_cancel_right q;rw[D];simp
  refine JA j e (S.cellx _ _ e) ((ok.empty _ _ (ri C)).1) λh' g d=>eM ?_;refine eM (eM (h _ _ _ (λb o q=>d.extBut b o (g_ (sI (e_ q))) (l b o q)) (v.sameBut d (g_ (up _))) (λz=>?_) λ_=>g));rw[z]at e;cases e
def jg(N:hO)(sc:Ey)(Af l:ce)(cd:cv)(y:hO)(c:ce):FZ:=newEnv sc Af B9 (gH sc Af y c) (N ++ ".<locals>.") (O l) cd cx Fb
def je(CX:HL)(Aa:sJ)(w:uF)(K:fy)(mg:hO->eH cv)(base:sG)(x y:hO)(N:hO)(sc:Ey)(l:ce)(cd:cv)(c:ce)(on:BF)(outer:U FZ)(s:f0)(H:Hp)(no:XK):Cx where
 prog:=Aa
 w:=w
 K:=K
 mg:=mg
 base:=base
 A:=on.deeper (jg N sc s.heap.objs.size l cd y c)
 N:=[x,y]
 s₀:=s
 H₀:=H
 env:=jg N sc s.heap.objs.size l cd y c
 outer:=outer
 stack:=jg N sc s.heap.objs.size l cd y c::outer
 ex:=[]
 calm:=c0
 fn:=λz=>decide (z=x)
 pn:=[]
 xe:=λe s'=>h_ (hY Aa w) (on.deeper (jg N sc s.heap.objs.size l cd y c)) (leaving (jg N sc s.heap.objs.size l cd y c) e) (λ_ a=>CX outer H s no e a) (λb a=>CX outer H s no b a) s'
section
variable{y:hO}{l:ce}{E:XK}
theorem y6:di (yl Aa w) (je (yl Aa w) Aa w K mg base x y N sc l cd c on outer s H E) E:=by
 rintro g A H1 T e s' I ⟨a,cls,v,H',B,rfl,os,d,h,C,u,i,Fj,D⟩;refine L1 I.ok.frames Y h λh2 m G=>?_;have J:=u.fly m.1 G Fj λb f=>by
  obtain⟨_,o,L,M⟩:=h.2.2.1.mem f;exact⟨o,L,M⟩
 have p:=I.call' (s':={ s' with heap:=h2 }) os J (i.kept m.1) d λb f=>hQ f (by simp);refine⟨a,cls,v,H',B,Y,p.os,d,m,C,p.base,i,λb o e f=>?_,D⟩;have j:b∉F5 (je (yl Aa w) Aa w K mg base x y N sc l cd c on outer s H E).stack:=λP=>by
  rcases f_.mp (I.stkSub b P) with z |z
  ·have:=e_ e;exact hQ (hJ this I.ok.above) (by simp_all)
  ·exact f z
 obtain⟨Q,r⟩:=I.base.there b o e (by intro z;exact hQ (show b∈([]) from z) (by simp));obtain⟨R,S,q⟩:=Fj b Q r j;refine⟨R,S,λn=>?_⟩;have k:=I.base.keep b o e n f (by intro z;exact hQ (show b∈([]) from z) (by simp));rw[r]at k;rw[q (I.base.free b o e n (by intro z;exact hQ (show b∈([]) from z) (by simp)))];exact kn k
theorem Xa{B:cv}{v z:V}{oc:z_}(S:gu sc x y)(hd:on.handled=cx)(g:fi Aa w K mg base on outer s H)(M:s.heap.get? c=O oc)(R:oc.data = .cell (O B))(T:H c=cx)(X:aD z B)(Z:aD v u)(C:∀b o,s.heap.get? b=O o->h1.get? b=O o)(hn:h1.Ns s.heap.objs.size m)(hl:sc.names.lookup x=O .local->m x=O u)(r:sc.names.lookup x=O .cell->h1.IsCell (s.heap.objs.size+1) (O u)):
  Inv (je CX Aa w K mg base x y N sc l cd c on outer s H E) [] [O v,O z] H { s with heap:=h1,toks:=tk }:=by
 have n:∀b:ce,b∉(je CX Aa w K mg base x y N sc l cd c on outer s H E).ex:=λb z=>hQ (show b∈([]) from z) (by simp);have P:=e_ M;have f:h1.IsCell c (O B):=⟨oc,C _ _ M,R⟩
 refine⟨⟨g.mod,S.1,Y,Y,dv _,λa b d h1 h2=>?_,λa ha=>?_,λa d D h=>?_,λ_=>hd,HD g.frames,.inr ⟨Y,Y⟩,λb z=>hQ z (n b),g.bs,g.bsz,λb _ _=>n b,λb z=>hQ z (n b),g.funs,g.frf⟩,
  rfl,g.bare,Un.kept C,⟨m,hn,λi a t h1 h2 Q=>?_⟩,λa d h=>?_,g.hok.fresh (dv _),λa d h=>?_,λp hp=>hQ (show p∈([]:U (ce×z_)) from hp) (by simp),g.hok.kept C,Y⟩
 ·rcases S.cells _ _ h1 with⟨j,e⟩ |⟨j,e,_⟩ <;> rcases S.cells _ _ h2 with⟨G,I⟩ |⟨G,I,_⟩
  ·simp only[j,G]
  ·exact hQ (e.symm.trans I) (g_ (sI P))
  ·exact hQ (I.symm.trans e) (g_ (sI P))
  ·simp only[j,G]
 ·have A:sc.names.lookup a=O .cell\/sc.names.lookup a=O .free:=ha;have hm:a=x\/a=y:=by
   rcases A with q |q
   ·exact S.2.2.2.2.2.1 _ (ri q) (.inl Y)
   ·exact S.2.2.2.2.2.1 _ (ri q) (.inr Y)
  rcases hm with J |L
  ·rw[J]at A ⊢;rcases S.2.2.2.2.2.2 with⟨q,_⟩ |⟨q,_⟩
   ·simp_all
   ·exact⟨_,S.cellx _ _ q⟩
  ·rw[L];exact⟨c,S.celly _ _⟩
 ·have D:=D;rcases S.cells _ _ h with⟨j,e⟩ |⟨j,e,_⟩
  ·exact hQ ((t9 D).symm.trans j) S.2.2.2.1
  ·exact e ▸ (BL _)
 ·have Q:=Q
  match i,h1,h2 with
  |0,h1,h2=>
   cases h1;cases h2;refine⟨u,Z,?_⟩;rcases S.2.2.2.2.2.2 with⟨q,_⟩ |⟨q,_⟩
   ·exact .inl ⟨q,hl q⟩
   ·exact .inr ⟨.inl q,_,S.cellx _ _ q,r q⟩
  |1,h1,h2=>
   cases h1;cases h2;exact⟨B,X,.inr ⟨.inr S.2.2.2.2.1,c,S.celly _ _,f⟩⟩
 ·rcases S.cells _ _ h with⟨j,e⟩ |⟨j,e,q⟩
  ·exact e ▸ (⟨_,f⟩)
  ·exact e ▸ (⟨_,r q⟩)
 ·rcases S.cells _ _ h with⟨j,e⟩ |⟨j,e,q⟩
  ·exact e ▸ T
  ·exact e ▸ (g.hok.fresh (BL _))
end
def my(CX:HL):Prop:=∀{outer:U FZ}{H:Hp}{s:f0}{no:XK}{e:cv}{s':f0}{c:ce}{oc:z_},H c=O (DL oc c)->s.heap.get? c=O oc->c∉F5 outer->
 CX outer (del H c) s (λa b H2=>H2 c=cx->no a b (upd H2 c (DL oc c))) e s'->CX outer H s no e s'
def qe(CX:HL):Prop:=∀{outer:U FZ}{H:Hp}{s:f0}{no:XK}{e:cv}{s':f0}{c:ce}{oc:z_},H c=cx->s.heap.get? c=O oc->
 CX outer (upd H c (DL oc c)) s (λa b H2=>no a b (del H2 c)) e s'->CX outer H s no e s'
theorem zD:my q_:=λ_ _ _ h=>h.elim
theorem PH:qe q_:=λ_ _ h=>h.elim
theorem zE   : my (yl Aa w):=by
 rintro outer H s no e s' c oc m i p ⟨a,cls,r,H',B,rfl,os,d,f,v,u,g,Fj,x⟩;have y:B.get? c=O oc:=by
  obtain⟨j,h,q⟩:=Fj c oc i p;exact (q jf) ▸ h
 have l:=u.free c oc i jf (by simp);have A:a≠c:=λz=>by
  have:=f.2.1
  grind
 refine⟨a,cls,r,upd H' c (DL oc c),B,Y,os,d,f,by rw[ag A];exact v,u.refr m,g.frO l y,λb o q C=>?_,x l⟩;obtain⟨j,h,D⟩:=Fj b o q C;refine⟨j,h,λn=>D ?_⟩;rw[c7 λz=>by grind];exact n
theorem NV   : qe (yl Aa w):=by
 rintro outer H s no e s' c oc i j ⟨a,cls,l,H',B,rfl,os,d,f,A,u,g,Fj,m⟩;have h:=u.frzs c _ _ af;have p:=g.at h;refine⟨a,cls,l,del H' c,B,Y,os,d,f,?_,u.thaw i j (f.1 _ _ p),g.del h,λb o q r=>?_,m⟩
 ·delta del
  simp_all
 ·obtain⟨v,x,y⟩:=Fj b o q r;refine⟨v,x,λn=>?_⟩;by_cases z:b=c
  ·grind
  ·exact y (by exact (ag z) ▸ n)
def Tc(H:Hp)(l:ce)(N:hO)(ar:ET)(body:tA)(sc:Ey)(cl:U (hO×ce))(pm:cv)(c:ce)(ctv:cv):Prop:=
 H l=O (DL (G7 "<lambda>" N ar body sc cl pm c ctv) l)/\HA H c N
def N'(N:hO)(ar:ET)(body:tA)(sc:Ey)(l:ce)(y:hO)(c:ce)(pm:cv)(c':ce)(ctv:cv)(d:V->V->Hp->VK->XK->Prop):Sp:=λZ H Q no=>
 ∃v z oc u,Z=[v]/\Tc H l N ar body sc [(y,c)] pm c' ctv/\H c=O (DL oc c)/\oc.data = .cell (O u)/\aD z u/\
  d v z (del H c) (λr H2=>H2 c=cx->Q r (upd H2 c (DL oc c))) (λa b H2=>H2 c=cx->no a b (upd H2 c (DL oc c)))
theorem Zz{k:ft}{l:ce}{y:hO}{body:tA}{C:V->V->Hp->VK->XK->Prop}(S:gu sc x y)(R:my CX)(g:∀(on:BF)(outer:U FZ)(s:f0)(H:Hp)(v z:V)(Q:VK)(no:XK),bj k (on.deeper (jg N sc s.heap.objs.size l (.ref c') y c))->C v z H Q no->
   ∃t,PE (je CX Aa w K mg base x y N sc l (.ref c') c on outer s H no) body t/\t [O v,O z] H Q):
  ap Aa w K mg base CX (k+1) l (Ji "<lambda>" N ar body sc [(y,c)] pm (.ref c') ctv) [x] (N' N ar body sc l y c pm c' ctv C):=by
 refine⟨by rintro Z H Q no ⟨_,_,_,_,e,_⟩;rw[e];rfl,λon outer s H D us Z Q no i d L r j=>?_⟩;obtain⟨v,z,oc,u,rfl,⟨M,P,fs,t,n,hd,T⟩,h,X,rz,p⟩:=j;obtain⟨uv,rfl,rv⟩:=df r;have f:=d.hok.at h;have A:c∉F5 outer:=λq=>by rw[d.frf c q]at h;cases h
 refine W.kla_callFunE i.depth (d.hok.at M) Y S.2.1 S.2.2.1 Y ⟨c',_,fs,t,Y,d.hok.at n,hd,T⟩ (L _ _ _ _ ?_);refine TV S λh1 tk m E hn hl B=>⟨(d.mod.nolimit.keeps λb o e=>(d.bs b o e).1).keeps E,W.kla_codeExpr ?_⟩
 have G:∀{b:ce},H b=cx->del H c b=cx:=λq=>by
  delta del
  simp_all
 have e1:fi Aa w K mg base on outer s (del H c):=⟨d.frames,d.mod,λb o q=>⟨(d.bs b o q).1,G (d.bs b o q).2⟩,d.bsz,d.funs,λb q=>G (d.frf b q),d.hok.del h,d.bare⟩
 obtain⟨t,ht,hq⟩:=g on outer s (del H c) v z _ _ (i.deeper _) p;have I:Inv (je CX Aa w K mg base x y N sc l (.ref c') c on outer s (del H c) (λa b H2=>H2 c=cx->no a b (upd H2 c (DL oc c)))) [] [O v,O z] (del H c) { s with heap:=h1,toks:=tk }:=
  Xa S i.hd e1 f X jf rz rv E hn hl B
 refine pu (ht [] _ _ _ _ I hq) (λu' s' ⟨r,H2,Ae,rr,q⟩=>?_) λe s' hs=>pu hs (λ_ s2 q=>R h f A q) λe2 s2 q=>R h f A q;have J:=Ae.base.free c oc f jf nofun;exact⟨r,upd H2 c (DL oc c),Ae.os,Ae.bare,Ae.base.refr h,Ae.hok.frO J (Ae.base.keep c oc f jf A nofun),rr,q J⟩
section
variable{k:ft}{y:hO}{E:XK}{d:TA}
inductive YH(i:ft)(c:ce)(sp:Sp)(E:XK)(A:St)(Q:VK)(Z:U V)(H1:Hp):Prop
 |i(v:_)(_:A[i]?=O (O v))(_:∀oc u,H1 c=cx->oc.data = .cell (O u)->aD v u->sp Z (upd H1 c (DL oc c)) (λr H2=>Q r (del H2 c)) λa b H2=>E a b (del H2 c))
def znr(i:ft)(c:ce)(sp:Sp)(E:XK)(d:TA):TE:=λA H Q=>d A H λZ H1=>YH i c sp E A Q Z H1
theorem uG.peZ(C:uG X.prog X.w X.K X.mg X.base CX k x ps sp)(hr:bj j X.A)(hx:di CX X E)(TH:qe CX)(ha:PA X (e::es) d)(hN:X.N[i]?=O y)(hy:X.env.scope.names.lookup y=O .cell)(N:X.env.cells.lookup y=O c)(S:X.fn y=c0)(hj:k<=j:=by decide)(hg:Gl X x:=by rfl)(T:(x ==("__debug__" : hO))=d_:=by decide)(he:i' (e::es) X.env=(d_,eval e X.env)::i' es X.env:=by rfl)(A0:(zG pos (i' es X.env)).any (·.1)=d_:=by rfl):
  PE X (.Call (.Name x p) (e::es) [] pos) (znr i c sp E d):=by
 obtain⟨f,fd,F,hm,hk,w⟩:=C;intro g s A H Q I h;refine uz (gd I hg hm ?_ T);refine EU I.ok.mod.kin hk (wd (ha pos g s A H _ I h) λus D ⟨Z,H1,a,r,v,ev,q⟩=>⟨a.kIn,?_⟩) he A0;have P:=a.freeC y c N;obtain⟨m,hn,hl⟩:=a.loc;obtain⟨u,ru,lk⟩:=hl i y v hN ev (.inr (.inl hy));have B:D.heap.IsCell c (O u):=by
  rcases lk with⟨q1,_⟩ |⟨_,c2,R,q3⟩
  ·exact hQ (hy.symm.trans q1) (by simp)
  ·rw[N]at R;cases R;exact q3
 obtain⟨oc,eo,ed⟩:=B;have q:=q oc u P ed ru;have n1:∀{b:ce},b<X.s₀.heap.objs.size->H1 b=cx->upd H1 c (DL oc c) b=cx:=λw n=>by
  rw[ag (g_ (hJ w (a.ok.cab y c S N)))];exact n
 have l:=a.env0;have e1:fi X.prog X.w X.K X.mg X.base X.A X.stack D (upd H1 c (DL oc c)):=by
  refine⟨l.frames,l.mod,λb o q=>⟨(l.bs b o q).1,n1 (hJ (e_ q) a.ok.bsz) (l.bs b o q).2⟩,l.bsz,l.funs,λb w=>?_,l.hok.frO P eo,l.bare⟩;rcases f_.mp (a.stkSub b w) with z |z
  ·rw[ag (by exact z ▸ (a.cne y c N).symm)];exact l.frf b w
  ·obtain⟨_,o,ho,_⟩:=a.ok.funs.mem z;exact n1 (e_ ho) (l.frf b w)
 have G:us.length=ps.length:=by exact r.length ▸ (F.len _ _ _ _ q)
 have J:=w D us a.kIn (by rw[Dl];exact G);rw[Dl]at J;refine Ff (Co (F.run X.A X.stack D _ ⟨us,[]⟩ us Z _ _ (hr.mono hj) e1 J r q) λrr s' K=>?_);cases rr with
 |error e=>exact hx g A H1 D e s' a (TH P eo K)
 |ok fl=>
  cases fl with
  |ret u2=>
   obtain⟨v2,H2,os,L,un,M,r2,R⟩:=K;have e2:=un.frzs c _ _ af;exact a.after ⟨v2,del H2 c,os,L,un.thaw P eo (M.at e2),M.del e2,r2,R⟩
  |next=>exact tj K
  |brk=>exact tj K
  |cont=>exact tj K
def J8(K:fy)(H:Hp)(l:ce):Prop:=(∃oc od fd sl,K.lookup l=O ⟨oc,od,.func fd,sl⟩)\/∃oc od fd sl,H l=O (DL ⟨oc,od,.func fd,sl⟩ l)
theorem J8.at{g:U (ce×z_)}{A:St}{H:Hp}{s:f0}{l:ce}(I:Inv X g A H s)(h:J8 X.K H l):W.FnAt l s.heap:=by
 rcases h with⟨oc,od,fd,sl,e⟩ |⟨oc,od,fd,sl,e⟩
 ·exact⟨oc,od,fd,sl,I.kIn _ _ e⟩
 ·exact⟨oc,od,fd,sl,I.hok.at e⟩
inductive Yn(Aa:sJ)(w:uF)(K:fy)(mg:hO->eH cv)(base:sG)(CX:HL)(k:ft)(i:ft)(E:XK)(d:TA)(A:St)(H:Hp)(Q:VK):Prop
 |i(l fd ps sp:_)(_:A[i]?=O (O (.ref l)))(_:J8 K H l)(_:ap Aa w K mg base CX k l fd ps sp)(_:cM K fd ps [])(_:d A H λZ H1=>J8 K H1 l/\sp Z H1 Q E)
theorem sj(Aa:sJ)(w:uF)(K:fy)(mg:hO->eH cv)(base:sG)(k:ft)(f:bj j X.A)(m:di CX X E)(n:PA X (e::es) d)(y:PE X (.Name x p) (cL i))(z:k<=j)(h1:X.prog=Aa:=by rfl)(h2:X.w=w:=by rfl)(B:X.K=K:=by rfl)(C:X.mg=mg:=by rfl)(D:X.base=base:=by rfl)(G:i' (e::es) X.env=(d_,eval e X.env)::i' es X.env:=by rfl)(a:(zG pos (i' es X.env)).any (·.1)=d_:=by rfl):
  PE X (.Call (.Name x p) (e::es) [] pos) (Yn Aa w K mg base CX k i E d):=by
 subst h1 h2 B C D;rintro g s A H Q I ⟨l,fd,ps,sp,J,L,F,M,h⟩;refine uz (wd (y g s A H (λv H'=>v = .ref l/\H'=H) I ⟨_,J,Y,Y⟩) λu N ⟨v,H',b,P,R,S⟩=>?_);subst R;subst S;obtain rfl:u=ql l:=P;refine W.callWith_F (L.at b) (wd (n pos g N A _ _ b h) λus s2 ⟨Z,H2,c,r,T,q⟩=>⟨T.at c,?_⟩) G a;exact lO F (f.mono z) M .nil m c r (by simp_all)
end
def qd(H:Hp)(ts:U ce):Prop:=∀p∈ts,H p=O (.tbl #[])
section
variable{g:hO->eH cv}{k:ft}{i:ce}{f:f0}
theorem zhq(N:K.In f.heap)(D:f.heap.Ns B9 mg)(P:f.heap.Ns Fb g)(Q:∀x:hO,x ≠ "__name__" -> g x=Dj x)(E:f.heap.NoLimit)(hg:f.gens = #[])(R:gr f.heap mg)(B:f.heap.get? a=O { cls:=.type "list",data:=.seq Z.toArray })(hi:FK Z ns)(hl:ns.length<=fx)(hr:bj k HH)(C:∀p∈ts,f.heap.get? p=O (L6 #[])/\K.lookup p=cx/\∃c,Dv K c p=c0)(F:∀base:sG,K.In base->base.Ns B9 mg->gr base mg->ap Aa w K mg base CX k i fd [x] sp)(y:∀(s:f0)(u:cv),HC s fd ⟨[u],[]⟩ [(x,u)])(S:∀H:Hp,qd H ts->n7 K H a (ns.map V.int)->sp [.ref a] H (λv _=>v = .bl c0) λ_ _ _=>wa)(T:∀H e s',CX [] H f (λ_ _ _=>wa) e s'->wa):
  C7 (hY Aa w) HH (.call (.ref i) ⟨[.ref a],[]⟩) (λr s'=>r = .ok (.ret (.bool c0))/\OldK f.heap s'.heap/\s'.os=f.os/\Fc s'.gens) f:=by
 have rv:=u7 hi;let M:HO:=.frz { cls:=.type "list",data:=.seq Z.toArray } (.lst (ns.map V.int));let H:Hp:=λb=>if b∈ts then O (.tbl #[]) else if b=a/\K.lookup a=cx then O M else cx
 have ea:a∉ts:=λm=>by
  have:=(C a m).1;rw[B]at this;cases this
 have Ht:∀{b},b∈ts->H b=O (.tbl #[]):=λm=>mu m;have G:∀{b u},H b=O u->(b∈ts/\u = .tbl #[])\/(b=a/\K.lookup a=cx/\u=M):=λ{b u} e=>by
  by_cases m:b∈ts
  ·rw[Ht m]at e;cases e;exact .inl ⟨m,Y⟩
  ·by_cases z:b=a/\K.lookup a=cx
   ·have e:(if b∈ts then O (HO.tbl #[]) else if b=a/\K.lookup a=cx then O M else cx)=O u:=e;rw[ks m,mu z]at e;cases e;exact .inr ⟨z.1,z.2,Y⟩
   ·have e:(if b∈ts then O (HO.tbl #[]) else if b=a/\K.lookup a=cx then O M else cx)=O u:=e;rw[ks m,ks z]at e;cases e
 have free:∀{b o},f.heap.get? b=O o->o.cls≠.none->o.cls≠.type "list" -> H b=cx:=λ{b o} e n1 n2=>by
  cases q:H b with
  |none=>rfl
  |some u=>
   rcases G q with⟨m,_⟩ |⟨z,_⟩
   ·have:=(C b m).1;rw[e]at this;cases this;exact hQ Y n1
   ·rw[z,B]at e;cases e;exact hQ Y n2
 have A:∀{b o es ep},f.heap.get? b=O o->o.data = .dict es ep->H b=cx:=λ{b o es ep} e d=>by
  cases q:H b with
  |none=>rfl
  |some u=>
   rcases G q with⟨m,_⟩ |⟨z,_⟩
   ·have:=(C b m).1;rw[e]at this;cases this;cases d
   ·rw[z,B]at e;cases e;cases d
 have j:∀{b m},f.heap.Ns b m->(im f.heap H).Ns b m:=λ{b m} ⟨o,es,ep,e,d,r⟩=>⟨o,es,ep,rj e (A e d),d,r⟩
 have hK:K.In (im f.heap H):=λb o e=>rj (N b o e) (by
  cases q:H b with
  |none=>rfl
  |some u=>
   rcases G q with⟨m,_⟩ |⟨z,n,_⟩
   ·rw[(C b m).2.1]at e;cases e
   ·rw[z,n]at e;cases e)
 have I:Ew Aa w H f.heap:=λb u e=>by
  rcases G e with⟨m,rfl⟩ |⟨rfl,_,rfl⟩
  ·exact (C b m).1
  ·exact⟨B,by rw[bd];exact hl,Z,_,rv,B⟩
 have hM:Mod K mg (im f.heap H):=⟨hK,j D,⟨g,j P,Q⟩,by obtain⟨mc,h1,h2⟩:=E;exact⟨mc,j h1,h2⟩⟩
 have hB:gr (im f.heap H) mg:=by obtain⟨bm,ob,b1,b2,b3,X,r⟩:=R;exact⟨bm,ob,b1,b2,rj b3 (free b3 (by rw[X];nofun) (by rw[X];exact λz=>hQ (Nu z) (by decide))),X,r⟩
 have e0:fi Aa w K mg (im f.heap H) HH [] f H:=⟨Y,hM,λb o e=>Ut e,Cc (Xi _ _),trivial,λb P=>hQ (show b∈([]) from P) (by simp),I,.of_eq hg⟩
 have sq:n7 K H a (ns.map V.int):=by
  cases hk:K.lookup a with
  |none=>exact .inl (.inr ⟨_,by show (if a∈ts then _ else if a=a/\K.lookup a=cx then _ else _)=_;rw[ks ea,mu ⟨Y,hk⟩]⟩)
  |some o=>
   have e:=N a o hk;rw[B]at e;cases e;exact .inr ⟨_,Z.toArray,_,hk,Y,Y,Y,by rw[hL,hi.length];exact hl,by simpa using rv⟩
 refine Co ((F _ hK (j D) hB).run HH [] f H ⟨[.ref a],[]⟩ [.ref a] [.ref a] _ _ hr e0 (y f (.ref a)) (.cons Y .nil) (S H (λp m=>Ht m) sq)) λr s' h=>?_;cases r with
 |error e=>exact (T H e s' h).elim
 |ok fl=>
  cases fl with
  |next=>exact tj h
  |brk=>exact tj h
  |cont=>exact tj h
  |ret u=>
   obtain⟨v,H',os,J,un,l,r',q⟩:=h;have q':=q;subst q';obtain rfl:u=Cs c0:=r';refine⟨Y,⟨λb o e=>?_,λb o e=>un.there b o e (by simp)⟩,os,J⟩;cases q:H b with
   |none=>exact .inl (un.keep b o e q (by intro z;exact hQ (show b∈([]) from z) (by simp)) (by simp))
   |some u=>
    rcases G q with⟨m,rfl⟩ |⟨z,_,rfl⟩
    ·obtain⟨L,e2⟩:=un.tbls b _ q;obtain⟨g1,_,c,g2⟩:=C b m;have t1:=(Mp N g2).tab g1;rw[e]at g1;cases g1;exact .inr (.inl ⟨t1.isCodeTable,Y,#[],L,Y,l b _ e2⟩)
    ·have e2:=un.frzs b _ _ q;have e4:=(I b _ q).1;rw[e]at e4;cases e4;exact .inl ((l b _ e2).1)
end
theorem YC{l:KA}{k:ft}{d:DefRec}{K:MF->fy}{sp:fy->U ce->Sp}(J:l.most=O n)(y:n<=fx)(z:d.params.defaults=[])(L:bj k HH)(M:∀(w:uF)(h:sG),YP w h->(K w.params).In h)(N:∀(w:uF)(h:sG),YP w h->∀p∈ts,h.get? p=O (L6 #[]))(F:∀(w:uF)(mg:hO->eH cv)(r:ce)(h:sG),(K w.params).In h->h.Ns B9 mg->mg d.name=O (.ref r)->
   (∀p∈ts,(K w.params).lookup p=cx/\∃c,Dv (K w.params) c p=c0)/\∃fd:B',(∀(s:f0)(u:cv),HC s fd ⟨[u],[]⟩ [(x,u)])/\
    ∀base:sG,(K w.params).In base->base.Ns B9 mg->gr base mg->ap l.prog w (K w.params) mg base CX k r fd [x] (sp (K w.params) ts))(A:∀(K:fy)(H:Hp)(a:ce)(ns:U gV),ns.length<=n->qd H ts->n7 K H a (ns.map V.int)->sp K ts [.ref a] H (λv _=>v = .bl c0) λ_ _ _=>wa)(B:∀(H:Hp)(s:f0)(e:cv)(s':f0),CX [] H s (λ_ _ _=>wa) e s'->wa):
  W.WalkO q loose XP YP l.row.toRowW d [] (λf Z=>IA f Z):=by
 refine Att.HN J z λw D i mg mb r o pm cd doc a Z ns G E ho hd P C j g b Q=>?_;have I:=M w _ E;obtain⟨R,fd,S,T⟩:=F w mg r _ I G.T.g C;exact zhq I G.T.g G.T.b G.T.builtins G.T.nolimit Q G.T.bmain j g (jE b y) L (λp m=>⟨N w _ E p m,R p m⟩) T S (λH X hS=>A _ H a ns b X hS) λH e s'=>B H i e s'
structure gt(K:fy)(x qual:hO)(st:nW)(f:ce)(fd:B')(c T:ce):Prop where
 ex:∃(oc:cv)(od:eH ce)(kV doc pm:cv)(an:eH ce)(ct:cv)(osl:t_ (eH cv)),
  fd=CG x qual (dR st) (cF st) (aR st) .none kV doc pm an (.ref c) ct/\K.lookup f=O ⟨oc,od,.func fd,osl⟩/\CO K (.ref c) qual=c0
 hd:Dv K c T=c0
section
variable{f T:ce}{k:ft}
theorem gt.ok(F:gt K x N st f fd c T)(S:cn Ac ps (aR st))(len:∀Z H Q no,sp Z H Q no->Z.length=ps.length)(a:∀(on:BF)(outer:U FZ)(s:f0)(H:Hp)(Z:U V)(Q:VK)(no:XK),bj k (on.deeper (Ej N (aR st) s.heap.objs.size f (.ref c)))->sp Z H Q no->
   ∃t,FX (c6 CX Aa w K mg base Ac N (aR st) f (.ref c) on outer s H no) (cF st) t/\t { nx:=λ_ H'=>Q .non H',rt:=Q } (fC Ac Z) H):ap Aa w K mg base CX (k+1) f fd ps sp:=by
 obtain⟨oc,od,kV,doc,pm,an,ct,osl,rfl,lk,b⟩:=F.ex;exact qP lk b S len λon outer s H Z Q no e d=>a on outer s H Z Q no e d
theorem gt.o(F:gt K x N st f fd c T)(Ac:U hO)(a:Ac.Nodup->∀(on:BF)(outer:U FZ)(s:f0)(H:Hp)(Z:U V)(Q:VK)(no:XK),bj k (on.deeper (Ej N (aR st) s.heap.objs.size f (.ref c)))->sp Z H Q no->
   ∃t,FX (c6 CX Aa w K mg base Ac N (aR st) f (.ref c) on outer s H no) (cF st) t/\t { nx:=λ_ H'=>Q .non H',rt:=Q } (fC Ac Z) H)(S:cn Ac ps (aR st):=by exact⟨Y,Y,Y,by decide +kernel,Y,by decide +kernel,by decide +kernel⟩)(len:∀Z H Q no,sp Z H Q no->Z.length=ps.length:=by rintro _ _ _ _ ⟨⟩;subst_vars;rfl):ap Aa w K mg base CX (k+1) f fd ps sp:=F.ok S len (a S.nd)
end
inductive IF(w:uF)(K:fy)(mg:hO->eH cv)(x:hO)(Af:U (hO×V)):Prop
 |i(a:ce)(es:t_ DX)(n:ft)(_:mg x=O (.ref a))(_:(a ==BG)=d_)(_:K.lookup a=O ⟨.type "dict",cx,.dict es n,#[]⟩)(_:EM w.params es.toList)(_:∀y,cZ (Af.lookup y) (Kw A_ es y))
def pV:U DX->U (hO×V)->Prop
 |[],[]=>GX
 |e::r,(x,v)::l=>(∃t,e.key = .str x t)/\aD v e.val/\pV r l
 |_,_=>wa
theorem wZ:∀{es:U DX}{Af:U (hO×V)},pV es Af->∀y,cZ (Af.lookup y) ((es.find? λe=>A_ y e.key).map (·.val))
 |[],[],_,_=>trivial
 |e::r,(x,v)::l,⟨⟨t,a⟩,b,c⟩,y=>by
  rw[C9,List.find?_cons,a];by_cases h:y=x
  ·subst h;simp only[show (y ==y)=c0 by simp,show A_ y (.str y t)=c0 by simp[A_]];exact b
  ·simp only[show (y ==x)=d_ by simpa using h,show A_ y (.str x t)=d_ by simp[A_];exact λz=>h z.symm];exact wZ c y
 |[],_::_,h,_=>h.elim
theorem qL{es:U DX}(b:mg x=O (.ref a))(c:(a ==BG)=d_)(l:K.lookup a=O ⟨.type "dict",cx,.dict ⟨es⟩ n,#[]⟩)(k:EM w.params es)(h:pV es Af):IF w K mg x Af:=
 ⟨a,⟨es⟩,n,b,c,l,k,λy=>by
  delta Kw
  rw[List.find?_toArray];exact wZ h y⟩
section
variable{i:tA}
inductive S9(Af:U (hO×V))(Q:VK)(y:V)(H1:Hp):Prop
 |i(z:_)(_:y = .str z)(_:Q (.bl (Af.lookup z).isSome) H1)
def YN(Af:U (hO×V))(ti:TE):TE:=λA H Q=>ti A H λy H1=>S9 Af Q y H1
inductive Zj(Af:U (hO×V))(Q:VK)(y:V)(H1:Hp):Prop
 |i(z:_)(_:y = .str z)(_:Q (.bl (!(Af.lookup z).isSome)) H1)
def UA(Af:U (hO×V))(ti:TE):TE:=λA H Q=>ti A H λy H1=>Zj Af Q y H1
inductive Uf(Af:U (hO×V))(Q:VK)(y:V)(H1:Hp):Prop
 |i(z v:_)(_:y = .str z)(_:Af.lookup z=O v)(_:Q v H1)
def SJ(Af:U (hO×V))(ti:TE):TE:=λA H Q=>ti A H λy H1=>Uf Af Q y H1
theorem IF.pin(C:IF X.w X.K X.mg x Af)(hi:PE X i ti)(d:Gl X x:=by rfl)(b:(x ==("__debug__" : hO))=d_:=by decide):PC X .In i (.Name x p) (YN Af ti):=by
 obtain⟨a,es,n,e,f,j,l,m⟩:=C;intro g s A H Q I h;refine wd (hi g s A H _ I h) λv w ⟨y,H1,c,r,z,u,q⟩=>gd c d e ?_ b;subst u;obtain⟨tk,rfl⟩:=r;refine wpAny_in_of (Gg X.prog X.w z tk) f (Ik (prog:=X.prog) c.kIn j l) ?_;rw[←(m z).isSome_eq];exact⟨.bl _,H1,c.tok _,Y,q⟩
theorem IF.pnin(C:IF X.w X.K X.mg x Af)(hi:PE X i ti)(d:Gl X x:=by rfl)(b:(x ==("__debug__" : hO))=d_:=by decide):PC X .NotIn i (.Name x p) (UA Af ti):=by
 obtain⟨a,es,n,e,f,j,l,m⟩:=C;intro g s A H Q I h;refine wd (hi g s A H _ I h) λv w ⟨y,H1,c,r,z,u,q⟩=>gd c d e ?_ b;subst u;obtain⟨tk,rfl⟩:=r;refine ME (Gg X.prog X.w z tk) f (Ik (prog:=X.prog) c.kIn j l) ?_;rw[←(m z).isSome_eq];exact⟨.bl _,H1,c.tok _,Y,q⟩
theorem IF.pix(C:IF X.w X.K X.mg x Af)(hi:PE X i ti)(j:Gl X x:=by rfl)(l:mt i:=by (intro _ _;rfl))(c:(x ==("__debug__" : hO))=d_:=by decide):PE X (.Subscript (.Name x p) i pos) (SJ Af ti):=by
 obtain⟨a,es,n,m,_,r,w,B⟩:=C;intro g s A H Q I h;refine uS F9.lookup l (gd I j m (wd (hi g s A H _ I h) λL M ⟨y,H1,d,D,z,v,E,G,q⟩=>?_) c);subst E;obtain⟨tk,rfl⟩:=D;have b:=Ik (prog:=X.prog) d.kIn r w;have e:=B z;rw[G]at e;obtain⟨u,J,K⟩:∃u,Kw A_ es z=O u/\aD v u:=by
  cases f:Kw A_ es z with
  |none=>rw[f]at e;exact e.elim
  |some u=>rw[f]at e;exact⟨u,Y,e⟩
 exact⟨b.typeIs,Hd (Gg X.prog X.w z tk) b J ⟨v,H1,d.tok _,K,q⟩⟩
end
theorem Va:E1 (.type "list") "keys" =zJ cx:=Y
theorem YK:E1 (.type "zip") "keys" =zJ cx:=Y
theorem SF:E1 (.type "zip") "__getattr__" =zJ cx:=Y
theorem Ti{E:t_ cv}{k:ft}{Q:eH cv->f0->Prop}(g:s.heap.get? a=O { cls:=.type "list",dict:=cx,data:=.seq E k,slots:=sl })(l:on.handled=cx)(h:∀h' tk,(∀b i,s.heap.get? b=O i->h'.get? b=O i)->Q cx { s with heap:=h',toks:=tk }):h_ (hY prog w) on (Gz (.ref a) "keys") Q no s:=by
 obtain⟨m,Ab,d,tk,os⟩:=s;have j:∀c,(⟨m,Ab,d,c,os⟩:f0).TypeIs (.ref a) "list" :=λ_=>⟨_,g,Y⟩
 have n:=KC;have p:=E8.lookup;have q:=E8.bind (.ref a);have r:=am_list_getattr_none;unfold Gz getAttrBy? getAttrBy
 repeat (any_goals (first |assumption |exact j _ | ((with_reducible show h_ _ _ (Fq (Kh "list.__getattribute__") _ _) _ _ _);refine BX E8 (j _) am_entry_list_getattribute (F.args_list_getattribute_2 _ _) (meets_getattribute_miss_list a E k sl "keys" _ Va (by decide) (by decide)) ⟨g,l,λh' c e f=>?_⟩) |wp_step))
 obtain⟨t',u,v⟩:=f.there;show h_ _ _ (E2 _ _ _ _ _ _ _) _ _ _
 delta E2
 repeat (any_goals (first |assumption |wp_step))
 exact h _ _ f.keeps
theorem wY:entryFor table "dict.update.loop" =O Dx.«dict.update.loop»:=entryFor_of_tree (by rfl)
theorem sw:plainId "dict.update.loop" =c0:=by decide +kernel
structure mw(prog:sJ)(w:uF)(A:BF)(I d:ce)(wr:U ce)(n:ft)(kv:ft->cv×cv)(St:ft->sG->Prop):Prop where
 nw:d∉wr
 frame:∀i h h',St i h->(∀b o,b≠d->h.get? b=O o->h'.get? b=O o)->h.objs.size<=h'.objs.size->St i h'
 item:∀i (s:f0) (Q:eH cv->f0->Prop) (E:cv->f0->Prop),i<n->St i s.heap->
  (∀p h' tk,Gu h' p #[(kv i).1,(kv i).2]->St (i+1) h'->(∀b o,b∉wr->s.heap.get? b=O o->h'.get? b=O o)->Q (O (.ref p)) { s with heap:=h',toks:=tk })->h_ (hY prog w) A (Fd (.ref I)) Q E s
 done:∀(s:f0)(Q:eH cv->f0->Prop)(E:cv->f0->Prop),St n s.heap->
  (∀h' tk,(∀b o,b∉wr->s.heap.get? b=O o->h'.get? b=O o)->Q cx { s with heap:=h',toks:=tk })->h_ (hY prog w) A (Fd (.ref I)) Q E s
section
variable [BU κ] {a:KeyKind prog w κ} {c:ft->sG->Prop}
def iE(kk:ft->κ)(kv:ft->cv×cv):ft->U (κ×cv)
 |0=>[]
 |i+1=>MD (iE kk kv i) (kk i) (kv i).2
theorem XU(W:mw prog w on.in1 I d wr n kv c)(kk:ft->κ)(D:∀i<n,a.is (kk i) (kv i).1=c0)(hz:∀i,i<=n->(iE kk kv i).length<=fx):
  ∀(m i:ft)(s:f0)(j:gV)(g:J_),n - i=m->i<=n->c i s.heap->s.heap.DictOf a d (iE kk kv i)->
   (∀h' tk,h'.DictOf a d (iE kk kv n)->(∀b o,b∉d::wr->s.heap.get? b=O o->h'.get? b=O o)->R (.ok (.ret .none)) { s with heap:=h',toks:=tk })->
   C7 (hY prog w) on (.builtin "dict.update.loop" { pos:=[.ref d,.ref I,.int j g,.none] }) R s:=by
 have A:=W.nw;intro m;induction m with
 |zero=>
  intro i s j g E hi st hd q;have e:i=n:=by lia
  subst e;refine ss wY ?_;refine b7 (W.done s _ _ st λh' tk k=>?_);refine b7 (eM (eM (q h' tk ?_ λb o f e=>k b o (λz=>f (hE _ z)) e)));obtain⟨o,es,ep,e,r⟩:=hd;exact⟨o,es,ep,k d o A e,r⟩
 |succ m G=>
  intro i s j g E hi st hd q;have lt:i<n:=by lia
  refine ss wY ?_;rw[HI sw _];refine b7 (W.item i s _ _ lt st λp h1 tk H h B=>?_);have l:h1.DictOf a d (iE kk kv i):=by
   obtain⟨o,es,ep,e,r⟩:=hd;exact⟨o,es,ep,B d o A e,r⟩
  obtain⟨M,C,ct,nt,dt⟩:=H;have J:GJ { s with heap:=h1,toks:=tk } (.ref p) "tuple" := ⟨_,C,ct⟩
  refine b7 (sA (b7 (x3 ?_)));refine b7 (Gx J ?_);refine b7 (rx C dt (eM ?_));refine sA (wpAny_dictSet_pairs (hsz:=hz i hi) (D i lt) l λh2 u v=>eM ⟨u_ sw _,G (i+1) _ _ _ (by lia) lt (W.frame _ _ _ h (λb o f e=>?_) (Cc v.1.symm)) u λh' x y K=>?_⟩)
  ·exact (v.2 b f) ▸ e
  ·refine q h' x y λb o f e=>K b o f ?_;have L:b≠d:=λz=>f (by exact z ▸ j_);rw[v.2 b L];exact B b o (λz=>f (hE _ z)) e
end
section
variable [BU κ] {d:KeyKind prog w κ} {f:ft->κ}
theorem wW{T:BP}{ok:ce->Prop}(ty:s.TypeIs (.ref a) T)(E:(Dh T != .type "dict")=c0)(G:∀(s':f0)(u:cv->f0->Prop)(j:eH cv->f0->Prop),(∀b o,s.heap.get? b=O o->s'.heap.get? b=O o)->(∀h' tk,(∀b o,s'.heap.get? b=O o->h'.get? b=O o)->j cx { s' with heap:=h',toks:=tk })->
   h_ (hY prog w) on.in1.in1 (Gz (.ref a) "keys") j u s')(it:∀(s':f0)(u:cv->f0->Prop)(j:cv->f0->Prop),(∀b o,s.heap.get? b=O o->s'.heap.get? b=O o)->s.heap.objs.size<s'.heap.objs.size->
   (∀I h' wr St,mw prog w on.in1.in1 I s.heap.objs.size wr n kv St->St 0 h'->(∀b o,s'.heap.get? b=O o->h'.get? b=O o)->(∀b∈wr,¬ ok b\/s'.heap.objs.size<=b)->j (.ref I) { s' with heap:=h' })->
   h_ (hY prog w) on.in1.in1 (IX (.ref a)) j u s')(H:∀i<n,d.is (f i) (kv i).1=c0)(hz:∀i,i<=n->(iE f kv i).length<=fx)(q:∀h' tk,h'.DictOf d s.heap.objs.size (iE f kv n)->(∀b o,ok b->s.heap.get? b=O o->h'.get? b=O o)->Q (.ref s.heap.objs.size) { s with heap:=h',toks:=tk }):h_ (hY prog w) on (Fq (.type "dict") [.ref a]) Q no s:=by
 refine MJ (Q₁:=λobj h=>obj = .ref s.heap.objs.size/\h={ s with heap:=s.heap.push { cls:=.type "dict",data:=.dict #[] } }) F.kt_called_dict (F.kt_typeCall_dict_1 _) F.entry_dict_init (kt_code_dict_new _ ⟨Y,Y⟩) ?_;rintro obj h ⟨rfl,rfl⟩;have g:(s.heap.push { cls:=.type "dict",data:=.dict #[] }).DictOf d s.heap.objs.size []:=HG s.heap;refine⟨g.typeIs,F.args_dict_init_2 _ _,?_⟩;refine b7 ?_;refine b7 (wpAny_notOrdered_dict g.typeIs ?_);refine eM ?_;have v:GJ { s with heap:=s.heap.push { cls:=.type "dict",data:=.dict #[] } } (.ref a) T:=by
  obtain⟨o,e,c⟩:=ty;exact⟨o,b_ _ e,c⟩
 refine b7 (Gx v ?_);rw[mu E];refine b7 (G _ _ _ (λb o e=>b_ _ e) λh1 Kn B=>?_);have l:h1.DictOf d s.heap.objs.size []:=by
  obtain⟨o,es,ep,e,r⟩:=g;exact⟨o,es,ep,B _ _ e,r⟩
 have m:=let⟨o,es,ep,e,r⟩:=l;e_ e;have C:=λb o e=>B b o (b_ _ e);refine b7 (Gf ?_);refine b7 (it _ _ _ C m λI h2 wr St W st D J=>eM ⟨u_ sw _,?_⟩);refine XU W f H hz (n - 0) 0 _ 0 _ (by exact Nat.succ_sub_one _) (ot _) st ?_ λK x A L=>⟨Y,q K x A λb o M e=>L b o ?_ (D b o (C b o e))⟩
 ·obtain⟨o,es,ep,e,r⟩:=l;exact⟨o,es,ep,D _ _ e,r⟩
 ·intro z;have p:=e_ e;rcases f_.mp z with z |z
  ·exact hQ p (by exact z ▸ (rc _))
  ·rcases J b z with y |y
   ·exact y M
   ·exact hQ (hJ (BM p m) y) (rc _)
end
theorem zlG(m:on.handled=cx)(I l d:ce)(a:l≠I)(x:I≠d)(A:l≠d)(J:t_ cv)(c:ft->ce)(kv:ft->cv×cv)(n:∀(i:ft)(v:cv),J[i]?=O v->v = .ref (c i))(nt:∀i<J.size,c i≠I/\c i≠d):
  mw prog w on I d [I] J.size kv (λi h=>(h.IsListIter I l i/\h.IsList l J)/\∀j<J.size,Gu h (c j) #[(kv j).1,(kv j).2]) where
 nw:=λg=>x (ku.mp g).symm
 frame:=λi h h' st k _=>⟨(DJ (prog:=prog) (w:=w) m I l a J).frame i h h' st.1 λb g o e=>k b o (by simp at g;rcases g with z |z <;> rw[z] <;> assumption) e,λj f=>by
  obtain⟨o,e,r⟩:=st.2 j f;exact⟨o,k (c j) o (nt j f).2 e,r⟩⟩
 item:=λi s Q no hi st p=>(DJ m I l a J).item i s Q no hi st.1 λv h' tk y q k=>by
  obtain rfl:=n i v y;have u:∀j<J.size,Gu h' (c j) #[(kv j).1,(kv j).2]:=λj f=>by
   obtain⟨o,e,r⟩:=st.2 j f;exact⟨o,k (c j) o (by simp;exact (nt j f).1) e,r⟩
  exact p _ _ _ (u i hi) ⟨q,u⟩ k
 done:=λs Q no st p=>(DJ m I l a J).done s Q no st.1 p
def dB(ps:U (Key×V)):U (Key×V):=ps.foldl (λa p=>bR a p.1 p.2) []
theorem RK(ps:U (Key×V))(p:Key×V):dB (ps++[p])=bR (dB ps) p.1 p.2:=by
 delta dB
 simp_all
theorem xm:∀(ps acc:U (Key×V)),(ps.foldl (λa p=>bR a p.1 p.2) acc).length<=acc.length+ps.length
 |[],acc=>dv _
 |p::r,acc=>by
  have h1:=xm r (bR acc p.1 p.2);have h2:=nE acc p.1 p.2
  grind
theorem lK(ps:U (Key×V)):(dB ps).length<=ps.length:=by
 have:=xm ps [];simp only[List.length_nil,Eb]at this;exact this
theorem qD{ps:U (Key×V)}{kv:ft->cv×cv}{kk:ft->Key}(a:∀(i:ft) p,ps[i]?=O p->kk i=p.1/\aD p.2 (kv i).2):∀i,i<=ps.length->KV (dB (ps.take i)) (iE kk kv i)
 |0,_=>.nil
 |i+1,h=>by
  have lt:i<ps.length:=h;rw[ke,a_ lt];show KV (dB (ps.take i++[ps[i]])) (MD _ _ _);rw[RK];obtain⟨b,c⟩:=a i _ (a_ lt);simp only[b];exact (qD a i (f' lt)).put _ c
theorem Tu(hc:X.calm=c0):bw X (.type "dict") (λE H Q=>∃(l:ce)(c:U ce)(ps:U (Key×V)),E=[.ref l]/\H l=O (.lst (c.map V.ref))/\c.length=ps.length/\
  (∀(i:ft) a p,c[i]?=O a->ps[i]?=O p->H a=O (.tup [kV p.1,p.2]))/\∀d,H d=cx->Q (.ref d) (upd H d (.dK (dB ps)))):=by
 intro g s A H E us Q I r h;obtain⟨l,c,ps,rfl,hl,f,ht,q⟩:=h;obtain⟨u,rfl,L⟩:=df r;cases L;obtain⟨hz,J,n,rv,w⟩:=(show bo X.prog X.w H s.heap l (.lst (c.map V.ref)) from I.hok l _ hl)
 have M:J.length=c.length:=by simp only[←rv.length,bd]
 have y:∀(i:ft) v,J[i]?=O v->∃a p,c[i]?=O a/\ps[i]?=O p/\v = .ref a:=λi v e=>by
  have hi:i<c.length:=by exact M ▸ (cs.mp e).1
  obtain⟨u,hu,L⟩:=rv.get (by rw[cc,a_ hi];rfl);rw[e]at hu;cases hu;exact⟨c[i],ps[i],a_ hi,a_ (by lia),L⟩
 have tup:∀(i:ft),∃kv:cv×cv,∀a p,c[i]?=O a->ps[i]?=O p->Gu s.heap a #[kv.1,kv.2]/\aD (kV p.1) kv.1/\aD p.2 kv.2:=λi=>by
  by_cases hi:i<c.length
  ·have N:=ht i _ _ (a_ hi) (a_ (by simp_all));obtain⟨_,Z,r2,tt⟩:=(show bo X.prog X.w H s.heap _ (.tup _) from I.hok _ _ N)
   obtain⟨u1,u2,rfl,r3,r4⟩:=lY r2;refine⟨(u1,u2),λa p m ep=>?_⟩;rw[a_ hi]at m;cases m;rw[a_ (by lia)]at ep;cases ep;exact⟨tt,r3,r4⟩
  ·exact⟨(.none,.none),λa p m _=>hQ (cs.mp m).1 hi⟩
 obtain⟨kv,z⟩:=NN tup;let K:ft->ce:=λi=>c.getD i 0;let kk:ft->Key:=λi=>(ps.getD i (.inl cx,.non)).1;have B:∀{i:ft}{a:ce},c[i]?=O a->K i=a:=λ{i a} e=>by show c.getD i 0=a;rw[nn,e];rfl
 have C:∀{i:ft}{p:Key×V},ps[i]?=O p->kk i=p.1:=λ{i p} e=>by show (ps.getD i _).1=_;rw[nn,e];rfl
 have x:∀i,i<J.length->∃a p,c[i]?=O a/\ps[i]?=O p/\K i=a/\kk i=p.1/\Gu s.heap a #[(kv i).1,(kv i).2]/\aD (kV p.1) (kv i).1/\aD p.2 (kv i).2:=λi hi=>by
  obtain⟨a,p,m,ep,_⟩:=y i _ (a_ hi);obtain⟨h1,h2,h3⟩:=z i a p m ep;exact⟨a,p,m,ep,B m,C ep,h1,h2,h3⟩
 have D:=e_ w;have P:∀i,i<J.length->K i<s.heap.objs.size:=λi hi=>by
  obtain⟨a,p,_,_,e,_,⟨o,w,_⟩,_⟩:=x i hi;exact e ▸ (e_ w)
 have bk:=λi hi=>qD (kk:=kk) (λj p ep=>⟨C ep,by
  have R:j<c.length:=by exact f ▸ (cs.mp ep).1
  exact (z j _ p (a_ R) ep).2.2⟩) i hi
 have G:ps.length<=fx:=by rw[←f];simpa using hz
 have hh:=I.ok.hd hc;refine wW (d:=cy X.prog X.w) (n:=J.toArray.size) (kv:=kv) (f:=kk) (ok:=λ_=>GX) ⟨_,w,Y⟩ (by decide) (λs' E' Q' k S=>Ti (k _ _ w) (by simp[hh]) S) (λs' E' Q' k lt S=>?_) (λi hi=>?_) (λi hi=>?_) λh' tk hd k=>?_
 ·refine C6 ⟨_,k _ _ w,Y,n,Y⟩ ?_;refine S _ _ _ _ (zlG (by simp[hh]) s'.heap.objs.size l s.heap.objs.size (g_ (BM D lt)) (rs lt) (g_ D) J.toArray K kv (λi v e=>?_) λi hi=>?_) ⟨⟨⟨_,f6 _ Y,Y,Y⟩,⟨_,b_ _ (k _ _ w),Y,n,Y⟩⟩,λj R=>?_⟩ (λb o e=>b_ _ e) λb hb=>?_
  ·obtain⟨a,p,m,_,e⟩:=y i v (by simpa using e);exact (B m) ▸ e
  ·have:=P i (by simpa using hi);exact⟨g_ (BM this lt),g_ this⟩
  ·obtain⟨a,p,_,_,e,_,⟨o,w,r⟩,_⟩:=x j (by simpa using R);rw[e];exact⟨o,b_ _ (k _ _ w),r⟩
  ·simp only[ku]at hb;exact .inr (by exact hb ▸ (dv _))
 ·obtain⟨a,p,_,_,_,e,_,r1,_⟩:=x i (by simpa using hi);exact e ▸ (io r1)
 ·have T:i<=ps.length:=by simp only[←f,←M];simpa using hi
  have:=(bk i T).length;rw[←this];refine jE (lK _) (jE ?_ G);rw[gv];exact Nat.min_le_right _ _
 ·have N:J.toArray.size=ps.length:=by simp only[hL,M,f]
  rw[N]at hd;have b1:=bk ps.length (dv _);rw[gl]at b1;refine⟨.ref s.heap.objs.size,_,I.laid (λb o e=>k b o trivial e) (dv _) (jQ (jE (lK _) G) ?_ b1 hd),Y,q _ (I.hok.fresh (dv _))⟩;have:=I.big;simp;exact rs this
def hU(h:sG)(z TI TO T:ce):Prop:=∃b,h.get? z=O { cls:=.type "zip",dict:=cx,data:=.fields #[DE T,.bool b,.bool d_,.ref TI,.ref TO],slots:=#[] }
theorem XZ{Q:eH z_->f0->Prop}(h:Q (s.heap.get? a) s):h_ M on (loadIfAlive a) Q no s:=λ_ _ _=>h
theorem y3{TI TO T:ce}{Q:n_->f0->Prop}(hz:hU s.heap z TI TO T)(d:∃o,s.heap.get? T=O o)(q:∀h',hU h' z TI TO T->wh z s.heap h'->Q d_ { s with heap:=h' }):
  h_ (hY prog w) on (B_ (.ref z)) Q no s:=by
 obtain⟨b,hz⟩:=hz;obtain⟨o,e⟩:=d;refine b7 (tO hz Y Y ?_);refine b7 (XZ ?_);rw[nI,e];refine b7 (tO hz Y (x:=.bool b) Y ?_);cases b with
 |true=>
  exact eM (q s.heap ⟨c0,hz⟩ (Mr _ _))
 |false=>
  refine b7 (BH hz (by simp) λh' a c=>eM (q h' ⟨c0,a⟩ c))
theorem zoQ{TI TO T:ce}{k:ft}{E ys:t_ cv}(D:G0 z TI TO i1 i2 l1 l2)(hz:hU s.heap z TI TO T)(B:∃o,s.heap.get? T=O o)(n:BR s.heap TI (.ref i1) (.ref i2))(h1:s.heap.IsListIter i1 l1 k)(h2:s.heap.IsListIter i2 l2 k)(p:s.heap.IsList l1 E)(r:s.heap.IsList l2 ys){x y:cv}(C:E[k]?=O x)(G:ys[k]?=O y)(H:∀h',hU h' z TI TO T->h'.IsListIter i1 l1 (k+1)->h'.IsListIter i2 l2 (k+1)->BR h' s.heap.objs.size x y->(∀c o,c≠z->c≠i1->c≠i2->s.heap.get? c=O o->h'.get? c=O o)->Q (.ref s.heap.objs.size) { s with heap:=h' }):
  h_ (hY prog w) on (Dx.«zip.__next__» ⟨[.ref z],[]⟩) (λfin s'=>∃v,fin = .done (.ret v)/\Q v s') no s:=by
 obtain⟨b,l⟩:=id hz;show h_ _ _ (QP (.ref z) 2 >>=_) _ _ _;refine b7 (tO l Y (x:=.bool d_) Y ?_);refine b7 (tO l Y Y ?_);refine b7 (rx n Y ?_);refine b7 (y3 hz B λu g a=>?_);refine b7 ?_;rw[List.forIn_toArray,Do];refine b7 (b7 (sA ?_));refine b7 (Fk (h1.extBut a.extBut D.i1z) (p.extBut a.extBut D.l1z) C λA i d=>eM (eM ?_));dsimp only;rw[Do];refine b7 (b7 (sA ?_));refine b7 (Fk ((h2.extBut a.extBut D.i2z).extBut d.extBut D.i12.symm) ((r.extBut a.extBut D.l2z).extBut d.extBut D.l2i1) G λh j f=>eM (eM ?_));refine eM (b7 (MN (hsz:=by show 2<=fx;decide) (eM ⟨_,Y,?_⟩)));have m:h.objs.size=s.heap.objs.size:=by simp only[f.1,d.1,a.1]
 obtain⟨I,g⟩:=g;have e:=H (h.push { cls:=.type "tuple",data:=.seq #[x,y] }) ⟨I,b_ _ (f.extBut _ _ D.i2z.symm (d.extBut _ _ D.i1z.symm g))⟩
  ((i.extBut f.extBut D.i12).at λo e=>b_ _ e) (j.at λo e=>b_ _ e) (by exact m ▸ (f6 _ Y)) λc o J K L q=>b_ _ (f.extBut _ _ L (d.extBut _ _ K (a.extBut _ _ J q)))
 exact m ▸ e
theorem ZL{TI TO T:ce}{k:ft}{E:t_ cv}{Q:Fin->f0->Prop}(m:on.handled=cx)(D:G0 z TI TO i1 i2 l1 l2)(hz:hU s.heap z TI TO T)(n:∃o,s.heap.get? T=O o)(h:BR s.heap TI (.ref i1) (.ref i2))(h1:s.heap.IsListIter i1 l1 k)(i:s.heap.IsList l1 E)(p:E[k]?=cx)(r:∀h' e,(∀c o,c≠z->c≠i1->s.heap.get? c=O o->h'.get? c=O o)->(∃o,h'.get? e=O o/\o.cls = .type "StopIteration")->no (.ref e) { s with heap:=h' }):
  h_ (hY prog w) on (Dx.«zip.__next__» ⟨[.ref z],[]⟩) Q no s:=by
 obtain⟨b,f⟩:=id hz;show h_ _ _ (QP (.ref z) 2 >>=_) _ _ _;refine b7 (tO f Y (x:=.bool d_) Y ?_);refine b7 (tO f Y Y ?_);refine b7 (rx h Y ?_);refine b7 (y3 hz n λl j a=>?_);refine b7 ?_;refine b7 (b7 (sA ?_));exact b7 (J0 m (h1.extBut a.extBut D.i1z) (i.extBut a.extBut D.l1z) p λg e d u=>r g e (λc o v x q=>d _ _ x (a.extBut _ _ v q)) u)
theorem Y_{TI TO T:ce}{k:ft}{E ys:t_ cv}{Q:eH cv->f0->Prop}(D:G0 z TI TO i1 i2 l1 l2)(hz:hU s.heap z TI TO T)(g:∃o,s.heap.get? T=O o)(b:BR s.heap TI (.ref i1) (.ref i2))(h1:s.heap.IsListIter i1 l1 k)(h2:s.heap.IsListIter i2 l2 k)(d:s.heap.IsList l1 E)(f:s.heap.IsList l2 ys){x y:cv}(h:E[k]?=O x)(i:ys[k]?=O y)(j:∀h',hU h' z TI TO T->h'.IsListIter i1 l1 (k+1)->h'.IsListIter i2 l2 (k+1)->BR h' s.heap.objs.size x y->(∀c o,c≠z->c≠i1->c≠i2->s.heap.get? c=O o->h'.get? c=O o)->Q (O (.ref s.heap.objs.size)) { s with heap:=h' }):
  h_ (hY prog w) on (Fd (.ref z)) Q no s:=by
 have a:s.TypeIs (.ref z) "zip" :=by obtain⟨_,e⟩:=hz;exact⟨_,e,Y⟩
 exact b7 (D_ (wb a BN
  (zB BN a EN (zoQ D hz g b h1 h2 d f h i λh' l m n p q=>eM (j h' l m n p q)) (E6 _))))
theorem Xr{TI TO T:ce}{k:ft}{E:t_ cv}{Q:eH cv->f0->Prop}(f:on.handled=cx)(D:G0 z TI TO i1 i2 l1 l2)(hz:hU s.heap z TI TO T)(g:∃o,s.heap.get? T=O o)(b:BR s.heap TI (.ref i1) (.ref i2))(h1:s.heap.IsListIter i1 l1 k)(d:s.heap.IsList l1 E)(h:E[k]?=cx)(i:∀h',(∀c o,c≠z->c≠i1->s.heap.get? c=O o->h'.get? c=O o)->Q cx { s with heap:=h' }):h_ (hY prog w) on (Fd (.ref z)) Q no s:=by
 have a:s.TypeIs (.ref z) "zip" :=by obtain⟨_,e⟩:=hz;exact⟨_,e,Y⟩
 refine b7 (D_ (wb a BN
  (zB BN a EN (ZL f D hz g b h1 d h λh' e j l=>?_) (E6 _))))
 obtain⟨o,m,n⟩:=l;refine b7 (He ⟨o,m,n⟩ MQ ?_);exact eM (i _ j)
theorem ZQ(R:on.handled=cx)(z TI TO i1 i2 l1 l2 d:ce)(D:G0 z TI TO i1 i2 l1 l2)(j:∀b∈[z,TI,TO,i1,i2,l1,l2],b≠d)(E ys:t_ cv)(Z:E.size=ys.size)(kv:ft->cv×cv)(I:∀i<E.size,E[i]?=O (kv i).1/\ys[i]?=O (kv i).2):
  mw prog w on z d [z,TO,i1,i2] E.size kv (λi h=>d<h.objs.size/\BR h TI (.ref i1) (.ref i2)/\h.IsListIter i1 l1 i/\h.IsListIter i2 l2 i/\h.IsList l1 E/\h.IsList l2 ys/\
   ((G1 h z TI TO .none/\∃a b,BR h TO a b)\/∃T,T≠d/\T∉[z,TO,i1,i2]/\hU h z TI TO T/\∃o,h.get? T=O o)) where
 nw:=λS=>by
  simp only[f_,m_,u3]at S;rcases S with e |e |e |e
  ·exact j z (by simp) e.symm
  ·exact j TO (by simp) e.symm
  ·exact j i1 (by simp) e.symm
  ·exact j i2 (by simp) e.symm
 frame:=λi h h' st k sz=>by
  obtain⟨v,l,s2,u,m,q,A⟩:=st;refine⟨hJ v sz,k TI _ (j TI (by simp)) l,s2.at λo e=>k i1 o (j i1 (by simp)) e,u.at λo e=>k i2 o (j i2 (by simp)) e,m.at λo e=>k l1 o (j l1 (by simp)) e,q.at λo e=>k l2 o (j l2 (by simp)) e,?_⟩;rcases A with⟨n,a,b,y⟩ |⟨T,B,C,⟨b,n⟩,o,y⟩
  ·exact .inl ⟨k z _ (j z (by simp)) n,a,b,k TO _ (j TO (by simp)) y⟩
  ·exact .inr ⟨T,B,C,⟨b,k z _ (j z (by simp)) n⟩,o,k T o B y⟩
 item:=λi s Q no hi st G=>by
  obtain⟨v,l,s2,u,m,q,A⟩:=st;obtain⟨n,y⟩:=I i hi;have lt:∀{c o},s.heap.get? c=O o->s.heap.objs.size≠c:=λe=>rs (e_ e);have J:=let⟨_,e,_⟩:=s2;lt e;have K:=let⟨_,e,_⟩:=u;lt e;rcases A with⟨r,a,b,p⟩ |⟨T,B,C,r,o,p⟩
  ·refine wpAny_pyNext_zip_item D r l p s2 u m q n y λh' L a2 M N H X g=>?_;refine G _ h' s.toks ⟨_,H,Y,_,Y⟩ ⟨by rw[X];exact sI v,g _ _ D.TIz D.TITO D.TIi1 D.TIi2 l,M,N,m.at λo e=>g _ o D.l1z D.l1TO D.l1i1 D.l1i2 e,q.at λo e=>g _ o D.l2z D.l2TO D.l2i1 D.l2i2 e,.inr ⟨s.heap.objs.size,?_,?_,⟨d_,L⟩,_,H⟩⟩
    λc o f e=>g c o (λx=>f (by simp[x])) (λx=>f (by simp[x])) (λx=>f (by simp[x])) (λx=>f (by simp[x])) e
   ·exact rs v
   ·simp only[f_,m_,u3,Ie];exact⟨lt r,lt p,J,K⟩
  ·have P:T≠z/\T≠TO/\T≠i1/\T≠i2:=by simpa using C
   refine Y_ D r ⟨o,p⟩ l s2 u m q n y λh' L M N H g=>?_;exact G _ h' s.toks ⟨_,H,Y,_,Y⟩ ⟨BM v (e_ H),g _ _ D.TIz D.TIi1 D.TIi2 l,M,N,m.at λo e=>g _ o D.l1z D.l1i1 D.l1i2 e,q.at λo e=>g _ o D.l2z D.l2i1 D.l2i2 e,.inr ⟨T,B,C,L,o,g T o P.1 P.2.2.1 P.2.2.2 p⟩⟩
    λc o f e=>g c o (λx=>f (by simp[x])) (λx=>f (by simp[x])) (λx=>f (by simp[x])) e
 done:=λs Q no st G=>by
  obtain⟨v,l,s2,u,m,q,A⟩:=st;have n:E[E.size]?=cx:=by simp
  rcases A with⟨r,a,b,p⟩ |⟨T,B,C,r,o,p⟩
  ·exact JJ R D r l p s2 u m q (.inl n) λh' g=>G h' s.toks λc o f e=>g c o (λx=>f (by simp[x])) (λx=>f (by simp[x])) (λx=>f (by simp[x])) (λx=>f (by simp[x])) e
  ·exact Xr R D r ⟨o,p⟩ l s2 m n λh' g=>G h' s.toks λc o f e=>g c o (λx=>f (by simp[x])) (λx=>f (by simp[x])) e
theorem RL:entryFor table "zip.__getattribute__" =O Dx.«object.__getattribute__»:=
 entryFor_alias (id' := "object.__getattribute__") (by kernel_rfl) (by decide +kernel) (by decide +kernel) (by kernel_rfl)
theorem ziq(a:ce)(fs:t_ cv)(u:J_):
  Meets (Dx.«object.__getattribute__» ⟨[.ref a,.str "keys" u],[]⟩) (λon R s=>s.heap.get? a=O { cls:=.type "zip",dict:=cx,data:=.fields fs,slots:=#[] }/\raisesAttr (.ref a) "keys" on R s):=
 Meets.of_wp λprog w on R s b=>by
  obtain⟨e,Ab,d,tk,os⟩:=s;obtain⟨f,b⟩:=b;have g:(⟨e,Ab,d,tk,os⟩:f0).TypeIs (.ref a) "zip" := ⟨_,f,Y⟩
  have c:=YK;unfold Dx.«object.__getattribute__»
  repeat (any_goals (first |assumption |wp_step))
  exact wpAny_raiseAttrError b.1 b.2 (attrMsg_fits (by decide +kernel) (by decide))
theorem Rn{fs:t_ cv}{Q:eH cv->f0->Prop}(g:s.heap.get? a=O { cls:=.type "zip",dict:=cx,data:=.fields fs,slots:=#[] })(l:on.handled=cx)(h:∀h' tk,(∀b i,s.heap.get? b=O i->h'.get? b=O i)->Q cx { s with heap:=h',toks:=tk }):h_ (hY prog w) on (Gz (.ref a) "keys") Q no s:=by
 obtain⟨m,Ab,d,tk,os⟩:=s;have j:∀c,(⟨m,Ab,d,c,os⟩:f0).TypeIs (.ref a) "zip" :=λ_=>⟨_,g,Y⟩
 have n:=KC;have p:=EO.lookup;have q:=EO.bind (.ref a);have r:=SF;unfold Gz getAttrBy? getAttrBy
 repeat (any_goals (first |assumption |exact j _ | ((with_reducible show h_ _ _ (Fq (Kh "zip.__getattribute__") _ _) _ _ _);refine BX EO (j _) RL (F.args_zip_getattribute_2 _ _) (ziq a fs _) ⟨g,l,λh' c e f=>?_⟩) |wp_step))
 obtain⟨t',u,v⟩:=f.there;show h_ _ _ (E2 _ _ _ _ _ _ _) _ _ _
 delta E2
 repeat (any_goals (first |assumption |wp_step))
 exact h _ _ f.keeps
theorem ne5{c a b:ft}(d:a<n)(lb:b<n)(h:c=n+4\/c=n+2\/c=n+3\/c=n\/c=n+1\/c=a\/c=b):c≠n+5:=by lia
theorem Rh{c:ft}(h:c=n+4\/c=n+3\/c=n\/c=n+1):¬ c<n:=by lia
inductive XB(K:fy)(Q:VK)(Z:U V)(H1:Hp):Prop
 |i(l1 l2:ce)(a:U Key)(ys:U V)(_:Z=[.ref l1,.ref l2])(_:n7 K H1 l1 (a.map kV))(_:n7 K H1 l2 ys)(_:a.length=ys.length)(_:∀d,H1 d=cx->Q (.ref d) (upd H1 d (.dK (dB (a.zip ys)))))
def V3(K:fy)(t:TA):TE:=λA H Q=>t A H λZ H1=>XB K Q Z H1
theorem Xk(K:fy){a b:tA}{ta:TA}{d:KN}(n:X.calm=c0)(M:Gl X "dict")(N:X.mg "dict" =cx)(hg:Gl X "zip")(hm:X.mg "zip" =cx)(ha:PA X [a,b] ta)(hK:X.K=K:=by rfl)(hs:i' [a,b] X.env=[(d_,eval a X.env),(d_,eval b X.env)]:=by rfl)(D:i' [b] X.env=[(d_,eval b X.env)]:=by rfl)(P:i' [.Call (.Name "zip" p2) [a,b] [] d] X.env=[(d_,eval (.Call (.Name "zip" p2) [a,b] [] d) X.env)]:=by rfl):
  PE X (.Call (.Name "dict" p) [.Call (.Name "zip" p2) [a,b] [] d] [] pos) (V3 K ta):=by
 subst hK;intro g s A H Q I h;refine HS (eZ I M N PyProof.Rows.Boot.«dict» (oD ?_ P Y));refine Dk ?_;refine HS (eZ I hg hm PyProof.Rows.Boot.«zip» (oD (wd (ha d g s A H _ I h) λus l ⟨Z,H1,z,R,q1⟩=>?_) (by simp only[hs,D]) (by rw[D];rfl)));obtain⟨a,b,f,ys,e,qa,qb,E,q⟩:=q1;subst e;obtain⟨u1,S,rfl,T,A0⟩:=lY R;cases T;cases A0;obtain⟨v,ra,pa,za⟩:=z.list qa;obtain⟨G,rb,pb,zb⟩:=z.list qb;have la:a<l.heap.objs.size:=by obtain⟨o,_,e,_⟩:=pa;exact e_ e
 have lb:b<l.heap.objs.size:=by obtain⟨o,_,e,_⟩:=pb;exact e_ e
 have lia:v.length=f.length:=by rw[←ra.length,bd]
 have A5:G.length=f.length:=by simp only[←rb.length,E]
 refine call_zip_2 pa.isList pb.isList λh' L z2 z3 z4 z5 A1 hk=>?_;refine Du ?_;let kv:ft->cv×cv:=λi=>(v.getD i .none,G.getD i .none)
 let kk:ft->Key:=λi=>f.getD i (.inl cx);have w:∀i,i<f.length->∃k y,f[i]?=O k/\ys[i]?=O y/\kk i=k/\v[i]?=O (kv i).1/\G[i]?=O (kv i).2/\aD (kV k) (kv i).1/\aD y (kv i).2:=λi hi=>by
  have hy:i<ys.length:=by lia
  obtain⟨u,hu,ru⟩:=ra.get (by rw[cc,a_ hi];rfl);obtain⟨S,J,A2⟩:=rb.get (a_ hy);have B:(kv i).1=u:=by show v.getD i .none=u;rw[nn,hu];rfl
  have C:(kv i).2=S:=by show G.getD i .none=S;rw[nn,J];rfl
  refine⟨f[i],ys[i],a_ hi,a_ hy,?_,by exact B ▸ hu,by exact C ▸ J,by exact B ▸ ru,by exact C ▸ A2⟩;show f.getD i _=_;rw[nn,a_ hi];rfl
 have bk:=λi hi=>qD (ps:=f.zip ys) (λj p ep=>by
  have hj:j<f.length:=by have:=(cs.mp ep).1;rw[Ci]at this;lia
  obtain⟨k,y,B,C,e3,_,_,_,r⟩:=w j hj;have:p=(k,y):=by
   rw[BE]at ep;rw[B,C]at ep;exact Nh (kn ep.1).symm (kn ep.2).symm
  rw[this];exact⟨e3,r⟩) i hi
 have lz:(f.zip ys).length=f.length:=by rw[Ci];lia
 have A3:f.length<=fx:=by rw[bd]at za;exact za
 have hh:=z.ok.hd n;have m:v.toArray.size=f.length:=by simp only[hL,lia]
 refine wW (d:=cy X.prog X.w) (n:=v.toArray.size) (kv:=kv) (f:=kk) (ok:=λb=>b<l.heap.objs.size) ⟨_,L,Y⟩ (by decide) (λs' E' Q' k hq=>Rn (k _ _ L) (by simp[hh]) hq) (λs' E' Q' k lt hq=>?_) (λi hi=>?_) (λi hi=>?_) λh3 tk hd k=>?_
 ·refine DW (k _ _ L) ?_;refine hq _ s'.heap _ _ (ZQ (by simp[hh]) (l.heap.objs.size+4) (l.heap.objs.size+2) (l.heap.objs.size+3) l.heap.objs.size (l.heap.objs.size+1) a b _ (NL la lb) (λc n=>?_) v.toArray G.toArray (by simp;lia) kv λi hi=>?_)
   ⟨lt,k _ _ z2,z4.at λo e=>k _ _ e,z5.at λo e=>k _ _ e,pa.isList.at λo e=>k _ _ (hk _ _ e),pb.isList.at λo e=>k _ _ (hk _ _ e),.inl ⟨k _ _ L,_,_,k _ _ z3⟩⟩ (λb o e=>e) λc n=>?_
  ·have e:=A1;simp only[e];simp only[f_,m_,u3]at n;exact ne5 la lb n
  ·obtain⟨_,_,_,_,_,B,C,_⟩:=w i (by exact m ▸ hi);exact⟨by simpa using B,by simpa using C⟩
  ·simp only[f_,m_,u3]at n;refine .inl ?_;exact Rh n
 ·obtain⟨_,_,_,_,e3,_,_,R,_⟩:=w i (by exact m ▸ hi);exact e3 ▸ (io R)
 ·have A4:i<=(f.zip ys).length:=by simp only[lz,←m];exact hi
  rw[←(bk i A4).length];refine jE (lK _) ?_;rw[gv];lia
 ·rw[m,←lz]at hd;have b1:=bk _ (dv _);rw[gl]at b1;have x:l.heap.objs.size<=({ l with heap:=h' }).heap.objs.size:=by show _<=h'.objs.size;lia
  refine⟨.ref _,_,z.laid (λb o e=>k b o (e_ e) (hk _ _ e)) x (jQ (jE (lK _) (by exact lz ▸ A3)) ?_ b1 hd),Y,q _ (z.hok.fresh x)⟩;have:=z.big;simp;exact rs (hJ this x)
def Ph(K:fy)(a:ce):It:=
 ⟨λi H=>∃E x,n7 K H a E/\E[i]?=O x,λi H v H'=>∃T,H T=cx/\v = .ref T/\∀E,n7 K H a E->∃x,E[i]?=O x/\H'=upd H T (.tup [.int i,x]),λi H=>∃E,n7 K H a E/\E.length<=i⟩
theorem Vn{k:ft}(a e it:ce)(n1:e≠it)(n2:a≠e)(n3:a≠it):
  fJ Aa w K (.Tuple elts k pos) (Ph K a) [e,it] e (λi h=>(∃d,IsEnum h e it i d)/\h.IsListIter it a i) where
 mem:=by simp
 obj:=λi h st c l=>by
  obtain⟨⟨d,h1⟩,o2,L,c2,d2⟩:=st;simp only[f_,m_,u3]at l;rcases l with rfl |rfl
  ·exact⟨_,h1,λv z=>by cases z⟩
  ·exact⟨o2,L,λv z=>by rw[d2]at z;cases z⟩
 keep:=λi h h' st kk=>by
  obtain⟨⟨d,h1⟩,h2⟩:=st;exact⟨⟨d,kk e (by simp) _ h1⟩,h2.at λo x=>kk it (by simp) o x⟩
 item:=by
  intro X m M N l i g s A H no I G st P;subst m M N;obtain⟨E,x,f,hx⟩:=P;obtain⟨Q,R,S,_⟩:=I.list f;obtain⟨ux,r,Z⟩:=R.get hx;have A0:=(cs.mp r).1;have W:=WalksT.enumerate (prog:=X.prog) (w:=X.w) (I.ok.hd l) e it a n1 n2 n3 Q.toArray;obtain⟨⟨d,h1⟩,h2⟩:=id st;refine W.item i s _ _ (by exact hL ▸ A0) ⟨⟨d,h1⟩,h2,S.isList⟩ λT A2 h' tk m J u hM hk=>?_;refine⟨.ref T,Y,W.go elts k pos i T { s with heap:=h',toks:=tk } _ _ hM λy B C=>?_⟩;obtain⟨tt,x',ex,rfl⟩:=m;have A1:ux=x':=by
   have:Q[i]?=O x':=by simpa using ex
   rw[r]at this;exact kn this
  subst A1;have I1:Inv X g A H { s with heap:=y,toks:=tk }:=I.turnedL (λc o b q=>C c o b (hk c o b q)) G;have D:=I.hok.fresh J;have j:∀{c:ce}{o:z_},s.heap.get? c=O o->c≠T:=λq=>g_ (hJ (e_ q) J);have I2:Inv X g A (upd H T (.tup [.int i,x])) { s with heap:=y,toks:=tk }:=by
   refine I1.track D ?_ (λq=>?_) (λn c q z=>?_) (λp hp q=>?_) ?_
   ·cases q:X.s₀.heap.get? T with
    |none=>rfl
    |some o=>exact hQ (hJ (e_ q) (jE I.sz J)) (rc _)
   ·exact hQ (hJ I.lt J) (by exact q ▸ (rc _))
   ·obtain⟨v,o,ho,_⟩:=I.cell n c q;exact j ho z
   ·exact j (I.pin p hp).1 q
   ·exact⟨by show 2<=fx;decide,[.int i tt,ux],.cons ⟨tt,Y⟩ (.cons Z .nil),(u.at λo q=>C T o (W.apart i T _ hM) q)⟩
  refine⟨.ref T,_,I2,Y,⟨T,D,Y,λA3 qa=>?_⟩,⟨B.1,B.2.1⟩,λc b=>?_⟩
  ·rw[I.list_inj qa f];exact⟨x,hx,Y⟩
  ·have:c≠T:=by
    simp only[f_,m_,u3]at b;obtain⟨o2,L,_⟩:=h2;rcases b with rfl |rfl
    ·exact j h1
    ·exact j L
   rw[ag this];exact (G c b).1
 done:=by
  intro X m M N l i g s A H no I G st P;subst m M N;obtain⟨E,f,hl⟩:=P;obtain⟨Q,R,S,_⟩:=I.list f;obtain⟨⟨d,h1⟩,h2⟩:=id st;have l1:=R.length;refine wpAny_pyNext_enum_end (I.ok.hd l) h1 h2 S.isList (by simp;simp_all) λh' hk=>⟨Y,I.turnedL (t':=s.toks) (λc o b q=>hk c o (λz=>b (by simp[z])) q) G⟩
 self:=λ_ _ _ _ _ st h=>by obtain⟨⟨_,q⟩,_⟩:=st;exact Le q h
inductive SK(K:fy)(R:It->Hp->Prop)(Z:U V)(H1:Hp):Prop
 |i(a E:_)(_:Z=[.ref a])(_:n7 K H1 a E)(_:R (Ph K a) H1)
def WI(K:fy)(ta:TA):TI:=λA H R=>ta A H λZ H1=>SK K R Z H1
theorem zc(K:fy){k:ft}{a:tA}{ta:TA}(m:Gl X "enumerate")(n:X.mg "enumerate" =cx)(r:PA X [a] ta)(v:X.K=K:=by rfl)(w:i' [a] X.env=[(d_,eval a X.env)]:=by rfl):
  PI X (.Tuple elts k tpos) (.Call (.Name "enumerate" p) [a] [] pos) (WI K ta):=by
 subst v;intro g s A H R I h;refine HS (eZ I m n PyProof.Rows.Boot.«enumerate» (oD (wd (r pos g s A H _ I h) λus b ⟨Z,H1,d,x,y⟩=>?_) w Y));obtain⟨a,E,e,z,q⟩:=y;subst e;obtain⟨u,rfl,B⟩:=df x;cases B;obtain⟨J,L,f,_⟩:=d.list z;have i:a<b.heap.objs.size:=by obtain⟨o,_,e,_⟩:=f;exact e_ e
 refine call_enumerate_list f.isList λh' j C D G=>?_;refine Le j ?_;refine⟨b.heap.objs.size+1,[b.heap.objs.size+1,b.heap.objs.size],_,_,H1,Y,d.kept (t':=b.toks) G,Vn a _ _ (rs (up _)) (g_ (sI i)) (g_ i),⟨⟨_,j⟩,C⟩,λc l=>?_,q⟩;have:b.heap.objs.size<=c:=by
  simp only[f_,m_,u3]at l;rcases l with rfl |rfl
  ·simp_all
  ·simp_all
 exact d.fpOk this (d.hok.fresh this)
theorem m6{l:ce}{y:hO}{body:tA}{d:Hp}(_:d l=O (DL (G7 "<lambda>" N ar body sc [(y,c)] pm c' ctv) l))(x:hO)(k:ft)(b:V->V->Hp->VK->XK->Prop)(S:gu sc x y)(R:my CX)(a:∀(on:BF)(outer:U FZ)(s:f0)(H:Hp)(v z:V)(Q:VK)(no:XK),bj k (on.deeper (jg N sc s.heap.objs.size l (.ref c') y c))->b v z H Q no->
   ∃t,PE (je CX Aa w K mg base x y N sc l (.ref c') c on outer s H no) body t/\t [O v,O z] H Q)(e:∀us:U cv,us.length=[x].length->HX (Ji "<lambda>" N ar body sc [(y,c)] pm (.ref c') ctv) ⟨us,[]⟩=zJ ([x].zip us)):
  ap Aa w K mg base CX (k+1) l (Ji "<lambda>" N ar body sc [(y,c)] pm (.ref c') ctv) [x] (N' N ar body sc l y c pm c' ctv b)/\cM K (Ji "<lambda>" N ar body sc [(y,c)] pm (.ref c') ctv) [x] []:=
 ⟨Zz S R a,cM.all e⟩
section
variable(K:fy)
theorem Uu(h:X.K=K:=by rfl):DI X (Cb .Add) (zo K):=h ▸ XC
inductive Y7(E:U V)(H:Hp)(Q:VK):Prop
 |i(p ys:_)(_:E=[.ref p])(_:((n7 K H p ys/\∀l,H l=cx->Q (.ref l) (upd H l (.tup ys)))\/(th K H p ys/\Q (.ref p) H)))
theorem wx(h:X.K=K:=by rfl):bw X (.type "tuple") (Y7 K):=by subst h;exact ZB.ex λ_ _ _ ⟨a,b,c,d⟩=>⟨a,b,c,d⟩
end
section
variable{k:ft}{f T:ce}{d g:cv}
def FC(K:fy)(x N:hO)(st:nW)(ps:U hO)(f c T:ce):Prop:=BD K (.ref f)=c0/\∃fd,gt K x N st f fd c T/\cM K fd ps []
def DC(K:fy)(mg:hO->eH cv)(x:hO)(st:nW)(ps:U hO)(c T:ce):Prop:=∃f,mg x=O (.ref f)/\FC K x x st ps f c T
theorem DC.cal(D:DC K mg x st ps c T)(b:Bs Aa w base)(h:∀f fd,gt K x x st f fd c T->ap Aa w K mg base CX k f fd ps sp):uG Aa w K mg base CX k x ps sp:=
 by obtain⟨f,m,a,fd,F,b⟩:=D;exact⟨f,fd,h f fd F,m,a,b⟩
theorem DC.hd(D:DC K mg x st ps c T):Dv K c T=c0:=by obtain⟨_,_,_,_,F,_⟩:=D;exact F.hd
def MC(K:fy)(C:ce)(x N:hO)(st:nW)(ps:U hO)(c T:ce):Prop:=∃f,i4 K C x f/\FC K x N st ps f c T
theorem MC.cal(D:MC K C x N st ps c T)(b:Bs Aa w base)(h:∀f fd,gt K x N st f fd c T->ap Aa w K mg base CX k f fd ps sp):aZ Aa w K mg base CX k C x ps sp:=
 by obtain⟨f,m,_,fd,F,b⟩:=D;exact⟨f,fd,h f fd F,m,b⟩
theorem MC.hd(D:MC K C x N st ps c T):Dv K c T=c0:=by obtain⟨_,_,_,_,F,_⟩:=D;exact F.hd
theorem MM.rec(D:MM K C x N st ps)(b:Bs Aa w base){sp:ft->Sp}(c:∀Z H Q no,¬ sp 0 Z H Q no)(h:∀m f fd,aZ Aa w K mg base CX (k+m) C x ps (sp m)->vr K x N st f fd->ap Aa w K mg base CX (k+m+1) f fd ps (sp (m+1))):∀m,aZ Aa w K mg base CX (k+m) C x ps (sp m)
 |0=>D.cal b λf fd F=>⟨λZ H Q no z=>(c Z H Q no z).elim,λon o s H a us Z Q no _ _ _ _ z=>(c Z H Q no z).elim⟩
 |m+1=>D.cal b λf fd F=>h m f fd (MM.rec D b c h m) F
theorem fc2(l:K.lookup f=O ⟨oc,od,.func (CG x N (dR st) (cF st) (aR st) .none d g pm an (.ref c) ct),sl⟩)(cd:CO K (.ref c) N=c0)(hd:Dv K c T=c0)(k:BD K (.ref f)=c0)(h:∀a b,bA x N st [p0,p1] [a,b]):FC K x N st [p0,p1] f c T:=
 ⟨k,_,⟨⟨oc,od,d,g,pm,an,ct,sl,Y,l,cd⟩,hd⟩,(m8 l cd k).binds λd doc pm an cdv ct us e=>uC (p:=λt=>bA x N st [p0,p1] t) (λa=>uC (p:=λt=>bA x N st [p0,p1] (a::t)) λb=>uZ (p:=λt=>bA x N st [p0,p1] (a::b::t)) (h a b)) us e d doc pm an cdv ct⟩
end
theorem Inv.thaw{o:z_}(I:Inv X g A H s)(e:H d=O (.frz o (.dK G)))(n:∀o u,X.H₀ d≠O (.frz o u)):Inv X g A (upd H d (.dK G)) s:=by
 have a:∀{b:ce},H b=cx->upd H d (.dK G) b=cx:=λq=>by rw[ag (aF e q).symm];exact q
 refine⟨I.ok,I.os,I.bare,⟨I.base.keep,I.base.slot,λb f h1 h2 j=>a (I.base.free b f h1 h2 j),I.base.there,λb E h=>?_,λb f u h=>?_,λb ps h=>?_⟩,I.loc,I.cell,a I.free,λx c h=>a (I.freeC x c h),λp h=>?_,λb u h=>?_,I.len⟩
 ·have q:=I.base.tups b E h;exact (ag (bO q e nofun)) ▸ q
 ·have q:=I.base.frzs b f u h;exact (ag (show b≠d from λz=>n f u (z ▸ h))) ▸ q
 ·obtain⟨m,q⟩:=I.base.tbls b ps h;exact⟨m,by exact (ag (bO q e nofun)) ▸ q⟩
 ·obtain⟨l,r,v⟩:=I.pin p h;exact⟨l,a r,v⟩
 ·have st:∀{b:ce}{u:HO},bo X.prog X.w H s.heap b u->bo X.prog X.w (upd H d (.dK G)) s.heap b u:=λx=>x.stay (λ_ _ _ z=>z) (λc z=>by exact (ag (bO z e nofun)) ▸ z) λc _ z=>by exact (ag (bO z e nofun)) ▸ z
  by_cases i:b=d
  ·subst i;rw[af]at h;cases h;exact st (I.hok b _ e).2
  ·rw[ag i]at h;exact st (I.hok b u h)
inductive TN(te:TE)(A:St)(H:Hp)(Q:VK):Prop
 |i(d:ce)(G:U (Key×V))(_:H d=O (.dK G))(_:∀o,te A (upd H d (.frz o (.dK G))) λx H1=>H1 d=O (.frz o (.dK G))/\Q x (upd H1 d (.dK G)))
theorem zlR(h:PE X e te):PE X e (TN te):=by
 rintro g s A H Q I ⟨d,G,hd,q⟩;obtain⟨o,a⟩:=I.frz hd;refine wd (h g s A _ _ a (q o)) λv c ⟨x,H1,b,r,e,q⟩=>⟨x,_,b.thaw e λo u z=>?_,r,q⟩
 have:=I.base.frzs d o u z
 grind
def jL(p d:ce):HO:=.ext λh=>h.IsItemsView p d
inductive SW(Q:VK)(x:V)(H1:Hp):Prop
 |i(d G:_)(_:x = .ref d)(_:Rd H1 d (.dK G))(_:∀p,H1 p=cx->Q (.ref p) (upd H1 p (jL p d)))
def ZP(to:TE):TE:=λA H Q=>to A H λx H1=>SW Q x H1
theorem VD{o:tA}(p:PE X o to)(f:BC o "items" X.env (eval o X.env)=eval o X.env:=by rfl)(i:(apos.endLine ==cpos.line)=c0:=by rfl):PE X (.Call (.Attribute o "items" apos) [] [] cpos) (ZP to):=by
 intro g s A H Q I h;refine EV f i (wd (p g s A H _ I h) λv l ⟨x,H1,m,w,d,G,ex,hd,q⟩=>?_);subst ex;cases w;obtain⟨z,y,Z,B,j⟩:=iK m.hok hd;refine⟨"dict","dict.items",Gd,Ki,F.type_dict_items,j.typeIs,λa e=>?_,BY Y (Fh ?_)⟩
 ·cases e;obtain⟨o,es,ep,n,c,_⟩:=j;exact⟨o,n,c.2.1⟩
 ·refine Fi Ki j.typeIs F.entry_dict_items (F.args_dict_items_1 _) (meets_dict_items (cy X.prog X.w) d y) ⟨⟨Z,j⟩,?_⟩;exact⟨.ref l.heap.objs.size,_,m.laid (o:=jL l.heap.objs.size d) (t':=l.toks) (λb u q=>b_ _ q) (dv _) ⟨⟨_,f6 _ Y,Y,Y⟩,⟨_,f6 _ Y⟩,by rintro h1 h2 ⟨o,n,r⟩ k;exact⟨o,k o n,r⟩⟩,Y,q _ (m.hok.fresh (dv _))⟩
def QD(o:z_)(d:ce)(G:U (Key×V)):It:=⟨λi H=>H d=O (.frz o (.dK G))/\i<G.length,λi H v H'=>∃p k x,H p=cx/\v = .ref p/\G[i]?=O (k,x)/\H'=upd H p (.tup [kV k,x]),λi H=>H d=O (.frz o (.dK G))/\G.length<=i⟩
theorem Zx{o:z_}{es:t_ DX}(hd:o.data = .dict es ep)(Q:n=G.length):
  fJ Aa w K (.Tuple elts kk pos) (QD o d G) [it] it (λi h=>∃a b,IsItemIter h it d i n ep a b) where
 mem:=.head _
 obj:=by rintro i h ⟨_,_,e⟩ b y;cases ku.mp y;exact⟨_,e,nofun⟩
 keep:=by rintro i h h' ⟨a,b,e⟩ k;exact⟨a,b,k it (.head _) _ e⟩
 item:=by
  intro X B C D R i g s A H no I x st j;subst B C D Q;obtain⟨j,hi⟩:=j;obtain⟨Z,E,J,r,dt,at'⟩:=I.dictAt j;rw[hd]at dt;cases dt;obtain⟨ka,kb,st⟩:=st;have ex:=a_ hi;obtain⟨u,hu,ru⟩:=nD r ex;rw[r.length]at st ⊢;refine wpAny_pyNext_items_item st at' hu λL h' hk M tp sz kp=>⟨_,Y,wpAny_letOwnedTupleGo_items M λN P S=>?_⟩
  have lt:∀{c:ce}{l:z_},s.heap.get? c=O l->c≠s.heap.objs.size:=λe=>g_ (e_ e);have I1:=I.turnedL (t':=s.toks) (λc l f e=>by
   have T:c≠it:=λz=>f (z ▸ .head _);exact (S.2 c T) ▸ (kp c l T e)) x
  have m:=I.hok.fresh (dv _);have I2:Inv X g A (upd H s.heap.objs.size (.tup [kV G[i].1,G[i].2])) { s with heap:=N }:=by
   refine I1.track m ?_ (λe=>?_) (λnm c e q=>?_) (λp hp e=>lt (I.pin p hp).1 e) ⟨by show 2<=fx;decide,[L,u],.cons (sO hk) (.cons ru .nil),⟨_,by rw[S.2 _ (lt st).symm];exact tp,Y,_,Y⟩⟩
   ·cases q:X.s₀.heap.get? s.heap.objs.size with
    |none=>rfl
    |some l=>exact hQ (hJ (e_ q) I.sz) (rc _)
   ·exact hQ I.lt (by exact e ▸ (rc _))
   ·obtain⟨v,l,ho,_⟩:=I.cell nm c e;exact lt ho q
  refine⟨.ref s.heap.objs.size,_,I2,Y,⟨_,_,_,m,Y,ex,Y⟩,⟨_,_,P⟩,λc f=>?_⟩;cases ku.mp f;rw[ag (lt st)];exact (x _ f).1
 done:=by
  intro X B C D R i g s A H no I x st j;subst B C D Q;obtain⟨j,hi⟩:=j;obtain⟨Z,E,J,r,dt,at'⟩:=I.dictAt j;rw[hd]at dt;cases dt;obtain⟨ka,kb,st⟩:=st;rw[r.length]at st hi;exact wpAny_pyNext_items_end (I.ok.hd R) st at' (B3 hi) λh' eb=>⟨Y,I.turnedL (t':=s.toks) (λb o y e=>eb b o (λz=>y (z ▸ .head _)) e) x⟩
 self:=by rintro _ _ _ _ _ ⟨_,_,st⟩ h;exact W.kcp_self st h
inductive ZK(R:It->Hp->Prop)(x:V)(H1:Hp):Prop
 |i(p d o G:_)(_:x = .ref p)(_:H1 p=O (jL p d))(_:H1 d=O (.frz o (.dK G)))(_:R (QD o d G) H1)
def Xo(tl:TE):TI:=λA H R=>tl A H λx H1=>ZK R x H1
theorem Z2{k:ft}{l:tA}(f:PE X l tl):PI X (.Tuple elts k tpos) l (Xo tl):=by
 intro g s A H R I h;refine wd (f g s A H _ I h) λv c ⟨x,H1,a,i,j⟩=>?_;obtain⟨p,d,o,G,rfl,m,hd,q⟩:=j;cases i;obtain⟨Z,es,ep,r,dt,at'⟩:=a.dictAt hd;refine wpAny_pyIter_items (a.hok p _ m).1 at' ?_;refine⟨c.heap.objs.size,[c.heap.objs.size],_,_,H1,Y,a.kept (t':=c.toks) λb o e=>b_ _ e,Zx dt r.length.symm,⟨_,_,f6 _ Y⟩,λb n=>?_,q⟩;cases ku.mp n;exact a.fpOk (dv _) (a.hok.fresh (dv _))
inductive Sj(K:fy)(x y:V)(H:Hp)(Q:VK):Prop
 |i(p:ce)(E:U V)(z:hO)(_:x = .ref p)(_:y = .str z)(_:n7 K H p E)(_:Q (.bl d_) H)
theorem Xy(K:fy)(e:X.A.units+1<F8)(a:X.K=K:=by rfl):DI X (su .Eq) (Sj K):=by
 subst a;rintro g s A H x y v u Q I b c ⟨p,E,z,rfl,rfl,d,k⟩;cases b;obtain⟨_,rfl⟩:=c;obtain⟨_,_,pl,_⟩:=I.list d;exact Nv z _ pl.isList (by exact f' ‹_›) X.prog X.w _ _ ⟨.bl d_,H,I,Y,k⟩
def ltV:V->V->n_
 |.int a,.int b=>decide (a<b)
 |.str a,.str b=>decide (a.cps.toList<b.cps.toList)
 |_,_=>d_
def kM(x y:V):Prop:=(∃a b,x = .int a/\y = .int b)\/∃a b,x = .str a/\y = .str b
theorem kM.Iv{x:V}(h:kM x y):Iv x y=c0:=by rcases h with⟨_,_,rfl,rfl⟩ |⟨_,_,rfl,rfl⟩ <;> rfl
theorem yX  : DI X (su .Lt) (λx y H Q=>kM x y/\Q (.bl (ltV x y)) H):=by
 rintro g s A H x y v u Q I a b ⟨⟨i,j,rfl,rfl⟩ |⟨i,j,rfl,rfl⟩,q⟩
 ·exact nY g s A H _ _ v u Q I a b ⟨i,j,Y,Y,q⟩
 ·exact Vf g s A H _ _ v u Q I a b ⟨i,j,Y,Y,q⟩
theorem yV  : DI X (su .Gt) (λx y H Q=>kM x y/\Q (.bl (ltV y x)) H):=by
 rintro g s A H x y v u Q I a b ⟨⟨i,j,rfl,rfl⟩ |⟨i,j,rfl,rfl⟩,q⟩
 ·exact e9 g s A H _ _ v u Q I a b ⟨i,j,Y,Y,q⟩
 ·obtain⟨t,rfl⟩:=a;obtain⟨t',rfl⟩:=b;exact P.gt_str (bx I q Y)
end L2
set_option maxHeartbeats 8000000
namespace T1
open PySem L2
local macro_rules | `(tactic| walk_at "sc")=>`(tactic| exact⟨rfl,rfl,rfl,by decide +kernel,rfl,by decide +kernel,by decide +kernel⟩)
variable{d e Ao i j k k0 m n:ft}{l E:U gV}{Aj a a0 b c X f ll p pd r Al z:ce}{P:sJ}{w:uF}{K:fy}{G:hO->eH cv}{u:sG}{Ag:B'}{H C Ai Am H3 H4:Hp}{Q:VK}{q x:hO}{M coming:gV}{J N:U hO}{α β γ δ Ay:Type}{o:HO}{Aw:t_ DX}{An B Ak:U ft}{L as Ap:U ce}{Ah:XK}{Az:Sp}{σ:St}{Av:KN}{Aq:V->Prop}{Ar:z_}{Au:cv}{Ax:TE}{kvs:U (Key×V)}{kd:hO->n_}{rows:U (ce×U V)}{ksl:t_ (eH cv)}
abbrev OI:=eH gV
variable{g As:U OI}{v:OI}
def aJ(n:ft):ft:=if h:n=0 then 0 else aJ (n / 2)+1
termination_by n
decreasing_by omega
theorem Sc:aJ 0=0:=by rw[aJ];simp
theorem Sh(h:0<n):aJ n=aJ (n / 2)+1:=by
 rw[aJ,dif_neg (by exact rs ‹_›)]
def bW(d:gV):gV:=if 0<=d then 2 * d else -2 * d - 1
theorem qQ(d:gV):0<=bW d:=by delta bW;split <;> lia
structure Ty where
 length:ft
 last:OI
 runs:ft
 book:U OI
 none:n_
 least:OI
 greatest:OI
 widest:gV
variable{y:Ty}
def iP(m:OI)(i:gV):gV:=match m with |.none=>i |.some k=>if i<k then i else k
def fQ(m:OI)(i:gV):gV:=match m with |.none=>i |.some k=>if k<i then i else k
def Ty.add(t:Ty)(v:OI):Ty where
 length:=t.length+1
 last:=v
 runs:=if t.length=0\/v≠t.last then t.runs+1 else t.runs
 book:=if v∈t.book then t.book else t.book++[v]
 none:=if v = .none then c0 else t.none
 least:=match v with |.none=>t.least |.some i=>O (iP t.least i)
 greatest:=match v with |.none=>t.greatest |.some i=>O (fQ t.greatest i)
 widest:=match v with
  |.none=>t.widest
  |.some i=>if 0<t.length/\t.none=d_ then (if bW (i - t.last.getD 0) > t.widest then bW (i - t.last.getD 0) else t.widest) else t.widest
def Ty.zero:Ty:=⟨0,.none,0,[],d_,.none,.none,0⟩
def ax(g:U OI):Ty:=g.foldl Ty.add Ty.zero
theorem kE:ax []=Ty.zero:=Y
theorem OT(g:U OI)(v:OI):ax (g++[v])=(ax g).add v:=by
 delta ax;simp_all
def at'(g:U OI)(k:ft):OI:=g.getD k .none
theorem J7(h:g[k]?=O v):at' g k=v:=by
 unfold at';simp[ h]
theorem dM(h:n<g.length):g.take (n+1)=g.take n++[at' g n]:=by
 simp only[ke,a_ h,J7 (a_ h)];rfl
theorem gQ(h:n<g.length):ax (g.take (n+1))=(ax (g.take n)).add (at' g n):=by
 simp only[dM h,OT]
theorem oZ(g:U OI):(ax g).length=g.length:=by
 have a:∀(n),n<=g.length->(ax (g.take n)).length=n:=by
  intro n;induction n with
  |zero=>intro _;simp[kE,Ty.zero]
  |succ n b=>intro h;rw[gQ h];show (ax (g.take n)).length+1=_;rw[b (by exact f' ‹_›)]
 have:=a g.length (dv _)
 simp_all
theorem UZ(h:n<=g.length):(ax (g.take n)).length=n:=by
 rw[oZ,gv];omega
theorem Vq(h:n<g.length):(ax (g.take (n+1))).last=at' g n:=by
 rw[gQ h];rfl
def Mz(g:U OI):ft->ft
 |0=>0
 |n+1=>Mz g n+(if 1<=n/\at' g n≠at' g (n - 1) then 1 else 0)
def fst(g:U OI):ft->U OI
 |0=>[]
 |n+1=>if at' g n∈g.take n then fst g n else fst g n++[at' g n]
theorem qS(g:U OI)(n:ft):fst g (n+1)=if at' g n∈g.take n then fst g n else fst g n++[at' g n]:=Y
theorem rQ  : ∀(n:ft)(v:OI),n<=g.length->(v∈(ax (g.take n)).book↔v∈g.take n):=by
 intro n;induction n with
 |zero=>intro v _;simp[kE,Ty.zero]
 |succ n a=>
  intro v h;rw[gQ h,dM h];show v∈(if at' g n∈(ax (g.take n)).book then (ax (g.take n)).book else (ax (g.take n)).book++[at' g n])↔_;by_cases e:at' g n∈(ax (g.take n)).book
  ·rw[mu e,a v (by exact f' ‹_›),pA];constructor
   ·exact gS
   ·rintro (q |q)
    ·exact q
    ·have:v=at' g n:=by simpa using q
     simp only[this];exact (a _ (by exact f' ‹_›)).mp e
  ·rw[ks e,pA,pA,a v (by exact f' ‹_›)]
theorem uY  : ∀(n:ft),n<=g.length->(ax (g.take n)).book=fst g n:=by
 intro n;induction n with
 |zero=>intro _;simp[kE,Ty.zero,fst]
 |succ n a=>
  intro h;rw[gQ h];show (if at' g n∈(ax (g.take n)).book then (ax (g.take n)).book else (ax (g.take n)).book++[at' g n])=_;rw[a (by exact f' ‹_›),qS];have q:=rQ n (at' g n) (show n<=g.length by exact f' ‹_›);rw[a (by exact f' ‹_›)]at q
  grind
theorem qR(g:U OI):∀n,(fst g n).length<=n
 |0=>dv _
 |n+1=>by
  rw[qS];have:=qR g n
  split
  ·exact Cr ‹_›
  ·simp_all
theorem xt{g:U OI}:∀{n:ft},0<n->0<(fst g n).length
 |n+1,_=>by
  cases n with
  |zero=>simp[fst]
  |succ m=>
   have:=xt (g:=g) (n:=m+1) (by exact L7 _);rw[qS]
   split
   ·assumption
   ·grind
theorem Qf  : ∀(n:ft),n<=g.length->((ax (g.take n)).none=c0↔.none∈g.take n):=by
 intro n;induction n with
 |zero=>intro _;simp[kE,Ty.zero]
 |succ n a=>
  intro h;rw[gQ h,dM h];show (if at' g n = .none then c0 else (ax (g.take n)).none)=c0↔_
  grind
def bb(g:U OI):U gV:=g.filterMap id
theorem tW(g:U OI):bb (g++[.none])=bb g:=by simp[bb]
theorem tX(g:U OI)(i:gV):bb (g++[.some i])=bb g++[i]:=by simp[bb]
def cG:U gV->OI
 |[]=>.none
 |x::r=>O (r.foldl (λm i=>if i<m then i else m) x)
def eO:U gV->OI
 |[]=>.none
 |x::r=>O (r.foldl (λm i=>if m<i then i else m) x)
theorem SQ(l:U gV)(i:gV):cG (l++[i])=O (iP (cG l) i):=by
 cases l with
 |nil=>rfl
 |cons x r=>simp[cG,iP]
theorem RA(l:U gV)(i:gV):eO (l++[i])=O (fQ (eO l) i):=by
 cases l with
 |nil=>rfl
 |cons x r=>simp[eO,fQ]
theorem XH  : ∀(n:ft),n<=g.length->(ax (g.take n)).least=cG (bb (g.take n))/\(ax (g.take n)).greatest=eO (bb (g.take n)):=by
 intro n;induction n with
 |zero=>intro _;simp[kE,Ty.zero,bb,cG,eO]
 |succ n a=>
  intro h;obtain⟨b,c⟩:=a (by exact f' ‹_›);rw[gQ h,dM h];cases e:at' g n with
  |none=>rw[tW];exact⟨b,c⟩
  |some i=>
   simp only[tX,SQ,RA];show O (iP (ax (g.take n)).least i)=_/\O (fQ (ax (g.take n)).greatest i)=_
   simp_all
def above(m:gV)(v:OI):gV:=match v with |.none=>0 |.some i=>i - m+1
theorem jk{m:gV}(h:cG l=O m):∀i∈l,m<=i:=by
 cases l with
 |nil=>cases h
 |cons x r=>
  simp[cG]at h;have c:∀(r:U gV) (x),r.foldl (λm i=>if i<m then i else m) x<=x/\∀i∈r,r.foldl (λm i=>if i<m then i else m) x<=i:=by
   intro r;induction r with
   |nil=>intro x;simp
   |cons y r e=>
    intro x;simp only[Dn];obtain⟨a,b⟩:=e (if y<x then y else x);refine⟨by omega,λi d=>?_⟩;rcases f_.mp d with rfl |d
    ·omega
    ·exact b i d
  obtain⟨a,b⟩:=c r x
  grind
theorem rO{m:gV}(h:eO l=O m):∀i∈l,i<=m:=by
 cases l with
 |nil=>cases h
 |cons x r=>
  simp[eO]at h;have c:∀(r:U gV) (x),x<=r.foldl (λm i=>if m<i then i else m) x/\∀i∈r,i<=r.foldl (λm i=>if m<i then i else m) x:=by
   intro r;induction r with
   |nil=>intro x;simp
   |cons y r e=>
    intro x;simp only[Dn];obtain⟨a,b⟩:=e (if x<y then y else x);refine⟨by omega,λi d=>?_⟩;rcases f_.mp d with rfl |d
    ·omega
    ·exact b i d
  obtain⟨a,b⟩:=c r x
  grind
theorem nG{m:gV}(h:eO l=O m):m∈l:=by
 cases l with
 |nil=>cases h
 |cons x r=>
  simp[eO]at h;have b:∀(r:U gV) (x),r.foldl (λm i=>if m<i then i else m) x=x\/r.foldl (λm i=>if m<i then i else m) x∈r:=by
   intro r;induction r with
   |nil=>intro x;simp
   |cons y r c=>
    intro x;simp only[Dn];rcases c (if x<y then y else x) with a |a
    ·rw[a]
     split
     ·simp
     ·left;rfl
    ·simp_all
  rcases b r x with a |a
  ·simp only[←h,a];simp
  ·simp_all
theorem lx{m:gV}(h:cG l=O m):m∈l:=by
 cases l with
 |nil=>cases h
 |cons x r=>
  simp[cG]at h;have b:∀(r:U gV) (x),r.foldl (λm i=>if i<m then i else m) x=x\/r.foldl (λm i=>if i<m then i else m) x∈r:=by
   intro r;induction r with
   |nil=>intro x;simp
   |cons y r c=>
    intro x;simp only[Dn];rcases c (if y<x then y else x) with a |a
    ·rw[a]
     split
     ·simp
     ·left;rfl
    ·simp_all
  rcases b r x with a |a
  ·simp only[←h,a];simp
  ·simp_all
theorem XW{m:gV}(c:m∈l)(d:∀i∈l,i<=m):eO l=O m:=by
 cases e:eO l with
 |none=>cases l with
  |nil=>cases c
  |cons x r=>cases e
 |some k=>
  have a:=rO e m c;have b:=d k (nG e);rw[show k=m by lia]
theorem j4{i:gV}:i∈bb g↔O i∈g:=by
 simp[bb]
def FH(g:U OI):ft->U gV
 |0=>[]
 |n+1=>if 1<=n then FH g n++[bW ((at' g n).getD 0 - (at' g (n - 1)).getD 0)] else FH g n
def Wl(g:U OI):OI:=if 64<(fst g g.length).length then .none else O (11+(6+24 * (fst g g.length).length+(aJ ((fst g g.length).length - 1):gV) * g.length))
def Uq(g:U OI):gV:=match cG (bb g),eO (bb g) with |some a,O b=>b - a+1 |_,_=>0
def Rp(g:U OI):gV:=11+(24+5+(aJ (Uq g).toNat:gV) * g.length)
def Vx(g:U OI):OI:=if .none∈g then .none else O (11+(24+5+(aJ (ax g).widest.toNat:gV) * (g.length - 1)))
def zpJ(g:U OI):U OI:=[O (11+24 * g.length),O (11+(8+(24+8) * (1+Mz g g.length:ft))),Wl g,O (Rp g),Vx g]
def top(i:ft):nW:=PySem.Challenge.pw_tightrows_k31_whole_where.main.body.getD i (.Pass ⟨0,0,0,0⟩)
abbrev tK:nW:=top 12
abbrev O9:nW:=top 13
abbrev zW:nW:=bE (top 14) 0
abbrev zV:nW:=bE (top 14) 1
abbrev zX:nW:=bE (top 14) 2
abbrev zY:nW:=bE (top 14) 3
abbrev oB:nW:=top 28
abbrev oA:nW:=top 29
abbrev tq:nW:=top 30
abbrev tF:nW:=top 31
abbrev tw:nW:=top 32
abbrev tz:nW:=top 33
abbrev tE:nW:=top 34
abbrev Op:nW:=top 35
abbrev sY:nW:=bE (top 36) 0
abbrev sU:nW:=bE (top 36) 1
abbrev sV:nW:=bE (top 36) 2
abbrev sX:nW:=bE (top 36) 3
abbrev sW:nW:=bE (top 36) 4
abbrev tm:nW:=bE (top 36) 5
abbrev tf:nW:=bE (top 36) 6
abbrev sZ:nW:=bE (top 36) 7
abbrev tM:nW:=top 37
abbrev tL:nW:=top 38
abbrev tu:nW:=top 39
abbrev Q0:nW:=top 40
abbrev O2:nW:=top 41
abbrev Ql:nW:=top 44
abbrev OW:nW:=top 45
abbrev NW:nW:=top 46
abbrev Qp:nW:=top 47
abbrev Oi:nW:=top 49
abbrev QC:nW:=top 50
abbrev Qo:nW:=top 51
abbrev Pm:nW:=top 53
abbrev Po:nW:=top 54
abbrev Ob:nW:=top 55
abbrev PD:nW:=top 57
abbrev Ps:nW:=top 58
abbrev PP:nW:=top 63
abbrev ON:nW:=top 64
abbrev O_:nW:=top 65
abbrev Qj:nW:=top 66
abbrev O0:nW:=top 67
abbrev tD:nW:=top 68
abbrev NR:nW:=top 69
abbrev Qc:nW:=top 70
abbrev PK:nW:=top 71
abbrev tI:nW:=top 72
abbrev Qi:nW:=top 75
abbrev Q2:nW:=top 76
abbrev Oy:nW:=top 77
abbrev NQ:nW:=top 78
abbrev Qs:nW:=top 79
abbrev Qa:nW:=top 80
abbrev PX:nW:=top 81
abbrev OR:nW:=top 82
abbrev O5:nW:=top 83
abbrev Qq:nW:=top 85
abbrev Pl:nW:=top 86
abbrev zR:nW:=bE (top 87) 0
abbrev zU:nW:=bE (top 87) 2
abbrev zP:nW:=bE (top 87) 6
abbrev zT:nW:=bE (top 87) 8
abbrev zS:nW:=bE (top 87) 12
abbrev zQ:nW:=bE (top 87) 13
abbrev Q1:nW:=top 90
abbrev O6:nW:=top 91
abbrev tG:nW:=top 92
abbrev OH:nW:=top 93
abbrev Pn:nW:=top 94
abbrev Q5:nW:=bE (top 95) 0
abbrev OX:nW:=bE (top 95) 1
abbrev Ou:nW:=bE (top 95) 4
abbrev Pz:nW:=bE (top 95) 5
abbrev OJ:nW:=bE (top 95) 6
abbrev OY:nW:=bE (top 95) 7
abbrev Od:nW:=top 100
abbrev Qv:nW:=top 101
abbrev OZ:nW:=top 102
abbrev Pj:nW:=top 103
abbrev z8:nW:=bE (top 104) 0
abbrev NY:nW:=bE (top 104) 1
abbrev Of:nW:=bE (top 104) 2
abbrev zZ:nW:=bE (top 104) 3
abbrev Qd:nW:=bE (top 104) 4
abbrev z7:nW:=bE (top 104) 5
abbrev z6:nW:=bE (top 104) 9
abbrev z9:nW:=bE (top 104) 10
abbrev sT:nW:=bE (top 104) 11
abbrev Og:nW:=bE (top 104) 12
abbrev OQ:nW:=top 106
abbrev QA:nW:=top 107
abbrev OV:nW:=top 108
abbrev Oe:nW:=top 109
abbrev P8:nW:=top 110
abbrev P1:nW:=top 111
abbrev Pd:nW:=top 112
abbrev Pr:nW:=top 113
abbrev Q8:nW:=top 114
abbrev NX:nW:=top 115
abbrev tH:nW:=top 116
abbrev Qb:nW:=top 117
abbrev kj:nW:=top 118
def bH:U hO:=["plain","runs","book","base","steps"]
def dG:U V:=bH.map V.str
structure Ad where
 a8:ce
 az:ce
 aY:ce
 bJ:ce
 aX:ce
 jS:ce
 dS:ce
 fN:ce
 gC:ce
 fu:ce
 aI:ce
 ci:ce
 gD:ce
 gE:ce
 fL:ce
 jc:ce
 p_check_question_of:ce
 jd:ce
 p_marked_values:ce
 jb:ce
 p_Table_places_where:ce
variable{A:Ad}
structure Txt(K:fy)(mg:hO->eH cv)(t:Ad):Prop where
 zfS:mg "Reader" =O (.ref t.a8)
 cr:HB K t.a8
 kQ:cN K t.a8 "text"
 i7:cN K t.a8 "place"
 xy:mg "Tally" =O (.ref t.az)
 aQ:HB K t.az
 gw:cN K t.az "length"
 kS:cN K t.az "last"
 mD:cN K t.az "runs"
 qi:cN K t.az "book"
 mB:cN K t.az "has_none"
 i8:cN K t.az "least"
 jM:cN K t.az "greatest"
 mE:cN K t.az "widest"
 xu:mg "Column" =O (.ref t.aY)
 dZ:HB K t.aY
 kP:cN K t.aY "lying"
 qZ:mg "WordColumn" =O (.ref t.bJ)
 d0:HB K t.bJ
 mF:cN K t.bJ "column"
 mG:cN K t.bJ "numbered"
 zfU:mg "Table" =O (.ref t.aX)
 bD:HB K t.aX
 hV:cN K t.aX "parts"
 fX:cN K t.aX "living"
 qh:cN K t.aX "coming"
 nh:∃k,mg "FARTHEST" =O (.int 4000000 k)
 nj:∃k,mg "SHIFT" =O (.int 4000001 k)
 zfX:∃k,mg "MOST_IN_BLOCK" =O (.int 100 k)
 zfY:∃k,mg "MOST_IN_BOOK" =O (.int 64 k)
 re:∃k,mg "KIND_BITS" =O (.int 3 k)
 rf:∃k,mg "LENGTH_BITS" =O (.int 8 k)
 ik:∃k,mg "VALUE_BITS" =O (.int 24 k)
 zf2:∃k,mg "RUNS_BITS" =O (.int 8 k)
 zf3:∃k,mg "TIMES_BITS" =O (.int 8 k)
 q8:∃k,mg "BOOK_BITS" =O (.int 6 k)
 lj:∃k,mg "WIDTH_BITS" =O (.int 5 k)
 zf1:∃k,mg "MOST_WITHIN" =O (.int 6 k)
 xz:∃k,mg "MOST_IN_COLUMN" =O (.int 64 k)
 zf0:∃k,mg "MOST_IN_WORD" =O (.int 12 k)
 zfW:∃k,mg "MOST_COLUMNS" =O (.int 8 k)
 zfZ:∃k,mg "MOST_IN_NAME" =O (.int 8 k)
 jX:mg "KINDS" =O (.ref t.fL)
 j0:∀H,th K H t.fL dG
 xR:∃o,K.lookup t.fL=O o/\o.cls = .type "tuple" /\ o.dict=cx
 zfT:mg "RowsError" =O (.ref t.jS)
 qU:mg "BadValue" =O (.ref t.dS)
 zcx:fV K t.dS
 qW:mg "NoPacking" =O (.ref t.fN)
 zcy:fV K t.fN
 qT:mg "BadBits" =O (.ref t.gC)
 zcw:fV K t.gC
 qX:mg "NoRow" =O (.ref t.fu)
 zcz:fV K t.fu
 jh:mg "BadQuestion" =O (.ref t.aI)
 kF:fV K t.aI
 zg6:iC K t.aI
 zhA:Jf K (.ref t.aI) (.ref t.jS)=O c0
 zow:n' K (.ref t.aI) (.type "ValueError")=O c0
 zgi:n' K (.ref t.aI) (.ref t.dS)=O d_
 zgk:n' K (.ref t.aI) (.ref t.fN)=O d_
 zge:n' K (.ref t.aI) (.ref t.gC)=O d_
 zgl:n' K (.ref t.aI) (.ref t.fu)=O d_
 zgf:n' K (.ref t.aI) (.ref t.aI)=O c0
 zgj:n' K (.ref t.aI) (.ref t.ci)=O d_
 zgg:n' K (.ref t.aI) (.ref t.gD)=O d_
 zgh:n' K (.ref t.aI) (.ref t.gE)=O d_
 xx:mg "NoColumn" =O (.ref t.ci)
 zoL:fV K t.ci
 zg7:iC K t.ci
 zhB:Jf K (.ref t.ci) (.ref t.jS)=O c0
 zox:n' K (.ref t.ci) (.type "ValueError")=O c0
 zgw:n' K (.ref t.ci) (.ref t.dS)=O d_
 zgy:n' K (.ref t.ci) (.ref t.fN)=O d_
 zgs:n' K (.ref t.ci) (.ref t.gC)=O d_
 zgz:n' K (.ref t.ci) (.ref t.fu)=O d_
 zgt:n' K (.ref t.ci) (.ref t.aI)=O d_
 zgx:n' K (.ref t.ci) (.ref t.ci)=O c0
 zgu:n' K (.ref t.ci) (.ref t.gD)=O d_
 zgv:n' K (.ref t.ci) (.ref t.gE)=O d_
 m9:mg "BadRow" =O (.ref t.gD)
 vc:fV K t.gD
 ng:mg "BadTable" =O (.ref t.gE)
 vd:fV K t.gE
 ii:n' K (.type "int") (.type "int")=O c0
 ib:n' K (.type "int") (.type "bool")=O d_
 ill:n' K (.type "list") (.type "list")=O c0
 xM:n' K (.type "tuple") (.type "tuple")=O c0
 xK:n' K (.type "str") (.type "str")=O c0
 isi:n' K (.type "str") (.type "int")=O d_
 iis:n' K (.type "int") (.type "str")=O d_
 ins:n' K (.type "NoneType") (.type "str")=O d_
 zcA:BQ K (.ref t.aY) "__class__" =O (O (.builtin "object.__class__"))/\Iy K t.aY (.type "object")=O c0
 xE:n' K (.ref t.aY) (.ref t.bJ)=O d_
 zcB:BQ K (.ref t.bJ) "__class__" =O (O (.builtin "object.__class__"))/\Iy K t.bJ (.type "object")=O c0
 xF:n' K (.ref t.bJ) (.ref t.bJ)=O c0
 mP:GG K (.builtin "object.__class__") "__get__" =O (O (.builtin "getset_descriptor.__get__"))/\Ij K (.builtin "object.__class__")=O c0
 ziC:mg "ValueError" =cx
 jm:mg "all" =cx
 yn:mg "any" =cx
 yo:mg "bool" =cx
 yA:mg "dict" =cx
 yC:mg "enumerate" =cx
 nQ:mg "int" =cx
 dq:mg "isinstance" =cx
 bu:mg "len" =cx
 j6:mg "list" =cx
 rW:mg "max" =cx
 rX:mg "min" =cx
 eP:mg "range" =cx
 zjx:mg "reversed" =cx
 zjy:mg "set" =cx
 yK:mg "sorted" =cx
 yL:mg "str" =cx
 nR:mg "tuple" =cx
 jn:mg "zip" =cx
theorem rV(n:ft):aJ n=if n=0 then 0 else n.log2+1:=by
 induction n using G8 with
 |ind n a=>
  by_cases h:n=0
  ·subst h;simp[Sc]
  ·rw[ks h,Sh (by exact Ce ‹_›),Nat.log2_def]
   grind
def Et:OI->n_
 |.none=>c0
 |.some i=>decide (-4000000<=i/\i<=4000000)
def Fx(g:U OI):n_:=decide (1<=g.length/\g.length<=100) && g.all Et
def ov:OI->V
 |.none=>.non
 |.some i=>.int i
theorem Z3(o:OI):bN (ov o)=c0:=by cases o <;> rfl
theorem WD(g:U OI):(g.map ov).all bN=c0:=by
 rw[i_];intro x a;obtain⟨o,_,rfl⟩:=nk.mp a;exact Z3 o
theorem VO{a b:OI}(h:ov a=ov b):a=b:=by
 cases a <;> cases b <;> first |rfl | (injection h with h;rw[h]) |cases h
theorem X'(a b:OI):Iv (ov a) (ov b)=c0:=by cases a <;> cases b <;> rfl
theorem Q_(a b:OI):decide (ov a=ov b)=decide (a=b):=by
 by_cases h:a=b
 ·subst h;simp
 ·simp only[dV h,dV λz=>h (VO z)]
theorem zlA(a b:OI):Es (ov a) (ov b)=decide (a=b):=by
 cases a <;> cases b <;> simp[ov,Es]
 grind
inductive js(a:U V)(H:Hp)(Q:VK)(_E:XK):Prop
 |i(n:gV)(_:a=[.int n])(_:0<=n)(_:Q (.int (aJ n.toNat)) H)
theorem zpW:cn ["number"] ["number"] (aR tK):=by walk_at "sc"
theorem W9{n:gV}(h:0<=n):((E7 n:ft):gV)=(aJ n.toNat:gV):=by
 rw[rV]
 delta E7
 grind
theorem Sx(F:vr K "needed" "needed" tK f Ag):ap P w K G u q_ 1 f Ag ["number"] js:=by
 refine F.o ["number"] λd b An a s H e Q Ah g h=>?_;obtain⟨n,rfl,c,k⟩:=h;refine⟨_,aj (aA (VH PySem.F.plainAttrs_int PySem.F.slot_int_bit_length PySem.F.type_int_bit_length Wv (pv 0))),?_⟩;refine⟨_,Y,Y,n,Y,Y,?_⟩;rw[W9 c];exact k
inductive ur(a:U V)(H:Hp)(Q:VK)(_E:XK):Prop
 |i(i:gV)(_:a=[.int i])(_:Q (.bl c0) H)
theorem yT(T:Txt K G A)(F:vr K "is_whole" "is_whole" oB f Ag):ap P w K G u q_ 1 f Ag ["thing"] ur:=by
 refine F.o ["thing"] λc b An a s H d Q Ah e h=>?_;obtain⟨i,rfl,k⟩:=h;refine⟨_,(aj (aA (gK (aL (dj K) (by rfl) T.dq PyProof.Rows.Boot.«isinstance» (aa (pv 0) (aa (gM T.nQ PyProof.Rows.Boot.«int») ae))) (fz (lF (aL (dj K) (by rfl) T.dq PyProof.Rows.Boot.«isinstance» (aa (pv 0) (aa (gM T.yo PyProof.Rows.Boot.«bool») ae)))))))),?_⟩;refine⟨_,Y,_,_,_,Y,gG (.int i) T.ii,_,Y,?_⟩;refine aw ⟨_,Y,_,_,_,Y,gG (.int i) T.ib,_,Y,?_⟩;exact k
inductive PU(a:U V)(H:Hp)(Q:VK)(_E:XK):Prop
 |i(o:OI)(_:a=[ov o])(_:Q (.bl (Et o)) H)
theorem yS(T:Txt K G A)(c:uG P w K G u q_ 1 "is_whole" ["thing"] ur)(F:vr K "is_value" "is_value" oA f Ag):ap P w K G u q_ 2 f Ag ["value"] PU:=by
 refine F.o ["value"] λj d An b s H l Q Ah g h=>?_;obtain⟨o,rfl,k⟩:=h;refine⟨_,(aj (aA (oj (c8 dI (pv 0) bL (aC _)) (fz (gK (c.pe g av (aa (pv 0) ae)) (fz (lD gi gi (iq iy (bi T.nh)) (pv 0) (bi T.nh)))))))),?_⟩;refine⟨_,Y,Y,_,Y,?_⟩;cases o with
 |none=>exact aw k
 |some i=>
  refine⟨_,Y,i,Y,_,Y,?_⟩;refine⟨_,Y,_,Y,_,_,Y,Y,_,Y,?_⟩;by_cases a : -4000000<=i
  ·rw[fo a];refine aw ⟨_,_,Y,Y,?_⟩;have e:Et (O i)=decide (i<=4000000):=by simp[Et,a]
   rw[←e];exact k
  ·rw[dV a];refine ak ?_;have e:Et (O i)=d_:=by simp[Et,a]
   rw[←e];exact k
theorem Rj:(["value"]:U hO).Nodup:=by decide +kernel
inductive uc(K:fy)(a:U V)(H:Hp)(Q:VK)(_E:XK):Prop
 |i(p:ce)(g:U OI)(_:a=[.ref p])(_:n7 K H p (g.map ov))(_:g.length<=1000)(_:∀C,ad H C->Q (.bl (g.all Et)) C)
theorem zpM:cn ["values"] ["values"] (aR tq):=by walk_at "sc"
theorem ZR(T:Txt K G A)(j:uG P w K G u q_ 2 "is_value" ["value"] PU)(F:vr K "are_values" "are_values" tq f Ag):ap P w K G u q_ 3 f Ag ["values"] (uc K):=by
 refine F.o ["values"] λv l An c s H y Q Ah m h=>?_;obtain⟨p,g,rfl,d,n,k⟩:=h;refine⟨_,aj (aA (aL (wo Y) (by rfl) T.jm PyProof.Rows.Boot.«all» (aa
  (n9 (fr:=[cx]) ⟨Y,Y,Y,Y,Y,Y⟩ Y (bV (pv 0))
   (λAj Ap s H=>⟨aH (i:=0) Rj Y (gS Y),bn,j.pe m av (aa (pv 0) ae)⟩)) ae))),?_⟩
 refine⟨_,Y,p,Y,⟨_,d⟩,cE (E:=g.map ov) (λi acc C=>ad H C/\acc=((g.take i).map λo=>V.bl (Et o))) ⟨ad.refl _,Y⟩ ?_ ?_ ?_ ?_⟩
 ·rintro i acc C z ⟨b,rfl⟩;refine⟨b.seq d,?_⟩;rw[bd,gv];omega
 ·rw[bd];exact f' (aV n)
 ·rintro i x acc C e a ⟨b,rfl⟩;rw[bd]at a;have ex:g[i]?=O g[i]:=by simp[a]
  rw[cc,ex]at e;cases e;refine⟨Wk.set Y,?_⟩;refine tT ⟨_,Y,g[i],Y,?_⟩;refine cw (by rw[bd];exact a) ⟨b,?_⟩;rw[ke,ex,dn];rfl
 ·rintro acc C ⟨b,rfl⟩ q r;refine⟨q,g.map Et,Y,.of ?_,?_⟩
  ·rw[af,bd,gl,p_];rfl
  ·show Q _ _;rw[Dz];exact k _ (ay b r)
inductive uq(K:fy)(a:U V)(H:Hp)(Q:VK)(_E:XK):Prop
 |i(p:ce)(g:U OI)(_:a=[.ref p])(_:n7 K H p (g.map ov))(_:g.length<=16777216)(_:∀C,ad H C->Q (.bl (Fx g)) C)
theorem zpU:cn ["values"] ["values"] (aR tF):=by walk_at "sc"
theorem Z_(T:Txt K G A)(i:uG P w K G u q_ 3 "are_values" ["values"] (uc K))(F:vr K "is_block" "is_block" tF f Ag):ap P w K G u q_ 4 f Ag ["values"] (uq K):=by
 refine F.o ["values"] λn j An a s H q Q Ah l h=>?_;obtain⟨p,g,rfl,b,r,k⟩:=h;refine⟨_,aj (aA (gK (lD gi gi ah (aL wq (by rfl) T.bu PyProof.Rows.Boot.«len» (aa (pv 0) ae)) (bi T.zfX))
  (fz (i.pe l av (aa (pv 0) ae))))),?_⟩
 refine⟨_,Y,p,_,Y,.inl b,_,_,Y,Y,_,Y,?_⟩;rw[bd];have same:=ad.refl H;by_cases c:(1)<=(g.length:gV)
 ·rw[fo c];refine aw ⟨_,_,Y,Y,_,Y,?_⟩;by_cases d:(g.length:gV)<=100
  ·rw[fo d];refine aw ⟨_,Y,p,g,Y,b,by omega,λC m=>?_⟩;have e:Fx g=g.all Et:=by simp[Fx,show 1<=g.length by omega,show g.length<=100 by omega]
   rw[←e];exact k _ m
  ·rw[dV d];refine ak ?_;have e:Fx g=d_:=by simp[Fx,show ¬ g.length<=100 by omega]
   rw[←e];exact k _ same
 ·rw[dV c];refine ak ⟨_,Y,?_⟩;refine ak ?_;have e:Fx g=d_:=by simp[Fx,show ¬ 1<=g.length by omega]
  rw[←e];exact k _ same
inductive ud(K:fy)(A:Ad)(a:U V)(H:Hp)(Q:VK)(Ah:XK):Prop
 |i(p:ce)(g:U OI)(_:a=[.ref p])(_:n7 K H p (g.map ov))(_:g.length<=1000)(_:(Fx g=c0->∀C,ad H C->Q .non C))(_:(Fx g=d_->∀C,ad H C->Ah (.ref A.dS) cx C))
theorem zpQ:cn ["values"] ["values"] (aR tw):=by walk_at "sc"
theorem VR(T:Txt K G A)(c:uG P w K G u q_ 4 "is_block" ["values"] (uq K))(F:vr K "check_block" "check_block" tw f Ag):ap P w K G u (yl P w) 5 f Ag ["values"] (ud K A):=by
 refine F.oX ["values"] λn d An a s H q Q Ah i h=>?_;obtain⟨p,g,rfl,j,r,l,m⟩:=h;refine⟨_,aj (aN (eD (cR (c.pe i av (aa (pv 0) ae)))) (aj (c9 de T.zcx Y (by rfl) T.qU (aa au ae))) aO),?_⟩;refine⟨_,Y,p,g,Y,j,by omega,λC b=>⟨_,Y,?_⟩⟩;cases e:Fx g with
 |true=>exact ak (l e C b)
 |false=>exact aw ⟨by decide,m e C b⟩
inductive NZ(A:Ad)(a:U V)(H:Hp)(Q:VK)(Ah:XK):Prop
 |i(x:hO)(_:a=[.str x])(_:(x∈bH->Q .non H))(_:(x∉bH->Ah (.ref A.fN) cx H))
theorem zpR:cn ["kind"] ["kind"] (aR tz):=by walk_at "sc"
theorem Ra(x:hO):GP (.str x) dG=decide (x∈bH):=by
 delta GP dG
 rw[La];have b:∀l:U hO,l.any ((λy=>Es y (.str x)) ∘ V.str)=decide (x∈l):=by
  intro l;induction l with
  |nil=>simp
  |cons a l c=>
   simp only[y_,c];by_cases e:x=a
   ·subst e;simp[Es]
   ·have:(a ==x)=d_:=by simpa using λz=>e z.symm
    simp[Es,this,e]
 exact b _
theorem S1(T:Txt K G A)(F:vr K "check_kind" "check_kind" tz f Ag):ap P w K G u (yl P w) 1 f Ag ["kind"] (NZ A):=by
 refine F.oX ["kind"] λg b An a s H i Q Ah j h=>?_;obtain⟨x,rfl,c,d⟩:=h;refine⟨_,aj (aN (aE yY (pv 0) (dJ T.jX) (by rfl)) (aj (c9 de T.zcy Y (by rfl) T.qW (aa au ae))) aO),?_⟩;refine⟨_,Y,A.fL,dG,Y,.inr (T.j0 _),Y,Y,_,Y,?_⟩;rw[ Ra];by_cases e:x∈bH
 ·rw[fo e];exact ak (c e)
 ·rw[dV e];exact aw ⟨by decide,d e⟩
inductive oF(a:U V)(H:Hp)(Q:VK)(_E:XK):Prop
 |i(d:gV)(_:a=[.int d])(_:Q (.int (bW d)) H)
theorem zpS:cn ["step"] ["step"] (aR tE):=by walk_at "sc"
theorem X8(F:vr K "folded" "folded" tE f Ag):ap P w K G u q_ 1 f Ag ["step"] oF:=by
 refine F.o ["step"] λc b An a s H g Q Ah i h=>?_;obtain⟨d,rfl,k⟩:=h;refine⟨_,aj (aA (dA (aE sd (pv 0) ah (aC _)) (aq d7 ah (pv 0)) (aq cJ (aq d7 (iq iy ah) (pv 0)) ah))),?_⟩;refine⟨_,Y,_,_,Y,Y,_,Y,?_⟩;by_cases e:0<=d
 ·rw[fo e];refine aw ⟨_,Y,_,_,Y,Y,.inl ⟨by decide,by decide⟩,?_⟩;rw[show 2 * d=bW d by simp[bW,e]];exact k
 ·rw[dV e];refine ak ⟨_,Y,_,Y,_,_,Y,Y,.inl ⟨by decide,by decide⟩,_,_,Y,Y,?_⟩;rw[show -2 * d - 1=bW d by simp[bW,e]];exact k
def Ty.addNum(y:Ty)(i:gV):Ty:={ y with
 least:=O (iP y.least i),greatest:=O (fQ y.greatest i),
 widest:=if 0<y.length/\y.none=d_ then (if bW (i - y.last.getD 0) > y.widest then bW (i - y.last.getD 0) else y.widest) else y.widest }
theorem Wr(h:0<g.length)(a:(ax g).none=d_):∃j,(ax g).last=O j:=by
 have e:=Vq (g:=g) (n:=g.length - 1) (by lia);rw[show g.length - 1+1=g.length by exact FG ‹_›,gl]at e;cases q:at' g (g.length - 1) with
 |some j=>exact⟨j,by rw[e,q]⟩
 |none=>
  have m : .none∈g:=by
   rw[←q];have:g.length - 1<g.length:=by lia
   unfold at';simp[ this]
  have:=(Qf g.length (dv _)).mpr (by rwa[gl])
  grind
def f9(d:ce)(y:Ty):U (hO×V):=[("length", .int y.length),("last",ov y.last),("runs", .int y.runs),("book", .ref d),("has_none", .bl y.none),("least",ov y.least),("greatest",ov y.greatest),("widest", .int y.widest)]
def bk(l:U OI):U (Key×V):=l.map λo=>(pw o,.bl c0)
structure fG(C:ce)(H:Hp)(p d:ce)(y:Ty):Prop where
 ob:∃dx,H p=O (.ins C dx (f9 d y))
 dc:H d=O (.dK (bk y.book))
theorem T7(o:OI):ov o=kV (pw o):=by cases o <;> rfl
theorem Yo(l:U OI)(v:OI):bR (bk l) (pw v) (.bl c0)=bk (if v∈l then l else l++[v]):=by
 delta bR bk
 by_cases h:v∈l
 ·simp_all
 ·simp_all
inductive uo(Aj:ce)(a:U V)(H:Hp)(Q:VK)(_E:XK):Prop
 |i(p X:ce)(_:a=[.ref p])(_:H p=O (.ins Aj X []))(_:∀(d:ce)(C:Hp),H d=cx->fG Aj C p d Ty.zero->(∀b,b≠p->b≠d->C b=H b)->Q .non C)
theorem zpT:cn ["self"] ["self"] (aR sY):=by walk_at "sc"
theorem Zh(T:Txt K G A)(F:vr K "__init__" "Tally.__init__" sY f Ag):ap P w K G u q_ 1 f Ag ["self"] (uo A.az):=by
 refine F.o ["self"] λl g An e s H m Q Ah n h=>?_;obtain⟨p,X,rfl,i,k⟩:=h;refine⟨_,ao (cK (pv 0) ah Y) (ao (cK (pv 0) bL Y) (ao (cK (pv 0) ah Y) (ao (cK (pv 0) lE Y) (ao (cK (pv 0) fc Y)
  (ao (cK (pv 0) bL Y) (ao (cK (pv 0) bL Y) (aj (cK (pv 0) ah Y)))))))),?_⟩
 refine⟨_,Y,p,A.az,X,_,Y,i,T.aQ,T.gw,by decide,?_⟩;refine⟨_,Y,p,A.az,X,_,Y,af,T.aQ,T.kS,by decide,?_⟩;refine⟨_,Y,p,A.az,X,_,Y,af,T.aQ,T.mD,by decide,?_⟩;intro d hd;have a:p≠d:=λz=>by rw[z]at hd;rw[af]at hd;cases hd
 refine⟨_,Y,p,A.az,X,_,Y,(by rw[ag a];exact af),T.aQ,T.qi,by decide,?_⟩;refine⟨_,Y,p,A.az,X,_,Y,af,T.aQ,T.mB,by show 4<1000;decide,?_⟩;refine⟨_,Y,p,A.az,X,_,Y,af,T.aQ,T.i8,by show 5<1000;decide,?_⟩;refine⟨_,Y,p,A.az,X,_,Y,af,T.aQ,T.jM,by show 6<1000;decide,?_⟩;refine⟨_,Y,p,A.az,X,_,Y,af,T.aQ,T.mE,by show 7<1000;decide,?_⟩;refine k d _ ?_ ⟨⟨X,af⟩,?_⟩ λb c j=>?_
 ·rw[ag a.symm,ag a.symm,ag a.symm]at hd;exact hd
 ·rw[ag a.symm,ag a.symm,ag a.symm,ag a.symm,ag a.symm,af];rfl
 ·rw[ag c,ag c,ag c,ag c,ag c,ag j,ag c,ag c,ag c]
inductive ua(Aj:ce)(a:U V)(H:Hp)(Q:VK)(_E:XK):Prop
 |i(p d X:ce)(y:Ty)(i:gV)(_:a=[.ref p,.int i])(_:H p=O (.ins Aj X (f9 d y)))(_:(0<y.length->y.none=d_->∃j,y.last=O j))(_:∀C:Hp,C p=O (.ins Aj X (f9 d (y.addNum i)))->(∀b,b≠p->C b=H b)->Q .non C)
def Py(K:fy):TS:=lV (OS (kA (Jn (Jm λi j=>.bl (decide (j<i))) (ix K (cL 0) "length") (tC (.int 0)))) (Qu (tB (ix K (cL 0) "has_none"))))
 (lP K (cL 0) (N8 (λg H Q=>∃i j,g=[.int i,.int j]/\Q (.int (if j > i then j else i)) H) (iw (ix K (cL 0) "widest") (iw (uT oF [] E0 (iw (Jn (Jm λi j=>.int (i - j)) (cL 1) (ix K (cL 0) "last")) gO)) gO))) "widest") lW
def Ux(K:fy):TS:=gP (lV (Pe (kA (Jn (λx y H Q=>y = .non/\Q (.bl (decide (x = .non))) H) (ix K (cL 0) "greatest") (tC .non))) (kA (Jn (Jm λi j=>.bl (decide (j<i))) (cL 1) (ix K (cL 0) "greatest"))))
 (lP K (cL 0) (cL 1) "greatest") lW) (Py K)
def Ty.w3(y:Ty)(i:gV):Ty:={ y with widest:=if 0<y.length/\y.none=d_ then (if bW (i - y.last.getD 0) > y.widest then bW (i - y.last.getD 0) else y.widest) else y.widest }
theorem qk{d:ce}{i:gV}(T:Txt K G A)(a:0<y.length->y.none=d_->∃j,y.last=O j)(c:Am p=O (.ins A.az X (f9 d y)))(f:∀b,b≠p->Am b=H b)(k:∀C:Hp,C p=O (.ins A.az X (f9 d (Ty.w3 y i)))->(∀b,b≠p->C b=H b)->Q .non C):
  Py K { nx:=λ_ C=>Q .non C,rt:=Q } [O (.ref p),O (.int i)] Am:=by
 refine⟨_,Y,p,A.az,X,_,_,Y,c,T.aQ,T.gw,Y,_,_,Y,Y,_,Y,?_⟩;by_cases g:0<y.length
 ·rw[fo (show (0)<(y.length:gV) by exact HY.mpr ‹_›)];refine aw ⟨_,Y,p,A.az,X,_,_,Y,c,T.aQ,T.mB,Y,_,Y,?_⟩;cases h:y.none with
  |true=>
   refine ak (k Am ?_ f);have:Ty.w3 y i=y:=by
    cases y
    simp_all[Ty.w3]
   rw[this];exact c
  |false=>
   obtain⟨j,l⟩:=a g h;refine⟨_,Y,p,A.az,X,_,_,Y,c,T.aQ,T.mE,Y,_,Y,_,Y,p,A.az,X,_,_,Y,c,T.aQ,T.kS,Y,_,_,Y,(by rw[l];rfl),i - j,Y,_,_,Y,_,Y,p,A.az,X,_,Y,c,T.aQ,T.mE,by show 8<1000;decide,?_⟩;refine k _ ?_ λb e=>by rw[ag e];exact f b e
   have m:Ty.w3 y i={ y with widest:=if bW (i - j) > y.widest then bW (i - j) else y.widest }:=by simp[Ty.w3,h,g,l]
   rw[af,m];rfl
 ·rw[dV (show ¬ (0)<(y.length:gV) by simp_all)];refine ak (ak (k Am ?_ f));have:Ty.w3 y i=y:=by
   cases y
   simp_all[Ty.w3]
  rw[this];exact c
theorem qj{d:ce}{c:Ty}{i:gV}(T:Txt K G A)(e:0<y.length->y.none=d_->∃j,y.last=O j)(s:c.length=y.length)(u:c.none=y.none)(v:c.last=y.last)(w:c.widest=y.widest)(n:c.greatest=y.greatest)(g:Ai p=O (.ins A.az X (f9 d c)))(r:∀b,b≠p->Ai b=H b)(k:∀C:Hp,C p=O (.ins A.az X (f9 d (Ty.w3 { c with greatest:=O (fQ y.greatest i) } i)))->(∀b,b≠p->C b=H b)->Q .non C):
  Ux K { nx:=λ_ C=>Q .non C,rt:=Q } [O (.ref p),O (.int i)] Ai:=by
 refine⟨_,Y,p,A.az,X,_,_,Y,g,T.aQ,T.jM,Y,Y,_,Y,?_⟩;cases h:c.greatest with
 |none=>
  refine aw (aw ⟨_,Y,_,Y,p,A.az,X,_,Y,g,T.aQ,T.jM,by show 8<1000;decide,?_⟩);refine qk (y:={ c with greatest:=O i }) (H:=H) T (λa b=>by obtain⟨j,q⟩:=e (s ▸ a) (u ▸ b);exact⟨j,v.trans q⟩) af (λb f=>by rw[ag f];exact r b f) ?_;have:fQ y.greatest i=i:=by rw[←n,h];rfl
  rw[this]at k;exact k
 |some m=>
  refine ak ⟨_,Y,_,Y,p,A.az,X,_,_,Y,g,T.aQ,T.jM,Y,_,_,Y,(by rw[h];rfl),_,Y,?_⟩;by_cases l:m<i
  ·rw[fo l];refine aw ⟨_,Y,_,Y,p,A.az,X,_,Y,g,T.aQ,T.jM,by show 8<1000;decide,?_⟩;refine qk (y:={ c with greatest:=O i }) (H:=H) T (λa b=>by obtain⟨j,q⟩:=e (s ▸ a) (u ▸ b);exact⟨j,v.trans q⟩) af (λb f=>by rw[ag f];exact r b f) ?_;have:fQ y.greatest i=i:=by rw[←n,h];simp[fQ,l]
   rw[this]at k;exact k
  ·rw[dV l];refine qk T (λa b=>by simp_all) g r ?_;have:({ c with greatest:=O (fQ y.greatest i) }:Ty)=c:=by
    have:fQ y.greatest i=m:=by rw[←n,h];simp[fQ,l]
    rw[this,←h]
   rw[this]at k;exact k
theorem zpL:cn ["self","number"] ["self","number"] (aR sV):=by walk_at "sc"
theorem Yr(T:Txt K G A)(r:uG P w K G u q_ 1 "folded" ["step"] oF)(F:vr K "add_number" "Tally.add_number" sV f Ag):ap P w K G u q_ 3 f Ag ["self","number"] (ua A.az):=by
 refine F.o ["self","number"] λz v An n s H B Q Ah x h=>?_;obtain⟨p,d,X,y,i,rfl,c,a,k⟩:=h;refine⟨_,ao (aN (fT (aE dI (cO (pv 0) Y) bL (aC _)) (gm (aE nY (pv 1) (cO (pv 0) Y) (aC _)))).pt (aj (cK (pv 0) (pv 1) Y)) aO)
  (ao (aN (fT (aE dI (cO (pv 0) Y) bL (aC _)) (gm (aE e9 (pv 1) (cO (pv 0) Y) (aC _)))).pt (aj (cK (pv 0) (pv 1) Y)) aO)
  (aj (aN (lL (aE e9 (cO (pv 0) Y) ah (aC _)) (lM (eD (cR (cO (pv 0) Y))))).pt
   (aj (cK (pv 0) (aL (zeO Y) (by rfl) T.rW PyProof.Rows.Boot.«max» (aa (cO (pv 0) Y) (aa (r.pe x av (aa (aq cJ (pv 1) (cO (pv 0) Y)) ae)) ae))) Y)) aO))),?_⟩
 refine⟨_,Y,p,A.az,X,_,_,Y,c,T.aQ,T.i8,Y,Y,_,Y,?_⟩;cases j:y.least with
 |none=>
  refine aw (aw ⟨_,Y,_,Y,p,A.az,X,_,Y,c,T.aQ,T.i8,by show 8<1000;decide,?_⟩);exact qj T a (c:={ y with least:=O i }) Y Y Y Y Y af (λb q=>ag q) λC e g=>k C (by rw[e];simp[Ty.addNum,Ty.w3,j,iP]) g
 |some m=>
  refine ak ⟨_,Y,_,Y,p,A.az,X,_,_,Y,c,T.aQ,T.i8,Y,_,_,Y,(by rw[j];rfl),_,Y,?_⟩;by_cases l:i<m
  ·rw[fo l];refine aw ⟨_,Y,_,Y,p,A.az,X,_,Y,c,T.aQ,T.i8,by show 8<1000;decide,?_⟩;exact qj T a (c:={ y with least:=O i }) Y Y Y Y Y af (λb q=>ag q) λC e g=>k C (by rw[e];simp[Ty.addNum,Ty.w3,j,iP,l]) g
  ·rw[dV l];exact qj T a Y Y Y Y Y c (λb _=>rfl) λC e g=>k C (by rw[e];simp[Ty.addNum,Ty.w3,j,iP,l]) g
def ji(y:Ty):gV:=match y.least,y.greatest with |some a,O b=>b - a+1 |_,_=>0
def dP(y:Ty):U OI:=[O (24 * (y.length:gV)),O (8+(24+8) * (y.runs:gV)),(if 64<y.book.length then .none else O (6+24 * (y.book.length:gV)+(aJ (y.book.length - 1):gV) * y.length)),
 O (24+5+(aJ (ji y).toNat:gV) * y.length),(if y.none=c0 then .none else O (24+5+(aJ y.widest.toNat:gV) * ((y.length:gV) - 1)))]
def iz:OI->OI
 |.none=>.none
 |.some b=>O (3+8+b)
def bM(y:Ty):U OI:=(dP y).map iz
structure MZ(y:Ty):Prop where
 pos:0<y.book.length
 bl:y.book.length<=1000
 len:y.length<=1000
 hi:(y.least = .none/\y.greatest = .none)\/∃a b,y.least=O a/\y.greatest=O b/\a<=b
 wid:0<=y.widest
theorem ly(h:l≠[]):∃m,cG l=O m:=by
 cases l with
 |nil=>exact hQ Y h
 |cons x r=>exact⟨_,Y⟩
def NU(K:fy)(Aj:ce):TS:=gP (zN (ix K (cL 0) "book") (cL 1) (tC (.bl c0))) (gP (lV (kA (Jn (λx y H Q=>y = .non/\Q (.bl (decide (x = .non))) H) (cL 1) (tC .non)))
 (lP K (cL 0) (tC (.bl c0)) "has_none") (P9 (uU Aj "add_number" (ua Aj) [] E0 (cL 0) (iw (cL 1) gO)))) (gP (lP K (cL 0) (cL 1) "last") (zO K (cL 0) (tC (.int 1)) zn "length")))
theorem vI{d:ce}{r:ft}(T:Txt K G A)(e:0<y.length->y.none=d_->∃j,y.last=O j)(n:y.book.length<=1000)(q:Ai p=O (.ins A.az X (f9 d { y with runs:=r })))(hd:Ai d=O (.dK (bk y.book)))(w:∀b,b≠p->b≠d->Ai b=H b)(k:∀C:Hp,C p=O (.ins A.az X (f9 d { (y.add v) with runs:=r }))->C d=O (.dK (bk (y.add v).book))->(∀b,b≠p->b≠d->C b=H b)->Q .non C):
  NU K A.az { nx:=λ_ C=>Q .non C,rt:=Q } [O (.ref p),O (ov v)] Ai:=by
 have a:=bO q hd (by intro z;cases z);have s:(bk y.book).length<fx:=by rw[show (bk y.book).length=y.book.length by simp[bk]];exact aV n
 refine⟨_,Y,p,A.az,X,_,_,Y,q,T.aQ,T.qi,Y,_,Y,d,_,Y,(by rw[T7];exact gZ.k hd s),?_⟩;have m:(upd Ai d (.dK (bR (bk y.book) (pw v) (.bl c0)))) p=O (.ins A.az X (f9 d { y with runs:=r })):=by exact (ag a) ▸ q
 have f:(upd Ai d (.dK (bR (bk y.book) (pw v) (.bl c0)))) d=O (.dK (bk (y.add v).book)):=by rw[af,Yo];rfl
 have g:∀b,b≠p->b≠d->(upd Ai d (.dK (bR (bk y.book) (pw v) (.bl c0)))) b=H b:=λb c h=>by rw[ag h];exact w b c h
 generalize (upd Ai d (.dK (bR (bk y.book) (pw v) (.bl c0))))=Am at m f g ⊢;refine⟨_,Y,Y,_,Y,?_⟩;cases v with
 |none=>
  refine aw ⟨_,Y,p,A.az,X,_,Y,m,T.aQ,T.mB,by show 8<1000;decide,?_⟩;refine⟨_,Y,_,Y,p,A.az,X,_,Y,af,T.aQ,T.kS,by show 8<1000;decide,?_⟩;refine⟨_,Y,p,A.az,X,_,_,Y,af,T.aQ,T.gw,Y,_,_,Y,Y,X,_,af,by show 8<1000;decide,?_⟩;refine k _ af ?_ λb c h=>?_
  ·simp only[ag a.symm,ag a.symm,ag a.symm];exact f
  ·simp only[ag c,ag c,ag c];exact g b c h
 |some i=>
  refine ak ⟨_,Y,p,X,_,Y,m,Y,_,Y,p,d,X,{ y with runs:=r },i,Y,m,e,λH3 x l=>?_⟩;have u:H3 d=O (.dK (bk (y.add (O i)).book)):=by exact (l d a.symm) ▸ f
  refine⟨_,Y,_,Y,p,A.az,X,_,Y,x,T.aQ,T.kS,by show 8<1000;decide,?_⟩;refine⟨_,Y,p,A.az,X,_,_,Y,af,T.aQ,T.gw,Y,_,_,Y,Y,X,_,af,by show 8<1000;decide,?_⟩;refine k _ ?_ ?_ λb c h=>?_
  ·rw[af];rfl
  ·rw[ag a.symm,ag a.symm];exact u
  ·simp only[ag c,ag c,l b c];exact g b c h
inductive tZ(Aj:ce)(a:U V)(H:Hp)(Q:VK)(_E:XK):Prop
 |i(p d:ce)(g:U OI)(v:OI)(_:a=[.ref p,ov v])(_:fG Aj H p d (ax g))(_:g.length<=1000)(_:∀C:Hp,fG Aj C p d (ax (g++[v]))->(∀b,b≠p->b≠d->C b=H b)->Q .non C)
theorem zpK:cn ["self","value"] ["self","value"] (aR sU):=by walk_at "sc"
theorem Qy(g:U OI):(ax g).book.length<=g.length:=by
 have:=uY g.length (dv _);rw[gl]at this;exact this ▸ (qR _ _)
theorem Tt(T:Txt K G A)(L:aZ P w K G u q_ 3 A.az "add_number" ["self","number"] (ua A.az))(F:vr K "add" "Tally.add" sU f Ag):ap P w K G u q_ 4 f Ag ["self","value"] (tZ A.az):=by
 obtain⟨f1,M,N,R,S⟩:=L;refine F.o ["self","value"] λnN Z An r s H vs Q Ah J h=>?_;obtain⟨p,d,g,v,rfl,⟨⟨X,i⟩,hd⟩,hl,k⟩:=h;have hu:=iM J;have A0:=oZ g;have e:0<(ax g).length->(ax g).none=d_->∃j,(ax g).last=O j:=λa b=>Wr (by omega) b;have m:=jE (Qy g) hl;rw[OT]at k;refine⟨_,ao (aN (fT (aE bh (cO (pv 0) Y) ah (aC _)) (gm (aE fR (pv 1) (cO (pv 0) Y) (aC _)))).pt (aj (sL (pv 0) ah rq)) aO)
  (ao (sK hu (cO (pv 0) Y) (pv 1) fc Y)
  (ao (aN (aE dI (pv 1) bL (aC _)) (aj (cK (pv 0) fc Y)) (aj (bf (bp (pv 0) T.aQ R N J S .nil av (aa (pv 1) ae)))))
  (ao (cK (pv 0) (pv 1) Y) (aj (sL (pv 0) ah rq))))),?_⟩
 refine⟨_,Y,p,A.az,X,_,_,Y,i,T.aQ,T.gw,Y,Y,_,Y,?_⟩;have l:(ax g).length=0\/v≠(ax g).last->∀Ai,Ai p=O (.ins A.az X (f9 d { (ax g) with runs:=(ax g).runs+1 }))->(∀b,b≠p->Ai b=H b)->
   NU K A.az { nx:=λ_ C=>Q .non C,rt:=Q } [O (.ref p),O (ov v)] Ai:=λc Ai h1 n=>by
  have x:=bO i hd (by intro z;cases z);refine vI T e m h1 (by rw[n d x.symm];exact hd) (λb e1 _=>n b e1) λC y B D=>k C ⟨⟨X,?_⟩,B⟩ D;rw[y];have:((ax g).add v).runs=(ax g).runs+1:=by simp only[Ty.add];rw[mu c]
  rw[←this]
 by_cases E:(ax g).length=0
 ·rw[fo (show V.int ((ax g).length:gV)=V.int 0 by rw[E];rfl)];refine aw (aw ⟨_,Y,p,A.az,X,_,_,Y,i,T.aQ,T.mD,Y,_,_,Y,Y,X,_,i,by show 8<1000;decide,?_⟩);exact l (.inl E) _ af λb I=>ag I
 ·rw[dV (show ¬ V.int ((ax g).length:gV)=V.int 0 by intro z;injection z with z;omega)];refine ak ⟨_,Y,_,Y,p,A.az,X,_,_,Y,i,T.aQ,T.kS,Y,X' _ _,_,Y,?_⟩;rw[Q_];by_cases q:v=(ax g).last
  ·rw[fo q];refine vI (r:=(ax g).runs) T e m i hd (λb _ _=>rfl) λC y B D=>k C ⟨⟨X,?_⟩,B⟩ D;rw[y];have:((ax g).add v).runs=(ax g).runs:=by
    simp only[Ty.add];rw[ks (λz=>z.elim E λz=>z q)]
   rw[←this]
  ·rw[dV q];refine aw ⟨_,Y,p,A.az,X,_,_,Y,i,T.aQ,T.mD,Y,_,_,Y,Y,X,_,i,by show 8<1000;decide,?_⟩;exact l (.inr q) _ af λb I=>ag I
inductive kq(Aj:ce)(Ao:Ty->OI)(a:U V)(H:Hp)(Q:VK)(_E:XK):Prop
 |i(p d:ce)(y:Ty)(_:a=[.ref p])(_:fG Aj H p d y)(_:MZ y)(_:Q (ov (Ao y)) H)
theorem zpP:cn ["self","entries"] ["self"] (aR sX):=by walk_at "sc"
theorem rS{i:gV}(h:n<=1000):lZ i (n:gV):=.inr ⟨by lia,by lia⟩
theorem YD(T:Txt K G A)(i:uG P w K G u q_ 1 "needed" ["number"] js)(F:vr K "book_room" "Tally.book_room" sX f Ag):
  ap P w K G u q_ 3 f Ag ["self"] (kq A.az λy=>if 64<y.book.length then .none else O (6+24 * (y.book.length:gV)+(aJ (y.book.length - 1):gV) * y.length)):=by
 refine F.o ["self","entries"] λj l An a s H q Q Ah m h=>?_;obtain⟨p,d,y,rfl,⟨⟨X,b⟩,hd⟩,g,k⟩:=h;refine⟨_,ao (aK (i:=1) j Y (gS Y) (aL jP (by rfl) T.bu PyProof.Rows.Boot.«len» (aa (cO (pv 0) Y) ae)))
  (ao (aN (aE e9 (pv 1) (bi T.zfY) (aC _)) (aj (aA bL)) aO)
  (aj (aA (aq aU (aq aU (bi T.q8) (aq d7 (bi T.ik) (pv 1))) (aq d7 (i.pe m av (aa (aq cJ (pv 1) ah) ae)) (cO (pv 0) Y)))))),?_⟩
 have n:(bk y.book).length=y.book.length:=by simp[bk]
 refine⟨_,Y,p,A.az,X,_,_,Y,b,T.aQ,T.qi,Y,d,_,Y,hd,?_⟩;rw[n];refine⟨_,Y,_,_,Y,Y,_,Y,?_⟩;by_cases c:64<y.book.length
 ·rw[fo (show (64)<(y.book.length:gV) by omega)];rw[mu c]at k;exact k
 ·rw[dV (show ¬ (64)<(y.book.length:gV) by omega)];rw[ks c]at k;refine ak ⟨_,Y,_,_,Y,Y,.inl ⟨by decide,by decide⟩,_,_,Y,Y,_,Y,_,_,Y,Y,_,Y,?_,?_⟩
  ·have:=g.pos;omega
  refine⟨_,Y,p,A.az,X,_,_,Y,b,T.aQ,T.gw,Y,_,_,Y,Y,rS g.len,_,_,Y,Y,?_⟩;have e:((y.book.length:gV) - 1).toNat=y.book.length - 1:=by omega
  rw[e];exact k
theorem zpN:cn ["self","highest"] ["self"] (aR sW):=by walk_at "sc"
theorem WR(T:Txt K G A)(m:uG P w K G u q_ 1 "needed" ["number"] js)(F:vr K "base_room" "Tally.base_room" sW f Ag):
  ap P w K G u q_ 3 f Ag ["self"] (kq A.az λy=>O (24+5+(aJ (ji y).toNat:gV) * y.length)):=by
 refine F.o ["self","highest"] λn q An i s H x Q Ah r h=>?_;obtain⟨p,d,y,rfl,⟨⟨X,g⟩,hd⟩,j,k⟩:=h;refine⟨_,ao (aK (i:=1) n Y (gS Y) (dA (aE dI (cO (pv 0) Y) bL (aC _)) ah (aq aU (aq cJ (cO (pv 0) Y) (cO (pv 0) Y)) ah)))
  (aj (aA (aq aU (aq aU (bi T.ik) (bi T.lj)) (aq d7 (m.pe r av (aa (pv 1) ae)) (cO (pv 0) Y))))),?_⟩
 refine⟨_,Y,p,A.az,X,_,_,Y,g,T.aQ,T.i8,Y,Y,_,Y,?_⟩;rcases j.hi with⟨c,l⟩ |⟨a,b,c,l,v⟩
 ·rw[c];have e:ji y=0:=by simp[ji,c]
  rw[e]at k;refine⟨_,_,Y,Y,_,Y,_,Y,by decide,_,Y,p,A.az,X,_,_,Y,g,T.aQ,T.gw,Y,_,_,Y,Y,rS j.len,_,_,Y,Y,?_⟩;exact k
 ·rw[c];have e:ji y=b - a+1:=by simp[ji,c,l]
  rw[e]at k;refine⟨_,Y,p,A.az,X,_,_,Y,g,T.aQ,T.jM,Y,_,Y,p,A.az,X,_,_,Y,g,T.aQ,T.i8,Y,_,_,(by rw[l];rfl),(by rw[c];rfl),_,_,Y,Y,?_⟩;refine⟨_,_,Y,Y,_,Y,_,Y,by omega,_,Y,p,A.az,X,_,_,Y,g,T.aQ,T.gw,Y,_,_,Y,Y,rS j.len,_,_,Y,Y,?_⟩;exact k
theorem zpZ:cn ["self"] ["self"] (aR tm):=by walk_at "sc"
theorem zk5(T:Txt K G A)(g:uG P w K G u q_ 1 "needed" ["number"] js)(F:vr K "steps_room" "Tally.steps_room" tm f Ag):
  ap P w K G u q_ 3 f Ag ["self"] (kq A.az λy=>if y.none=c0 then .none else O (24+5+(aJ y.widest.toNat:gV) * ((y.length:gV) - 1))):=by
 refine F.o ["self"] λl i An a s H m Q Ah j h=>?_;obtain⟨p,d,y,rfl,⟨⟨X,b⟩,hd⟩,e,k⟩:=h;refine⟨_,ao (aN (cR (cO (pv 0) Y)) (aj (aA bL)) aO)
  (aj (aA (aq aU (aq aU (bi T.ik) (bi T.lj)) (aq d7 (g.pe j av (aa (cO (pv 0) Y) ae)) (aq cJ (cO (pv 0) Y) ah))))),?_⟩
 refine⟨_,Y,p,A.az,X,_,_,Y,b,T.aQ,T.mB,Y,_,Y,?_⟩;cases c:y.none with
 |true=>
  rw[mu c]at k;exact aw k
 |false=>
  rw[ks (by rw[c];exact kC)]at k;have n:=e.len;refine ak ⟨_,_,Y,Y,_,Y,p,A.az,X,_,_,Y,b,T.aQ,T.mE,Y,_,Y,e.wid,_,Y,p,A.az,X,_,_,Y,b,T.aQ,T.gw,Y,_,_,Y,Y,_,_,Y,Y,.inr ⟨by omega,by omega⟩,_,_,Y,Y,?_⟩;exact k
inductive oM(Aj:ce)(a:U V)(H:Hp)(Q:VK)(_E:XK):Prop
 |i(p d:ce)(y:Ty)(_:a=[.ref p])(_:fG Aj H p d y)(_:MZ y)(_:∀(l:ce)(C:Hp),ad H C->H l=cx->C l=O (.lst ((bM y).map ov))->Q (.ref l) C)
theorem zpY:cn ["self","bodies"] ["self"] (aR tf):=by walk_at "sc"
theorem V1:(["body"]:U hO).Nodup:=by decide +kernel
theorem Sf(T:Txt K G A)(J:aZ P w K G u q_ 3 A.az "book_room" ["self"] (kq A.az λy=>if 64<y.book.length then .none else O (6+24 * (y.book.length:gV)+(aJ (y.book.length - 1):gV) * y.length)))(L:aZ P w K G u q_ 3 A.az "base_room" ["self"] (kq A.az λy=>O (24+5+(aJ (ji y).toNat:gV) * y.length)))(M:aZ P w K G u q_ 3 A.az "steps_room" ["self"] (kq A.az λy=>if y.none=c0 then .none else O (24+5+(aJ y.widest.toNat:gV) * ((y.length:gV) - 1))))(F:vr K "rooms" "Tally.rooms" tf f Ag):ap P w K G u q_ 4 f Ag ["self"] (oM A.az):=by
 obtain⟨f1,N,R,S,Z⟩:=J;obtain⟨f2,A0,G2,m2,b2⟩:=L;obtain⟨f3,A1,G3,m3,b3⟩:=M;refine F.o ["self","bodies"] λnN A2 An j s H vs Q Ah m h=>?_;obtain⟨p,d,y,rfl,TA,n,k⟩:=h;obtain⟨⟨X,c⟩,hd⟩:=id TA;refine⟨_,ao (aK (i:=1) nN Y (gS Y) (cP (aa (aq d7 (bi T.ik) (cO (pv 0) Y)) (aa (aq aU (bi T.zf2) (aq d7 (aq aU (bi T.ik) (bi T.zf3)) (cO (pv 0) Y)))
   (aa (gj (pv 0) T.aQ S R m Z .nil av) (aa (gj (pv 0) T.aQ m2 G2 m b2 .nil av) (aa (gj (pv 0) T.aQ m3 G3 m b3 .nil av) ae)))))))
  (aj (aA (n9 (fr:=[cx]) ⟨Y,Y,Y,Y,Y,Y⟩ Y (bV (pv 1))
   (λAj Ap s H=>⟨aH (i:=0) V1 Y (gS Y),bn,dA (aE dI (pv 0) bL (aC _)) bL (aq aU (aq aU (bi T.re) (bi T.rf)) (pv 0))⟩)))),?_⟩
 refine⟨_,Y,p,A.az,X,_,_,Y,c,T.aQ,T.gw,Y,_,_,Y,Y,.inl ⟨by decide,by decide⟩,?_⟩;refine⟨_,_,Y,Y,_,Y,p,A.az,X,_,_,Y,c,T.aQ,T.mD,Y,_,_,Y,Y,.inl ⟨by decide,by decide⟩,_,_,Y,Y,?_⟩;refine⟨_,Y,p,X,_,Y,c,Y,p,d,y,Y,TA,n,?_⟩;refine⟨_,Y,p,X,_,Y,c,Y,p,d,y,Y,TA,n,?_⟩;refine⟨_,Y,p,X,_,Y,c,Y,p,d,y,Y,TA,n,?_⟩;refine⟨by show 5<=fx;decide,λl hl=>?_⟩;have r:(upd H l (.lst ((dP y).map ov))) l=O (.lst ((dP y).map ov)):=af;have B:ad H (upd H l (.lst ((dP y).map ov))):=ay (ad.refl H) hl;refine⟨_,Y,l,Y,⟨_,.of r⟩,cE (E:=(dP y).map ov) (λi acc C=>ad (upd H l (.lst ((dP y).map ov))) C/\acc=(((dP y).take i).map λo=>ov (iz o))) ⟨ad.refl _,Y⟩ ?_ ?_ ?_ ?_⟩
 ·rintro i acc C hi ⟨b,rfl⟩;refine⟨.of (b _ _ r),?_⟩;rw[bd,gv];omega
 ·show 5<=fx;decide
 ·rintro i x acc C D a ⟨b,rfl⟩;rw[bd]at a;have ex:(dP y)[i]?=O (dP y)[i]:=by simp[a]
  rw[cc,ex]at D;cases D;refine⟨Wk.set Y,tT ?_⟩;have g:∀v,v=ov (iz (dP y)[i])->∃E,E<((dP y).map ov).length - i/\CW ((dP y).map ov).length (λi acc C=>ad (upd H l (.lst ((dP y).map ov))) C/\acc=(((dP y).take i).map λo=>ov (iz o))) (i+1) E ((((dP y).take i).map λo=>ov (iz o))++[v]) C:=λv e=>by
   refine cw (by rw[bd];exact a) ⟨b,?_⟩;rw[ke,ex,dn,e];rfl
  refine⟨_,Y,Y,_,Y,?_⟩;cases e:(dP y)[i]with
  |none=>
   refine aw (g _ ?_);rw[e];rfl
  |some z=>
   refine ak ⟨_,_,Y,Y,_,Y,_,_,Y,Y,g _ ?_⟩;rw[e];rfl
 ·rintro acc C ⟨b,rfl⟩ q I;refine k q _ (ay (B.trans b) I) ((B.trans b).free I) ?_;rw[af];rw[bM];rfl
theorem Z9  : ∀n,n<=g.length->0<=(ax (g.take n)).widest:=by
 intro n;induction n with
 |zero=>intro _;simp[kE,Ty.zero]
 |succ n a=>
  intro h;rw[gQ h];have a:=a (by exact f' ‹_›);show 0<=(match at' g n with
   |.none=>(ax (g.take n)).widest
   |.some i=>if 0<(ax (g.take n)).length/\(ax (g.take n)).none=d_ then (if bW (i - (ax (g.take n)).last.getD 0) > (ax (g.take n)).widest then bW (i - (ax (g.take n)).last.getD 0) else (ax (g.take n)).widest) else (ax (g.take n)).widest)
  cases at' g n with
  |none=>exact a
  |some i=>
   have:=qQ (i - (ax (g.take n)).last.getD 0);dsimp only
   split
   ·split <;> assumption
   ·exact a
theorem u5(h:0<g.length)(d:g.length<=1000):MZ (ax g) where
 pos:=by
  have:=uY g.length (dv _);rw[gl]at this;rw[this];exact xt h
 bl:=by
  have:=uY g.length (dv _);rw[gl]at this;exact this ▸ (jE (qR _ _) d)
 len:=by rw[oZ];exact d
 hi:=by
  have:=XH g.length (dv _);rw[gl]at this;obtain⟨i,j⟩:=this;rw[i,j];cases e:bb g with
  |nil=>exact .inl ⟨Y,Y⟩
  |cons x r=>
   obtain⟨a,f⟩:=ly (l:=x::r) (by simp);have c:∃b,eO (x::r)=O b:=⟨_,Y⟩
   obtain⟨b,c⟩:=c;exact .inr ⟨a,b,f,c,jk f b (nG c)⟩
 wid:=by
  have:=Z9 g.length (dv _)
  simp_all
def fix(l:U OI)(v:OI):ft:=match l with
 |[]=>0
 |x::r=>if x=v then 0 else fix r v+1
theorem xh:∀{l:U OI}{v:OI},v∈l->l[fix l v]?=O v
 |x::r,v,h=>by
  unfold fix;by_cases e:x=v
  ·rw[mu e];simp[e]
  ·rw[ks e];have:v∈r:=by
    grind
   simpa using xh this
theorem xi:∀{l:U OI}{v:OI}{m:ft}{z:OI},m<fix l v->l[m]?=O z->z≠v
 |x::r,v,m,z,h,hz=>by
  unfold fix at h;by_cases e:x=v
  ·simp_all
  ·rw[ks e]at h;cases m with
   |zero=>simp at hz;exact hz ▸ e
   |succ m=>exact xi (l:=r) (m:=m) (by exact Nat.lt_of_succ_lt_succ ‹_›) (by assumption)
theorem zm7  : ∃M,cG (bb (bM y))=O M/\O M∈bM y:=by
 have a:bb (bM y)≠[]:=by simp[bb,bM,dP,iz]
 obtain⟨M,b⟩:=ly a;exact⟨M,b,j4.mp (lx b)⟩
theorem tQ{d:ce}(s:ad H C)(h:fG Aj H p d y):fG Aj C p d y:=by
 obtain⟨⟨X,a⟩,b⟩:=h;exact⟨⟨X,s _ _ a⟩,s _ _ b⟩
inductive uw(Aj:ce)(a:U V)(H:Hp)(Q:VK)(_E:XK):Prop
 |i(p d:ce)(y:Ty)(M:gV)(_:a=[.ref p])(_:fG Aj H p d y)(_:MZ y)(_:cG (bb (bM y))=O M)(_:∀C,ad H C->Q (.int M) C)
theorem zpV:cn ["self"] ["self"] (aR sZ):=by walk_at "sc"
theorem WM:(["found"]:U hO).Nodup:=by decide +kernel
theorem Xg(T:Txt K G A)(v:aZ P w K G u q_ 4 A.az "rooms" ["self"] (oM A.az))(F:vr K "least_room" "Tally.least_room" sZ f Ag):ap P w K G u q_ 5 f Ag ["self"] (uw A.az):=by
 obtain⟨f1,B,D,E,I⟩:=v;refine F.o ["self"] λnN J An g s H vs Q Ah L h=>?_;obtain⟨p,d,y,M,rfl,TA,N,j,k⟩:=h;obtain⟨⟨X,R⟩,hd⟩:=id TA;refine⟨_,aj (aA (aL (wv Y) (by rfl) T.rX PyProof.Rows.Boot.«min» (aa
  (n9 (fr:=[cx]) ⟨Y,Y,Y,Y,Y,Y⟩ Y (bV (gj (pv 0) T.aQ E D L I .nil av))
   (λAj Ap s H=>⟨aH (i:=0) WM Y (gS Y),kg (aE yZ (pv 0) bL (aC _)),pv 0⟩)) ae))),?_⟩
 refine⟨_,Y,p,X,_,Y,R,Y,p,d,y,Y,TA,N,λl Ai S Z m=>?_⟩;refine⟨l,Y,⟨_,.of m⟩,cE (E:=(bM y).map ov) (λi acc C=>ad Ai C/\acc=(bb ((bM y).take i)).map V.int) ⟨ad.refl _,Y⟩ ?_ ?_ ?_ ?_⟩
 ·rintro i acc C hi ⟨b,rfl⟩;refine⟨.of (b _ _ m),?_⟩;rw[bd];have h1:(bb ((bM y).take i)).length<=((bM y).take i).length:=Hn _ _;rw[gv]at h1;omega
 ·show 5<=fx;decide
 ·rintro i x acc C n a ⟨b,rfl⟩;have c:i<(bM y).length:=by rwa[bd]at a
  have ex:(bM y)[i]?=O (bM y)[i]:=by simp[c]
  rw[cc,ex]at n;cases n;have r:(bM y).take (i+1)=(bM y).take i++[(bM y)[i]]:=by rw[ke,ex];rfl
  refine⟨Wk.set Y,_,Y,Y,_,Y,?_⟩;cases e:(bM y)[i]with
  |none=>
   refine ak (cw a ⟨b,?_⟩);rw[r,e,tW]
  |some z=>
   refine aw ⟨_,Y,cw a ⟨b,?_⟩⟩;rw[r,e,tX,dn];rfl
 ·rintro acc C ⟨b,rfl⟩ q hq;refine⟨q,bb (bM y),M,Y,.of ?_,lx j,jk j,k _ (ay (S.trans b) hq)⟩;rw[af,bd,gl]
inductive uM(K:fy)(Aj:ce)(a:U V)(H:Hp)(Q:VK)(_E:XK):Prop
 |i(p:ce)(g:U OI)(_:a=[.ref p])(_:n7 K H p (g.map ov))(_:g.length<=1000)(_:∀(q d:ce)(C:Hp),ad H C->fG Aj C q d (ax g)->Q (.ref q) C)
theorem zp0:cn ["values","tally","value"] ["values"] (aR tM):=by walk_at "sc"
theorem Yd(T:Txt K G A)(L:iA P w K G u q_ 1 A.az ["self"] (uo A.az))(M:aZ P w K G u q_ 4 A.az "add" ["self","value"] (tZ A.az))(F:vr K "tally_of" "tally_of" tM f Ag):
  ap P w K G u q_ 5 f Ag ["values"] (uM K A.az):=by
 obtain⟨fI,N,GI,R,S⟩:=L;obtain⟨fA,Z,GA,mA,bA⟩:=M;refine F.o ["values","tally","value"] λB A0 An j s H vs Q Ah C h=>?_;obtain⟨p,g,rfl,E,hl,k⟩:=h;refine⟨_,ao (aK (i:=1) B Y (gS Y) (sk R GI (C.mono (by decide)) Y T.xy S .nil av))
  (ao (zk qw Y (bV (pv 0)) (aH (i:=2) B Y (gS Y)) (aj (bf (bp (pv 1) T.aQ mA GA C bA .nil av (aa (pv 2) ae)))))
  (aj (aA (pv 1)))),?_⟩
 intro x X l m A1;refine⟨x,X,Y,af,λd Ai n D1 kp=>⟨Y,?_⟩⟩;have I:ad H (upd (upd H X (.own x)) x (.ins A.az X [])):=λb o e=>by
  rw[ag (aF e l),ag (aF e m)];exact e
 have a:=I.free n;have J:ad H Ai:=λb o e=>by
  rw[kp b (aF e l) (aF e a)];exact I b o e
 refine⟨_,Y,p,Y,⟨_,J.seq E⟩,jV (K:=K) (λi σ Am=>∃v:eH V,σ=[O (.ref p),O (.ref x),v]/\ad H Am/\fG A.az Am x d (ax (g.take i)))
  ⟨cx,Y,J,D1⟩ (λi σ Am _ ⟨_,_,c,_⟩=>c.seq E) ?_ ?_⟩
 ·rintro i y σ Am q ⟨v,rfl,c,D⟩;have r:i<g.length:=by
   have:=(cs.mp q).1
   rwa[bd]at this
  have ex:g[i]?=O g[i]:=by simp[r]
  rw[cc,ex]at q;cases q;obtain⟨⟨dy,h1⟩,hd⟩:=id D;refine⟨_,Y,x,dy,_,Y,h1,Y,_,Y,x,d,g.take i,g[i],Y,D,?_,λH3 D3 z=>?_⟩
  ·rw[gv];omega
  ·refine⟨_,Y,λb o e=>?_,?_⟩
   ·rw[z b (aF e l) (aF e a)];exact c b o e
   ·rw[ke,ex];exact D3
 ·rintro σ Am ⟨v,rfl,c,D⟩;rw[bd,gl]at D;exact⟨_,Y,k x d Am c D⟩
theorem ip:bH.Nodup:=by decide +kernel
theorem xS(h:bH[j]?=O x):(∃z,dG[j]?=O z/\Es z (.str x)=c0)/\∀m z,m<j->dG[m]?=O z->Es z (.str x)=d_:=by
 constructor
 ·refine⟨.str x,?_,by simp[Es]⟩
  delta dG
  simp_all
 ·intro m z a hz
  delta dG at hz
  rw[cc]at hz;cases e:bH[m]? with
  |none=>rw[e]at hz;cases hz
  |some y=>
   rw[e]at hz;cases hz;have:y≠x:=λq=>by
    subst q;exact hQ (e7 ip e h) (g_ a)
   simpa[Es]using this
theorem gJ(h:Fx g=c0):0<g.length:=by
 simp only[Fx,sB,CB]at h
 lia
inductive Q6(K:fy)(A:Ad)(a:U V)(H:Hp)(Q:VK)(Ah:XK):Prop
 |i(p:ce)(g:U OI)(x:hO)(_:a=[.str x,.ref p])(_:n7 K H p (g.map ov))(_:g.length<=1000)(_:(Fx g=d_->∀C,ad H C->Ah (.ref A.dS) cx C))(_:(Fx g=c0->x∉bH->∀C,ad H C->Ah (.ref A.fN) cx C))(_:(Fx g=c0->∀j,bH[j]?=O x->∀C,ad H C->Q (ov ((bM (ax g)).getD j .none)) C))
theorem zpX:cn ["kind","values"] ["kind","values"] (aR tL):=by walk_at "sc"
theorem Zg(T:Txt K G A)(B:uG P w K G u (yl P w) 5 "check_block" ["values"] (ud K A))(C:uG P w K G u (yl P w) 1 "check_kind" ["kind"] (NZ A))(D:uG P w K G u q_ 5 "tally_of" ["values"] (uM K A.az))(E:aZ P w K G u q_ 4 A.az "rooms" ["self"] (oM A.az))(F:vr K "room" "room" tL f Ag):ap P w K G u (yl P w) 6 f Ag ["kind","values"] (Q6 K A):=by
 obtain⟨f4,I,J,L,M⟩:=E;refine F.oX ["kind","values"] λnN N An c s H vs Q Ah b h=>?_;obtain⟨p,g,x,rfl,y,e,R,S,Z⟩:=h;refine⟨_,ao (bf (B.pe b bU (aa (pv 1) ae))) (ao (bf (C.pe b bU (aa (pv 0) ae)))
  (aj (aA (aG xN (gj (D.pe b av (aa (pv 1) ae)) T.aQ L J (b.mono (by decide)) M .nil av)
   (si G9 GB GC yk (dJ T.jX) (aa (pv 0) ae)) (λ_ _=>rfl))))),?_⟩
 refine⟨_,Y,p,g,Y,y,e,λa Ai i=>?_,R⟩;refine⟨_,Y,x,Y,λm=>?_,λm=>S a m Ai i⟩;obtain⟨j,n⟩:=oT m;obtain⟨q1,q2⟩:=xS n;refine⟨_,Y,p,g,Y,i.seq y,e,λq d Am s2 z=>?_⟩;obtain⟨⟨X,h2⟩,A0⟩:=id z;refine⟨q,X,_,Y,h2,Y,q,d,ax g,Y,z,u5 (gJ a) e,λl H3 s3 A1 h3=>?_⟩;refine⟨.inr (.inl ⟨Y,T.xR⟩),_,Y,A.fL,dG,.str x,j,Y,Y,T.j0 _,Y,Y,q1,q2,?_⟩;refine⟨l,_,(j),ov ((bM (ax g)).getD j .none),Y,Y,.of h3,dX ?_,Z a j n H3 ((i.trans s2).trans s3)⟩;have r:j<5:=by
  have:=(cs.mp n).1;exact this
 have v:j<(bM (ax g)).length:=r;rw[cc];simp[ v]
def cT(g:U OI):ft:=fix (bM (ax g)) (cG (bb (bM (ax g))))
inductive OB(K:fy)(A:Ad)(a:U V)(H:Hp)(Q:VK)(Ah:XK):Prop
 |i(p:ce)(g:U OI)(_:a=[.ref p])(_:n7 K H p (g.map ov))(_:g.length<=1000)(_:(Fx g=d_->∀C,ad H C->Ah (.ref A.dS) cx C))(_:(Fx g=c0->∀C,ad H C->Q (.str (bH.getD (cT g) "")) C))
theorem zpO:cn ["values","tally"] ["values"] (aR tu):=by walk_at "sc"
theorem qx(g:U OI):∃M,cG (bb (bM (ax g)))=O M/\(bM (ax g))[cT g]?=O (O M)/\∀m z,m<cT g->(bM (ax g))[m]?=O z->z≠O M:=by
 obtain⟨M,a,c⟩:=zm7;refine⟨M,a,?_,λm z b hz=>?_⟩
 ·delta cT;rw[a];exact xh c
 ·unfold cT at b;rw[a]at b;exact xi b hz
theorem Si(T:Txt K G A)(S:uG P w K G u (yl P w) 5 "check_block" ["values"] (ud K A))(Z:uG P w K G u q_ 5 "tally_of" ["values"] (uM K A.az))(C4:aZ P w K G u q_ 4 A.az "rooms" ["self"] (oM A.az))(C5:aZ P w K G u q_ 5 A.az "least_room" ["self"] (uw A.az))(F:vr K "best_kind" "best_kind" tu f Ag):
  ap P w K G u (yl P w) 6 f Ag ["values"] (OB K A):=by
 obtain⟨f4,A0,G4,m4,b4⟩:=C4;obtain⟨f5,A1,G5,m5,b5⟩:=C5;refine F.oX ["values","tally"] λnN A2 An c s H vs Q Ah b h=>?_;obtain⟨p,g,rfl,B,i,k1,k2⟩:=h;refine⟨_,ao (bf (S.pe b bU (aa (pv 0) ae))) (ao (aK (i:=1) nN Y (gS Y) (Z.pe b av (aa (pv 0) ae)))
  (aj (aA (aG xP (dJ T.jX) (si mI De Df nM (gj (pv 1) T.aQ m4 G4 (b.mono (by decide)) b4 .nil av)
   (aa (gj (pv 1) T.aQ m5 G5 b b5 .nil av) ae)) (λ_ _=>rfl))))),?_⟩
 refine⟨_,Y,p,g,Y,B,i,λa Ai C=>?_,k1⟩;refine⟨_,Y,p,g,Y,C.seq B,i,λq d Am s2 j=>?_⟩;obtain⟨⟨X,h2⟩,A3⟩:=id j;have D:=u5 (gJ a) i;obtain⟨M,hM,E,n⟩:=qx g;refine⟨_,Y,q,X,_,Y,h2,Y,q,d,ax g,Y,j,D,λl H3 I A4 J=>?_⟩;have L:=tQ I j;obtain⟨⟨r,v⟩,A5⟩:=id L;refine⟨.inl ⟨Y,_,.of J⟩,_,Y,q,r,_,Y,v,Y,q,d,ax g,M,Y,L,D,hM,λH4 N=>?_⟩;have x:=(cs.mp E).1;refine⟨l,_,.int M,cT g,Y,Y,N _ _ J,WD _,Y,⟨ov (O M),by rw[cc,E];rfl,by show Es (.int M) (.int M)=c0;simp[Es]⟩,λm z hm hz=>?_,?_⟩
 ·rw[cc]at hz;cases e:(bM (ax g))[m]? with
  |none=>rw[e]at hz;cases hz
  |some R=>
   rw[e]at hz;cases hz;show Es (ov R) (ov (O M))=d_;rw[zlA];exact dV (n m R hm e)
 ·refine⟨A.fL,dG,(cT g),.str (bH.getD (cT g) ""),Y,Y,T.j0 _,dX ?_,k2 a H4 (((C.trans s2).trans I).trans N)⟩;have y:cT g<bH.length:=x;unfold dG;rw[cc];simp[ y]
def cell(J:U gV)(k:gV):gV:=if J=[] then 0 else J.getD (k % (J.length:gV)).toNat 0
def yd(J:U gV)(k:gV):gV:=(cell J k+104729 * (k+1)) % 4294967291 * 48271 % 4294967279
def mix(J:U gV)(k:gV):gV:=(yd J k / 64 * 69621+yd J k) % 4294967231
inductive Oh(K:fy)(a:U V)(H:Hp)(Q:VK)(_E:XK):Prop
 |i(p:ce)(J:U gV)(k:gV)(_:a=[.ref p,.int k])(_:n7 K H p (J.map V.int))(_:Q (.int (cell J k)) H)
theorem zkq(T:Txt K G A)(F:vr K "_law_cell" "_law_cell" OQ f Ag):ap P w K G u q_ 1 f Ag ["_law_script","_law_k"] (Oh K):=by
 refine F.o ["_law_script","_law_k"] λi g An a s H j Q Ah l h=>?_;obtain⟨p,J,k,rfl,b,q⟩:=h;refine⟨_,(ao (aN (Sw K (pv 0)) (aj (aA (aG (bF K) (pv 0) (aq b9 (pv 1) (aL (cD K) (by rfl) T.bu PyProof.Rows.Boot.«len» (aa (pv 0) ae))) (λ_ _=>rfl))))
   aO)
  (aj (aA ah))),?_⟩
 refine⟨_,Y,p,_,Y,b,?_⟩;cases J with
 |nil=>exact ak q
 |cons n r=>
  refine aw ?_;have d:0<((n::r).length:gV):=by rw[r_];omega
  have c:FY ((n::r).map V.int) (k % ((n::r).length:gV))=O (.int (cell (n::r) k)):=by
   refine cS (qc _ (by omega)) ?_;have m:=pU k d;have v:=qc k (b:=((n::r).length:gV)) (by omega);have e:(k % ((n::r).length:gV)).toNat<(n::r).length:=by omega
   rw[cc,cell,ks (by simp),a_ e];simp only[Fl,a_ e,FN,FV]
  refine⟨_,Y,_,Y,_,Y,p,_,Y,.inl b,_,_,Y,Y,by rw[bd];exact d,?_⟩;rw[bd];exact⟨p,_,_,_,Y,Y,b,c,q⟩
inductive jr(K:fy)(a:U V)(H:Hp)(Q:VK)(_E:XK):Prop
 |i(p:ce)(J:U gV)(k:gV)(_:a=[.ref p,.int k])(_:n7 K H p (J.map V.int))(_:Q (.int (mix J k)) H)
theorem VJ(T:Txt K G A)(a:uG P w K G u q_ 1 "_law_cell" ["_law_script","_law_k"] (Oh K))(F:vr K "_law_mix" "_law_mix" QA f Ag):ap P w K G u q_ 3 f Ag ["_law_script","_law_k"] (jr K):=by
 refine F.o ["_law_script","_law_k","_law_number"] λc d An b s H g Q Ah e h=>?_;obtain⟨p,J,k,rfl,i,q⟩:=h;refine⟨_,(ao (aK (i:=2) c Y (gS Y) (aq b9 (aq aU (a.pe e av (aa (pv 0) (aa (pv 1) ae))) (aq d7 ah (aq aU (pv 1) ah))) ah))
  (ao (aK (i:=2) c Y (gS Y) (aq b9 (aq d7 (pv 2) ah) ah))
  (aj (aA (aq b9 (aq aU (aq d7 (aq gh (pv 2) ah) ah) (pv 2)) ah))))),?_⟩
 refine⟨_,Y,_,Y,_,_,_,Y,‹_›,_,Y,_,_,Y,Y,_,_,Y,Y,gS ⟨by decide,by decide⟩,_,_,Y,Y,_,_,Y,Y,by omega,_,Y,_,_,Y,Y,zs ⟨by decide,by decide⟩,_,_,Y,Y,by omega,_,Y,_,_,Y,Y,⟨by decide,by decide⟩,_,_,Y,Y,zs ⟨by decide,by decide⟩,_,Y,_,_,Y,Y,_,_,Y,Y,by omega,?_⟩;exact q
theorem Fo(h:n<=10000):n<fx:=Cd h (by decide)
theorem Tb(g:U OI):∀n,Mz g (n+1)<=n
 |0=>by simp[Mz]
 |n+1=>by
  have:=Tb g n;rw[Mz]
  split <;> omega
theorem iY(g:U OI):∀n,(FH g (n+1)).length=n
 |0=>by simp[FH]
 |n+1=>by
  have:=iY g n;rw[FH,mu (by exact L7 _),gT,this];rfl
theorem getD_at'(h:i<g.length):g[i]?=O (at' g i):=by
 simp only[a_ h,J7 (a_ h)]
theorem Uz(a:v∈g):0<=above ((cG (bb g)).getD 0) v:=by
 cases v with
 |none=>simp[above]
 |some i=>
  obtain⟨m,b⟩:∃m,cG (bb g)=O m:=by
   cases e:bb g with
   |nil=>have:=j4.mpr a;rw[e]at this;cases this
   |cons x r=>exact⟨_,Y⟩
  have:=jk b i (j4.mpr a);simp[above,b];lia
theorem Yj(b : .none∉g)(h:i<g.length):∃a,at' g i=O a:=by
 cases e:at' g i with
 |none=>
  have:g[i]?=O .none:=by rw[getD_at' h,e]
  exact hQ (eT this) b
 |some a=>exact⟨a,Y⟩
theorem WP(g:U OI):(ax g).none=c0↔.none∈g:=by
 have:=Qf (g:=g) g.length (dv _)
 rwa[gl]at this
theorem uQ(a:hO):decide (V.str a=V.str a)=c0:=fo Y
theorem kr{a b:hO}(h:a≠b):decide (V.str a=V.str b)=d_:=dV λz=>h (V.str.inj z)
theorem xg(h:bH[j]?=O x):(j=0/\x = "plain")\/(j=1/\x = "runs")\/(j=2/\x = "book")\/(j=3/\x = "base")\/(j=4/\x = "steps"):=by
 match j,h with
 |0,h=>exact .inl ⟨Y,(kn h).symm⟩
 |1,h=>exact .inr (.inl ⟨Y,(kn h).symm⟩)
 |2,h=>exact .inr (.inr (.inl ⟨Y,(kn h).symm⟩))
 |3,h=>exact .inr (.inr (.inr (.inl ⟨Y,(kn h).symm⟩)))
 |4,h=>exact .inr (.inr (.inr (.inr ⟨Y,(kn h).symm⟩)))
 | (j+5),h=>cases h
def rm(g:U OI)(j:ft):OI:=(bM (ax g)).getD j .none
def ic(As:U OI):gV:=(cG (bb (bM (ax As)))).getD 0
theorem Ya(h:cG (bb (bM (ax As)))=O M):M=ic As:=by delta ic;rw[h];rfl
theorem Ru(As:U OI):cG (bb (bM (ax As)))=O (ic As):=Y
def lr(g:U OI)(b e:ft):gV:=ic ((g.drop b).take (e - b))
def ki(g:U OI)(b:ft):U gV:=(rd (g.length - b)).map λk=>ic ((g.drop b).take (k+1))
theorem S0{b:ft}(a:b<e)(c:e<=g.length):(ki g b)[e - b - 1]?=O (lr g b e):=by
 delta ki lr
 rw[cc,Fn (by lia)]
 grind
def jj(l:U gV):gV:=(cG l).getD 0
theorem yc(h:l≠[]):jj l∈l:=by
 obtain⟨m,a⟩:=ly h
 delta jj;exact a ▸ (lx a)
theorem Zp  : ∀i∈l,jj l<=i:=λi a=>by
 obtain⟨m,b⟩:=ly (List.ne_nil_of_mem a)
 delta jj;exact b ▸ (jk b i a)
def Hs(g:U OI):ft->U gV
 |0=>[0]
 |k+1=>Hs g k++[jj ((rd (k+1)).map λb=>(Hs g k).getD b 0+lr g b (k+1))]
theorem lJ(g:U OI):∀k,(Hs g k).length=k+1
 |0=>rfl
 |k+1=>by simp only[Hs,gT,lJ g k];rfl
def pr(g:U OI)(j:ft):gV:=(Hs g j).getD j 0
theorem sy(g:U OI):∀k j,j<=k->(Hs g k)[j]?=O (pr g j)
 |0,j,h=>by
  have:j=0:=by exact Ig ‹_›
  subst this;rfl
 |k+1,j,h=>by
  by_cases b:j=k+1
  ·subst b
   delta pr
   have a:k+1<(Hs g (k+1)).length:=by rw[lJ];exact Nat.lt_succ_of_le ‹_›
   simp[ a]
  ·have a:j<(Hs g k).length:=by rw[lJ];exact FD ‹_› ‹_›
   simp only[Hs,kI a];exact sy g k j (by lia)
theorem zh(h:j<=k):(Hs g k).getD j 0=pr g j:=by
 simp[ sy g k j h]
theorem oq(g:U OI)(k:ft):pr g (k+1)=jj ((rd (k+1)).map λb=>pr g b+lr g b (k+1)):=by
 have e:pr g (k+1)=jj ((rd (k+1)).map λb=>(Hs g k).getD b 0+lr g b (k+1)):=by
  show (Hs g k++[_]).getD (k+1) 0=_;simp[Fl,(lJ g k)]
 simp only[e]
 congr 1
 apply BW;intro b a;rw[zh (by have:=Dw.mp a;exact J1 ‹_›)]
theorem Zk(g:U OI)(h:0<e):∃b,b<e/\pr g b+lr g b e=pr g e:=by
 obtain⟨k,rfl⟩:∃k,e=k+1:=⟨e - 1,by exact JR (FG ‹_›)⟩
 have a:pr g (k+1)∈(rd (k+1)).map λb=>pr g b+lr g b (k+1):=by
  rw[oq];exact yc (by simp)
 simp_all
def Ex(g:U OI):n_:=decide (g.length<=8) && g.all Et
theorem lC(h:Ex g=c0):g.length<=8:=by
 simp only[Ex,sB,CB]at h;exact h.1
theorem iS(h:Ex g=c0):g.length<=64:=jE (lC h) (by decide)
inductive QB(K:fy)(A:Ad)(a:U V)(H:Hp)(Q:VK)(Ah:XK):Prop
 |i(p:ce)(g:U OI)(_:a=[.ref p])(_:n7 K H p (g.map ov))(_:g.length<=8)(_:(Ex g=c0->∀C,ad H C->Q .non C))(_:(Ex g=d_->∀C,ad H C->Ah (.ref A.dS) cx C))
theorem Y9(T:Txt K G A)(i:uG P w K G u q_ 3 "are_values" ["values"] (uc K))(F:vr K "check_column" "check_column" Qi f Ag):ap P w K G u (yl P w) 4 f Ag ["values"] (QB K A):=by
 refine F.oX ["values"] λv j An a s H x Q Ah l h=>?_;obtain⟨p,g,rfl,m,b,n,q⟩:=h;have r:(g.map ov).length=g.length:=bd _;refine⟨_,(aj (aN (PW.pt (fT (aE e9 (aL (cD K) (by rfl) T.bu PyProof.Rows.Boot.«len» (aa (pv 0) ae)) (bi T.xz) (aC _)) (gm (eD (cR (i.pe l av (aa (pv 0) ae))))))) (aj (c9 de T.zcx Y (by rfl) T.qU (aa au ae)))
   aO)),?_⟩
 refine⟨_,Y,_,_,Y,gS ‹_›,_,_,Y,Y,_,Y,?_⟩;rw[r];rw[dV (show ¬ (64)<(g.length:gV) by omega)];refine ak ⟨_,Y,p,g,Y,m,jE b (by decide),λC c=>⟨_,Y,?_⟩⟩;have e:Ex g=g.all Et:=by unfold Ex;rw[fo b,KD]
 cases d:g.all Et with
 |true=>exact ak (n (e.trans d) C c)
 |false=>exact aw ⟨by decide,q (e.trans d) C c⟩
theorem Gp(g:U OI){b:ft}(h:b<=g.length):dF (g.map ov) (O (b:gV)) cx=(g.drop b).map ov:=by
 delta dF
 rw[HT.Gr,HT.F6,bd,Cj h,←Fu,xv (by simp)]
inductive Q3(K:fy)(a:U V)(H:Hp)(Q:VK)(_E:XK):Prop
 |i(p:ce)(g:U OI)(b:ft)(_:a=[.ref p,.int b])(_:n7 K H p (g.map ov))(_:g.length<=1000)(_:b<g.length)(_:∀(l:ce)(C:Hp),ad H C->H l=cx->C l=O (.lst ((ki g b).map V.int))->Q (.ref l) C)
theorem Zb(T:Txt K G A)(CI:iA P w K G u q_ 1 A.az ["self"] (uo A.az))(CA:aZ P w K G u q_ 4 A.az "add" ["self","value"] (tZ A.az))(CL:aZ P w K G u q_ 5 A.az "least_room" ["self"] (uw A.az))(F:vr K "rooms_from" "rooms_from" Q2 f Ag):ap P w K G u q_ 6 f Ag ["values","begin"] (Q3 K):=by
 obtain⟨AH,AI,p7,rL,qu⟩:=CI;obtain⟨AJ,AK,A0,A1,A2⟩:=CA;obtain⟨AL,AM,A3,A4,A5⟩:=CL;refine F.o ["values","begin","tally","rooms","value"] λnN AN An A6 s H vs Q Ah hr h=>?_;obtain⟨p,g,b,rfl,hS,hl,hb,q⟩:=h;refine⟨_,(ao (aK (i:=2) nN Y (gS Y) (sk rL p7 (hr.mono (by decide)) Y T.xy qu .nil av))
  (ao (aK (i:=3) nN Y (gS Y) (cP ae))
  (ao (fg qw Y (bV (gk (tU K) (pv 0) (fe (pv 1)) iV)) (aH (i:=4) nN Y (gS Y))
   (ao (bf (bp (pv 2) T.aQ A1 A0 (hr.mono (by decide)) A2 .nil av (aa (pv 4) ae)))
  (aj (bf (cU K mI u4 uB jl (pv 3) (aa (gj (pv 2) T.aQ A4 A3 (hr.mono (by decide)) A5 .nil av) ae))))))
  (aj (aA (pv 3)))))),?_⟩
 intro x X nx A7 AO;refine⟨x,X,Y,af,λd Ai A8 D1 kp=>?_⟩;have s0:ad H (upd (upd H X (.own x)) x (.ins A.az X [])):=λb o e=>by
  rw[ag (aF e nx),ag (aF e A7)];exact e
 have B:H d=cx:=s0.free A8;have s1:ad H Ai:=λb o e=>by
  rw[kp b (aF e nx) (aF e B)];exact s0 b o e
 refine⟨Y,bI Y,?_⟩;intro l m;have n:=s1.free m;obtain⟨⟨dy,D⟩,E⟩:=id D1;have A9:x≠l:=aF D m;have AA:d≠l:=aF E m;have S:ad H (upd Ai l (.lst [])):=ay s1 m;have AB:=S.seq hS;have Z:fG A.az (upd Ai l (.lst [])) x d Ty.zero:=⟨⟨dy,by rw[ag A9];exact D⟩,by rw[ag AA];exact E⟩
 have h2:(upd Ai l (.lst [])) l=O (.lst []):=af;generalize upd Ai l (.lst [])=Am at S AB Z h2;refine⟨_,Y,_,Y,_,Y,_,_,Y,‹_›,?_⟩;intro j a;rw[Gp g (by omega)];have s3:ad Am (upd Am j (.lst ((g.drop b).map ov))):=ad.new a;have h3:(upd Am j (.lst ((g.drop b).map ov))) j=O (.lst ((g.drop b).map ov)):=af;have AC:j≠x:=λz=>by obtain⟨⟨_,e⟩,_⟩:=Z;rw[z,e]at a;cases a
 have AD:j≠d:=λz=>by obtain⟨_,e⟩:=Z;rw[z,e]at a;cases a
 have AE:j≠l:=λz=>by rw[z,h2]at a;cases a
 have AQ:=S.free a;have ld:(g.drop b).length=g.length - b:=yy;refine⟨j,Y,⟨_,n7.of h3⟩,⟨jV (K:=K) (a:=j) (E:=(g.drop b).map ov) (λi σ C=>∃v:eH V,σ=[O (.ref p),O (.int b),O (.ref x),O (.ref l),v]/\ad H C/\C j=O (.lst ((g.drop b).map ov))/\
   fG A.az C x d (ax ((g.drop b).take i))/\C l=O (.lst (((rd i).map λk=>ic ((g.drop b).take (k+1))).map V.int)))
  ⟨cx,Y,S.trans s3,h3,tQ s3 Z,s3 _ _ h2⟩ (λi σ C hi hp=>by obtain⟨_,_,_,h,_⟩:=hp;exact n7.of h) ?_ ?_⟩⟩
 ·rintro i y σ H4 hi ⟨v,rfl,s4,h4,D4,I⟩;have J:i<(g.drop b).length:=by
   have:=(cs.mp hi).1
   rwa[bd]at this
  rw[cc,getD_at' J]at hi;cases hi;obtain⟨⟨dz,e4⟩,AF⟩:=id D4;have L:l≠x:=bO I e4 (by intro z;cases z);have M:l≠d:=bO I AF (by intro z;cases z);refine⟨_,Y,x,dz,_,Y,e4,Y,_,Y,x,d,(g.drop b).take i,at' (g.drop b) i,Y,D4,by rw[gv];omega,λH5 D5 r=>?_⟩;rw[←dM J]at D5;have g5:H5 l=O (.lst (((rd i).map λk=>ic ((g.drop b).take (k+1))).map V.int)):=by rw[r l L M];exact I
  have h5:H5 j=O (.lst ((g.drop b).map ov)):=by rw[r j AC AD];exact h4
  have s5:ad H H5:=λc o e=>by rw[r c (aF e nx) (aF e B)];exact s4 c o e
  obtain⟨⟨dw,e5⟩,AR⟩:=id D5;have Av:0<((g.drop b).take (i+1)).length:=by rw[gv];omega
  have AS:=u5 Av (by rw[gv];omega);refine⟨_,Y,.inl ⟨Y,_,n7.of g5⟩,_,Y,x,dw,_,Y,e5,Y,x,d,_,ic ((g.drop b).take (i+1)),Y,D5,AS,Ru _,λH6 N=>?_⟩;refine⟨l,_,_,Y,Y,N _ _ g5,by rw[bd,bd,BJ];exact aV (by omega),?_⟩;have g6:=N _ _ g5;have R:j≠l:=AE;refine⟨_,Y,λc o e=>?_,?_,?_,?_⟩
  ·rw[ag (aF e n)];exact N _ _ (s5 c o e)
  ·rw[ag R];exact N _ _ h5
  ·obtain⟨⟨du,e6⟩,AG⟩:=tQ N D5;exact⟨⟨du,by rw[ag L.symm];exact e6⟩,by rw[ag M.symm];exact AG⟩
  ·rw[af,Dq,dn,dn];rfl
 ·rintro σ H4 ⟨v,rfl,s4,h4,D4,I⟩;refine⟨_,Y,q l H4 s4 n ?_⟩;rw[I,bd,ld];rfl
inductive jJ(H:Hp)(l:ce)(g:U OI):Prop
 |i(as:U ce)(_:H l=O (.lst (as.map V.ref)))(_:as.length=g.length)(_:∀(b:ft)(a:ce),as[b]?=O a->H a=O (.lst ((ki g b).map V.int)))
theorem tP{l:ce}(s:ad H C)(h:jJ H l g):jJ C l g:=by
 obtain⟨as,c,d,f⟩:=h;exact⟨as,s _ _ c,d,λb a e=>s _ _ (f b a e)⟩
inductive Pk(K:fy)(a:U V)(H:Hp)(Q:VK)(_E:XK):Prop
 |i(p:ce)(g:U OI)(_:a=[.ref p])(_:n7 K H p (g.map ov))(_:g.length<=1000)(_:∀(l:ce)(C:Hp),ad H C->H l=cx->jJ C l g->Q (.ref l) C)
theorem Y':(["begin","values"]:U hO).Nodup:=by decide +kernel
theorem QS(T:Txt K G A)(y:uG P w K G u q_ 6 "rooms_from" ["values","begin"] (Q3 K))(F:vr K "block_rooms" "block_rooms" Oy f Ag):ap P w K G u q_ 7 f Ag ["values"] (Pk K):=by
 refine F.o ["values"] λR z An m s H S Q Ah B h=>?_;obtain⟨p,g,rfl,D,E,q⟩:=h;have X:(g.map ov).length=g.length:=bd _;refine⟨_,(aj (aA (bK (Ac:=["begin","values"]) (fr:=[cx,O 0]) ⟨Y,Y,Y,Y,Y,Y⟩ Y (fB (by rfl) T.eP (aa (aL (cD K) (by rfl) T.bu PyProof.Rows.Boot.«len» (aa (pv 0) ae)) ae))
    (λAj Ap s H=>⟨aH (i:=0) Y' Y (gS Y),bn,(y.pe B av (aa (pv 1) (aa (pv 0) ae)))⟩)))),?_⟩
 refine⟨_,Y,_,_,Y,gS ‹_›,_,Y,by omega,by omega,?_⟩;refine⟨iG (λi acc C=>ad H C/\∃as:U ce,acc=as.map V.ref/\as.length=i/\∀(b) (a),as[b]?=O a->C a=O (.lst ((ki g b).map V.int))) ⟨ad.refl _,[],Y,Y,λb a e=>by cases e⟩
  (λi acc C r I=>by obtain⟨_,as,e,h,_⟩:=I;rw[e,bd];omega) (f' (aV (by omega))) ?_ ?_⟩
 ·rintro i acc C r ⟨j,as,rfl,v,c⟩;have J:(0+(i))=(i:gV):=FQ _;refine⟨Wk.set Y,tT ?_⟩;rw[J];refine⟨_,Y,_,Y,p,g,i,Y,j.seq D,E,by omega,λl Am x L M=>cw r ⟨j.trans x,as++[l],by rw[dn];rfl,by simp[v],λb a e=>?_⟩⟩;by_cases N:b<as.length
  ·rw[kI N]at e;exact x _ _ (c b a e)
  ·rw[na (by omega)]at e;have n:b - as.length=0:=by
    have:=(cs.mp e).1;simp at this;omega
   rw[n]at e;cases e;rw[show b=i by omega];exact M
 ·rintro acc C ⟨j,as,rfl,v,c⟩ l d;refine q l _ (ay j d) (j.free d) ⟨as,af,by omega,λb a e=>?_⟩;have:=c b a e;rw[ag (aF this d)];exact this
inductive uL(K:fy)(a:U V)(H:Hp)(Q:VK)(_E:XK):Prop
 |i(l:ce)(g:U OI)(b e:ft)(_:a=[.ref l,.int b,.int e])(_:jJ H l g)(_:b<e)(_:e<=g.length)(_:Q (.int (lr g b e)) H)
theorem Sr(F:vr K "room_between" "room_between" NQ f Ag):ap P w K G u q_ 1 f Ag ["rooms","begin","end"] (uL K):=by
 refine F.o ["rooms","begin","end"] λy i An a s H z Q Ah A h=>?_;obtain⟨l,g,b,e,rfl,⟨as,j,B,m⟩,n,p,q⟩:=h;refine⟨_,(aj (aA (aG (bF K) (aG (bF K) (pv 0) (pv 1) (λ_ _=>rfl)) (aq cJ (aq cJ (pv 2) (pv 1)) ah) (λ_ _=>rfl)))),?_⟩;have c:b<as.length:=by omega
 have d:=a_ c;have r:FY (as.map V.ref) (b)=O (.ref as[b]):=dX (by rw[cc,d];rfl);have v:FY ((ki g b).map V.int) ((e) - b - 1)=O (.int (lr g b e)):=by
  refine cS (by omega) ?_;rw[show ((e:gV) - b - 1).toNat=e - b - 1 by omega,cc,S0 n p];rfl
 have x:=m b _ d;exact⟨_,Y,_,Y,l,_,_,_,Y,Y,n7.of j,r,_,Y,_,Y,_,_,Y,Y,_,_,Y,Y,_,_,_,_,Y,Y,n7.of x,v,q⟩
def lb(g:U OI)(e:ft):ft:=((rd e).find? λb=>decide (pr g b+lr g b e=pr g e)).getD 0
theorem Y1{p:ft->n_}:∀(n b:ft),b<n->p b=c0->(∀c,c<b->p c=d_)->(rd n).find? p=O b:=by simp_all
theorem ZF{b:ft}(h:b<e)(a:pr g b+lr g b e=pr g e)(d:∀c,c<b->pr g c+lr g c e≠pr g e):lb g e=b:=by
 delta lb
 rw[Y1 e b h (fo a) λc f=>dV (d c f)];rfl
theorem lv(g:U OI)(h:0<e):lb g e<e:=by
 delta lb
 cases q:(rd e).find? λb=>decide (pr g b+lr g b e=pr g e) with
 |none=>exact h
 |some c=>exact Dw.mp (List.mem_of_find?_eq_some q)
def ig(g:U OI):ft->ft->U ft
 |0,_=>[]
 |f+1,e=>if e=0 then [] else ig g f (lb g e)++[e]
theorem wP(g:U OI):∀f e,e<=f->ig g (f+1) e=ig g f e
 |0,e,h=>by
  have:e=0:=by exact Ig ‹_›
  subst this;rfl
 |f+1,e,h=>by
  rw[ig];by_cases a:e=0
  ·subst a;rfl
  ·have:=lv g (e:=e) (by exact Ce ‹_›);rw[ks a,wP g f _ (by lia)]
   conv=>rhs;simp only[ig]
   simp_all
theorem UP(g:U OI){f:ft}(h:e<=f):ig g f e=ig g e e:=by
 obtain⟨k,rfl⟩:=Nat.le.dest h;induction k with
 |zero=>rfl
 |succ k a=>rw[show e+(k+1)=(e+k)+1 by exact JR (F0 _ _ _),wP g _ _ (by exact Gi _ _),a (by exact Gi _ _)]
def dQ(g:U OI)(e:ft):U ft:=ig g e e
theorem wQ(g:U OI):dQ g 0=[]:=Y
theorem qK(g:U OI)(h:0<e):dQ g e=dQ g (lb g e)++[e]:=by
 obtain⟨k,rfl⟩:∃k,e=k+1:=⟨e - 1,by exact JR (FG ‹_›)⟩
 have:=lv g h;show (if k+1=0 then [] else ig g k (lb g (k+1))++[k+1])=_;rw[ UP g (show lb g (k+1)<=k by exact J1 ‹_›)];rfl
theorem qJ(g:U OI):∀e,(dQ g e).length<=e:=by
 intro e;induction e using G8 with
 |ind e a=>
  by_cases h:e=0
  ·subst h;simp[wQ]
  ·have b:=lv g (e:=e) (by exact Ce ‹_›);simp only[qK g (by exact Ce ‹_›),gT,so];have:=a _ b;exact Cd ‹_› ‹_›
def sg(a:U gV)(k:ft):gV:=a.getD k 0
def IG(n:ft):ft->U ft->Prop
 |b,[]=>b=n
 |b,e::r=>b<e/\IG n e r
theorem IG.le{n:ft}:∀{b:ft}{l:U ft},IG n b l->b<=n
 |_,[],h=>Cc h
 |_,_::_,h=>jE (f' h.1) h.2.le
theorem IG.at{n:ft}:∀{b:ft}{l:U ft},IG n b l->∀i,i<l.length->(b::l).getD i 0<l.getD i 0/\l.getD i 0<=n
 |b,e::r,h,0,_=>⟨h.1,h.2.le⟩
 |b,e::r,h,i+1,a=>by
  have:=IG.at h.2 i (by simp_all);assumption
theorem BS(a b:gV):decide (V.int a=V.int b)=decide (a=b):=by simp
theorem sE(h:k<=n):FY ((Hs g n).map V.int) (k:gV)=O (.int (pr g k)):=
 dX (by simp only[cc,sy g n k h];rfl)
inductive OE(a:U V)(H:Hp)(Q:VK)(_E:XK):Prop
 |i(l:ce)(g:U OI)(_:a=[.ref l])(_:jJ H l g)(_:g.length<=1000)(_:∀(f:ce)(C:Hp),ad H C->H f=cx->C f=O (.lst ((Hs g g.length).map V.int))->Q (.ref f) C)
theorem WH:(["begin","found","rooms","end"]:U hO).Nodup:=by decide +kernel
theorem zkz(T:Txt K G A)(L:uG P w K G u q_ 1 "room_between" ["rooms","begin","end"] (uL K))(F:vr K "least_prices" "least_prices" Qs f Ag):ap P w K G u q_ 3 f Ag ["rooms"] OE:=by
 refine F.o ["rooms","found","end"] λB M An r s H vs Q Ah N h=>?_;obtain⟨l,g,rfl,hR,hl,q⟩:=h;refine⟨_,(ao (aK (i:=1) B Y (zs Y) (cP (aa ah ae)))
  (ao (fg qw Y (Ws (by rfl) T.eP (aa ah (aa (aq aU (aL (cD K) (by rfl) T.bu PyProof.Rows.Boot.«len» (aa (pv 0) ae)) ah) ae))) (aH (i:=2) B Y (zs Y))
   (aj (bf (cU K mI u4 uB jl (pv 1) (aa (aL (VA K Y) (by rfl) T.rX PyProof.Rows.Boot.«min» (aa (bK (Ac:=["begin","found","rooms","end"]) (fr:=[cx,O 1,O 0,O 2]) ⟨Y,Y,Y,Y,Y,Y⟩ Y (fB (by rfl) T.eP (aa (pv 2) ae))
    (λAj Ap s H=>⟨aH (i:=0) WH Y (gS Y),bn,(aq aU (aG (bF K) (pv 1) (pv 0) (λ_ _=>rfl)) (L.pe N av (aa (pv 2) (aa (pv 0) (aa (pv 3) ae)))))⟩)) ae)) ae)))))
  (aj (aA (pv 1))))),?_⟩
 refine⟨bI Y,?_⟩;intro f x;have D:ad H (upd H f (.lst [.int 0])):=ad.new x;obtain⟨as,R,S,_⟩:=tP D hR;have la:(as.map V.ref).length=g.length:=by rw[bd,S]
 refine⟨_,Y,l,_,Y,.inl (n7.of R),_,_,Y,Y,1,_,Y,⟨by decide,by decide,by omega,by omega⟩,?_⟩;have X:((((as.map V.ref).length:gV)+1) - 1).toNat=g.length:=by omega
 rw[X];refine⟨jW (λi σ C=>∃v:eH V,σ=[O (.ref l),O (.ref f),v]/\ad H C/\C f=O (.lst ((Hs g i).map V.int))) ⟨cx,Y,D,af⟩ ?_ ?_⟩
 ·rintro i σ Ai hi ⟨v,rfl,m,n⟩;have Z:1+(i:gV)=((i+1:ft):gV):=by omega
  rw[Z];refine⟨_,Y,.inl ⟨Y,_,n7.of n⟩,_,Y,_,Y,by omega,by omega,?_⟩;refine⟨iG (λj acc C=>ad Ai C/\acc=((rd j).map λb=>pr g b+lr g b (i+1)).map V.int) ⟨ad.refl _,Y⟩ (λj acc C E hp=>by rw[hp.2,bd,bd,BJ];omega) (f' (Fo (by omega))) ?_ ?_⟩
  ·rintro j acc Am E ⟨d,rfl⟩;have e0:(0+(j:gV))=(j:gV):=FQ _;rw[e0];have y:j<=i:=by omega
   refine⟨Wk.set Y,tT ⟨_,Y,_,Y,f,_,_,_,Y,Y,n7.of (d _ _ n),sE y,_,Y,_,Y,_,Y,l,g,j,i+1,Y,tP (m.trans d) hR,by omega,by omega,_,_,Y,Y,cw E ⟨d,?_⟩⟩⟩;rw[Dq,dn,dn];rfl
  ·rintro acc Am ⟨d,rfl⟩ I p;have z:((rd (i+1)).map λb=>pr g b+lr g b (i+1))≠[]:=by simp
   have J:=d _ _ n;have nf:f≠I:=aF J p;refine⟨I,_,pr g (i+1),Y,n7.of af,by rw[oq];exact yc z,λa ha=>by rw[oq];exact Zp a ha,?_⟩;refine⟨f,_,_,Y,Y,by rw[ag nf];exact J,by rw[bd,lJ];exact Fo (by omega),?_⟩;refine⟨_,Y,λc o e=>?_,?_⟩
   ·rw[ag (aF e x),ag (aF (d _ _ (m c o e)) p)];exact d _ _ (m c o e)
   ·rw[af];have:Hs g (i+1)=Hs g i++[pr g (i+1)]:=by
     rw[oq];show Hs g i++[_]=_
     congr 3
     apply BW;intro b hb;rw[zh (by have:=Dw.mp hb;omega)]
    rw[this,dn];rfl
 ·rintro σ Ai ⟨v,rfl,m,n⟩;exact⟨_,Y,q f Ai m x n⟩
inductive Ol(K:fy)(a:U V)(H:Hp)(Q:VK)(_E:XK):Prop
 |i(l f:ce)(g:U OI)(e:ft)(_:a=[.ref l,.ref f,.int e])(_:jJ H l g)(_:n7 K H f ((Hs g g.length).map V.int))(_:0<e)(_:e<=g.length)(_:Q (.int (lb g e)) H)
theorem Yc(T:Txt K G A)(z:uG P w K G u q_ 1 "room_between" ["rooms","begin","end"] (uL K))(F:vr K "longest_begin" "longest_begin" Qa f Ag):ap P w K G u q_ 3 f Ag ["rooms","found","end"] (Ol K):=by
 refine F.o ["rooms","found","end","begin"] λp B An i s H J Q Ah D h=>?_;obtain⟨l,f,g,e,rfl,hR,r,v,x,q⟩:=h;refine⟨_,(ao (aK (i:=3) p Y (gS Y) ah)
  (ao (sM qw (aE fR (aq aU (aG (bF K) (pv 1) (pv 3) (λ_ _=>rfl)) (z.pe D av (aa (pv 0) (aa (pv 3) (aa (pv 2) ae))))) (aG (bF K) (pv 1) (pv 2) (λ_ _=>rfl)) (aC _))
   (aj (zj (i:=3) p Y (gS Y) ah xI)))
  (aj (aA (pv 3))))),?_⟩
 obtain⟨j,E,a⟩:=Zk g v;refine u8 (λσ C=>C=H/\∃b:ft,σ=[O (.ref l),O (.ref f),O (.int e),O (.int b)]/\b<e/\∀c,c<b->pr g c+lr g c e≠pr g e) (λσ _=>match σ with |[_,_,_,O (.int b)]=>e - b.toNat |_=>0)
  ⟨Y,0,Y,v,λc L=>by omega⟩ ?_
 rintro m σ C rfl ⟨rfl,b,rfl,y,n⟩;refine⟨_,Y,_,Y,f,_,_,_,Y,Y,r,sE (by omega),_,Y,_,Y,_,Y,l,g,b,e,Y,hR,y,x,_,_,Y,Y,_,Y,_,Y,f,_,_,_,Y,Y,r,sE x,Y,_,Y,?_⟩;rw[BS];by_cases c:pr g b+lr g b e=pr g e
 ·rw[fo c];refine ak ⟨_,Y,?_⟩;rw[ZF y c n]at q;exact q
 ·rw[dV c];refine aw ⟨_,wN,?_⟩;refine⟨_,Y,_,_,Y,Y,⟨Y,b+1,by simp,?_,?_⟩,?_⟩
  ·have:b<j:=by
    rcases Nat.lt_trichotomy b j with h |h |h
    ·exact h
    ·subst h;exact hQ a c
    ·exact hQ a (n j h)
   omega
  ·intro d hd;by_cases I:d=b
   ·subst I;exact c
   ·exact n d (by omega)
  ·show e - ((b:gV)+1).toNat<e - (b:gV).toNat;omega
inductive O1(K:fy)(A:Ad)(a:U V)(H:Hp)(Q:VK)(Ah:XK):Prop
 |i(p:ce)(g:U OI)(_:a=[.ref p])(_:n7 K H p (g.map ov))(_:g.length<=8)(_:(Ex g=c0->∀(f:ce)(C:Hp),ad H C->H f=cx->C f=O (.lst (((dQ g g.length).map λ(k:ft)=>(k:gV)).map V.int))->Q (.ref f) C))(_:(Ex g=d_->∀C,ad H C->Ah (.ref A.dS) cx C))
theorem Wn(T:Txt K G A)(S:uG P w K G u (yl P w) 4 "check_column" ["values"] (QB K A))(X:uG P w K G u q_ 7 "block_rooms" ["values"] (Pk K))(Z:uG P w K G u q_ 3 "least_prices" ["rooms"] OE)(pK:uG P w K G u q_ 3 "longest_begin" ["rooms","found","end"] (Ol K))(F:vr K "cuts" "cuts" PX f Ag):
  ap P w K G u (yl P w) 8 f Ag ["values"] (O1 K A):=by
 refine F.oX ["values","rooms","found","ends","end"] λd A0 An v s H vs Q Ah n h=>?_;obtain⟨p,g,rfl,x,i,k1,k2⟩:=h;refine⟨_,(ao (bf (S.pe n bU (aa (pv 0) ae)))
  (ao (aK (i:=1) d Y (gS Y) (X.pe n av (aa (pv 0) ae)))
  (ao (aK (i:=2) d Y (gS Y) (Z.pe n av (aa (pv 1) ae)))
  (ao (aK (i:=3) d Y (gS Y) (cP ae))
  (ao (aK (i:=4) d Y (gS Y) (aL (cD K) (by rfl) T.bu PyProof.Rows.Boot.«len» (aa (pv 0) ae)))
  (ao (PS.nox (sM qw (aE e9 (pv 4) ah (aC _))
   (ao (bf (cU K mI u4 uB jl (pv 3) (aa (pv 4) ae)))
  (aj (aK (i:=4) d Y (gS Y) (pK.pe n av (aa (pv 1) (aa (pv 2) (aa (pv 4) ae)))))))))
  (aj (aA (Xq K Y (by rfl) T.j6 (by rfl) T.zjx (pv 3)))))))))),?_⟩
 refine⟨_,Y,p,g,Y,x,i,λok Ai I=>?_,k2⟩;have i:g.length<=1000:=jE i (by decide);refine⟨_,Y,p,g,Y,I.seq x,i,λl Am s2 A1 R2=>?_⟩;refine⟨_,Y,l,g,Y,R2,i,λf H3 J A2 h3=>?_⟩;have y:=(I.trans s2).trans J;refine⟨bI Y,?_⟩;intro c L;have M:ad H3 (upd H3 c (.lst [])):=ad.new L;have t4:=y.trans M;have A3:=t4.seq x;refine⟨_,Y,_,_,Y,gS ‹_›,?_⟩;rw[bd];refine u8 (λσ C=>∃(e:ft)(Aw:U ft),σ=[O (.ref p),O (.ref l),O (.ref f),O (.ref c),O (.int e)]/\ad H3 C/\C c=O (.lst ((Aw.map λ(k:ft)=>(k:gV)).map V.int))/\e<=g.length/\Aw.length+e<=g.length/\dQ g g.length=dQ g e++Aw.reverse)
  (λσ _=>match σ with |[_,_,_,_,O (.int e)]=>e.toNat |_=>0) ⟨g.length,[],Y,M,af,dv _,by simp,by simp⟩ ?_
 rintro m σ N R ⟨e,Aw,rfl,z,B,he,A4,a⟩;have R:m=e:=by rw[R];simp
 refine⟨_,Y,_,_,Y,Y,_,Y,?_⟩;by_cases D:0<e
 ·rw[fo (show (0:gV)<(e:gV) by omega)];refine aw ⟨_,wN,?_⟩;have A5:=lv g D;refine⟨_,Y,.inl ⟨Y,_,n7.of B⟩,_,Y,c,_,_,Y,Y,B,by rw[bd,bd];exact aV (by omega),?_⟩;have E:ad H3 (upd N c (.lst ((Aw.map λ(k:ft)=>(k:gV)).map V.int++[.int e]))):=λb o q=>by
   rw[ag (aF q L)];exact z b o q
  have h6:(upd N c (.lst ((Aw.map λ(k:ft)=>(k:gV)).map V.int++[.int e]))) c=O (.lst ((Aw.map λ(k:ft)=>(k:gV)).map V.int++[.int e])):=af;refine⟨_,Y,_,Y,_,Y,l,f,g,e,Y,tP (J.trans E) R2,n7.of (E _ _ h3),D,he,⟨lb g e,Aw++[e],Y,E,?_,by omega,by rw[gT,so];omega,?_⟩,?_⟩
  ·rw[h6,dn,dn];rfl
  ·rw[a,qK g D];simp
  ·show (lb g e:gV).toNat<m;omega
 ·rw[dV (show ¬ (0:gV)<(e:gV) by omega)];refine ak ?_;have e0:e=0:=by omega
  subst e0;rw[wQ,JH]at a;refine⟨_,Y,c,_,Y,n7.of B,λr j=>?_⟩;refine k1 ok r _ (ay (y.trans z) j) ((y.trans z).free j) ?_;rw[af,a,J2,J2]
theorem ZI(g:U OI){b:ft}(h:b<=e)(a:e<=g.length):dF (g.map ov) (O (b:gV)) (O (e:gV))=((g.drop b).take (e - b)).map ov:=by
 delta dF
 simp only[HT.F6,HT.F6,bd,Cj (show b<=g.length by exact jE ‹_› ‹_›),Cj a,←Fu,←KG]
def Rs:ft->U ft->Prop
 |_,[]=>GX
 |b,e::r=>b<e/\Rs e r
theorem Rs.snoc:∀{l:U ft}{b k:ft},Rs b l->b<k->(∀d∈l,d<k)->Rs b (l++[k])
 |[],b,k,_,a,_=>⟨a,trivial⟩
 |e::r,b,k,h,a,c=>⟨h.1,Rs.snoc h.2 (c e j_) λd hd=>c d (hE _ hd)⟩
theorem Rs.ris:∀{l:U ft}{b n:ft},Rs b l->b<n->(∀d∈l,d<n)->IG n b (l++[n])
 |[],b,n,_,a,_=>⟨a,Y⟩
 |e::r,b,n,h,a,c=>⟨h.1,Rs.ris h.2 (c e j_) λd hd=>c d (hE _ hd)⟩
theorem yP(a:g.length<=8)(b:g.all Et=c0):Ex g=c0:=by
 delta Ex;grind
abbrev j5(a:U ft):U V:=(a.map λ(k:ft)=>(k:gV)).map V.int
def fY(n k:ft):ft:=if n / 2 ^ k % 2=1 then 49 else 48
def cq(n:ft):ft->U ft
 |0=>[]
 |w+1=>fY n w::cq n w
theorem gy(n:ft):∀w,(cq n w).length=w
 |0=>rfl
 |w+1=>by simp only[cq,r_,gy n w]
theorem vW(n:ft):∀w,(rd w).map (λj=>fY n (w - 1 - j))=cq n w
 |0=>rfl
 |w+1=>by
  simp only[Dy,n5,cq,p_,←vW n w]
  congr 1
  apply BW
  grind
def iT(c:ft):hO:=⟨#[c]⟩
def cC(n w:ft):hO:=⟨(cq n w).toArray⟩
theorem c5(n w:ft):(cC n w).length=w:=by
 show (cq n w).toArray.size=w;rw[hL,gy]
theorem xX:("1" : hO)=iT 49:=by rfl
theorem xW:("0" : hO)=iT 48:=by rfl
theorem Uk(l:U ft):(l.map λc=>[c]).flatten=l:=by
 induction l with
 |nil=>rfl
 |cons a r b=>simp only[n5,BK,b];rfl
theorem Vg(l:U ft):be (l.map iT)=⟨l.toArray⟩:=by
 apply lU;simp only[gF,p_];exact Uk l
theorem YM(l:U ft):((l.map iT).map (·.length)).sum=l.length:=by
 induction l with
 |nil=>rfl
 |cons a r b=>simp only[n5,n5,Fv,b];exact FR _ _
theorem YJ{a:gV}(h:0<=a):F_ a 1=((a.toNat % 2:ft):gV):=by
 rw[Ms h (by decide)]
 simp_all
inductive lR(a:U V)(H:Hp)(Q:VK)(_E:XK):Prop
 |i(n m:ft)(_:a=[.int n,.int m])(_:m<=1000)(_:∀C,ad H C->Q (.str (cC n m)) C)
theorem TX:(["place","number"]:U hO).Nodup:=by decide +kernel
theorem UQ(T:Txt K G A)(F:vr K "in_bits" "in_bits" O9 f Ag):ap P w K G u q_ 1 f Ag ["number","width"] lR:=by
 refine F.o ["number","width"] λD r An b s H E Q Ah I h=>?_;obtain⟨n,m,rfl,v,q⟩:=h;refine gb ⟨_,(ir (lH K au (aa (bK (Ac:=["place","number"]) (fr:=[cx,O 0]) ⟨Y,Y,Y,Y,Y,Y⟩ Y (zlY (by rfl) T.eP (aa (aq cJ (pv 1) ah) (aa (iq iy ah) (aa (iq iy ah) ae))))
    (λAj Ap s H=>⟨aH (i:=0) TX Y (gS Y),bn,(dA (Zs K (aq VU (aq RN (pv 1) (pv 0)) ah)) au au)⟩)) ae))),?_⟩
 refine⟨Y,_,Y,_,_,Y,Y,_,Y,_,Y,_,_,Y,by omega,?_⟩;have x:((m:gV) - 1 - -1).toNat=m:=by omega
 rw[x];refine⟨WC (λi acc C=>ad H C/\acc=((rd i).map λj=>V.str (iT (fY n (m - 1 - j))))) ⟨ad.refl _,Y⟩
  (λi acc C c y=>by rw[y.2,bd,BJ];omega) (f' (aV v)) ?_ ?_⟩
 ·rintro i acc C c ⟨a,rfl⟩;refine⟨Wk.set Y,tT ?_⟩;have d:((m:gV) - 1 - i).toNat=m - 1 - i:=by omega
  have z:((n:gV) / 2 ^ (m - 1 - i))=((n / 2 ^ (m - 1 - i):ft):gV):=by rw[Int.natCast_ediv,Int.natCast_pow];rfl
  have B:F_ ((n:gV) / 2 ^ ((m:gV) - 1 - i).toNat) 1=((n / 2 ^ (m - 1 - i) % 2:ft):gV):=by
   rw[d,z,YJ (Ca _),nI]
  refine⟨_,Y,_,Y,_,_,Y,Y,by omega,_,_,Y,Y,_,Y,?_⟩;rw[B];by_cases e:n / 2 ^ (m - 1 - i) % 2=1
  ·have g:fY n (m - 1 - i)=49:=mu e;rw[e];refine aw (cw c ⟨a,?_⟩);rw[Dq,dn,F1,g,xX]
  ·have g:fY n (m - 1 - i)=48:=ks e;rw[show n / 2 ^ (m - 1 - i) % 2=0 by omega];refine ak (cw c ⟨a,?_⟩);rw[Dq,dn,F1,g,xW]
 ·rintro acc C ⟨a,rfl⟩ l p;have d:(rd m).map (λj=>V.str (iT (fY n (m - 1 - j))))=((cq n m).map iT).map V.str:=by
   rw[←vW,p_,p_];rfl
  rw[d];refine⟨"",l,(cq n m).map iT,Y,Y,n7.of af,?_,?_⟩
  ·rw[YM,gy,bd,gy];show m+m * 0<=16777216;omega
  ·rw[lu,Vg];exact q _ (ay a p)
def iF:OI->ft
 |.none=>0
 |.some i=>(i+4000001).toNat
def dC(o:OI):hO:=cC (iF o) 24
inductive oQ(a:U V)(H:Hp)(Q:VK)(_E:XK):Prop
 |i(o:OI)(_:a=[ov o])(_:Et o=c0)(_:∀C,ad H C->Q (.str (dC o)) C)
theorem zlh(T:Txt K G A)(b:uG P w K G u q_ 1 "in_bits" ["number","width"] lR)(F:vr K "value_bits" "value_bits" Q0 f Ag):ap P w K G u q_ 3 f Ag ["value"] oQ:=by
 refine F.o ["value"] λg c An a s H j Q Ah d h=>?_;obtain⟨o,rfl,e,q⟩:=h;refine⟨_,(aj (aA (b.pe d av (aa (dA (aE dI (pv 0) bL (aC _)) ah (aq aU (pv 0) (bi T.nj))) (aa (bi T.ik) ae))))),?_⟩;refine⟨_,Y,Y,_,Y,?_⟩;cases o with
 |none=>exact aw ⟨0,24,Y,by decide,q⟩
 |some i=>
  have l:=t9 e;refine ak ⟨_,Y,_,_,Y,Y,(i+4000001).toNat,24,?_,by decide,q⟩;rw[Db (by omega)];rfl
def eC(g:U OI):hO:=be (g.map dC)
theorem sx(g:U OI):((g.map dC).map (·.length)).sum=24 * g.length:=by
 induction g with
 |nil=>rfl
 |cons a r b=>
  simp only[n5,n5,Fv,b,r_];have:(dC a).length=24:=c5 _ _;exact FR _ _
inductive uI(K:fy)(a:U V)(H:Hp)(Q:VK)(_E:XK):Prop
 |i(p:ce)(g:U OI)(_:a=[.ref p])(_:n7 K H p (g.map ov))(_:g.length<=1000)(_:g.all Et=c0)(_:∀C,ad H C->Q (.str (eC g)) C)
theorem UD:(["value"]:U hO).Nodup:=by decide +kernel
theorem TY(T:Txt K G A)(m:uG P w K G u q_ 3 "value_bits" ["value"] oQ)(F:vr K "plain_bits" "plain_bits" O2 f Ag):ap P w K G u q_ 4 f Ag ["values"] (uI K):=by
 refine F.o ["values"] λD n An c s H E Q Ah r h=>?_;obtain⟨p,g,rfl,v,y,d,q⟩:=h;refine gb ⟨_,(ir (lH K au (aa (bK (Ac:=["value"]) (fr:=[cx]) ⟨Y,Y,Y,Y,Y,Y⟩ Y (bV (pv 0))
    (λAj Ap s H=>⟨aH (i:=0) UD Y (gS Y),bn,(m.pe r av (aa (pv 0) ae))⟩)) ae))),?_⟩
 refine⟨Y,_,Y,_,Y,⟨_,‹_›⟩,?_⟩;refine⟨cE (E:=g.map ov) (λi acc C=>ad H C/\acc=((g.take i).map λo=>V.str (dC o))) ⟨ad.refl _,Y⟩ ?_ ?_ ?_ ?_⟩
 ·rintro i acc C I ⟨b,rfl⟩;refine⟨b.seq v,?_⟩;rw[bd,gv];omega
 ·rw[bd];exact f' (aV y)
 ·rintro i x acc C j a ⟨b,rfl⟩;rw[bd]at a;have ex:g[i]?=O g[i]:=by simp[a]
  rw[cc,ex]at j;cases j;refine⟨Wk.set Y,tT ⟨_,Y,g[i],Y,i_.mp d _ (j' a),λAm z=>cw (by rw[bd];exact a) ⟨b.trans z,?_⟩⟩⟩;rw[ke,ex,dn];rfl
 ·rintro acc C ⟨b,rfl⟩ l e;have B:(g.take (g.map ov).length).map (λo=>V.str (dC o))=(g.map dC).map V.str:=by
   rw[bd,gl,p_];rfl
  rw[B];refine⟨"",l,g.map dC,Y,Y,n7.of af,?_,?_⟩
  ·rw[sx];show 24 * g.length+_ * 0<=16777216;omega
  ·rw[lu];exact q _ (ay b e)
def br(J:U gV):gV:=(eO (0::J)).getD 0
theorem Ts{J:U gV}(d:∀a∈J,0<=a)(c:M∈J)(f:∀a∈J,a<=M):br J=M:=by
 have e:=XW (hE _ c) λi b=>by
  rcases f_.mp b with rfl |b
  ·exact d M c
  ·exact f i b
 delta br;rw[e];rfl
theorem rP:∀{l:U gV},l≠[]->∃m,eO l=O m:=by
 intro l h;cases l with
 |nil=>exact hQ Y h
 |cons a r=>exact⟨_,Y⟩
theorem UE(J:U gV):br J∈0::J:=by
 obtain⟨m,e⟩:=rP (l:=0::J) (by simp);have:br J=m:=by delta br;rw[e];rfl
 exact this ▸ (nG e)
theorem o0{J:U gV}{k:gV}(a:0<k)(h:∀n∈J,0<=n/\n<k):0<=br J/\br J<k:=by
 rcases f_.mp (UE J) with e |e
 ·simp_all
 ·exact h _ e
theorem iQ(h:n<2 ^ k):aJ n<=k:=by
 rw[rV];by_cases e:n=0
 ·simp_all
 ·rw[ks e];exact (Nat.log2_lt e).mpr h
theorem lQ:1000000<=fx:=by decide +kernel
theorem kx{α:Type}{f:α->hO}{k:ft}:∀{l:U α},(∀x∈l,(f x).length=k)->((l.map f).map (·.length)).sum=k * l.length
 |[],_=>rfl
 |a::r,h=>by
  simp only[n5,n5,Fv,kx λx b=>h x (hE _ b),h a (j_ ..)];exact FR _ _
theorem dL(a b:hO):(a++b).length=a.length+b.length:=by
 show (a++b).cps.size=a.cps.size+b.cps.size;rw[←li,eJ,gT,li,li]
theorem Uy{J:U gV}(b:n7 K H p (J.map V.int))(c:∀a∈J,0<=a)(q:Q (.int (br J)) H):zq K [.ref p] (.int 0) H Q:=
 ⟨p,J,Y,b,λe=>by subst e;exact q,λM d f=>by exact (Ts c d f) ▸ q⟩
def eK(J:U gV):hO:=cC (aJ (br J).toNat) 5++be (J.map λn=>cC n.toNat (aJ (br J).toNat))
inductive ul(K:fy)(a:U V)(H:Hp)(Q:VK)(_E:XK):Prop
 |i(p:ce)(J:U gV)(_:a=[.ref p])(_:n7 K H p (J.map V.int))(_:J.length<=1000)(_:(∀n∈J,0<=n/\n<2 ^ 30))(_:∀C,ad H C->Q (.str (eK J)) C)
theorem Yx:(["number","width"]:U hO).Nodup:=by decide +kernel
theorem Yb(T:Txt K G A)(B:uG P w K G u q_ 1 "needed" ["number"] js)(r:uG P w K G u q_ 1 "in_bits" ["number","width"] lR)(F:vr K "even_bits" "even_bits" OW f Ag):ap P w K G u q_ 3 f Ag ["numbers"] (ul K):=by
 refine F.o ["numbers","width"] λD E An d s H vs Q Ah e h=>?_;obtain⟨p,J,rfl,g,v,j,q⟩:=h;refine gb ⟨_,(bY (aK (i:=1) D Y (zs Y) (B.pe e av (aa (y7 (X7 K Y) (by rfl) T.rW PyProof.Rows.Boot.«max» (aa (pv 0) ae) ah) ae)))
  (ir (j8 jo (LG (r.pe e av (aa (pv 1) (aa (bi T.lj) ae)))) (lH K au (aa (bK (Ac:=["number","width"]) (fr:=[cx,O 1]) ⟨Y,Y,Y,Y,Y,Y⟩ Y (bV (pv 0))
    (λAj Ap s H=>⟨aH (i:=0) Yx Y (gS Y),bn,(r.pe e av (aa (pv 0) (aa (pv 1) ae)))⟩)) ae))))),?_⟩
 obtain⟨I,t1⟩:=o0 (k:=2 ^ 30) (by decide) j;have L:aJ (br J).toNat<=30:=iQ (by omega);refine⟨_,Y,?_⟩;dsimp only[gO,tC];refine Uy g (λa M=>(j a M).1) ?_;refine⟨_,Y,I,?_⟩;refine⟨_,Y,_,_,Y,bI Y,?_⟩;intro Ai y;have N:=y.seq g;refine⟨Y,_,Y,_,Y,⟨_,‹_›⟩,?_⟩;refine⟨cE (E:=J.map V.int) (λi acc C=>ad H C/\acc=((J.take i).map λn=>V.str (cC n.toNat (aJ (br J).toNat)))) ⟨y,Y⟩ ?_ ?_ ?_ ?_⟩
 ·rintro i acc C hi ⟨c,rfl⟩;refine⟨c.seq g,?_⟩;rw[bd,gv];omega
 ·rw[bd];exact f' (aV v)
 ·rintro i x acc C z b ⟨c,rfl⟩;rw[bd]at b;have ex:J[i]?=O J[i]:=by simp[b]
  rw[cc,ex]at z;cases z;obtain⟨R,_⟩:=j _ (j' b);have S:V.int J[i]=V.int (J[i].toNat:gV):=by rw[Db R]
  refine⟨Wk.set Y,tT ⟨_,Y,_,Y,J[i].toNat,aJ (br J).toNat,?_,by omega,λAm X=>cw (by rw[bd];exact b) ⟨c.trans X,?_⟩⟩⟩
  ·show [V.int J[i],V.int (aJ (br J).toNat:gV)]=_;rw[S]
  ·rw[ke,ex,dn];rfl
 ·rintro acc C ⟨c,rfl⟩ l m;have Z:(J.take (J.map V.int).length).map (λn=>V.str (cC n.toNat (aJ (br J).toNat)))=(J.map λn=>cC n.toNat (aJ (br J).toNat)).map V.str:=by
   rw[bd,gl,p_];rfl
  rw[Z];have sz:((J.map λn=>cC n.toNat (aJ (br J).toNat)).map (·.length)).sum=aJ (br J).toNat * J.length:=kx λx _=>c5 _ _;have le:=El L v;refine⟨"",l,J.map λn=>cC n.toNat (aJ (br J).toNat),Y,Y,n7.of af,?_,?_⟩
  ·rw[sz];show _+_ * 0<=16777216;omega
  ·rw[lu];refine⟨_,_,Y,Y,?_,q _ (ay c m)⟩;rw[c5,iL,sz];show (5:ft)+aJ (br J).toNat * J.length<=fx;have:=lQ;omega
def a9(g:U OI):gV:=(cG (bb g)).getD 0
def iD(g:U OI):hO:=dC (O (a9 g))++eK (g.map (above (a9 g)))
theorem XX{i:gV}(h:i∈bb g):O i∈g:=by
 obtain⟨o,a,b⟩:=Ed.mp h
 grind
theorem j7{i:gV}(h:Et (O i)=c0): -4000000<=i/\i<=4000000:=t9 h
theorem W2(b:M∈bb g)(c:∀a∈bb g,M<=a):a9 g=M:=by
 obtain⟨m,e⟩:=ly (l:=bb g) (λz=>by grind);have d:=jk e M b;have f:=c m (lx e)
 delta a9
 rw[e];show m=M
 lia
theorem rG(h:g.all Et=c0):Et (O (a9 g))=c0:=by
 delta a9
 cases e:cG (bb g) with
 |none=>decide
 |some m=>exact i_.mp h _ (XX (lx e))
theorem mH(h:g.all Et=c0):∀n∈g.map (above (a9 g)),0<=n/\n<2 ^ 30:=by
 intro n b;obtain⟨v,a,rfl⟩:=nk.mp b;refine⟨Uz a,?_⟩;have l:=j7 (rG h);cases v with
 |none=>show (0)<2 ^ 30;decide
 |some i=>
  have:=j7 (i_.mp h _ a);show i - a9 g+1<2 ^ 30
  lia
theorem T5(a:n7 K H p ((bb g).map V.int))(q:Q (.int (a9 g)) H):zr K [.ref p] (.int 0) H Q:=
 ⟨p,bb g,Y,a,λe=>by delta a9 at q;rw[e]at q;exact q,λM b c=>by exact (W2 b c) ▸ q⟩
theorem mV{J:U gV}(h:∀n∈J,0<=n/\n<2 ^ 30)(a:J.length<=1000):(eK J).length<=100000:=by
 obtain⟨c,d⟩:=o0 (by decide) h;have b:aJ (br J).toNat<=30:=iQ (by omega);have le:=El b a
 delta eK
 simp only[dL,c5,iL,kx λx _=>c5 _ _]
 lia
inductive NS(K:fy)(a:U V)(H:Hp)(Q:VK)(_E:XK):Prop
 |i(p:ce)(g:U OI)(_:a=[.ref p])(_:n7 K H p (g.map ov))(_:g.length<=1000)(_:g.all Et=c0)(_:∀C,ad H C->Q (.str (iD g)) C)
theorem Vi:(["value"]:U hO).Nodup:=by decide +kernel
theorem Wb:(["value","least"]:U hO).Nodup:=by decide +kernel
theorem U0(T:Txt K G A)(J:uG P w K G u q_ 3 "value_bits" ["value"] oQ)(L:uG P w K G u q_ 3 "even_bits" ["numbers"] (ul K))(F:vr K "base_bits" "base_bits" NW f Ag):ap P w K G u q_ 4 f Ag ["values"] (NS K):=by
 refine F.o ["values","least"] λM N An v s H vs Q Ah D h=>?_;obtain⟨p,g,rfl,r,R,c,q⟩:=h;have E:(g.map ov).length=g.length:=bd _;refine⟨_,(ao (aK (i:=1) M Y (zs Y) (y7 (Ua K Y) (by rfl) T.rX PyProof.Rows.Boot.«min» (aa (bK (Ac:=["value"]) (fr:=[cx]) ⟨Y,Y,Y,Y,Y,Y⟩ Y (bV (pv 0))
    (λAj Ap s H=>⟨aH (i:=0) Vi Y (gS Y),(kg (aE yZ (pv 0) bL (aC _))),(pv 0)⟩)) ae) ah))
  (aj (aA (aq jo (J.pe D av (aa (pv 1) ae)) (L.pe D av (aa (bK (Ac:=["value","least"]) (fr:=[cx,O 1]) ⟨Y,Y,Y,Y,Y,Y⟩ Y (bV (pv 0))
    (λAj Ap s H=>⟨aH (i:=0) Wb Y (gS Y),bn,(dA (aE dI (pv 0) bL (aC _)) ah (aq aU (aq cJ (pv 0) (pv 1)) ah))⟩)) ae)))))),?_⟩
 refine⟨_,Y,_,Y,⟨_,‹_›⟩,?_⟩;refine⟨cE (E:=g.map ov) (λi acc C=>ad H C/\acc=(bb (g.take i)).map V.int) ⟨ad.refl _,Y⟩ ?_ (f' (aV (by omega))) ?_ ?_⟩
 ·rintro i acc C S ⟨d,rfl⟩;refine⟨d.seq r,?_⟩;rw[bd];have X:(bb (g.take i)).length<=(g.take i).length:=Hn _ _;rw[gv]at X;omega
 ·rintro i x acc C m b ⟨d,rfl⟩;have a:i<g.length:=by rwa[bd]at b
  rw[cc,getD_at' a]at m;cases m;refine⟨Wk.set Y,?_⟩;refine⟨_,Y,Y,_,Y,?_⟩;cases e:at' g i with
  |none=>
   refine ak (cw b ⟨d,?_⟩);rw[dM a,e,tW]
  |some z=>
   refine aw ⟨_,Y,cw b ⟨d,?_⟩⟩;rw[dM a,e,tX,dn];rfl
 ·rintro acc C ⟨d,rfl⟩ l y;rw[E,gl];have I:ad H (upd C l (.lst ((bb g).map V.int))):=ay d y;have Z:(upd C l (.lst ((bb g).map V.int))) l=O (.lst ((bb g).map V.int)):=af;have A0:=I.seq r;refine T5 (n7.of Z) ?_;refine⟨_,Y,O (a9 g),Y,rG c,λH3 s3=>?_⟩;have n:=I.trans s3;have A1:=n.seq r;refine⟨_,Y,_,Y,⟨_,‹_›⟩,?_⟩;refine⟨cE (E:=g.map ov) (λi acc C=>ad H C/\acc=((g.take i).map (above (a9 g))).map V.int) ⟨n,Y⟩ ?_ (f' (aV (by omega))) ?_ ?_⟩
  ·rintro i acc H4 S ⟨j,rfl⟩;refine⟨j.seq r,?_⟩;rw[bd,bd,gv];omega
  ·rintro i x acc H4 m b ⟨j,rfl⟩;have a:i<g.length:=by rwa[bd]at b
   rw[cc,getD_at' a]at m;cases m;refine⟨Wk.set Y,tT ⟨_,Y,Y,_,Y,?_⟩⟩;cases e:at' g i with
   |none=>
    refine aw (cw b ⟨j,?_⟩);rw[dM a,e,dn,dn];rfl
   |some z=>
    refine ak ⟨_,Y,_,Y,_,_,Y,Y,_,_,Y,Y,cw b ⟨j,?_⟩⟩;rw[dM a,e,dn,dn];rfl
  ·rintro acc H4 ⟨j,rfl⟩ l4 B;rw[E,gl];have le:(g.map (above (a9 g))).length<=1000:=by rw[bd];exact R
   refine⟨l4,_,Y,n7.of af,le,mH c,λH5 s5=>?_⟩;refine⟨_,_,Y,Y,?_,q _ ((ay j B).trans s5)⟩;have a1:(dC (O (a9 g))).length=24:=c5 _ _;have a2:=mV (mH c) le;have a3:=lQ;omega
theorem uR(g:U OI)(i:ft):FH g (i+2)=FH g (i+1)++[bW ((at' g (i+1)).getD 0 - (at' g i).getD 0)]:=by
 rfl
theorem xB(h:g.all Et=c0)(i:ft): -4000000<=(at' g i).getD 0/\(at' g i).getD 0<=4000000:=by
 by_cases b:i<g.length
 ·have a:=i_.mp h _ (eT (getD_at' b));cases e:at' g i with
  |none=>exact⟨by decide,by decide⟩
  |some z=>rw[e]at a;exact t9 a
 ·have e:at' g i = .none:=by
   unfold at'
   simp_all
  simp_all
theorem lT{g:U OI}(h:g.all Et=c0):∀n,∀v∈FH g n,0<=v/\v<2 ^ 30
 |0=>λv c=>by cases c
 |1=>λv c=>by cases c
 |n+2=>λv c=>by
  rw[uR]at c;rcases pA.mp c with c |c
  ·exact lT h (n+1) v c
  ·have e:v=_:=ku.mp c;rw[e];refine⟨qQ _,?_⟩;have a:=xB h (n+1);have b:=xB h n
   delta bW
   split <;> lia
def iX(g:U OI):hO:=dC (at' g 0)++eK (FH g g.length)
theorem So(g:U OI)(h:0<g.length):dF (g.map ov) (O 1) cx=(g.drop 1).map ov:=by
 delta dF
 rw[HT.Gr,show (1)=((1:ft):gV) from Y,HT.F6,bd,Cj h,←Fu,xv (by simp)]
theorem lB(a : .none∉g)(b:i<g.length):ov (at' g i) = .int ((at' g i).getD 0):=by
 cases e:at' g i with
 |none=>exact hQ (e ▸ eT (getD_at' b)) a
 |some z=>rfl
inductive Qh(K:fy)(a:U V)(H:Hp)(Q:VK)(_E:XK):Prop
 |i(p:ce)(g:U OI)(_:a=[.ref p])(_:n7 K H p (g.map ov))(_:0<g.length)(_:g.length<=1000)(_:g.all Et=c0) (_ : .none∉g) (_:∀C,ad H C->Q (.str (iX g)) C)
theorem yz:(["ahead","value"]:U hO).Nodup:=by decide +kernel
theorem RJ(T:Txt K G A)(mh:uG P w K G u q_ 1 "folded" ["step"] oF)(gY:uG P w K G u q_ 3 "value_bits" ["value"] oQ)(jC:uG P w K G u q_ 3 "even_bits" ["numbers"] (ul K))(F:vr K "steps_bits" "steps_bits" Qp f Ag):
  ap P w K G u q_ 4 f Ag ["values"] (Qh K):=by
 refine F.o ["values","steps"] λnN A0 An v s H vs Q Ah z h=>?_;obtain⟨p,g,rfl,N,B,hl,a,R,q⟩:=h;refine⟨_,(ao (gN (i:=1) nN Y (gS Y) (Ac:=["ahead","value"]) (fr:=[cx,cx]) ⟨Y,Y,Y,Y,Y,Y⟩ Y (om K (by rfl) T.jn (aa (pv 0) (aa (gk (tU K) (pv 0) (fe ah) iV) ae)))
    (λAj Ap s H=>⟨eA K (n:=2) Y (bP (aH (i:=0) yz Y (gS Y)) (bP (aH (i:=1) yz Y (gS Y)) eB)),bn,(mh.pe z av (aa (aq cJ (pv 1) (pv 0)) ae))⟩))
  (aj (aA (aq jo (gY.pe z av (aa (aG (bF K) (pv 0) ah (λ_ _=>rfl)) ae)) (jC.pe z av (aa (pv 1) ae)))))),?_⟩
 refine⟨_,Y,_,Y,_,Y,_,_,Y,‹_›,?_⟩;intro c D;rw[So g B];have E:ad H (upd H c (.lst ((g.drop 1).map ov))):=ad.new D;have I:(upd H c (.lst ((g.drop 1).map ov))) c=O (.lst ((g.drop 1).map ov)):=af;generalize upd H c (.lst ((g.drop 1).map ov))=Ai at E I;have d:=E.seq N;refine⟨p,c,_,_,Y,d,n7.of I,?_⟩;refine⟨qI (λi acc C=>ad Ai C/\acc=(FH g (i+1)).map V.int) ⟨ad.refl _,Y⟩
  (g.length - 1) (by rw[bd,bd,yy];omega) (λi acc C S b=>⟨b.1.seq d,n7.of (b.1 _ _ I),by rw[b.2,bd,iY];omega⟩) (f' (aV (by omega))) ?_ ?_⟩
 ·rintro i x y acc H3 X e j S ⟨J,rfl⟩ hT;have l:i<g.length:=by omega
  have m:i+1<g.length:=by omega
  have ex:x = .int ((at' g i).getD 0):=by
   rw[cc,getD_at' l]at e;cases e;exact lB R l
  have ey:y = .int ((at' g (i+1)).getD 0):=by
   rw[cc,List.getElem?_drop,FR 1 i,getD_at' m]at j;cases j;exact lB R m
  subst ex ey;have n:ad Ai (upd H3 X (.tup [.int ((at' g i).getD 0),.int ((at' g (i+1)).getD 0)])):=ay J hT;refine⟨X,_,Y,th.of af,Y,_,_,Y,_,_,Y,Y,(Wk.set Y).trans (Wk.set Y),tT ?_⟩;refine⟨_,Y,_,Y,_,_,Y,Y,_,Y,cw S ⟨n,?_⟩⟩;rw[uR,dn];rfl
 ·rintro acc H3 ⟨J,rfl⟩ r L;have Z:g.length - 1+1=g.length:=by omega
  rw[Z];have n:ad H (upd H3 r (.lst ((FH g g.length).map V.int))):=ay (E.trans J) L;have h4:(upd H3 r (.lst ((FH g g.length).map V.int))) r=O (.lst ((FH g g.length).map V.int)):=af;have M:=n.seq N;have a0:FY (g.map ov) 0=O (ov (at' g 0)):=dX (by rw[cc,getD_at' B];rfl);have le:(FH g g.length).length<=1000:=by rw[←Z,iY];omega
  refine⟨_,Y,p,_,_,_,Y,Y,M,a0,at' g 0,Y,i_.mp a _ (eT (getD_at' B)),λH5 s5=>?_⟩;refine⟨_,Y,r,_,Y,n7.of (s5 _ _ h4),le,lT a _,λH6 s6=>?_⟩;refine⟨_,_,Y,Y,?_,q _ ((n.trans s5).trans s6)⟩;have a1:(dC (at' g 0)).length=24:=c5 _ _;have a2:=mV (lT a g.length) le;have a3:=lQ;omega
def HM:ft->U OI->U (Key×V)
 |_,[]=>[]
 |n,w::r=>(pw w,.int (n:ft))::HM (n+1) r
theorem we(v:OI):∀(N:U OI)(n:ft),HM n (N++[v])=HM n N++[(pw v,.int ((n+N.length:ft):gV))]
 |[],n=>rfl
 |w::r,n=>by
  show (pw w,V.int (n))::HM (n+1) (r++[v])=_;rw[we v r (n+1)];show _=(pw w,V.int (n))::(HM (n+1) r++_);simp only[r_,show n+1+r.length=n+(r.length+1) by exact Cf _ _ _]
theorem mK:∀(N:U OI)(n:ft),(HM n N).length=N.length
 |[],_=>rfl
 |_::r,n=>tS NO (mK r (n+1))
theorem v0:∀(N:U OI)(n:ft),(HM n N).map (λa=>kV a.1)=N.map ov
 |[],_=>rfl
 |w::r,n=>by
  show kV (pw w)::(HM (n+1) r).map (λa=>kV a.1)=ov w::r.map ov;rw[v0 r (n+1)];cases w <;> rfl
theorem wc{v:OI}:∀{N:U OI}(n:ft),v∉N->aP (HM n N) (pw v:Key)=cx
 |[],_,_=>rfl
 |w::r,n,h=>by
  show aP ((pw w,V.int (n))::HM (n+1) r) _=cx;rw[dN (λe=>h (by grind))];exact wc (n+1) λz=>h (hE _ z)
theorem qA{v:OI}:∀{N:U OI}(n:ft),v∈N->aP (HM n N) (pw v:Key)=O (.int ((n+N.idxOf v:ft):gV))
 |w::r,n,h=>by
  show aP ((pw w,V.int (n))::HM (n+1) r) _=_;by_cases e:w=v
  ·subst e;rw[eV Y,DR];rfl
  ·rw[dN (λz=>e (by grind)),qA (n+1) ((f_.mp h).resolve_left λz=>e z.symm),Go,show (w ==v)=d_ by simpa using e,show n+1+r.idxOf v=n+(r.idxOf v+1) by exact Cf _ _ _];rfl
theorem xQ(o:OI):kV (pw o)=ov o:=by cases o <;> rfl
theorem oC{d:ce}(a:ad H H4)(hd:H d=cx):ad H (upd H4 d o):=λb z e=>by
 rw[ag (aF e hd)];exact a b z e
theorem mM(g:U OI):∀n,n<=g.length->(ax (g.take n)).book.length<=n
 |0,_=>dv _
 |n+1,h=>by
  have a:=mM g n (by exact f' ‹_›);rw[gQ h];show (if at' g n∈(ax (g.take n)).book then (ax (g.take n)).book else (ax (g.take n)).book++[at' g n]).length<=n+1
  split
  ·exact Cr ‹_›
  ·simp_all
def gR(N:U OI)(v:OI):hO:=cC (N.idxOf v) (aJ (N.length - 1))
def ja(g:U OI):hO:=cC ((ax g).book.length - 1) 6++eC (ax g).book++be (g.map (gR (ax g).book))
inductive PR(K:fy)(a:U V)(H:Hp)(Q:VK)(_E:XK):Prop
 |i(p:ce)(g:U OI)(_:a=[.ref p])(_:n7 K H p (g.map ov))(_:0<g.length)(_:g.length<=1000)(_:g.all Et=c0)(_:∀C,ad H C->Q (.str (ja g)) C)
theorem RB:(["value","width","book"]:U hO).Nodup:=by decide +kernel
theorem zjZ(T:Txt K G A)(fD:uG P w K G u q_ 1 "needed" ["number"] js)(eE:uG P w K G u q_ 1 "in_bits" ["number","width"] lR)(mj:uG P w K G u q_ 4 "plain_bits" ["values"] (uI K))(F:vr K "book_bits" "book_bits" Ql f Ag):
  ap P w K G u q_ 5 f Ag ["values"] (PR K):=by
 refine F.o ["values","book","value","width","numbers"] λR A5 An S s H vs Q Ah n h=>?_;obtain⟨p,g,rfl,X,h0,hl,Z,q⟩:=h;have hu:=iM n;refine gb ⟨_,(bY (aK (i:=1) R Y (zs Y) lE)
  (bY (fg qw Y (bV (pv 0)) (aH (i:=2) R Y (gS Y))
   (aj (bf (cU K GL FS FT yj (pv 1) (aa (pv 2) (aa (aL jP (by rfl) T.bu PyProof.Rows.Boot.«len» (aa (pv 1) ae)) ae))))))
  (bY (aK (i:=3) R Y (zs Y) (fD.pe n av (aa (aq cJ (aL jP (by rfl) T.bu PyProof.Rows.Boot.«len» (aa (pv 1) ae)) ah) ae)))
  (bY (gN (i:=4) R Y (gS Y) (Ac:=["value","width","book"]) (fr:=[cx,O 3,O 1]) ⟨Y,Y,Y,Y,Y,Y⟩ Y (bV (pv 0))
    (λAj Ap s H=>⟨aH (i:=0) RB Y (gS Y),bn,(eE.pe n av (aa (og hu (pv 2) (pv 0) (λ_ _=>rfl)) (aa (pv 1) ae)))⟩))
  (ir (j8 jo (j8 jo (LG (eE.pe n av (aa (aq cJ (aL jP (by rfl) T.bu PyProof.Rows.Boot.«len» (aa (pv 1) ae)) ah) (aa (bi T.q8) ae)))) (LG (mj.pe n av (aa (gL (wt Y) (by rfl) T.j6 PyProof.Rows.Boot.«list» (aa (pv 1) ae)) ae)))) (lH K au (aa (pv 4) ae)))))))),?_⟩
 intro d hd;have s1:ad H (upd H d (.dK [])):=ad.new hd;have h1:(upd H d (.dK [])) d=O (.dK (HM 0 [])):=af;generalize upd H d (.dK [])=Ai at s1 h1;have A0:=s1.seq X;refine⟨_,Y,p,Y,⟨_,A0⟩,⟨jV (K:=K) (a:=p) (E:=g.map ov) (λi σ C=>∃v:eH V,σ=[O (.ref p),O (.ref d),v,cx,cx]/\ad H C/\C d=O (.dK (HM 0 (ax (g.take i)).book)))
  ⟨cx,Y,s1,h1⟩ (λi σ C r hp=>by obtain⟨_,_,s2,_⟩:=hp;exact s2.seq X) ?_ ?_⟩⟩
 ·rintro i y σ H4 r ⟨v,rfl,B,b⟩;have D:i<g.length:=by
   have:=(cs.mp r).1
   rwa[bd]at this
  rw[cc,getD_at' D]at r;cases r;have et:(ax (g.take (i+1))).book=if at' g i∈(ax (g.take i)).book then (ax (g.take i)).book else (ax (g.take i)).book++[at' g i]:=by
   rw[gQ D];rfl
  have j:=mM g i (by omega);rw[et];generalize (ax (g.take i)).book=N at b j;refine⟨_,Y,zs (zs (gS ⟨Y,gS ⟨_,b⟩⟩)),_,Y,_,Y,d,_,Y,b,d,_,pw (at' g i),_,Y,by rw[xQ],b,λz hz=>?_,λhz=>⟨?_,?_⟩⟩
  ·have e:at' g i∈N:=by
    by_cases e:at' g i∈N
    ·exact e
    ·rw[wc 0 e]at hz;cases hz
   rw[mu e];exact⟨_,Y,B,b⟩
  ·rw[mK];exact aV (by omega)
  ·have e:at' g i∉N:=λe=>by rw[qA 0 e]at hz;cases hz
   rw[ks e];refine⟨_,Y,oC B hd,?_⟩;rw[af,oy _ hz,we,mK,Eb]
 ·rintro σ H4 ⟨v,rfl,B,b⟩;rw[bd,gl]at b;have j:=mM g g.length (dv _);have a:=rQ (g:=g) g.length;rw[gl]at j a;have q':∀C,ad H C->Q (.str (cC ((ax g).book.length - 1) 6++eC (ax g).book++be (g.map (gR (ax g).book)))) C:=q;generalize (ax g).book=N at b j a q';have A4:0<N.length:=DA ((a _ (dv _)).mpr (eT (getD_at' h0)));have el:((HM 0 N).length:gV) - 1=((N.length - 1:ft):gV):=by rw[mK];omega
  have hw:aJ (N.length - 1)<=10:=iQ (by omega);have E:=B.seq X;have ew:aJ (((HM 0 N).length:gV) - 1).toNat=aJ (N.length - 1):=by rw[el,nI]
  refine⟨_,Y,d,_,Y,b,_,_,Y,Y,_,Y,by omega,?_⟩;rw[ew];refine⟨_,Y,p,Y,⟨_,E⟩,⟨cE (E:=g.map ov) (λi acc C=>ad H4 C/\acc=((g.take i).map (gR N)).map V.str) ⟨ad.refl _,Y⟩ ?_ ?_ ?_ ?_⟩⟩
  ·rintro i acc l r ⟨m,rfl⟩;refine⟨m.seq E,?_⟩;rw[bd,bd,gv];omega
  ·rw[bd];exact f' (aV hl)
  ·rintro i x acc l hx I ⟨m,rfl⟩;have c:i<g.length:=by rwa[bd]at I
   rw[cc,getD_at' c]at hx;cases hx;have e:at' g i∈N:=(a _ (dv _)).mpr (eT (getD_at' c));have h5:=m _ _ b;have dg:fh l d (ov (at' g i)) (O (.int ((N.idxOf (at' g i):ft):gV))):=.inl ⟨_,pw (at' g i),.inl h5,(xQ _).symm,by rw[qA 0 e,Eb]⟩;refine⟨Wk.set Y,tT ?_⟩;refine⟨_,Y,_,Y,d,_,Y,dg,_,Y,N.idxOf (at' g i),aJ (N.length - 1),Y,by omega,λH6 J=>cw I ⟨m.trans J,?_⟩⟩;rw[dM c,dn,dn];rfl
  ·rintro acc l ⟨m,rfl⟩ L A1;rw[bd,gl];have J:ad H4 (upd l L (.lst ((g.map (gR N)).map V.str))):=ay m A1;have h6:(upd l L (.lst ((g.map (gR N)).map V.str))) L=O (.lst ((g.map (gR N)).map V.str)):=af;generalize upd l L (.lst ((g.map (gR N)).map V.str))=H6 at J h6;have d6:=J _ _ b;have sz:((g.map (gR N)).map (·.length)).sum=aJ (N.length - 1) * g.length:=kx λx _=>c5 _ _;have A6:=El hw hl;have A2:N.all Et=c0:=i_.mpr λv hv=>i_.mp Z v ((a v (dv _)).mp hv);refine⟨_,Y,d,_,Y,d6,_,_,Y,Y,N.length - 1,6,?_,by decide,λH7 s7=>?_⟩
   ·show [V.int (((HM 0 N).length:gV) - 1),V.int 6]=_;rw[el];rfl
   refine⟨_,Y,d,_,Y,s7 _ _ d6,λl8 A3=>?_⟩;rw[v0];refine⟨l8,N,Y,n7.of af,by omega,A2,λH9 s9=>?_⟩;have M:ad H6 H9:=(ay s7 A3).trans s9;have a1:(cC (N.length - 1) 6).length=6:=c5 _ _;have a2:(eC N).length=24 * N.length:=by unfold eC;rw[iL,sx]
   have a3:=lQ;refine⟨_,_,Y,Y,by omega,?_⟩;refine⟨Y,_,Y,"",L,g.map (gR N),Y,Y,n7.of (M _ _ h6),?_,?_⟩
   ·rw[sz];show _+_ * 0<=16777216;omega
   ·rw[lu];refine⟨_,_,Y,Y,?_,q' _ ((B.trans J).trans M)⟩;rw[dL,a1,a2,iL,sz];omega
def dY:ft->U OI->hO
 |0=>eC
 |2=>ja
 |3=>iD
 |_=>iX
def fb(j:ft)(g:U OI):hO:=cC j 3++cC (g.length - 1) 8++dY j g
theorem OU(h:rm g 4≠.none): .none∉g:=λc=>h (by
 show iz (if (ax g).none=c0 then .none else _)=_;rw[mu ((WP g).mpr c)];rfl)
theorem gg(h:Fx g=c0):g.all Et=c0/\g.length<=100:=by
 simp only[Fx,sB,CB]at h;exact⟨h.2,h.1.2⟩
theorem oo(g:U OI):(eC g).length=24 * g.length:=by delta eC;rw[iL,sx]
theorem wl(g:U OI):(ja g).length=6+24 * (ax g).book.length+aJ ((ax g).book.length - 1) * g.length:=by
 delta ja
 simp only[dL,dL,c5,oo,iL,kx (f:=gR (ax g).book) λx _=>c5 _ _]
theorem Gq(J:U gV):(eK J).length=5+aJ (br J).toNat * J.length:=by
 delta eK
 rw[dL,c5,iL,kx λx _=>c5 _ _]
theorem o3(o:OI):(dC o).length=24:=c5 _ _
theorem zev(g:U OI):(iD g).length=24+(5+aJ (br (g.map (above (a9 g)))).toNat * g.length):=by
 delta iD
 simp only[dL,o3,Gq,bd]
theorem Wo(g:U OI):(iX g).length=24+(5+aJ (br (FH g g.length)).toNat * (FH g g.length).length):=by
 delta iX
 simp only[dL,o3,Gq]
theorem wm(g:U OI):(ax g).book.length<=g.length:=by
 have:=mM g g.length (dv _)
 simp_all
theorem W_(g:U OI):(FH g g.length).length<=g.length:=by
 cases h:g.length with
 |zero=>simp[FH]
 |succ n=>rw[iY];exact BL _
theorem wj(b:g.length<=1000)(a:g.all Et=c0)(j:ft):(dY j g).length<=200000:=by
 have d:=wm g
 match j with
 |0=>show (eC g).length<=_;rw[oo];lia
 |2=>
  show (ja g).length<=_;have c:aJ ((ax g).book.length - 1)<=10:=iQ (by lia);have:=El c b;rw[wl];lia
 |3=>
  show (iD g).length<=_;have:=mV (mH a) (by simp_all)
  delta iD
  rw[dL,o3];lia
 |1 |j+4=>
  show (iX g).length<=_;have:=mV (lT a g.length) (jE (W_ g) b)
  delta iX
  rw[dL,o3];lia
def iN:U hO:=["plain","book","base","steps"]
theorem PB:∀y∈iN,y∈bH/\y ≠ "runs" :=by decide +kernel
theorem in4:∀y∈bH,y ≠ "runs" -> y∈iN:=by decide +kernel
def N6(K:fy):hO->Sp:=λx a H Q _=>∃(p:ce)(g:U OI)(j:ft),a=[.ref p]/\bH[j]?=O x/\n7 K H p (g.map ov)/\0<g.length/\g.length<=1000/\g.all Et=c0/\(j=4->.none∉g)/\
 ∀C,ad H C->Q (.str (dY j g)) C
theorem Yk{A B C D:ce}(I:G "WRITERS" =O (.ref a))(d:K.lookup a=O ⟨.type "dict",cx,.dict Aw n,#[]⟩)(J:EM w.params Aw.toList)(L:Dp K a "plain" =O (O (.ref A)))(M:Dp K a "book" =O (O (.ref B)))(N:Dp K a "base" =O (O (.ref C)))(R:Dp K a "steps" =O (O (.ref D)))(S:G "plain_bits" =O (.ref A))(T:G "book_bits" =O (.ref B))(X:G "base_bits" =O (.ref C))(Z:G "steps_bits" =O (.ref D))(C1:uG P w K G u q_ 4 "plain_bits" ["values"] (uI K))(C3:uG P w K G u q_ 5 "book_bits" ["values"] (PR K))(C4:uG P w K G u q_ 4 "base_bits" ["values"] (NS K))(C5:uG P w K G u q_ 4 "steps_bits" ["values"] (Qh K)):iB P w K G u q_ 5 "WRITERS" ["values"] iN (N6 K):=by
 refine⟨a,Aw,n,I,d,J,λy x=>?_⟩;obtain⟨x,ne⟩:=PB y x;obtain⟨j,E⟩:=oT x;have only:∀{i:ft},bH[i]?=O y->i=j:=λh=>e7 ip h E;rcases xg E with⟨rfl,rfl⟩ |⟨rfl,rfl⟩ |⟨rfl,rfl⟩ |⟨rfl,rfl⟩ |⟨rfl,rfl⟩
 ·obtain⟨f,Ag,Aq,m,k,b⟩:=C1;cases S.symm.trans m;exact⟨_,Ag,L,(Aq.mono (by decide)).imp (by rintro z H Q Ah ⟨p,g,i,e,l,r,s,d,c,v,q⟩;cases only l;exact⟨p,g,e,r,d,c,q⟩),k,b⟩
 ·exact hQ Y ne
 ·obtain⟨f,Ag,Aq,m,k,b⟩:=C3;cases T.symm.trans m;exact⟨_,Ag,M,Aq.imp (by rintro z H Q Ah ⟨p,g,i,e,l,r,s,d,c,v,q⟩;cases only l;exact⟨p,g,e,r,s,d,c,q⟩),k,b⟩
 ·obtain⟨f,Ag,Aq,m,k,b⟩:=C4;cases X.symm.trans m;exact⟨_,Ag,N,(Aq.mono (by decide)).imp (by rintro z H Q Ah ⟨p,g,i,e,l,r,s,d,c,v,q⟩;cases only l;exact⟨p,g,e,r,d,c,q⟩),k,b⟩
 ·obtain⟨f,Ag,Aq,m,k,b⟩:=C5;cases Z.symm.trans m;exact⟨_,Ag,R,(Aq.mono (by decide)).imp (by rintro z H Q Ah ⟨p,g,i,e,l,r,s,d,c,v,q⟩;cases only l;exact⟨p,g,e,r,s,d,c,v Y,q⟩),k,b⟩
inductive uE(K:fy)(A:Ad)(a:U V)(H:Hp)(Q:VK)(Ah:XK):Prop
 |i(p:ce)(g:U OI)(x:hO)(_:a=[.str x,.ref p])(_:x ≠ "runs")(_:n7 K H p (g.map ov))(_:g.length<=1000)(_:(Fx g=d_->∀C,ad H C->Ah (.ref A.dS) cx C))(_:(Fx g=c0->x∉bH->∀C,ad H C->Ah (.ref A.fN) cx C))(_:(Fx g=c0->∀j,bH[j]?=O x->rm g j = .none->∀C,ad H C->Ah (.ref A.fN) cx C))(_:(Fx g=c0->∀j,bH[j]?=O x->rm g j≠.none->∀C,ad H C->Q (.str (fb j g)) C))
theorem Wc(T:Txt K G A)(I:uG P w K G u (yl P w) 6 "room" ["kind","values"] (Q6 K A))(C:uG P w K G u q_ 1 "in_bits" ["number","width"] lR)(J:iB P w K G u q_ 5 "WRITERS" ["values"] iN (N6 K))(F:vr K "packed" "packed" Oi f Ag):ap P w K G u (yl P w) 7 f Ag ["kind","values"] (uE K A):=by
 refine F.oX ["kind","values","head"] λL N An m s H vs Q Ah i h=>?_;obtain⟨p,g,x,rfl,ne,n,q,R,S,r,v⟩:=h;have X:(g.map ov).length=g.length:=bd _;refine⟨_,(ao (aN (aE dI (I.pe i bU (aa (pv 0) (aa (pv 1) ae))) bL (aC _)) (aj (c9 de T.zcy Y (by rfl) T.qW (aa au ae)))
   aO)
  (ao (aK (i:=2) L Y (gS Y) (aq jo (C.pe i av (aa (cU K G9 GB GC (Vu K) (dJ T.jX) (aa (pv 0) ae)) (aa (bi T.re) ae))) (C.pe i av (aa (aq cJ (aL (cD K) (by rfl) T.bu PyProof.Rows.Boot.«len» (aa (pv 1) ae)) ah) (aa (bi T.rf) ae)))))
  (aj (aA (aq jo (pv 2) (J.pe i av (pv 0) (aa (pv 1) ae))))))),?_⟩
 refine⟨_,Y,_,Y,p,g,x,Y,n,q,R,S,λa j b Ai l=>?_⟩;have Z:=gJ a;obtain⟨c,D⟩:=gg a;obtain⟨q1,q2⟩:=xS b;have r:=r a j b;have v:=v a j b;have y:j=4->rm g j≠.none->.none∉g:=λe h=>by subst e;exact OU h
 refine⟨Y,_,Y,?_⟩;show (if decide (ov (rm g j) = .non)=c0 then _ else _);cases e:rm g j with
 |none=>exact aw ⟨by decide,r e Ai l⟩
 |some M=>
  have d:rm g j≠.none:=by rw[e];intro z;cases z
  have ej:((g.length) - 1)=((g.length - 1:ft):gV):=by omega
  refine⟨.inr (.inl ⟨Y,T.xR⟩),_,Y,A.fL,dG,.str x,j,Y,Y,T.j0 _,Y,Y,q1,q2,?_⟩;refine⟨j,3,Y,by decide,λAm B=>?_⟩;refine⟨_,Y,p,_,Y,.inl ((l.trans B).seq n),_,_,Y,Y,g.length - 1,8,?_,by decide,λH3 E=>?_⟩
  ·show [V.int (((g.map ov).length:gV) - 1),V.int 8]=_;rw[X,ej];rfl
  have a1:(cC j 3).length=3:=c5 _ _;have a2:(cC (g.length - 1) 8).length=8:=c5 _ _;have a3:=lQ;refine⟨_,_,Y,Y,by omega,?_⟩;refine⟨_,Y,_,Y,x,Y,in4 _ (eT b) ne,_,Y,p,g,j,Y,b,((l.trans B).trans E).seq n,Z,q,c,λz=>y z d,λH4 s4=>?_⟩;refine⟨_,_,Y,Y,?_,v d H4 (((l.trans B).trans E).trans s4)⟩;have:=wj q c j;rw[dL,a1,a2];omega
theorem SI(J:U gV):∀a∈0::J,a<=br J:=by
 obtain⟨m,e⟩:=rP (l:=0::J) (by simp);have:br J=m:=by delta br;rw[e];rfl
 exact this ▸ (rO e)
theorem rT(a:U ft):(j5 a).length=a.length:=by simp_all
theorem nq(a:hO)(l:U hO):be (a::l)=a++be l:=by
 apply lU;simp only[eJ,gF,gF,n5,BK]
theorem IG.snoc{m e:ft}:∀{l:U ft}{b:ft},IG m b l->m<e->IG e b (l++[e])
 |[],b,h,a=>⟨by have:b=m:=h;simp_all,Y⟩
 |_::_,_,h,a=>⟨h.1,IG.snoc h.2 a⟩
theorem mU(g:U OI):∀e,IG e 0 (dQ g e):=by
 intro e;induction e using G8 with
 |ind e b=>
  by_cases h:e=0
  ·subst h;rfl
  ·have a:=lv g (e:=e) (by exact Ce ‹_›);rw[qK g (by exact Ce ‹_›)];exact (b _ a).snoc a
def dE(g:U OI):ft->U ft->U (U OI)
 |_,[]=>[]
 |b,e::r=>(g.drop b).take (e - b)::dE g e r
theorem jN(g:U OI):∀(b:ft)(l:U ft),(dE g b l).length=l.length
 |_,[]=>rfl
 |b,e::r=>tS NO (jN g e r)
theorem mL(g:U OI):∀(b:ft)(l:U ft)(i:ft),i<l.length->(dE g b l)[i]?=O ((g.drop ((b::l).getD i 0)).take (l.getD i 0 - (b::l).getD i 0))
 |b,e::r,0,_=>rfl
 |b,e::r,i+1,h=>by
  have:=mL g e r i (by simp_all);assumption
theorem nU(h:Ex g=c0):g.all Et=c0:=by
 simp only[Ex,sB]at h;exact h.2
theorem qC(a:g.all Et=c0)(c:g.length<=100){b:ft}(d:b<e)(f:e<=g.length):Fx ((g.drop b).take (e - b))=c0:=by
 have ll:((g.drop b).take (e - b)).length=e - b:=by grind
 delta Fx
 grind
def ie(g:U OI):hO:=fb (cT g) g
theorem qy(g:U OI):cT g<5/\rm g (cT g)=O (ic g):=by
 obtain⟨M,b,a,_⟩:=qx g;have c:=(cs.mp a).1;refine⟨c,?_⟩
 delta rm
 simp only[Fl,a,Ya b];rfl
theorem vR(g:U OI):bH[cT g]?=O (bH.getD (cT g) ""):=by
 have h:cT g<bH.length:=(qy g).1;simp[ h]
theorem wn(g:U OI):∀n,n<=g.length->(ax (g.take n)).book.length<=(ax (g.take n)).runs/\(0<n->(ax (g.take n)).last∈(ax (g.take n)).book)
 |0,_=>⟨dv _,nofun⟩
 |n+1,h=>by
  obtain⟨a,b⟩:=wn g n (f' h);have l:=UZ (g:=g) (f' h);rw[gQ h];refine⟨?_,λ_=>?_⟩
  ·show (if _ then _ else _:U OI).length<=if _ then _ else _
   grind
  ·show at' g n∈(if _ then _ else _:U OI)
   split <;> simp_all
theorem yG(i:0<g.length)(j:g.length<=8):cT g≠1:=λz=>by
 obtain⟨M,b,a,_⟩:=qx g;have c:=(wn g g.length (dv _)).1;have l:=Qy g;have m:=oZ g;rw[gl]at c;rw[z]at a;generalize ax g=y at *;have d:(3+8+(8+(24+8) * (y.runs:gV)))=M:=kn (kn a);have e:(bM y)[2]?=O (O (3+8+(6+24 * (y.book.length:gV)+(aJ (y.book.length - 1):gV) * y.length))):=by
  show O (iz (if _ then _ else _))=_;rw[ks (by omega)];rfl
 have f:=jk b _ (j4.mpr (eT e));have k:aJ (y.book.length - 1) * y.length<=24/\(y.book.length<=4->aJ (y.book.length - 1) * y.length<=16)/\(y.book.length<=2->aJ (y.book.length - 1) * y.length<=8)/\(y.book.length<=1->aJ (y.book.length - 1) * y.length<=0):=by
  have Ao:∀{k},y.book.length - 1<2 ^ k->aJ (y.book.length - 1) * y.length<=k * 8:=λh=>El (iQ h) (by omega);exact⟨Ao (k:=3) (by omega),λ_=>Ao (k:=2) (by omega),λ_=>Ao (k:=1) (by omega),λ_=>Ao (k:=0) (by omega)⟩
 rw[←d]at f;have:((aJ (y.book.length - 1):gV) * y.length)=((aJ (y.book.length - 1) * y.length:ft):gV):=Y;omega
theorem UH(a:0<g.length)(b:g.length<=8):bH.getD (cT g) "" ≠ "runs" :=λz=>yG a b (e7 ip (z ▸ vR g) Y)
def ju(g:U OI):hO:=be ((dE g 0 (dQ g g.length)).map ie)
inductive zcD(H:Hp)(l:ce)(bs:U (U OI)):Prop
 |i(as:U ce)(_:H l=O (.lst (as.map V.ref)))(_:as.length=bs.length)(_:∀(j:ft)(a:ce)(b:U OI),as[j]?=O a->bs[j]?=O b->H a=O (.lst (b.map ov)))
inductive Pp(K:fy)(b:U V)(H:Hp)(Q:VK)(_E:XK):Prop
 |i(p e:ce)(g:U OI)(a:U ft)(_:b=[.ref p,.ref e])(_:n7 K H p (g.map ov))(_:H e=O (.lst (j5 a)))(_:g.length<=1000)(_:IG g.length 0 a)(_:a.length<=1000)(_:∀(l:ce)(C:Hp),ad H C->H l=cx->zcD C l (dE g 0 a)->Q (.ref l) C)
theorem yw:(["begin","end","values"]:U hO).Nodup:=by decide +kernel
theorem WU(T:Txt K G A)(F:vr K "blocks_between" "blocks_between" OR f Ag):ap P w K G u q_ 1 f Ag ["values","ends"] (Pp K):=by
 refine F.o ["values","ends"] λnN A2 An X s H vs Q Ah hr h=>?_;obtain⟨p,e,g,d,rfl,hS,Z,hx,ris,A3,q⟩:=h;refine⟨_,(aj (aA (bK (Ac:=["begin","end","values"]) (fr:=[cx,cx,O 0]) ⟨Y,Y,Y,Y,Y,Y⟩ Y (om K (by rfl) T.jn (aa (aq jp (cP (aa ah ae)) (pv 1)) (aa (pv 1) ae)))
    (λAj Ap s H=>⟨eA K (n:=2) Y (bP (aH (i:=0) yw Y (gS Y)) (bP (aH (i:=1) yw Y (gS Y)) eB)),bn,(gk (tU K) (pv 2) (fe (pv 0)) (fe (pv 1)))⟩)))),?_⟩
 refine⟨bI Y,λR B=>?_⟩;have n1:=aF Z B;refine⟨_,Y,R,e,_,_,Y,Y,af,by rw[ag n1];exact Z,?_,λD A0=>?_⟩
 ·rw[rT];exact f' (Fo (show 1+d.length<=10000 by omega))
 have E:ad H (upd (upd H R (.lst [.int 0])) D (.lst ([.int 0]++j5 d))):=ay (ad.new B) A0;have h2:(upd (upd H R (.lst [.int 0])) D (.lst ([.int 0]++j5 d))) D=O (.lst (j5 (0::d))):=af;generalize upd (upd H R (.lst [.int 0])) D (.lst ([.int 0]++j5 d))=Am at E h2;have I:=E _ _ Z;refine⟨_,Y,D,e,_,_,Y,n7.of h2,n7.of I,?_⟩;refine⟨qI (λi acc C=>ad Am C/\∃as:U ce,acc=as.map V.ref/\as.length=i/\∀(j:ft) (a) (b),as[j]?=O a->(dE g 0 d)[j]?=O b->C a=O (.lst (b.map ov))) ⟨ad.refl _,[],Y,Y,λj a b e=>by cases e⟩
  d.length (by rw[rT,rT,r_];omega) (λi acc C v r=>⟨n7.of (r.1 _ _ h2),n7.of (r.1 _ _ I),by obtain⟨_,as,e,h,_⟩:=r;rw[e,bd];omega⟩) (f' (aV (by omega))) ?_ ?_⟩
 ·rintro i x y acc H3 T' J L v ⟨S,as,rfl,ha,hb⟩ hT;obtain⟨r1,r2⟩:=ris.at i v;have ex:x = .int (((0::d).getD i 0:ft):gV):=by
   have:i<(0::d).length:=by rw[r_];omega
   rw[cc,cc,a_ this]at J;cases J;simp only[Fl,a_ this,FN]
  have ey:y = .int ((d.getD i 0):gV):=by
   rw[cc,cc,a_ v]at L;cases L;simp only[Fl,a_ v,FN]
  have hg:=mL g 0 d i v;generalize (0::d).getD i 0=b at r1 ex hg;generalize d.getD i 0=c at r1 r2 ey hg;subst ex ey;have s4:ad Am (upd H3 T' (.tup [.int b,.int c])):=ay S hT;refine⟨T',_,Y,th.of af,Y,_,_,Y,_,_,Y,Y,(Wk.set Y).trans (Wk.set Y),tT ?_⟩;refine⟨_,Y,_,Y,_,Y,_,Y,_,Y,p,_,Y,(E.trans s4).seq hS,λl5 M=>?_⟩;rw[ZI g (by omega) r2];have s5:=ay (o:=.lst (((g.drop b).take (c - b)).map ov)) s4 M;refine cw v ⟨s5,as++[l5],by rw[dn];rfl,by simp[ha],λj a z n N=>?_⟩;by_cases hj:j<as.length
  ·rw[kI hj]at n;have h7:=hb j a z n N;have h8:(upd H3 T' (.tup [.int b,.int c])) a=O (.lst (z.map ov)):=by rw[ag (aF h7 hT)];exact h7
   rw[ag (aF h8 M)];exact h8
  ·rw[na (by omega)]at n;have A1:j - as.length=0:=by
    have:=(cs.mp n).1;simp at this;omega
   rw[A1]at n;cases n;rw[show j=i by omega,hg]at N;cases N;exact af
 ·rintro acc H3 ⟨S,as,rfl,ha,hb⟩ l m;refine q l _ (ay (E.trans S) m) ((E.trans S).free m) ⟨as,af,by rw[ha,jN],λj a b n N=>?_⟩;have:=hb j a b n N;rw[ag (aF this m)];exact this
inductive oP(K:fy)(A:Ad)(a:U V)(H:Hp)(Q:VK)(Ah:XK):Prop
 |i(p:ce)(g:U OI)(_:a=[.ref p])(_:n7 K H p (g.map ov))(_:g.length<=8)(_:(Ex g=c0->∀C,ad H C->Q (.str (ju g)) C))(_:(Ex g=d_->∀C,ad H C->Ah (.ref A.dS) cx C))
theorem xD{l:U hO}(h:∀s∈l,s.length<=k):(l.map (·.length)).sum<=k * l.length:=by
 induction l with
 |nil=>exact ot _
 |cons a r b=>
  simp only[n5,Fv,r_,EQ];have:=b λs c=>h s (hE _ c);have:=h a j_
  lia
theorem vQ(b:g.length<=1000)(a:g.all Et=c0):(ie g).length<=200011:=by
 delta ie fb
 simp only[dL,dL,c5,c5];have:=wj b a (cT g);exact IM ‹_› _
theorem XQ:(["block"]:U hO).Nodup:=by decide +kernel
theorem UU(T:Txt K G A)(pj:uG P w K G u q_ 1 "blocks_between" ["values","ends"] (Pp K))(pD:uG P w K G u (yl P w) 8 "cuts" ["values"] (O1 K A))(jF:uG P w K G u (yl P w) 7 "packed" ["kind","values"] (uE K A))(ph:uG P w K G u (yl P w) 6 "best_kind" ["values"] (OB K A))(F:vr K "tight" "tight" O5 f Ag):
  ap P w K G u (yl P w) 9 f Ag ["values"] (oP K A):=by
 refine F.oX ["values"] λnN A2 An M s H vs Q Ah I h=>?_;obtain⟨p,g,rfl,hS,hl,J,k2⟩:=h;refine gb ⟨_,(ir (lH K au (aa (bK (Ac:=["block"]) (fr:=[cx]) ⟨Y,Y,Y,Y,Y,Y⟩ Y (bV (pj.pe I av (aa (pv 0) (aa (pD.pe I bU (aa (pv 0) ae)) ae))))
    (λAj Ap s H=>⟨aH (i:=0) XQ Y (gS Y),bn,(jF.pe I cf (aa (ph.pe I cf (aa (pv 0) ae)) (aa (pv 0) ae)))⟩)) ae))),?_⟩
 refine⟨Y,_,Y,_,Y,p,g,Y,hS,hl,λok c Ai s1 hc h1=>?_,k2⟩;have A3:=iS ok;have v:=nU ok;have ris:=mU g g.length;have x:=qJ g g.length;have J:∀C,ad H C->Q (.str (be ((dE g 0 (dQ g g.length)).map ie))) C:=J ok;generalize dQ g g.length=a at h1 ris x J;refine⟨p,c,g,a,Y,s1.seq hS,h1,jE hl (by decide),ris,by omega,λl Am s2 A4 B2=>?_⟩;have bl:=jN g 0 a;have bg:=mL g 0 a;obtain⟨as,g2,ea,eb⟩:=B2;have la:(as.map V.ref).length=a.length:=by rw[bd];omega
 refine⟨l,Y,⟨_,n7.of g2⟩,⟨cE (E:=as.map V.ref) (λi acc C=>ad Am C/\acc=(((dE g 0 a).take i).map ie).map V.str) ⟨ad.refl _,Y⟩ ?_ (f' (aV (by omega))) ?_ ?_⟩⟩
 ·rintro i acc H3 L ⟨n,rfl⟩;refine⟨n7.of (n _ _ g2),?_⟩;rw[bd,bd,gv];omega
 ·rintro i y acc H3 hx z ⟨n,rfl⟩;have B:i<as.length:=by rwa[bd]at z
  have e:i<a.length:=by omega
  rw[cc,a_ B]at hx;cases hx;obtain⟨N,R⟩:=ris.at i e;have D:=bg i e;have q:=eb i as[i] _ (a_ B) D;have m:=qC v (by omega) N R;have b8:((g.drop ((0::a).getD i 0)).take (a.getD i 0 - (0::a).getD i 0)).length<=8:=by rw[gv,yy];omega
  generalize (g.drop ((0::a).getD i 0)).take (a.getD i 0 - (0::a).getD i 0)=d at D q m b8;obtain⟨A5,S⟩:=gg m;have E:∀{Z:Prop},Fx d=d_->Z:=λh=>by rw[m]at h;cases h
  obtain⟨b5,X⟩:=qy d;have r:=vR d;refine⟨Wk.set Y,tT ⟨_,Y,as[i],d,Y,n7.of (n _ _ q),by omega,E,λ_ H4 s4=>?_⟩⟩;refine⟨_,Y,as[i],d,_,Y,UH (gJ m) b8,n7.of ((n.trans s4) _ _ q),by omega,E,λ_ hk=>hQ (eT r) hk,λ_ j hj hn=>?_,λ_ j hj hn H5 s5=>?_⟩
  ·have:j=cT d:=e7 ip hj r;subst this;rw[X]at hn;cases hn
  ·have:j=cT d:=e7 ip hj r;subst this;refine cw z ⟨(n.trans s4).trans s5,?_⟩;rw[ke,D];show _=((((dE g 0 a).take i)++[d]).map ie).map V.str;rw[dn,dn];rfl
 ·rintro acc H3 ⟨n,rfl⟩ l3 A0;rw[la,←bl,gl];refine⟨"",l3,(dE g 0 a).map ie,Y,Y,n7.of af,?_,?_⟩
  ·have A1:=xD (l:=(dE g 0 a).map ie) (k:=200011) λs hs=>by
    obtain⟨b,D,rfl⟩:=nk.mp hs;obtain⟨i,L⟩:=oT D;have e:i<a.length:=by
     have:=(cs.mp L).1;omega
    rw[bg i e]at L;cases L;obtain⟨N,R⟩:=ris.at i e;obtain⟨x1,x2⟩:=gg (qC v (by omega) N R);exact vQ (by omega) x1
   rw[bd,bl]at A1;have:200011 * a.length<=200011 * 64:=Nat.mul_le_mul_left _ (by omega);show _+_ * 0<=16777216;omega
  ·rw[lu];exact J _ (ay ((s1.trans s2).trans n) A0)
inductive At(Ak:U ft)(n:ft)(L:U ft):Prop
 |i(a b:_)(_:Ak=a++(L++b))(_:a.length=n)
theorem At.left(h:At Ak n (An++B)):At Ak n An:=by
 obtain⟨b,a,e,c⟩:=h;exact⟨b,B++a,by simp_all,c⟩
theorem At.right(h:At Ak n (An++B)):At Ak (n+An.length) B:=by
 obtain⟨b,a,e,c⟩:=h;exact⟨b++An,a,by simp_all,by simp_all⟩
theorem At.le{L:U ft}(h:At Ak n L):n+L.length<=Ak.length:=by
 obtain⟨b,a,e,c⟩:=h
 grind
theorem At.cut{L:U ft}(h:At Ak n L):(Ak.drop n).take L.length=L:=by
 obtain⟨b,a,e,c⟩:=h
 grind
theorem vX(n:ft):∀w,bq (cq n w)
 |0=>λc h=>by cases h
 |w+1=>λc h=>by
  rcases f_.mp (show c∈fY n w::cq n w from h) with e |h
  ·rw[e];delta fY;lia
  ·exact vX n w c h
theorem xo(n:ft):∀(w a:ft),(cq n w).foldl (λacc c=>acc * 2+(c - 48)) a=a * 2 ^ w+n % 2 ^ w
 |0,a=>by
  show a=a * 2 ^ 0+n % 2 ^ 0;rw[Nat.pow_zero,Nat.mul_one,Nat.mod_one];rfl
 |w+1,a=>by
  show (cq n w).foldl (λacc c=>acc * 2+(c - 48)) (a * 2+(fY n w - 48))=_;rw[xo n w];have b:fY n w - 48=n / 2 ^ w % 2:=by
   delta fY
   by_cases h:n / 2 ^ w % 2=1
   ·simp_all
   ·simp_all
  rw[b,Nat.mod_pow_succ,Nat.add_mul,Nat.pow_succ,Nat.mul_assoc,Ia 2 (2 ^ w),Ia (n / 2 ^ w % 2)]
  lia
theorem R'(n w:ft):fM (cq n w)=n % 2 ^ w:=by
 delta fM
 rw[xo];simp
def sP(Ak:hO)(n:ft):U (hO×V):=[("text", .str Ak),("place", .int n)]
def bC(Aj:ce)(H:Hp)(r:ce)(Ak:hO)(n:ft):Prop:=∃X,H r=O (.ins Aj X (sP Ak n))
def Kp(r:ce)(H C:Hp):Prop:=∀b o,b≠r->H b=O o->C b=O o
theorem Kp.refl(r:ce)(H:Hp):Kp r H H:=λ_ _ _ e=>e
theorem Kp.trans{d:Hp}(a:Kp r H C)(b:Kp r C d):Kp r H d:=λc o n e=>b c o n (a c o n e)
theorem Kp.of(s:ad H C):Kp r H C:=λc o _ e=>s c o e
theorem Kp.own    : Kp r H (upd H r o):=λc a n e=>by exact (ag n) ▸ e
theorem bC.same{Ak:hO}(h:bC Aj H r Ak n)(s:ad H C):bC Aj C r Ak n:=by
 obtain⟨X,h⟩:=h;exact⟨X,s _ _ h⟩
theorem kh{Ak:hO}(h:bC Aj H r Ak n)(a:H b=cx):b≠r:=λz=>by
 obtain⟨X,h⟩:=h
 grind
theorem Kp.lst{Ak:hO}{g:U V}(h:bC Aj H r Ak n)(k:Kp r H C)(e:H a=O (.lst g)):C a=O (.lst g):=by
 refine k a _ (λz=>?_) e;obtain⟨X,h⟩:=h;rw[z,h]at e;cases e
theorem Kp.new{l:ce}(k:Kp r H Ai)(h:Ai l=cx):Kp r H (upd Ai l o):=λb a n e=>by
 have:=k b a n e;rw[ag (aF this h)];omega
theorem bC.new{l:ce}{Ak:hO}(R:bC Aj Ai r Ak n)(h:Ai l=cx):bC Aj (upd Ai l o) r Ak n:=by
 obtain⟨X,hR⟩:=id R;exact⟨X,by exact (ag (kh R h).symm) ▸ hR⟩
theorem Kp.free{l:ce}{Ak:hO}(k:Kp r H Ai)(R:bC Aj Ai r Ak n)(h:Ai l=cx):H l=cx:=by
 cases e:H l with
 |none=>rfl
 |some o=>rw[k l o (kh R h) e]at h;cases h
theorem bC.put{l:ce}{Ak:hO}{a:U V}(R:bC Aj Ai r Ak n)(h:Ai l=O (.lst a)):bC Aj (upd Ai l o) r Ak n:=by
 obtain⟨X,hR⟩:=R;exact⟨X,by rw[ag (λz=>by grind)];exact hR⟩
theorem Kp.put{l:ce}(k:Kp r H Ai)(h:H l=cx):Kp r H (upd Ai l o):=λb a n e=>by
 exact (ag (aF e h)) ▸ (k b a n e)
inductive jt(A:Ad)(a:U V)(H:Hp)(Q:VK)(Ah:XK):Prop
 |i(r:ce)(Ak:hO)(n k:ft)(_:a=[.ref r,.int k])(_:bC A.a8 H r Ak n)(_:bq Ak.cps.toList)(_:Ak.length<=16777216)(_:k<=640)(_:(n+k<=Ak.length->∀C,Kp r H C->bC A.a8 C r Ak (n+k)->Q (.int (fM ((Ak.cps.toList.drop n).take k))) C))(_:(Ak.length<n+k->∀C,ad H C->Ah (.ref A.gC) cx C))
theorem Xv(T:Txt K G A)(F:vr K "take" "Reader.take" zX f Ag):ap P w K G u (yl P w) 1 f Ag ["self","width"] (jt A):=by
 refine F.oX ["self","width","end","taken"] λl p An d s H B Q Ah C h=>?_;obtain⟨r,Ak,n,k,rfl,⟨X,hR⟩,q,hz,v,b,x⟩:=h;have a:Ak.length<=fx:=by rw[BB];exact hz
 refine⟨_,(ao (aK (i:=2) l Y (gS Y) (aq aU (bz K (pv 0) Y) (pv 1)))
  (ao (aN (aE e9 (pv 2) (aL mO (by rfl) T.bu PyProof.Rows.Boot.«len» (aa (bz K (pv 0) Y) ae)) (aC _)) (aj (c9 de T.zcw Y (by rfl) T.qT (aa au ae)))
   aO)
  (ao (aK (i:=3) l Y (gS Y) (gk Ot (bz K (pv 0) Y) (fe (bz K (pv 0) Y)) (fe (pv 2))))
  (ao (cK (pv 0) (pv 2) Y)
  (aj (aA (dA (aE e9 (pv 1) ah (aC _)) (gL V2 (by rfl) T.nQ PyProof.Rows.Boot.«int» (aa (pv 3) (aa ah ae))) ah))))))),?_⟩
 refine⟨_,Y,r,_,X,_,_,Y,hR,T.cr,T.i7,Y,_,Y,_,_,Y,Y,?_⟩;refine⟨_,Y,_,Y,r,_,X,_,_,Y,hR,T.cr,T.kQ,Y,Ak,Y,a,_,_,Y,Y,_,Y,?_⟩;by_cases c:Ak.length<n+k
 ·rw[fo (show (Ak.length)<(n)+(k:gV) by omega)];exact aw ⟨by decide,x c H (ad.refl H)⟩
 ·rw[dV (show ¬ (Ak.length)<(n)+(k:gV) by omega)];refine⟨_,Y,r,_,X,_,_,Y,hR,T.cr,T.kQ,Y,_,Y,r,_,X,_,_,Y,hR,T.cr,T.i7,Y,_,Y,_,Y,_,Y,Ak,n,n+k,Y,Y,Y,by omega,by omega,a,?_⟩;refine⟨_,Y,_,Y,r,_,X,_,Y,hR,T.cr,T.i7,by show 2<1000;decide,?_⟩;have e:bC A.a8 (upd H r (.ins A.a8 X (cV "place" (.int ((n)+(k))) (sP Ak n)))) r Ak (n+k):=⟨X,af⟩
  have b:=b (by omega) _ Kp.own e;refine⟨_,Y,_,_,Y,Y,_,Y,?_⟩;by_cases m:k=0
  ·subst m;exact ak b
  ·rw[fo (show (0)<(k:gV) by omega)];have g:((Ak.cps.toList.drop n).take k).length=k:=by
    rw[gv,yy];show min k (Ak.length - n)=k;omega
   have i:n+k - n=k:=by omega
   refine aw ⟨_,Y,_,Y,?_,?_,?_,?_⟩
   ·intro y j;exact q y (List.mem_of_mem_drop (Iq j))
   ·intro z;have z:(Ak.cps.toList.drop n).take (n+k - n)=[]:=z;rw[i]at z;rw[z]at g;exact m g.symm
   ·show ((Ak.cps.toList.drop n).take (n+k - n)).toArray.size<=640;rw[i,hL,g];exact v
   ·show Q (.int (fM ((Ak.cps.toList.drop n).take (n+k - n)))) _;rw[i];exact b
inductive Ox(A:Ad)(a:U V)(H:Hp)(Q:VK)(_E:XK):Prop
 |i(r:ce)(Ak:hO)(n:ft)(_:a=[.ref r])(_:bC A.a8 H r Ak n)(_:Ak.length<=16777216)(_:Q (.bl (decide (n<Ak.length))) H)
theorem SN(T:Txt K G A)(F:vr K "has_more" "Reader.has_more" zV f Ag):ap P w K G u q_ 1 f Ag ["self"] (Ox A):=by
 refine F.o ["self"] λg d An a s H i Q Ah j h=>?_;obtain⟨r,Ak,n,rfl,⟨X,hR⟩,hz,q⟩:=h;have b:Ak.length<=fx:=by rw[BB];exact hz
 refine⟨_,(aj (aA (c8 nY (bz K (pv 0) Y) (aL mO (by rfl) T.bu PyProof.Rows.Boot.«len» (aa (bz K (pv 0) Y) ae)) (aC _)))),?_⟩;refine⟨_,Y,r,_,X,_,_,Y,hR,T.cr,T.i7,Y,_,Y,r,_,X,_,_,Y,hR,T.cr,T.kQ,Y,Ak,Y,b,_,_,Y,Y,?_⟩;have e:decide ((n)<(Ak.length:gV))=decide (n<Ak.length):=by
  by_cases c:n<Ak.length
  ·rw[fo c,fo (show (n)<(Ak.length:gV) by omega)]
  ·rw[dV c,dV (show ¬ (n)<(Ak.length:gV) by omega)]
 rw[e];exact q
inductive Px(A:Ad)(a:U V)(H:Hp)(Q:VK)(_E:XK):Prop
 |i(r:ce)(Ak:hO)(b n:ft)(_:a=[.ref r,.int b])(_:bC A.a8 H r Ak n)(_:Ak.length<=16777216)(_:b<=n)(_:n<=Ak.length)(_:Q (.str ⟨((Ak.cps.toList.drop b).take (n - b)).toArray⟩) H)
theorem Sq(T:Txt K G A)(F:vr K "taken_since" "Reader.taken_since" zY f Ag):ap P w K G u q_ 1 f Ag ["self","place"] (Px A):=by
 refine F.o ["self","place"] λi d An a s H j Q Ah l h=>?_;obtain⟨r,Ak,b,n,rfl,⟨X,hR⟩,hz,e,g,q⟩:=h;have c:Ak.length<=fx:=by rw[BB];exact hz
 refine⟨_,(aj (aA (gk Ot (bz K (pv 0) Y) (fe (pv 1)) (fe (bz K (pv 0) Y))))),?_⟩;exact⟨_,Y,r,_,X,_,_,Y,hR,T.cr,T.kQ,Y,_,Y,_,Y,_,Y,r,_,X,_,_,Y,hR,T.cr,T.i7,Y,_,Y,Ak,b,n,Y,Y,Y,e,g,c,q⟩
inductive Oj(A:Ad)(a:U V)(H:Hp)(Q:VK)(Ah:XK):Prop
 |i(p X:ce)(Ak:hO)(_:a=[.ref p,.str Ak])(_:H p=O (.ins A.a8 X []))(_:Ak.length<=16777216)(_:(bq Ak.cps.toList->∀C:Hp,bC A.a8 C p Ak 0->(∀b,b≠p->C b=H b)->Q .non C))(_:(¬ bq Ak.cps.toList->∀C,ad H C->Ah (.ref A.gC) cx C))
theorem vY:∀l:U ft,(l.count 48+l.count 49<=l.length)/\(l.count 48+l.count 49=l.length↔bq l)
 |[]=>⟨dv _,⟨λ_ c h=>(by cases h),λ_=>rfl⟩⟩
 |c::r=>by
  obtain⟨i,f⟩:=vY r;have g:bq (c::r)↔(c=48\/c=49)/\bq r:=⟨λh=>⟨h c j_,λd hd=>h d (hE _ hd)⟩,λh d hd=>(f_.mp hd).elim (λe=>by simp_all) (h.2 d)⟩
  simp only[g,←f];by_cases a:c=48
  ·subst a;simp
   lia
  ·by_cases b:c=49
   ·subst b;simp
    lia
   ·have j:(c ==48)=d_:=by simpa using a
    simp[a,b]
    lia
theorem S_(T:Txt K G A)(F:vr K "__init__" "Reader.__init__" zW f Ag):ap P w K G u (yl P w) 1 f Ag ["self","text"] (Oj A):=by
 refine F.oX ["self","text"] λr i An a s H v Q Ah x h=>?_;obtain⟨p,X,Ak,rfl,j,hz,l,m⟩:=h;have d:Ak.length<=fx:=by rw[BB];exact hz
 refine⟨_,(ao (aN (aE fR (aq aU (cU K Hg Hh Hi yi (pv 1) (aa au ae)) (cU K Hg Hh Hi yi (pv 1) (aa au ae))) (aL mO (by rfl) T.bu PyProof.Rows.Boot.«len» (aa (pv 1) ae)) (aC _)) (aj (c9 de T.zcw Y (by rfl) T.qT (aa au ae)))
   aO)
  (ao (cK (pv 0) (pv 1) Y)
  (aj (cK (pv 0) ah Y)))),?_⟩
 refine⟨_,Y,Y,Ak,"0",Y,Y,_,Y,Y,Ak,"1",Y,Y,_,_,Y,Y,_,Y,Ak,Y,d,Y,_,Y,?_⟩;rw[BS];have n:Txt.count Ak "0" =((Ak.cps.toList.count 48):gV):=by rw[xW];exact PV Ak 48
 have q:Txt.count Ak "1" =((Ak.cps.toList.count 49):gV):=by rw[xX];exact PV Ak 49
 have y:Ak.cps.toList.length=Ak.length:=li;obtain⟨B,e⟩:=vY Ak.cps.toList;rw[n,q];by_cases c:bq Ak.cps.toList
 ·have:=e.mpr c;rw[fo (show (((Ak.cps.toList.count 48):gV)+((Ak.cps.toList.count 49):gV))=(Ak.length) by omega)];refine⟨_,Y,_,Y,p,A.a8,X,_,Y,j,T.cr,T.kQ,by decide,?_⟩;refine⟨_,Y,p,A.a8,X,_,Y,af,T.cr,T.i7,by show 1<1000;decide,?_⟩;exact l c _ ⟨X,af⟩ λb g=>by rw[ag g,ag g]
 ·have:¬ Ak.cps.toList.count 48+Ak.cps.toList.count 49=Ak.cps.toList.length:=λz=>c (e.mp z);rw[dV (show ¬ (((Ak.cps.toList.count 48):gV)+((Ak.cps.toList.count 49):gV))=(Ak.length:gV) by omega)];exact aw ⟨by decide,m c H (ad.refl H)⟩
theorem qG{o:OI}(h:Et o=c0):T1.iF o<2 ^ 24:=by
 cases o with
 |none=>decide
 |some i=>
  have:=T1.j7 h;show (i+4000001).toNat<2 ^ 24
  lia
theorem Rc(d:gV):(if bW d % 2=0 then bW d / 2 else -(bW d / 2) - 1)=d:=by
 delta bW
 by_cases h:0<=d
 ·simp_all
 ·rw[ks h];omega
theorem YU{Ak:hO}{v:ft}(h:At Ak.cps.toList n (cq v k))(c:v<2 ^ k):n+k<=Ak.length/\fM ((Ak.cps.toList.drop n).take k)=v:=by
 have a:=h.le;have b:=h.cut;rw[gy]at a b;exact⟨a,by simp only[b,R',Nat.mod_eq_of_lt c]⟩
theorem gq{Ak:hO}{v:ft}(R:bC A.a8 H r Ak n)(a:bq Ak.cps.toList)(hz:Ak.length<=16777216)(b:k<=640)(h:At Ak.cps.toList n (cq v k))(c:v<2 ^ k)(q:∀C,Kp r H C->bC A.a8 C r Ak (n+k)->Q (.int (v:gV)) C):jt A [.ref r,.int (k:gV)] H Q Ah:=by
 obtain⟨d,e⟩:=YU h c;refine⟨r,Ak,n,k,Y,R,a,hz,b,λ_ C f g=>?_,λz=>hQ d (by exact Nat.not_le_of_lt ‹_›)⟩;rw[e];exact q C f g
theorem Kn{x v:V}(h:Az [x,v] H Q Ah):iw (tC v) gO σ H (λa Am=>Az (x::(a++[])) Am Q Ah):=h
theorem NA{x v:V}(a:σ[i]?=O (O v))(h:Az [x,v] H Q Ah):iw (cL i) gO σ H (λb Am=>Az (x::(b++[])) Am Q Ah):=⟨v,a,h⟩
inductive Pg(A:Ad)(a:U V)(H:Hp)(Q:VK)(_E:XK):Prop
 |i(r:ce)(Ak:hO)(n:ft)(o:OI)(_:a=[.ref r])(_:bC A.a8 H r Ak n)(_:bq Ak.cps.toList)(_:Ak.length<=16777216)(_:Et o=c0)(_:At Ak.cps.toList n (dC o).cps.toList)(_:∀C,Kp r H C->bC A.a8 C r Ak (n+24)->Q (ov o) C)
theorem Vv(T:Txt K G A)(c:aZ P w K G u (yl P w) 1 A.a8 "take" ["self","width"] (jt A))(F:vr K "read_value" "read_value" QC f Ag):ap P w K G u q_ 3 f Ag ["reader"] (Pg A):=by
 obtain⟨B,C,d,e,g⟩:=c;refine F.o ["reader","number"] λj l An a s H D Q Ah m h=>?_;obtain⟨r,Ak,n,o,rfl,R,p,hz,b,v,q⟩:=h;refine⟨_,(ao (aK (i:=1) j Y (gS Y) (bp (pv 0) T.cr e d (m.mono (by decide)) g .nil cf (aa (bi T.ik) ae)))
  (aj (aA (dA (aE bh (pv 1) ah (aC _)) bL (aq cJ (pv 1) (bi T.nj)))))),?_⟩
 obtain⟨X,hR⟩:=id R;refine⟨_,Y,r,X,_,Y,hR,Y,Kn (gq R p hz (by decide) v (qG b) λAi x y=>?_)⟩;have q:=q Ai x y;refine⟨_,Y,Y,_,Y,?_⟩;rw[BS];cases o with
 |none=>exact aw q
 |some i=>
  have E:=j7 b;have z:((iF (O i):ft):gV)=i+4000001:=by
   show (((i+4000001).toNat:ft):gV)=_;omega
  rw[z,dV (show ¬ i+4000001=0 by omega)];refine ak ⟨_,Y,_,_,Y,Y,?_⟩;rw[show i+4000001 - 4000001=i by omega];exact q
theorem SO(g:U OI):(eC g).cps.toList=(g.map λo=>(dC o).cps.toList).flatten:=by
 delta eC
 simp only[gF,p_];rfl
theorem qm{α:Type}{f:α->U ft}{k:ft}{Ak:U ft}:∀{l:U α}{n:ft},(∀a,(f a).length=k)->At Ak n ((l.map f).flatten)->∀(i:ft)(a:α),l[i]?=O a->At Ak (n+k * i) (f a)
 |b::r,n,c,h,0,a,e=>by
  cases e;rw[n5,BK]at h;rw[Nat.mul_zero];exact h.left
 |b::r,n,c,h,i+1,a,e=>by
  rw[n5,BK]at h;have:=qm c h.right i a e;rw[c b]at this;rw[show n+k * (i+1)=n+k+k * i by simp only[EQ];lia];omega
inductive oK(A:Ad)(a:U V)(H:Hp)(Q:VK)(_E:XK):Prop
 |i(r:ce)(Ak:hO)(n:ft)(g:U OI)(_:a=[.ref r,.int g.length])(_:bC A.a8 H r Ak n)(_:bq Ak.cps.toList)(_:Ak.length<=16777216)(_:g.length<=1000)(_:g.all Et=c0)(_:At Ak.cps.toList n (eC g).cps.toList)(_:∀(l:ce)(C:Hp),Kp r H C->H l=cx->bC A.a8 C r Ak (n+24 * g.length)->C l=O (.lst (g.map ov))->Q (.ref l) C)
theorem ZU:(["place","reader"]:U hO).Nodup:=by decide +kernel
theorem Yt(T:Txt K G A)(x:uG P w K G u q_ 3 "read_value" ["reader"] (Pg A))(F:vr K "read_plain" "read_plain" Qo f Ag):ap P w K G u q_ 4 f Ag ["reader","length"] (oK A):=by
 refine F.o ["reader","length"] λL y An m s H M Q Ah z h=>?_;obtain⟨r,Ak,n,g,rfl,R,B,hz,D,p,v,q⟩:=h;rw[SO]at v;have E:=λi a e=>qm (λo=>by exact gy _ _) v i a e;refine⟨_,(aj (aA (bK (Ac:=["place","reader"]) (fr:=[cx,O 0]) ⟨Y,Y,Y,Y,Y,Y⟩ Y (fB (by rfl) T.eP (aa (pv 1) ae))
    (λAj Ap s H=>⟨aH (i:=0) ZU Y (gS Y),bn,(x.pe z av (aa (pv 1) ae))⟩)))),?_⟩
 refine⟨_,Y,_,Y,by omega,by omega,?_⟩;rw[nI];refine⟨iG (λi acc C=>Kp r H C/\bC A.a8 C r Ak (n+24 * i)/\acc=(g.take i).map ov) ⟨Kp.refl _ _,R,Y⟩ (λi acc C c I=>by rw[I.2.2,bd,gv];omega) (f' (aV D)) ?_ ?_⟩
 ·rintro i acc Ai c ⟨d,j,rfl⟩;refine⟨Wk.set Y,tT ⟨_,Y,r,Ak,n+24 * i,at' g i,Y,j,B,hz,i_.mp p _ (eT (getD_at' c)),E i _ (getD_at' c),λAm J R2=>cw c ⟨d.trans J,?_,?_⟩⟩⟩
  ·rw[show n+24 * (i+1)=n+24 * i+24 by omega];exact R2
  ·rw[dM c,dn];rfl
 ·rintro acc Ai ⟨d,j,rfl⟩ l b;rw[gl];exact q l _ (d.new b) (d.free j b) (j.new b) af
inductive iW(A:Ad)(j:ft)(a:U V)(H:Hp)(Q:VK)(_E:XK):Prop
 |i(r:ce)(Ak:hO)(n:ft)(g:U OI)(_:a=[.ref r,.int g.length])(_:bC A.a8 H r Ak n)(_:bq Ak.cps.toList)(_:Ak.length<=16777216)(_:Fx g=c0)(_:rm g j≠.none)(_:At Ak.cps.toList n (dY j g).cps.toList)(_:∀(l:ce)(C:Hp),Kp r H C->H l=cx->bC A.a8 C r Ak (n+(dY j g).length)->C l=O (.lst (g.map ov))->Q (.ref l) C)
theorem Ro{b:U V}(h:iW A 0 b H Q Ah):oK A b H Q Ah:=by
 obtain⟨r,Ak,n,g,e,R,c,hz,a,_,d,q⟩:=h;obtain⟨f,p⟩:=gg a;refine⟨r,Ak,n,g,e,R,c,hz,by lia,f,d,λl C k i j m=>q l C k i ?_ m⟩;show bC A.a8 C r Ak (n+(eC g).length);rw[oo];exact j
theorem yB(h:i<=n):i<2 ^ aJ n:=by
 rw[rV];by_cases e:n=0
 ·simp_all
 ·rw[ks e];exact Cd h Nat.lt_log2_self
theorem YL(h:rm g 2≠.none):(ax g).book.length<=64:=by
 by_cases c:64<(ax g).book.length
 ·refine hQ ?_ h;show iz (if 64<(ax g).book.length then .none else _)=_;rw[mu c];rfl
 ·exact Nat.le_of_not_lt ‹_›
theorem qo{Ao:α->ft}{l:U α}(h:At Ak n ((l.map λa=>(cC (Ao a) k).cps.toList).flatten))(i:ft)(a:α)(e:l[i]?=O a):At Ak (n+k * i) (cq (Ao a) k):=
 qm (λa=>by exact gy _ _) h i a e
theorem W':(["place","width","reader"]:U hO).Nodup:=by decide +kernel
theorem Xl:(["number","book"]:U hO).Nodup:=by decide +kernel
theorem Rx(T:Txt K G A)(CT:aZ P w K G u (yl P w) 1 A.a8 "take" ["self","width"] (jt A))(ml:uG P w K G u q_ 4 "read_plain" ["reader","length"] (oK A))(fD:uG P w K G u q_ 1 "needed" ["number"] js)(F:vr K "read_book" "read_book" Pm f Ag):ap P w K G u q_ 5 f Ag ["reader","length"] (iW A 2):=by
 obtain⟨mW,mY,eG,eN,eI⟩:=CT;refine F.o ["reader","length","entries","book","width","numbers"] λnN AH An A2 s H vs Q Ah hr h=>?_;obtain⟨r,Ak,n,g,rfl,R,hb,hz,B,A3,D,q⟩:=h;obtain⟨A4,AD⟩:=gg B;have h0:=gJ B;have E:(dY 2 g).length=6+24 * (ax g).book.length+aJ ((ax g).book.length - 1) * g.length:=wl g;rw[E]at q;have D:At Ak.cps.toList n (cq ((ax g).book.length - 1) 6++((eC (ax g).book).cps.toList++(g.map λv=>(cC ((ax g).book.idxOf v) (aJ ((ax g).book.length - 1))).cps.toList).flatten)):=by
  have e:(dY 2 g).cps.toList=cq ((ax g).book.length - 1) 6++((eC (ax g).book).cps.toList++(g.map λv=>(cC ((ax g).book.idxOf v) (aJ ((ax g).book.length - 1))).cps.toList).flatten):=by
   show (ja g).cps.toList=_;unfold ja;rw[eJ,eJ,gF,p_,Er];rfl
  rw[←e];exact D
 have A5:=YL A3;have A6:=wm g;have b:=rQ (g:=g) g.length;rw[gl]at b;generalize (ax g).book=N at q D A5 A6 b;have AE:0<N.length:=DA ((b _ (dv _)).mpr (eT (getD_at' h0)));have A7:N.all Et=c0:=i_.mpr λv hv=>i_.mp A4 v ((b v (dv _)).mp hv);have hw:aJ (N.length - 1)<=6:=iQ (by omega);have d:=D.right;rw[gy]at d;have I:=d.right;rw[li,show (eC N).cps.size=24 * N.length from oo N]at I;have hv:=λi a e=>qo I i a e;refine⟨_,(ao (aK (i:=2) nN Y (gS Y) (aq aU (bp (pv 0) T.cr eN eG (hr.mono (by decide)) eI .nil cf (aa (bi T.q8) ae)) ah))
  (ao (aK (i:=3) nN Y (zs Y) (ml.pe hr av (aa (pv 0) (aa (pv 2) ae))))
  (ao (aK (i:=4) nN Y (zs Y) (fD.pe hr av (aa (aq cJ (pv 2) ah) ae)))
  (ao (gN (i:=5) nN Y (gS Y) (Ac:=["place","width","reader"]) (fr:=[cx,O 4,O 0]) ⟨Y,Y,Y,Y,Y,Y⟩ Y (fB (by rfl) T.eP (aa (pv 1) ae))
    (λAj Ap s H=>⟨aH (i:=0) W' Y (gS Y),bn,(bp (pv 2) T.cr eN eG (hr.mono (by decide)) eI .nil cf (aa (pv 1) ae))⟩))
  (ao (aN (aE sd (aL (V' K Y) (by rfl) T.rW PyProof.Rows.Boot.«max» (aa (pv 5) ae)) (pv 2) (aC _)) ou
   aO)
  (aj (aA (bK (Ac:=["number","book"]) (fr:=[cx,O 3]) ⟨Y,Y,Y,Y,Y,Y⟩ Y (bV (pv 5))
    (λAj Ap s H=>⟨aH (i:=0) Xl Y (gS Y),bn,(aG (bF K) (pv 1) (pv 0) (λ_ _=>rfl))⟩))))))))),?_⟩
 obtain⟨X,hR⟩:=id R;refine⟨_,Y,r,X,_,Y,hR,Y,Kn (gq (k:=6) R hb hz (by decide) D.left (show N.length - 1<2 ^ 6 by omega) λAi k1 R1=>?_)⟩;have ew:((N.length - 1:ft):gV)+1=(N.length:gV):=by omega
 refine⟨_,_,Y,Y,_,Y,_,Y,r,Ak,n+6,N,?_,R1,hb,hz,by omega,A7,d.left,λlb Am k2 J R2 h2=>?_⟩
 ·show [V.ref r,V.int (((N.length - 1:ft):gV)+1)]=_;rw[ew]
 have A8:=k1.trans k2;have AF:=k1.free R1 J;have A9:lb≠r:=kh R1 J;refine⟨_,Y,_,_,Y,Y,_,Y,by omega,?_⟩;have en:(((N.length - 1:ft):gV)+1 - 1).toNat=N.length - 1:=by omega
 rw[en];refine⟨_,Y,_,Y,by omega,by omega,?_⟩;rw[nI];refine⟨iG (λi acc C=>Kp r Am C/\bC A.a8 C r Ak (n+6+24 * N.length+aJ (N.length - 1) * i)/\acc=((g.take i).map λv=>((N.idxOf v:ft):gV)).map V.int) ⟨Kp.refl _ _,R2,Y⟩ (λi acc C x hp=>by rw[hp.2.2,bd,bd,gv];omega) (f' (aV (by omega))) ?_ ?_⟩
 ·rintro i acc H3 x ⟨k3,R3,rfl⟩;obtain⟨AA,AB⟩:=id R3;have hm:at' g i∈N:=(b _ (dv _)).mpr (eT (getD_at' x));have j:N.idxOf (at' g i)<N.length:=o_ hm;refine⟨Wk.set Y,tT ⟨_,Y,r,AA,_,Y,AB,Y,NA Y (gq (k:=aJ (N.length - 1)) R3 hb hz (by omega) (hv i _ (getD_at' x)) (yB (i:=N.idxOf (at' g i)) (n:=N.length - 1) (by omega)) λH4 L R4=>cw x ⟨k3.trans L,?_,?_⟩)⟩⟩
  ·rw[EQ,←F0];exact R4
  ·rw[dM x,dn,dn];rfl
 ·rintro acc H3 ⟨k3,R3,rfl⟩ S Z;rw[gl];have L:=k3.new (o:=.lst ((g.map λv=>((N.idxOf v:ft):gV)).map V.int)) Z;have R4:=R3.new (o:=.lst ((g.map λv=>((N.idxOf v:ft):gV)).map V.int)) Z;have h4:(upd H3 S (.lst ((g.map λv=>((N.idxOf v:ft):gV)).map V.int))) S=O (.lst ((g.map λv=>((N.idxOf v:ft):gV)).map V.int)):=af;generalize upd H3 S (.lst ((g.map λv=>((N.idxOf v:ft):gV)).map V.int))=H4 at L R4 h4;have b4:=L lb _ A9 h2;obtain⟨M,hM⟩:=rP (l:=g.map λv=>((N.idxOf v:ft):gV)) (by intro z;rw[List.map_eq_nil_iff.mp z]at h0;cases h0);have A0:=nG hM;have AG:M<(N.length:gV):=by
   obtain⟨v,AC,rfl⟩:=nk.mp A0;have:=o_ ((b v (dv _)).mpr AC);omega
  refine⟨_,Y,S,_,M,Y,n7.of h4,A0,rO hM,_,Y,_,_,Y,Y,_,Y,?_⟩;rw[dV (show ¬ (((N.length - 1:ft):gV)+1)<=M by omega)];refine ak ?_;refine⟨_,Y,S,Y,⟨_,n7.of h4⟩,⟨cE (E:=(g.map λv=>((N.idxOf v:ft):gV)).map V.int) (λi acc C=>ad H4 C/\acc=(g.take i).map ov) ⟨ad.refl _,Y⟩ ?_ ?_ ?_ ?_⟩⟩
  ·rintro i acc H5 x ⟨m,rfl⟩;refine⟨n7.of (m _ _ h4),?_⟩;rw[bd,gv];omega
  ·rw[bd,bd];exact f' (aV (by omega))
  ·rintro i y acc H5 hx A1 ⟨m,rfl⟩;have c:i<g.length:=by rwa[bd,bd]at A1
   rw[cc,cc,getD_at' c]at hx;cases hx;have hm:at' g i∈N:=(b _ (dv _)).mpr (eT (getD_at' c));have j:N.idxOf (at' g i)<N.length:=o_ hm;have a1:FY (N.map ov) ((N.idxOf (at' g i):ft):gV)=O (ov (at' g i)):=dX (by rw[cc,a_ j,Ef j];rfl);refine⟨Wk.set Y,tT ⟨_,Y,_,Y,lb,_,_,_,Y,Y,n7.of (m _ _ b4),a1,cw A1 ⟨m,?_⟩⟩⟩;rw[dM c,dn];rfl
  ·rintro acc H5 ⟨m,rfl⟩ l p;rw[bd,bd,gl];have k5:Kp r H H5:=(A8.trans L).trans (Kp.of m);have R5:=R4.same m;refine q l _ (k5.new p) (k5.free R5 p) ?_ af;rw[show n+(6+24 * N.length+aJ (N.length - 1) * g.length)=n+6+24 * N.length+aJ (N.length - 1) * g.length by omega];exact R5.new p
theorem xa{J:U gV}(h:At Ak n (eK J).cps.toList):At Ak n (cq (aJ (br J).toNat) 5)/\At Ak (n+5) ((J.map λm=>(cC m.toNat (aJ (br J).toNat)).cps.toList).flatten):=by
 have e:(eK J).cps.toList=cq (aJ (br J).toNat) 5++(J.map λm=>(cC m.toNat (aJ (br J).toNat)).cps.toList).flatten:=by
  delta eK
  simp only[eJ,gF,p_];rfl
 rw[e]at h;exact⟨h.left,h.right⟩
theorem P0{J:U gV}{m:gV}(h:m∈J):m.toNat<2 ^ aJ (br J).toNat:=by
 have:=SI J m (hE _ h);exact yB (by lia)
theorem Tj:(["place","width","reader"]:U hO).Nodup:=by decide +kernel
theorem Yg:(["number","least"]:U hO).Nodup:=by decide +kernel
theorem Zf(T:Txt K G A)(CT:aZ P w K G u (yl P w) 1 A.a8 "take" ["self","width"] (jt A))(F:vr K "read_base" "read_base" Po f Ag):ap P w K G u q_ 3 f Ag ["reader","length"] (iW A 3):=by
 obtain⟨mW,mY,eG,eN,eI⟩:=CT;refine F.o ["reader","length","least","width","numbers"] λnN A8 An A0 s H vs Q Ah hr h=>?_;obtain⟨r,Ak,n,g,rfl,R,hb,hz,v,A9,S,q⟩:=h;obtain⟨B,A7⟩:=gg v;have h0:=gJ v;have D:(dY 3 g).length=24+(5+aJ (br (g.map (above (a9 g)))).toNat * g.length):=zev g;rw[D]at q;have S:At Ak.cps.toList n ((dC (O (a9 g))).cps.toList++(eK (g.map (above (a9 g)))).cps.toList):=by
  have e:(dY 3 g).cps.toList=(dC (O (a9 g))).cps.toList++(eK (g.map (above (a9 g)))).cps.toList:=by
   show (iD g).cps.toList=_;unfold iD;rw[eJ]
  rw[←e];exact S
 have E:=rG B;have AA:=j7 E;have I:=mH B;have A1:=S.right;obtain⟨e1,Z⟩:=xa A1;obtain⟨t0,t1⟩:=o0 (k:=2 ^ 30) (by decide) I;have hw:aJ (br (g.map (above (a9 g)))).toNat<=30:=iQ (by omega);have hv:=λi a e=>qo Z i a e;have J:=λm h=>P0 (J:=g.map (above (a9 g))) (m:=m) h;generalize aJ (br (g.map (above (a9 g)))).toNat=L at q e1 Z hw hv J;refine⟨_,(ao (aK (i:=2) nN Y (zs Y) (aq cJ (bp (pv 0) T.cr eN eG (hr.mono (by decide)) eI .nil cf (aa (bi T.ik) ae)) (bi T.nj)))
  (ao (aK (i:=3) nN Y (zs Y) (bp (pv 0) T.cr eN eG (hr.mono (by decide)) eI .nil cf (aa (bi T.lj) ae)))
  (ao (gN (i:=4) nN Y (gS Y) (Ac:=["place","width","reader"]) (fr:=[cx,O 3,O 0]) ⟨Y,Y,Y,Y,Y,Y⟩ Y (fB (by rfl) T.eP (aa (pv 1) ae))
    (λAj Ap s H=>⟨aH (i:=0) Tj Y (gS Y),bn,(bp (pv 2) T.cr eN eG (hr.mono (by decide)) eI .nil cf (aa (pv 1) ae))⟩))
  (aj (aA (bK (Ac:=["number","least"]) (fr:=[cx,O 2]) ⟨Y,Y,Y,Y,Y,Y⟩ Y (bV (pv 4))
    (λAj Ap s H=>⟨aH (i:=0) Yg Y (gS Y),bn,(dA (aE bh (pv 0) ah (aC _)) bL (aq cJ (aq aU (pv 1) (pv 0)) ah))⟩))))))),?_⟩
 obtain⟨X,hR⟩:=id R;refine⟨_,Y,r,X,_,Y,hR,Y,Kn (gq (k:=24) R hb hz (by decide) S.left (qG E) λAi k1 R1=>?_)⟩;have ec:((iF (O (a9 g)):ft):gV) - 4000001=a9 g:=by
  show (((a9 g+4000001).toNat:ft):gV) - 4000001=_;omega
 obtain⟨A2,A3⟩:=id R1;refine⟨_,_,Y,Y,_,Y,r,A2,_,Y,A3,Y,Kn (gq (k:=5) R1 hb hz (by decide) e1 (show L<2 ^ 5 by omega) λAm k2 R2=>?_)⟩;refine⟨_,Y,_,Y,by omega,by omega,?_⟩;rw[nI];refine⟨iG (λi acc C=>Kp r Am C/\bC A.a8 C r Ak (n+24+5+L * i)/\acc=((g.map (above (a9 g))).take i).map V.int) ⟨Kp.refl _ _,R2,Y⟩ (λi acc C hi hp=>by rw[hp.2.2,bd,gv];omega) (f' (aV (by omega))) ?_ ?_⟩
 ·rintro i acc H3 hi ⟨k3,R3,rfl⟩;obtain⟨A4,A5⟩:=id R3;have ex:(g.map (above (a9 g)))[i]?=O (above (a9 g) (at' g i)):=by rw[cc,getD_at' hi];rfl
  have c:=eT ex;obtain⟨n0,_⟩:=I _ c;refine⟨Wk.set Y,tT ⟨_,Y,r,A4,_,Y,A5,Y,NA Y (gq (k:=L) R3 hb hz (by omega) (hv i _ ex) (J _ c) λH4 k4 R4=>cw hi ⟨k3.trans k4,?_,?_⟩)⟩⟩
  ·rw[EQ,←F0];exact R4
  ·rw[ke,ex,dn,Db n0];rfl
 ·rintro acc H3 ⟨k3,R3,rfl⟩ ln M;have A6:(g.map (above (a9 g))).take g.length=g.map (above (a9 g)):=xv (by rw[bd];exact dv _);rw[A6];have k4:=k3.new (o:=.lst ((g.map (above (a9 g))).map V.int)) M;have R4:=R3.new (o:=.lst ((g.map (above (a9 g))).map V.int)) M;have h4:(upd H3 ln (.lst ((g.map (above (a9 g))).map V.int))) ln=O (.lst ((g.map (above (a9 g))).map V.int)):=af;generalize upd H3 ln (.lst ((g.map (above (a9 g))).map V.int))=H4 at k4 R4 h4;refine⟨_,Y,ln,Y,⟨_,n7.of h4⟩,⟨cE (E:=(g.map (above (a9 g))).map V.int) (λi acc C=>ad H4 C/\acc=(g.take i).map ov) ⟨ad.refl _,Y⟩ ?_ ?_ ?_ ?_⟩⟩
  ·rintro i acc H5 hi ⟨d,rfl⟩;refine⟨n7.of (d _ _ h4),?_⟩;rw[bd,gv];omega
  ·rw[bd,bd];exact f' (aV (by omega))
  ·rintro i y acc H5 hx j ⟨d,rfl⟩;have b:i<g.length:=by rwa[bd,bd]at j
   rw[cc,cc,getD_at' b]at hx;cases hx;have N:at' g i∈g:=eT (getD_at' b);refine⟨Wk.set Y,tT ⟨_,Y,Y,_,Y,?_⟩⟩;rw[BS];cases e:at' g i with
   |none=>
    refine aw (cw j ⟨d,?_⟩);rw[dM b,e,dn];rfl
   |some z=>
    have AB:0<=z - a9 g:=by
     obtain⟨m,hm⟩:∃m,cG (bb g)=O m:=by
      cases Z:bb g with
      |nil=>have:=j4.mpr (e ▸ N);rw[Z]at this;cases this
      |cons x r=>exact⟨_,Y⟩
     have:=jk hm z (j4.mpr (e ▸ N));have:a9 g=m:=by unfold a9;rw[hm];rfl
     omega
    rw[dV (show ¬ above (a9 g) (O z)=0 by show ¬ z - a9 g+1=0;omega)];refine ak ⟨_,Y,_,Y,_,_,Y,Y,_,_,Y,Y,cw j ⟨d,?_⟩⟩;rw[dM b,e,dn,ec];have e3:a9 g+above (a9 g) (O z) - 1=z:=by show a9 g+(z - a9 g+1) - 1=z;omega
    rw[e3];rfl
  ·rintro acc H5 ⟨d,rfl⟩ l p;rw[bd,bd,gl];have k5:Kp r H H5:=((k1.trans k2).trans k4).trans (Kp.of d);have R5:=R4.same d;refine q l _ (k5.new p) (k5.free R5 p) ?_ af;rw[show n+(24+(5+L * g.length))=n+24+5+L * g.length by omega];exact R5.new p
inductive Pw(a:U V)(H:Hp)(Q:VK)(_E:XK):Prop
 |i(d:gV)(_:a=[.int (bW d)])(_:Q (.int d) H)
theorem Yf(F:vr K "unfolded" "unfolded" Op f Ag):ap P w K G u q_ 1 f Ag ["number"] Pw:=by
 refine F.o ["number"] λi e An b s H j Q Ah l h=>?_;obtain⟨d,rfl,q⟩:=h;have a:=Rc d;have g:=qQ d;generalize bW d=m at a g;refine⟨_,(aj (aA (dA (aE bh (aq b9 (pv 0) ah) ah (aC _)) (aq gh (pv 0) ah) (aq cJ (iq iy (aq gh (pv 0) ah)) ah)))),?_⟩;refine⟨_,Y,_,_,Y,Y,by decide,Y,_,Y,?_⟩;rw[BS];by_cases c:m % 2=0
 ·rw[mu c]at a;rw[fo c];refine aw ⟨_,Y,_,_,Y,Y,⟨by decide,by decide⟩,?_⟩;rw[a];exact q
 ·rw[ks c]at a;rw[dV c];refine ak ⟨_,Y,_,_,Y,Y,⟨by decide,by decide⟩,_,Y,_,_,Y,Y,?_⟩;rw[a];exact q
theorem Te(T:Txt K G A)(CT:aZ P w K G u (yl P w) 1 A.a8 "take" ["self","width"] (jt A))(pR:uG P w K G u q_ 1 "unfolded" ["number"] Pw)(F:vr K "read_steps" "read_steps" Ob f Ag):
  ap P w K G u q_ 3 f Ag ["reader","length"] (iW A 4):=by
 obtain⟨mW,mY,eG,eN,eI⟩:=CT;refine F.o ["reader","length","values","width","place"] λnN A9 An A0 s H vs Q Ah S h=>?_;obtain⟨r,Ak,n,g,rfl,R,hb,hz,x,A1,Z,q⟩:=h;obtain⟨y,A8⟩:=gg x;have h0:=gJ x;have hn:=OU A1;have B:(dY 4 g).length=24+(5+aJ (br (FH g g.length)).toNat * (FH g g.length).length):=Wo g;rw[B]at q;have Z:At Ak.cps.toList n ((dC (at' g 0)).cps.toList++(eK (FH g g.length)).cps.toList):=by
  have e:(dY 4 g).cps.toList=(dC (at' g 0)).cps.toList++(eK (FH g g.length)).cps.toList:=by
   show (iX g).cps.toList=_;unfold iX;rw[eJ]
  rw[←e];exact Z
 have d:Et (at' g 0)=c0:=i_.mp y _ (eT (getD_at' h0));have hs:=lT y g.length;have A2:=Z.right;obtain⟨e1,e2⟩:=xa A2;obtain⟨t0,t1⟩:=o0 (k:=2 ^ 30) (by decide) hs;have hw:aJ (br (FH g g.length)).toNat<=30:=iQ (by omega);have hv:=λi a e=>qo e2 i a e;have D:=λm h=>P0 (J:=FH g g.length) (m:=m) h;obtain⟨N,hN⟩:∃N,g.length=N+1:=⟨g.length - 1,by omega⟩
 have sl:(FH g g.length).length=N:=by rw[hN,iY]
 have sg:∀i,i<N->(FH g g.length)[i]?=O (bW ((at' g (i+1)).getD 0 - (at' g i).getD 0)):=by
  have A3:∀m i,i<m->(FH g (m+1))[i]?=O (bW ((at' g (i+1)).getD 0 - (at' g i).getD 0)):=by
   intro m;induction m with
   |zero=>intro i E;omega
   |succ m ih=>
    intro i E;rw[uR];by_cases c:i<m
    ·rw[kI (by rw[iY];exact c)];exact ih i c
    ·have:i=m:=by omega
     subst this;rw[na (by rw[iY];exact dv _),iY,DG];rfl
  intro i E;rw[hN];exact A3 N i E
 rw[sl]at q;generalize aJ (br (FH g g.length)).toNat=p at q e1 e2 hw hv D;refine⟨_,(ao (aK (i:=2) nN Y (gS Y) (cP (aa (aq cJ (bp (pv 0) T.cr eN eG (S.mono (by decide)) eI .nil cf (aa (bi T.ik) ae)) (bi T.nj)) ae)))
  (ao (aK (i:=3) nN Y (gS Y) (bp (pv 0) T.cr eN eG (S.mono (by decide)) eI .nil cf (aa (bi T.lj) ae)))
  (ao (fg qw Y (fB (by rfl) T.eP (aa (aq cJ (pv 1) ah) ae)) (aH (i:=4) nN Y (gS Y))
   (aj (bf (cU K mI u4 uB jl (pv 2) (aa (aq aU (aG (bF K) (pv 2) (iq iy ah) (λ_ _=>rfl)) (pR.pe S av (aa (bp (pv 0) T.cr eN eG (S.mono (by decide)) eI .nil cf (aa (pv 3) ae)) ae))) ae)))))
  (aj (aA (pv 2)))))),?_⟩
 obtain⟨X,hR⟩:=id R;refine⟨_,Y,r,X,_,Y,hR,Y,Kn (gq (k:=24) R hb hz (by decide) Z.left (qG d) λAi k1 R1=>?_)⟩;have ec:((iF (at' g 0):ft):gV) - 4000001=(at' g 0).getD 0:=by
  obtain⟨z,ez⟩:=Yj hn h0;have:=j7 (ez ▸ d);rw[ez];show (((z+4000001).toNat:ft):gV) - 4000001=z;omega
 refine⟨_,_,Y,Y,bI Y,λl b=>?_⟩;have h2:(upd Ai l (.lst [V.int (((iF (at' g 0):ft):gV) - 4000001)])) l=O (.lst ((g.take 1).map ov)):=by
  rw[af,ec,dM h0,←lB hn h0];rfl
 have k2:=k1.new (o:=.lst [V.int (((iF (at' g 0):ft):gV) - 4000001)]) b;have R2:=R1.new (o:=.lst [V.int (((iF (at' g 0):ft):gV) - 4000001)]) b;have I:=k1.free R1 b;have J:=kh R1 b;obtain⟨A4,A5⟩:=id R2;refine⟨_,Y,r,A4,_,Y,A5,Y,Kn (gq (k:=5) R2 hb hz (by decide) e1 (show p<2 ^ 5 by omega) λH3 k3 R3=>?_)⟩;refine⟨_,Y,_,_,Y,Y,_,Y,by omega,by omega,?_⟩;rw[show ((g.length:gV) - 1).toNat=N by omega];refine⟨jW (λi σ C=>∃v4:eH V,σ=[O (.ref r),O (.int g.length),O (.ref l),O (.int p),v4]/\Kp r H C/\bC A.a8 C r Ak (n+24+5+p * i)/\C l=O (.lst ((g.take (i+1)).map ov))) ⟨cx,Y,k2.trans k3,R3,k3 l _ J h2⟩ ?_ ?_⟩
 ·rintro i σ H4 E ⟨v4,rfl,k4,R4,v⟩;obtain⟨A6,A7⟩:=id R4;have L:i<g.length:=by omega
  have M:i+1<g.length:=by omega
  have ex:=sg i E;have j:=eT ex;obtain⟨n0,_⟩:=hs _ j;have al:FY ((g.take (i+1)).map ov) (-1)=O (.int ((at' g i).getD 0)):=by
   rw[dM L,dn,←lB hn L];exact YX _ _
  refine⟨_,Y,.inl ⟨Y,_,n7.of v⟩,_,Y,1,Y,l,_,_,_,Y,Y,n7.of v,al,?_⟩;refine⟨_,Y,r,A6,_,Y,A7,Y,NA Y (gq (k:=p) R4 hb hz (by omega) (hv i _ ex) (D _ j) λH5 k5 R5=>?_)⟩;have h5:=k5 l _ J v;refine⟨(at' g (i+1)).getD 0 - (at' g i).getD 0,?_,_,_,Y,Y,l,_,_,Y,Y,h5,?_,_,Y,(k4.trans k5).put I,?_,?_⟩
  ·show [V.int (((bW ((at' g (i+1)).getD 0 - (at' g i).getD 0)).toNat:ft):gV)]=_;rw[Db n0]
  ·rw[bd,gv];exact aV (by omega)
  ·rw[EQ,←F0];exact R5.put h5
  ·rw[af,dM M,dn];show O (HO.lst (_++[V.int ((at' g i).getD 0+((at' g (i+1)).getD 0 - (at' g i).getD 0))]))=O (HO.lst (_++[ov (at' g (i+1))]));rw[lB hn M,show (at' g i).getD 0+((at' g (i+1)).getD 0 - (at' g i).getD 0)=(at' g (i+1)).getD 0 by omega]
 ·rintro σ H4 ⟨v4,rfl,k4,R4,v⟩;rw[←hN,gl]at v;refine⟨_,Y,q l H4 k4 I ?_ v⟩;rw[show n+(24+(5+p * N))=n+24+5+p * N by omega];exact R4
def Nx(A:Ad):hO->Sp:=λx a H Q Ah=>∃j,bH[j]?=O x/\iW A j a H Q Ah
theorem zmL{g l p q:ce}(s:G "READERS" =O (.ref a))(v:K.lookup a=O ⟨.type "dict",cx,.dict Aw n,#[]⟩)(x:EM w.params Aw.toList)(z:Dp K a "plain" =O (O (.ref g)))(B:Dp K a "book" =O (O (.ref l)))(C:Dp K a "base" =O (O (.ref p)))(D:Dp K a "steps" =O (O (.ref q)))(E:G "read_plain" =O (.ref g))(I:G "read_book" =O (.ref l))(J:G "read_base" =O (.ref p))(L:G "read_steps" =O (.ref q))(M:uG P w K G u q_ 4 "read_plain" ["reader","length"] (oK A))(N:uG P w K G u q_ 5 "read_book" ["reader","length"] (iW A 2))(R:uG P w K G u q_ 3 "read_base" ["reader","length"] (iW A 3))(S:uG P w K G u q_ 3 "read_steps" ["reader","length"] (iW A 4)):iB P w K G u q_ 5 "READERS" ["reader","length"] iN (Nx A):=by
 refine⟨a,Aw,n,s,v,x,λy d=>?_⟩;obtain⟨d,ne⟩:=PB y d;obtain⟨j,r⟩:=oT d;have only:∀{i:ft},bH[i]?=O y->i=j:=λh=>e7 ip h r;rcases xg r with⟨rfl,rfl⟩ |⟨rfl,rfl⟩ |⟨rfl,rfl⟩ |⟨rfl,rfl⟩ |⟨rfl,rfl⟩
 ·obtain⟨f,Ag,Aq,m,k,b⟩:=M;cases E.symm.trans m;exact⟨_,Ag,z,(Aq.mono (by decide)).imp (by rintro e H Q Ah ⟨i,c,h⟩;cases only c;exact Ro h),k,b⟩
 ·exact hQ Y ne
 ·obtain⟨f,Ag,Aq,m,k,b⟩:=N;cases I.symm.trans m;exact⟨_,Ag,B,Aq.imp (by rintro e H Q Ah ⟨i,c,h⟩;cases only c;exact h),k,b⟩
 ·obtain⟨f,Ag,Aq,m,k,b⟩:=R;cases J.symm.trans m;exact⟨_,Ag,C,(Aq.mono (by decide)).imp (by rintro e H Q Ah ⟨i,c,h⟩;cases only c;exact h),k,b⟩
 ·obtain⟨f,Ag,Aq,m,k,b⟩:=S;cases L.symm.trans m;exact⟨_,Ag,D,(Aq.mono (by decide)).imp (by rintro e H Q Ah ⟨i,c,h⟩;cases only c;exact h),k,b⟩
theorem i9{a b:hO}(e:bq a.cps.toList)(f:bq b.cps.toList):bq (a++b).cps.toList:=λc d=>by
 rw[eJ]at d;rcases pA.mp d with h |h
 ·exact e c h
 ·exact f c h
theorem SX{l:U hO}(h:∀s∈l,bq s.cps.toList):bq (be l).cps.toList:=λc a=>by
 obtain⟨s,b,a⟩:=vg.mp a;obtain⟨z,hz,rfl⟩:=nk.mp b;exact h z hz c a
theorem kU{f:α->hO}{l:U α}(h:∀a,bq (f a).cps.toList):bq (be (l.map f)).cps.toList:=SX λs b=>by
 grind
theorem gz(n k:ft):bq (cC n k).cps.toList:=vX n k
theorem vZ(J:U gV):bq (eK J).cps.toList:=i9 (gz _ _) (kU λ_=>gz _ _)
theorem XR(j:ft)(g:U OI):bq (dY j g).cps.toList:=by
 match j with
 |0=>exact kU λ_=>gz _ _
 |2=>exact i9 (i9 (gz _ _) (kU λ_=>gz _ _)) (kU λ_=>gz _ _)
 |3=>exact i9 (gz _ _) (vZ _)
 |1 |j+4=>exact i9 (gz _ _) (vZ _)
theorem Wm(j:ft)(g:U OI):bq (fb j g).cps.toList:=i9 (i9 (gz _ _) (gz _ _)) (XR j g)
abbrev IU:=ft×U OI
def Mw(b:IU):Prop:=Fx b.2=c0/\b.1<5/\rm b.2 b.1≠.none/\b.1≠1
def bQ(b:IU):hO:=fb b.1 b.2
theorem vM{α:Type}(f:α->hO):∀(l:U α)(i:ft)(a:α),l[i]?=O a->At (be (l.map f)).cps.toList (be ((l.take i).map f)).length (f a).cps.toList
 |b::r,0,a,e=>by
  cases e;refine⟨[],(be (r.map f)).cps.toList,?_,Y⟩;rw[n5,nq,eJ];rfl
 |b::r,i+1,a,e=>by
  obtain⟨d,c,g,h⟩:=vM f r i a e;refine⟨(f b).cps.toList++d,c,?_,?_⟩
  ·simp only[n5,nq,eJ,g,Er]
  ·simp only[List.take_succ_cons,n5,nq,dL,gT,h];rfl
inductive O7(A:Ad)(c:U V)(H:Hp)(Q:VK)(_E:XK):Prop
 |i(r:ce)(Ak:hO)(n:ft)(b:IU)(_:c=[.ref r])(_:bC A.a8 H r Ak n)(_:bq Ak.cps.toList)(_:Ak.length<=16777216)(_:Mw b)(_:At Ak.cps.toList n (bQ b).cps.toList)(_:∀(a l:ce)(C:Hp),Kp r H C->H a=cx->H l=cx->C a=O (.tup [.str (bH.getD b.1 ""),.ref l])->C l=O (.lst (b.2.map ov))->bC A.a8 C r Ak (n+(bQ b).length)->Q (.ref a) C)
theorem Yv(T:Txt K G A)(CT:aZ P w K G u (yl P w) 1 A.a8 "take" ["self","width"] (jt A))(CS:aZ P w K G u q_ 1 A.a8 "taken_since" ["self","place"] (Px A))(o6:iB P w K G u q_ 5 "READERS" ["reader","length"] iN (Nx A))(mi:uG P w K G u q_ 4 "is_block" ["values"] (uq K))(jF:uG P w K G u (yl P w) 7 "packed" ["kind","values"] (uE K A))(F:vr K "read_block" "read_block" PD f Ag):ap P w K G u q_ 8 f Ag ["reader"] (O7 A):=by
 obtain⟨mW,mY,eG,eN,eI⟩:=CT;obtain⟨AA,AB,M,N,S⟩:=CS;refine F.o ["reader","begin","number","kind","length","values"] λD AC An Z s H vs Q Ah B h=>?_;obtain⟨r,Ak,n,⟨j,g⟩,rfl,R,hb,hz,⟨b,v,c,h1⟩,C,q⟩:=h;have b:Fx g=c0:=b;have v:j<5:=v;have c:rm g j≠.none:=c;obtain⟨AD,A9⟩:=gg b;have h0:=gJ b;have m:bH[j]?=O (bH.getD j ""):=by
  have h:j<bH.length:=v;simp[Fl,h]
 generalize bH.getD j "" =x at m q;have ne:x ≠ "runs" :=λz=>h1 (e7 ip (z ▸ m) Y);have p:=C.cut;have A0:=C.le;rw[li]at p;have A1:(fb j g).length=11+(dY j g).length:=by
  unfold fb;rw[dL,dL,c5,c5]
 have C:At Ak.cps.toList n (cq j 3++(cq (g.length - 1) 8++(dY j g).cps.toList)):=by
  have e:(fb j g).cps.toList=cq j 3++(cq (g.length - 1) 8++(dY j g).cps.toList):=by
   unfold fb;rw[eJ,eJ,Er];rfl
  rw[←e];exact C
 have y:=C.right;rw[gy]at y;have E:=y.right;rw[gy]at E;refine⟨_,(ao (aK (i:=1) D Y (gS Y) (bz K (pv 0) Y))
  (ao (aK (i:=2) D Y (gS Y) (bp (pv 0) T.cr eN eG (B.mono (by decide)) eI .nil cf (aa (bi T.re) ae)))
  (ao (aN (aE sd (pv 2) (aL (cD K) (by rfl) T.bu PyProof.Rows.Boot.«len» (aa (dJ T.jX) ae)) (aC _)) ou
   aO)
  (ao (aK (i:=3) D Y (gS Y) (aG (aT K) (dJ T.jX) (pv 2) (λ_ _=>rfl)))
  (ao (aK (i:=4) D Y (gS Y) (aq aU (bp (pv 0) T.cr eN eG (B.mono (by decide)) eI .nil cf (aa (bi T.rf) ae)) ah))
  (ao (aK (i:=5) D Y (gS Y) (o6.pe B av (pv 3) (aa (pv 0) (aa (pv 4) ae))))
  (ao (aN (PW.pt (fT (eD (cR (mi.pe B av (aa (pv 5) ae)))) (gm (aE fR (jF.pe B cf (aa (pv 3) (aa (pv 5) ae))) (bp (pv 0) T.cr N M (B.mono (by decide)) S .nil av (aa (pv 1) ae)) (aC _))))) ou
   aO)
  (aj (aA (cz (aa (pv 3) (aa (pv 5) ae)))))))))))),?_⟩
 obtain⟨X,hR⟩:=id R;refine⟨_,Y,r,_,X,_,_,Y,hR,T.cr,T.i7,Y,?_⟩;refine⟨_,Y,r,X,_,Y,hR,Y,Kn (gq (k:=3) R hb hz (by decide) C.left (show j<2 ^ 3 by omega) λAi k1 R1=>?_)⟩;refine⟨_,Y,A.fL,dG,Y,.inr (T.j0 _),_,_,Y,Y,_,Y,?_⟩;rw[dV (show ¬ ((dG.length:ft):gV)<=(j:gV) by show ¬ (5:gV)<=(j:gV);omega)];refine ak ?_;have A2:FY dG (j:gV)=O (.str x):=dX (by unfold dG;rw[cc,m];rfl);refine⟨_,Y,A.fL,dG,_,_,Y,Y,T.j0 _,A2,?_⟩;obtain⟨A3,A4⟩:=id R1;refine⟨_,Y,r,A3,_,Y,A4,Y,Kn (gq (k:=8) R1 hb hz (by decide) y.left (show g.length - 1<2 ^ 8 by omega) λAm k2 R2=>?_)⟩;have el:((g.length - 1:ft):gV)+1=(g.length:gV):=by omega
 refine⟨_,_,Y,Y,_,Y,x,Y,in4 _ (eT m) ne,_,Y,_,Y,j,m,r,Ak,n+3+8,g,?_,R2,hb,hz,b,c,E,λl H3 k3 I R3 h3=>?_⟩
 ·show [V.ref r,V.int (((g.length - 1:ft):gV)+1)]=_;rw[el]
 have A5:=(k1.trans k2).trans k3;have A6:=(k1.trans k2).free R2 I;have AE:=kh R2 I;refine⟨_,Y,l,g,Y,n7.of h3,by omega,λH4 s4=>⟨_,Y,?_⟩⟩;rw[b];refine ak ?_;have R4:=R3.same s4;have h4:=s4 _ _ h3;refine⟨_,Y,_,Y,l,g,x,Y,ne,n7.of h4,by omega,λz=>(by rw[b]at z;cases z),λ_ z=>hQ (eT m) z,λ_ i hi z=>?_,λ_ i hi _ H5 s5=>?_⟩
 ·cases e7 ip hi m;exact hQ z c
 cases e7 ip hi m;have J:=R4.same s5;obtain⟨A7,A8⟩:=id J;have e5:n+3+8+(dY j g).length=n+(fb j g).length:=by rw[A1];omega
 rw[e5]at J;refine⟨_,Y,r,A7,_,Y,A8,Y,_,Y,r,Ak,n,n+(fb j g).length,Y,J,hz,by omega,A0,?_⟩;have L:(⟨((Ak.cps.toList.drop n).take (n+(fb j g).length - n)).toArray⟩:hO)=fb j g:=by
  apply lU;rw[Nat.add_sub_cancel_left];exact p
 rw[L];refine⟨Y,_,Y,?_⟩;rw[uQ];refine ak ?_;refine⟨_,Y,_,Y,(show 2<=fx by decide),λa d=>?_⟩;have k5:=(A5.trans (Kp.of s4)).trans (Kp.of (r:=r) s5);have h5:=s5 _ _ h4;refine q a l _ (k5.new d) (k5.free J d) A6 af ?_ (J.new d);rw[ag (aF h5 d)];exact h5
inductive vC(c H:Hp)(l:ce)(bl:U IU):Prop
 |i(as:U (ce×ce))(_:H l=O (.lst (as.map λa=>V.ref a.1)))(_:as.length=bl.length)(_:(∀(i:ft)(a:ce×ce)(b:IU),as[i]?=O a->bl[i]?=O b->H a.1=O (.tup [.str (bH.getD b.1 ""),.ref a.2])/\H a.2=O (.lst (b.2.map ov))))(_:∀a∈as,c a.1=cx/\c a.2=cx)
inductive uO(a:U V)(H:Hp)(Q:VK)(_E:XK):Prop
 |i(bl:U IU)(_:a=[.str (be (bl.map bQ))])(_:(∀b∈bl,Mw b))(_:(be (bl.map bQ)).length<=16777216)(_:∀(l:ce)(C:Hp),ad H C->H l=cx->vC H C l bl->Q (.ref l) C)
theorem wf(b:IU):0<(bQ b).length:=by
 delta bQ fb
 simp only[dL,dL,c5]
 lia
theorem rh{bl:U IU}{b:IU}(h:bl[i]?=O b):(be ((bl.take (i+1)).map bQ)).length=(be ((bl.take i).map bQ)).length+(bQ b).length:=by
 rw[ke,h];simp only[dn,ZZ,dL]
 congr 1
 show (be [bQ b]).length=_;rw[nq];rfl
theorem UT(T:Txt K G A)(CI:iA P w K G u (yl P w) 1 A.a8 ["self","text"] (Oj A))(CH:aZ P w K G u q_ 1 A.a8 "has_more" ["self"] (Ox A))(pM:uG P w K G u q_ 8 "read_block" ["reader"] (O7 A))(F:vr K "unpacked" "unpacked" Ps f Ag):ap P w K G u q_ 9 f Ag ["bits"] uO:=by
 obtain⟨AL,AM,A0,A1,A2⟩:=CI;obtain⟨AN,AO,A3,A4,A5⟩:=CH;refine F.o ["bits","reader","blocks"] λnN AQ An A6 s H vs Q Ah hr h=>?_;obtain⟨bl,rfl,M,hz,q⟩:=h;have hb:bq (be (bl.map bQ)).cps.toList:=kU (f:=bQ) λb=>Wm _ _;have N:=vM bQ bl;have x:be ((bl.take bl.length).map bQ)=be (bl.map bQ):=by rw[gl]
 generalize hX:be (bl.map bQ)=Ak at hb N hz x;refine⟨_,(ao (aK (i:=1) nN Y (gS Y) (oi A1 A0 (hr.mono (by decide)) Y T.zfS A2 .nil cf (aa (pv 0) ae)))
  (ao (aK (i:=2) nN Y (gS Y) (cP ae))
  (ao (sM qw (cR (gj (pv 1) T.cr A4 A3 (hr.mono (by decide)) A5 .nil av))
   (aj (bf (cU K mI u4 uB jl (pv 2) (aa (pM.pe hr av (aa (pv 1) ae)) ae)))))
  (aj (aA (pv 2)))))),?_⟩
 refine⟨_,Y,λr X nr A7 AR=>?_⟩;refine⟨r,X,Ak,Y,af,hz,λ_ Ai R1 kp=>⟨Y,?_⟩,λz=>hQ hb z⟩;have s1:ad H Ai:=λb o e=>by
  rw[kp b (aF e nr),ag (aF e nr),ag (aF e A7)];exact e
 refine⟨bI Y,λl j=>?_⟩;have R2:=R1.new (o:=.lst []) j;have s2:ad H (upd Ai l (.lst [])):=ay s1 j;have h2:(upd Ai l (.lst [])) l=O (.lst (([]:U (ce×ce)).map λa=>V.ref a.1)):=af;have R:=s1.free j;have A8:=kh R1 j;refine u8 (λσ C=>σ=[O (.str Ak),O (.ref r),O (.ref l)]/\ad H C/\∃i,i<=bl.length/\bC A.a8 C r Ak (be ((bl.take i).map bQ)).length/\vC H C l (bl.take i))
  (λ_ C=>match C r with |some (.ins _ _ [_,(_,.int n)])=>Ak.length - n.toNat |_=>0) ⟨Y,s2,0,ot _,R2,[],h2,Y,λi a b e=>(by cases e),λa h=>(by cases h)⟩ ?_
 rintro m σ H3 hm ⟨rfl,s3,i,hi,R3,P3⟩;obtain⟨A9,p⟩:=id R3;have hm:m=Ak.length - (be ((bl.take i).map bQ)).length:=by rw[hm,p];simp[sP]
 refine⟨_,Y,r,A9,_,Y,p,Y,r,Ak,_,Y,R3,hz,_,Y,?_⟩;by_cases c:i<bl.length
 ·have ex:bl[i]?=O bl[i]:=a_ c;have ha:=N i _ ex;have S:=ha.le;have AK:=wf bl[i];rw[fo (show (be ((bl.take i).map bQ)).length<Ak.length by
   have:(be ((bl.take i).map bQ)).length+(bQ bl[i]).length<=Ak.length:=S;omega)]
  refine aw ⟨_,wN,?_⟩;obtain⟨as,I,p2,p3,p4⟩:=P3;have p2:as.length=i:=by rw[p2,gv];omega
  refine⟨_,Y,.inl ⟨Y,_,n7.of I⟩,_,Y,r,Ak,_,bl[i],Y,R3,hb,hz,M _ (j' c),ha,λa l' H4 k4 D d h4 AA R4=>?_⟩;have Z:=k4 l _ A8 I;have al:a≠l:=λz=>by rw[z,I]at D;cases D
  have ll:l'≠l:=λz=>by rw[z,I]at d;cases d
  have R5:=R4.put (o:=.lst (as.map (λa=>V.ref a.1)++[.ref a])) Z;rw[←rh ex]at R5;have AS:(bQ bl[i]).length+(be ((bl.take i).map bQ)).length<=Ak.length:=by
   have:(be ((bl.take i).map bQ)).length+(bQ bl[i]).length<=Ak.length:=S;omega
  have B:=rh ex;have AB:H r=cx:=nr;refine⟨l,_,_,Y,Y,Z,?_,⟨Y,λb o e=>?_,i+1,by omega,R5,as++[(a,l')],?_,?_,λk z b J L=>?_,λz g=>?_⟩,?_⟩
  ·rw[bd];have:i<Ak.length:=by
    have AC:∀k,k<=bl.length->k<=(be ((bl.take k).map bQ)).length:=by
     intro k;induction k with
     |zero=>intro _;exact ot _
     |succ k ih=>
      intro hk;have e:bl[k]?=O bl[k]:=a_ (by omega);rw[rh e];have:=ih (by omega);have:=wf bl[k];omega
    have:=AC (i+1) (by omega);rw[B]at this;omega
   rw[BB];omega
  ·have AD:b≠r:=aF e AB;rw[ag (aF e R)];exact k4 b o AD (s3 b o e)
  ·rw[af,dn];rfl
  ·rw[gT,gv,p2,so];omega
  ·by_cases hk:k<as.length
   ·rw[kI hk]at J;have E:(bl.take i)[k]?=O b:=by
     rw[F4]at L ⊢;rw[mu (by omega)]at L ⊢;exact L
    obtain⟨z1,z2⟩:=p3 k z b J E;have n1:z.1≠r:=λy=>by rw[y,p]at z1;cases z1
    have n2:z.2≠r:=λy=>by rw[y,p]at z2;cases z2
    have n3:z.1≠l:=λy=>by rw[y,I]at z1;cases z1
    refine⟨?_,?_⟩
    ·rw[ag n3];exact k4 _ _ n1 z1
    ·by_cases y:z.2=l
     ·rw[y,I]at z2;have e3:=HO.lst.inj (kn z2);obtain⟨AE,_,_⟩:=M b (eT (show bl[k]?=O b by rw[F4,mu (by omega)]at E;exact E));have AF:=gJ AE;obtain⟨v,tl,hv⟩:∃v tl,b.2=v::tl:=List.exists_cons_of_length_pos AF;rw[hv]at e3;cases as with
      |nil=>cases e3
      |cons a0 ar=>
       have:=(IR e3).1;cases v <;> cases this
     ·rw[ag y];exact k4 _ _ n2 z2
   ·rw[na (by omega)]at J;have AG:k - as.length=0:=by
     have:=(cs.mp J).1;simp at this;omega
    rw[AG]at J;cases J;have AH:k=i:=by
     have:=(cs.mp L).1;rw[gv]at this;omega
    subst AH;rw[F4,mu (by omega),ex]at L;cases L;refine⟨?_,?_⟩
    ·show (upd H4 l _) a=_;rw[ag al];exact h4
    ·show (upd H4 l _) l'=_;rw[ag ll];exact AA
  ·rcases pA.mp g with g |g
   ·exact p4 z g
   ·rw[ku.mp g];exact⟨s3.free D,s3.free d⟩
  ·obtain⟨AT,AI⟩:=R5;rw[AI];show Ak.length - (((be ((bl.take (i+1)).map bQ)).length:ft):gV).toNat<m;rw[nI,hm,B];omega
 ·have AJ:i=bl.length:=by omega
  subst AJ;rw[x,dV (by omega)];refine ak ?_;rw[gl]at P3;exact⟨_,Y,q l H3 s3 R P3⟩
theorem qB(g:U OI):∀(b:ft)(l:U ft),IG g.length b l->(dE g b l).flatten=g.drop b
 |b,[],h=>by
  have:b=g.length:=h;subst this;simp only[List.drop_length];rfl
 |b,e::r,h=>by
  have:=h.1;simp only[dE,BK,qB g e r h.2];have a:g.drop e=(g.drop b).drop (e - b):=by rw[List.drop_drop];congr 1;lia
  simp only[a,ES]
def gB(g:U OI):U IU:=(dE g 0 (dQ g g.length)).map λb=>(cT b,b)
theorem mS(g:U OI):be ((gB g).map bQ)=ju g:=by
 delta gB ju
 rw[p_];rfl
theorem wH(g:U OI):((gB g).map (·.2)).flatten=g:=by
 delta gB
 rw[p_];have:(dE g 0 (dQ g g.length)).map ((·.2) ∘ λb=>((cT b,b):IU))=dE g 0 (dQ g g.length):=List.map_id _;rw[this,qB g 0 _ (mU g g.length)];rfl
theorem wg(ok:Ex g=c0){b:U OI}(h:b∈dE g 0 (dQ g g.length)):Fx b=c0:=by
 obtain⟨i,c⟩:=oT h;have f:=iS ok;have a:i<(dQ g g.length).length:=by
  have:=(cs.mp c).1
  rwa[jN]at this
 rw[mL g 0 _ i a]at c;cases c;obtain⟨d,e⟩:=(mU g g.length).at i a;exact qC (nU ok) (by lia) d e
theorem qH(ok:Ex g=c0):∀b∈gB g,Mw b:=λb f=>by
 obtain⟨c,e,rfl⟩:=nk.mp f;obtain⟨h,d⟩:=qy c;have a:=wg ok e;have i:c.length<=8:=by
  have:=(List.sublist_flatten_of_mem e).length_le;rw[qB g 0 _ (mU g g.length)]at this;exact jE this (lC ok)
 exact⟨a,h,(by rw[d];intro z;cases z),yG (gJ a) i⟩
theorem wI(g:U OI):(gB g).length<=g.length:=by
 delta gB
 rw[bd,jN];exact qJ g g.length
theorem Qr(ok:Ex g=c0):(ju g).length<=16777216:=by
 have f:=iS ok;have a:=xD (l:=(dE g 0 (dQ g g.length)).map ie) λs c=>by
  obtain⟨b,d,rfl⟩:=nk.mp c;obtain⟨e,h⟩:=gg (wg ok d);exact vQ (by lia) e
 rw[bd,jN]at a;have:=qJ g g.length
 delta ju
 rw[iL]
 lia
inductive ue(A:Ad)(a:U V)(H:Hp)(Q:VK)(Ah:XK):Prop
 |i(r n:gV)(_:a=[.int r,.int n])(_:(0<=r/\r<n->Q .non H))(_:(¬ (0<=r/\r<n)->Ah (.ref A.fu) cx H))
theorem WT(T:Txt K G A)(F:vr K "check_row" "check_row" Qq f Ag):ap P w K G u (yl P w) 1 f Ag ["row","size"] (ue A):=by
 refine F.oX ["row","size"] λi e An c s H j Q Ah l h=>?_;obtain⟨r,n,rfl,g,d⟩:=h;refine⟨_,(aj (aN (eD (zm gi nY ah (pv 0) (pv 1))) (aj (c9 de T.zcz Y (by rfl) T.qX (aa au ae)))
   aO)),?_⟩
 refine⟨_,Y,_,_,Y,Y,_,Y,?_⟩;by_cases a:0<=r
 ·rw[fo a];refine aw ⟨_,Y,_,_,Y,Y,_,Y,?_⟩;by_cases b:r<n
  ·rw[fo b];exact ak (g ⟨a,b⟩)
  ·rw[dV b];exact aw ⟨by decide,d λz=>b z.2⟩
 ·rw[dV a];refine ak ⟨_,Y,?_⟩;exact aw ⟨by decide,d λz=>a z.1⟩
inductive Qx(a:U V)(H:Hp)(Q:VK)(_E:XK):Prop
 |i(bl:U IU)(_:a=[.str (be (bl.map bQ))])(_:(∀b∈bl,Mw b))(_:(be (bl.map bQ)).length<=16777216)(_:bl.length<=1000)(_:∀(l:ce)(C:Hp),ad H C->H l=cx->C l=O (.lst ((bl.map (·.2)).flatten.map ov))->Q (.ref l) C)
theorem xk:∀(bl:U IU),(∀b∈bl,Mw b)->((bl.map (·.2)).flatten).length<=100 * bl.length
 |[],_=>dv _
 |b::r,h=>by
  have:=xk r λc a=>h c (hE _ a);have d:=(gg (h b j_).1).2
  grind
theorem QX(T:Txt K G A)(jH:uG P w K G u q_ 9 "unpacked" ["bits"] uO)(F:vr K "values_in" "values_in" Pl f Ag):ap P w K G u q_ 10 f Ag ["bits"] Qx:=by
 refine F.o ["bits","values","kind","block"] λB A0 An D s H vs Q Ah hr h=>?_;obtain⟨bl,rfl,j,hz,m,q⟩:=h;have A1:=BB;refine⟨_,(ao (aK (i:=1) B Y (gS Y) (cP ae))
  (ao (fg qw Y (bV (jH.pe hr av (aa (pv 0) ae))) (eA K (n:=2) Y (bP (aH (i:=2) B Y (gS Y)) (bP (aH (i:=3) B Y (gS Y)) eB)))
   (aj (bf (cU K mI GD GF yg (pv 1) (aa (pv 3) ae)))))
  (aj (aA (pv 1))))),?_⟩
 refine⟨bI Y,λl d=>?_⟩;have S:ad H (upd H l (.lst [])):=ad.new d;have i:(upd H l (.lst [])) l=O (.lst []):=af;generalize upd H l (.lst [])=Ai at S i;refine⟨_,Y,bl,Y,j,hz,λlt Am X n F2=>?_⟩;obtain⟨as,Z,a2,a3,a4⟩:=F2;have h2:=X _ _ i;have E:l≠lt:=λz=>by rw[z]at i;rw[i]at n;cases n
 have I:∀a∈as,a.1≠l/\a.2≠l:=λa ha=>by
  obtain⟨v,x⟩:=a4 a ha;exact⟨λz=>(by rw[z,i]at v;cases v),λz=>(by rw[z,i]at x;cases x)⟩
 refine⟨lt,Y,⟨_,n7.of Z⟩,⟨jV (K:=K) (λk σ C=>∃J L:eH V,σ=[O (.str (be (bl.map bQ))),O (.ref l),J,L]/\(∀c o,c≠l->Am c=O o->C c=O o)/\C l=O (.lst (((bl.take k).map (·.2)).flatten.map ov)))
  ⟨cx,cx,Y,λc o _ e=>e,h2⟩ (λk σ C hk hp=>by obtain⟨_,_,_,h,_⟩:=hp;exact n7.of (h _ _ E.symm Z)) ?_ ?_⟩⟩
 ·rintro k y σ H3 M ⟨J,L,rfl,p,r⟩;have g:k<as.length:=by
   have:=(cs.mp M).1
   rwa[bd]at this
  rw[cc,a_ g]at M;cases M;have ec:bl[k]?=O (bl[k]'(by omega)):=a_ (by omega);obtain⟨N,R⟩:=a3 k as[k] _ (a_ g) ec;obtain⟨v,x⟩:=I _ (j' g);have N:=p _ _ v N;have R:=p _ _ x R;have tk:bl.take (k+1)=bl.take k++[bl[k]'(by omega)]:=by rw[ke,ec];rfl
  have fl:=xk (bl.take (k+1)) λb hb=>j b (Iq hb);rw[tk,dn,CU,gT,gT,gv]at fl;refine⟨as[k].1,_,Y,th.of N,Y,_,_,Y,_,_,Y,Y,?_⟩;refine⟨_,Y,.inl ⟨Y,_,n7.of r⟩,_,Y,l,as[k].2,_,_,Y,Y,r,R,?_,_,_,Y,λc o hc e=>?_,?_⟩
  ·rw[bd,bd];simp only[n5,HF,BK,J3,Dl,so]at fl;omega
  ·rw[ag hc];exact p c o hc e
  ·rw[af,tk,dn,CU,dn];simp only[n5,HF,BK,J3,Dl]
 ·rintro σ H3 ⟨J,L,rfl,p,r⟩;rw[bd,a2,gl]at r;exact⟨_,Y,q l H3 (λb o e=>p b o (aF e d) (X _ _ (S _ _ e))) d r⟩
def eF(Aj:ce)(H:Hp)(c:ce)(g:U OI):Prop:=∃X,H c=O (.ins Aj X [("lying", .str (ju g))])
theorem eF.same(h:eF Aj H c g)(s:ad H C):eF Aj C c g:=by
 obtain⟨X,h⟩:=h;exact⟨X,s _ _ h⟩
inductive tY(K:fy)(A:Ad)(a:U V)(H:Hp)(Q:VK)(Ah:XK):Prop
 |i(p X l:ce)(g:U OI)(_:a=[.ref p,.ref l])(_:H p=O (.ins A.aY X []))(_:n7 K H l (g.map ov))(_:g.length<=8)(_:(Ex g=c0->∀C:Hp,eF A.aY C p g->Kp p H C->Q .non C))(_:(Ex g=d_->∀C,ad H C->Ah (.ref A.dS) cx C))
theorem UK(T:Txt K G A)(c:uG P w K G u (yl P w) 9 "tight" ["values"] (oP K A))(F:vr K "__init__" "Column.__init__" zR f Ag):ap P w K G u (yl P w) 10 f Ag ["self","values"] (tY K A):=by
 refine F.oX ["self","values"] λr d An a s H v Q Ah e h=>?_;obtain⟨p,X,l,g,rfl,i,j,m,n,q⟩:=h;refine⟨_,(aj (cK (pv 0) (c.pe e bU (aa (pv 1) ae)) Y)),?_⟩;refine⟨_,Y,l,g,Y,j,m,λok Ai b=>?_,q⟩;exact⟨_,Y,p,A.aY,X,_,Y,b _ _ i,T.dZ,T.kP,by decide,n ok _ ⟨X,af⟩ ((Kp.of b).trans Kp.own)⟩
inductive uN(A:Ad)(a:U V)(H:Hp)(Q:VK)(_E:XK):Prop
 |i(c:ce)(g:U OI)(_:a=[.ref c])(_:eF A.aY H c g)(_:Ex g=c0)(_:∀(l:ce)(C:Hp),ad H C->H l=cx->C l=O (.lst (g.map ov))->Q (.ref l) C)
theorem S6(T:Txt K G A)(d:uG P w K G u q_ 10 "values_in" ["bits"] Qx)(F:vr K "told" "Column.told" zU f Ag):ap P w K G u q_ 11 f Ag ["self"] (uN A):=by
 refine F.o ["self"] λr e An a s H v Q Ah i h=>?_;obtain⟨c,g,rfl,⟨X,j⟩,ok,q⟩:=h;have x:=iS ok;have m:=wI g;refine⟨_,(aj (aA (d.pe i av (aa (bz K (pv 0) Y) ae)))),?_⟩;refine⟨_,Y,c,_,X,_,_,Y,j,T.dZ,T.kP,Y,gB g,?_,qH ok,by rw[mS];exact Qr ok,by omega,λl C n p b=>?_⟩
 ·rw[mS];rfl
 ·rw[wH]at b;exact q l C n p b
theorem V0(g:U OI)(k:ft)(o:OI):cp (g.map ov) k (ov o)=(cp g k o).map ov:=by
 delta cp
 simp_all
theorem W7(g:U OI)(k:ft):(g.map ov).eraseIdx k=(g.eraseIdx k).map ov:=by
 simp only[FU,FU,dn,KG,Fu]
theorem IH(g:U OI)(k:ft)(o:OI):(g.map ov).set k (ov o)=(g.set k o).map ov:=by simp_all
theorem xO{r:gV}(a:0<=r)(b:r<(n:gV)):JY n r=O r.toNat:=by
 delta JY
 simp_all
theorem Sn(h:Ex g=c0)(c:As.length<=g.length)(a:∀v∈As,v∈g):Ex As=c0:=by
 have d:=lC h;refine yP (by exact jE ‹_› ‹_›) (i_.mpr λv b=>i_.mp (nU h) v (a v b))
theorem rZ(h:Ex g=c0)(k:ft):Ex (g.eraseIdx k)=c0:=
 Sn h (List.length_eraseIdx_le _ _) λv a=>BO a
inductive uK(A:Ad)(a:U V)(H:Hp)(Q:VK)(Ah:XK):Prop
 |i(c:ce)(r:gV)(o:OI)(g:U OI)(_:a=[.ref c,.int r,ov o])(_:eF A.aY H c g)(_:Ex g=c0)(_:g.length<8)(_:(¬ (0<=r/\r<(g.length:gV)+1)->∀C,ad H C->Ah (.ref A.fu) cx C))(_:(0<=r->r<(g.length:gV)+1->Ex (cp g r.toNat o)=c0->∀C,Kp c H C->eF A.aY C c (cp g r.toNat o)->Q .non C))(_:(0<=r->r<(g.length:gV)+1->Ex (cp g r.toNat o)=d_->∀C,ad H C->Ah (.ref A.dS) cx C))
theorem WK(T:Txt K G A)(y:aZ P w K G u q_ 11 A.aY "told" ["self"] (uN A))(z:uG P w K G u (yl P w) 1 "check_row" ["row","size"] (ue A))(B:uG P w K G u (yl P w) 9 "tight" ["values"] (oP K A))(F:vr K "put" "Column.put" zS f Ag):ap P w K G u (yl P w) 12 f Ag ["self","row","value"] (uK A):=by
 obtain⟨C,D,E,I,J⟩:=y;refine F.oX ["self","row","value","values"] λL M An i s H vs Q Ah j h=>?_;obtain⟨c,r,o,g,rfl,⟨X,m⟩,ok,h8,N,R,S⟩:=h;have hl:=iS ok;have d:(g.map ov).length=g.length:=bd _;refine⟨_,(ao (aK (i:=3) L Y (gS Y) (gj (pv 0) T.dZ I E (j.mono (by decide)) J .nil av))
  (ao (bf (z.pe j bU (aa (pv 1) (aa (aq aU (aL (cD K) (by rfl) T.bu PyProof.Rows.Boot.«len» (aa (pv 3) ae)) ah) ae))))
  (ao (bf (cU K mI PySem.F.slot_list_insert PySem.F.type_list_insert WW (pv 3) (aa (pv 1) (aa (pv 2) ae))))
  (aj (cK (pv 0) (B.pe j bU (aa (pv 3) ae)) Y))))),?_⟩
 refine⟨_,Y,c,X,_,Y,m,Y,c,g,Y,⟨X,m⟩,ok,λl Ai x Z n=>?_⟩;refine⟨_,Y,_,Y,l,_,Y,.inl (n7.of n),_,_,Y,Y,r,_,Y,λa=>?_,λa=>N (by rw[d]at a;exact a) Ai x⟩;rw[d]at a;refine⟨_,Y,.inl ⟨Y,_,n7.of n⟩,_,Y,_,Y,l,_,r,_,Y,Y,n,a.1,by rw[d];omega,by rw[d];omega,?_⟩;rw[V0];have p:ad H (upd Ai l (.lst ((cp g r.toNat o).map ov))):=oC x Z;have h2:(upd Ai l (.lst ((cp g r.toNat o).map ov))) l=O (.lst ((cp g r.toNat o).map ov)):=af;have b:(cp g r.toNat o).length<=8:=by
  unfold cp;rw[gT,gv,r_,yy];omega
 refine⟨_,Y,l,_,Y,n7.of h2,b,λq H3 e=>?_,λv H3 e=>S a.1 a.2 v H3 (p.trans e)⟩;exact⟨_,Y,c,A.aY,X,_,Y,(p.trans e) _ _ m,T.dZ,T.kP,by show 1<1000;decide,R a.1 a.2 q _ ((Kp.of (p.trans e)).trans Kp.own) ⟨X,af⟩⟩
inductive uk(A:Ad)(a:U V)(H:Hp)(Q:VK)(Ah:XK):Prop
 |i(c:ce)(r:gV)(g:U OI)(_:a=[.ref c,.int r])(_:eF A.aY H c g)(_:Ex g=c0)(_:(¬ (0<=r/\r<(g.length:gV))->∀C,ad H C->Ah (.ref A.fu) cx C))(_:(0<=r->r<(g.length:gV)->∀C,Kp c H C->eF A.aY C c (g.eraseIdx r.toNat)->Q .non C))
theorem ZX(T:Txt K G A)(z:aZ P w K G u q_ 11 A.aY "told" ["self"] (uN A))(B:uG P w K G u (yl P w) 1 "check_row" ["row","size"] (ue A))(C:uG P w K G u (yl P w) 9 "tight" ["values"] (oP K A))(F:vr K "drop" "Column.drop" zQ f Ag):ap P w K G u (yl P w) 12 f Ag ["self","row"] (uk A):=by
 obtain⟨D,E,I,J,L⟩:=z;refine F.oX ["self","row","values"] λM N An e s H vs Q Ah i h=>?_;obtain⟨c,r,g,rfl,⟨X,j⟩,ok,R,S⟩:=h;have hl:=iS ok;have m:(g.map ov).length=g.length:=bd _;refine⟨_,(ao (aK (i:=2) M Y (gS Y) (gj (pv 0) T.dZ J I (i.mono (by decide)) L .nil av))
  (ao (bf (B.pe i bU (aa (pv 1) (aa (aL (cD K) (by rfl) T.bu PyProof.Rows.Boot.«len» (aa (pv 2) ae)) ae))))
  (ao (bf (cU K mI Ho Hq yh (pv 2) (aa (pv 1) ae)))
  (aj (cK (pv 0) (C.pe i bU (aa (pv 2) ae)) Y))))),?_⟩
 refine⟨_,Y,c,X,_,Y,j,Y,c,g,Y,⟨X,j⟩,ok,λl Ai q Z n=>?_⟩;refine⟨_,Y,_,Y,l,_,Y,.inl (n7.of n),r,_,Y,λa=>?_,λa=>R (by rw[m]at a;exact a) Ai q⟩;rw[m]at a;have p:Hc r (g.map ov).length=O r.toNat:=by
  rw[m];exact (rB (xO a.1 a.2)).1
 refine⟨_,Y,.inl ⟨Y,_,n7.of n⟩,_,Y,l,_,r,r.toNat,ov (at' g r.toNat),Y,Y,n,by omega,by omega,p,by rw[cc,getD_at' (by omega)];rfl,?_⟩;rw[W7];have v:ad H (upd Ai l (.lst ((g.eraseIdx r.toNat).map ov))):=oC q Z;have h2:(upd Ai l (.lst ((g.eraseIdx r.toNat).map ov))) l=O (.lst ((g.eraseIdx r.toNat).map ov)):=af;have b:=rZ ok r.toNat;have x:=lC b;refine⟨_,Y,l,_,Y,n7.of h2,by omega,λA0 H3 y=>?_,λd=>(by rw[b]at d;cases d)⟩;exact⟨_,Y,c,A.aY,X,_,Y,(v.trans y) _ _ j,T.dZ,T.kP,by show 1<1000;decide,S a.1 a.2 _ ((Kp.of (v.trans y)).trans Kp.own) ⟨X,af⟩⟩
def asc(z:hO):Prop:=z.cps.all (· < 128)=c0
def tV(z:hO):n_:=z.cps.toList.all λc=>decide (97<=c/\c<=122)
def iu(m:gV):V->n_
 |.str z=>decide (1<=(z.length:gV)/\(z.length:gV)<=m) && tV z
 |_=>d_
def IE:V->Prop
 |.str z=>asc z/\z.length<=1000
 |.non=>GX
 |.int _=>GX
 |_=>wa
def jx:V->n_
 |.non=>c0
 |x=>iu 12 x
theorem Tn:("a" : hO).cps.toList=[97]:=by rfl
theorem WA:("z" : hO).cps.toList=[122]:=by rfl
inductive Ov(a:U V)(H:Hp)(Q:VK)(_E:XK):Prop
 |i(z:hO)(_:a=[.str z])(_:asc z)(_:z.length<=1000)(_:∀C,ad H C->Q (.bl (tV z)) C)
theorem ziL:(["sign"]:U hO).Nodup:=by decide +kernel
theorem Ul(T:Txt K G A)(F:vr K "are_small_letters" "are_small_letters" Q1 f Ag):ap P w K G u q_ 1 f Ag ["text"] Ov:=by
 refine F.o ["text"] λv j An a s H y Q Ah B h=>?_;obtain⟨z,rfl,l,hz,q⟩:=h;have m:z.cps.toList.length=z.length:=li;refine⟨_,(aj (aA (aL (jO K Y) (by rfl) T.jm PyProof.Rows.Boot.«all» (aa (bK (Ac:=["sign"]) (fr:=[cx]) ⟨Y,Y,Y,Y,Y,Y⟩ Y (VX (pv 0))
    (λAj Ap s H=>⟨aH (i:=0) ziL Y (gS Y),bn,(lD yW yW au (pv 0) au)⟩)) ae)))),?_⟩
 refine⟨_,Y,z,Y,l,kX (λi acc C=>C=H/\acc=(z.cps.toList.take i).map λc=>V.bl (decide (97<=c/\c<=122))) ⟨Y,Y⟩ ?_ (f' (aV hz)) ?_ ?_⟩
 ·rintro i acc C b ⟨rfl,rfl⟩;exact⟨by rw[bd,gv];omega,λh=>h,λh=>h⟩
 ·rintro i x acc Ai Am b ⟨rfl,rfl⟩ ⟨rfl,c,n,rfl⟩;refine⟨Wk.set Y,tT ⟨_,Y,_,_,Y,Y,_,Y,?_⟩⟩;have d:((z.cps.toList.take (i+1)).map λc=>V.bl (decide (97<=c/\c<=122)))=((z.cps.toList.take i).map λc=>V.bl (decide (97<=c/\c<=122)))++[V.bl (decide (97<=c/\c<=122))]:=by rw[ke,n,dn];rfl
  rw[Tn];rw[x9];by_cases e:c<97
  ·rw[fo e];refine ak (cw b ⟨Y,?_⟩);rw[d,dV (λz=>by omega)]
  ·rw[dV e];refine aw ⟨_,_,Y,Y,cw b ⟨Y,?_⟩⟩;rw[WA];rw[x9,d];by_cases g:122<c
   ·rw[fo g,dV (λz=>by omega)];rfl
   ·rw[dV g,fo (by omega)];rfl
 ·rintro acc Ai ⟨rfl,rfl⟩ p r;refine⟨p,z.cps.toList.map λc=>decide (97<=c/\c<=122),Y,.of ?_,?_⟩
  ·rw[af,←m,gl,p_];rfl
  ·rw[Dz];exact q _ (ad.new r)
inductive oO(K:fy)(a:U V)(H:Hp)(Q:VK)(_E:XK):Prop
 |i(x:V)(m:gV)(_:a=[x,.int m])(_:IE x)(_:∀C,ad H C->Q (.bl (iu m x)) C)
theorem T9(T:Txt K G A)(g:uG P w K G u q_ 1 "are_small_letters" ["text"] Ov)(F:vr K "is_small" "is_small" O6 f Ag):ap P w K G u q_ 2 f Ag ["text","most"] (oO K):=by
 refine F.o ["text","most"] λr j An c s H v Q Ah l h=>?_;obtain⟨x,m,rfl,d,q⟩:=h;have n:=BB;refine⟨_,(aj (aA (gK (aL (dj K) (by rfl) T.dq PyProof.Rows.Boot.«isinstance» (aa (pv 0) (aa (gM T.yL PyProof.Rows.Boot.«str») ae))) (gK (lD gi gi ah (aL mO (by rfl) T.bu PyProof.Rows.Boot.«len» (aa (pv 0) ae)) (pv 1)) (fz (g.pe l av (aa (pv 0) ae))))))),?_⟩;cases x with
 |non=>exact⟨_,Y,_,_,_,Y,gG .non T.ins,_,Y,ak (q _ (ad.refl _))⟩
 |int i=>exact⟨_,Y,_,_,_,Y,gG (.int i) T.iis,_,Y,ak (q _ (ad.refl _))⟩
 |str z=>
  obtain⟨p,hz⟩:=d;refine⟨_,Y,_,_,_,Y,gG (.str z) T.xK,_,Y,aw ⟨_,Y,z,Y,by omega,_,_,Y,Y,_,Y,?_⟩⟩;have e:iu m (.str z)=(decide (1<=(z.length:gV)/\(z.length)<=m) && tV z):=Y;rw[e]at q;by_cases a:(1)<=(z.length:gV)
  ·rw[fo a];refine aw ⟨_,Y,_,_,Y,Y,_,Y,?_⟩;by_cases b:(z.length)<=m
   ·rw[fo b];rw[fo (JM a b)]at q;exact aw ⟨_,Y,z,Y,p,hz,q⟩
   ·rw[dV b];rw[dV (λy=>b y.2)]at q;exact ak (q _ (ad.refl _))
  ·rw[dV a];rw[dV (λy=>a y.1)]at q;exact ak ⟨_,Y,ak (q _ (ad.refl _))⟩
 |_=>exact d.elim
inductive Pf(K:fy)(a:U V)(H:Hp)(Q:VK)(_E:XK):Prop
 |i(x:V)(_:a=[x])(_:IE x)(_:∀C,ad H C->Q (.bl (iu 12 x)) C)
theorem yU(T:Txt K G A)(b:uG P w K G u q_ 2 "is_small" ["text","most"] (oO K))(F:vr K "is_written" "is_written" tG f Ag):ap P w K G u q_ 3 f Ag ["word"] (Pf K):=by
 refine F.o ["word"] λg c An a s H i Q Ah d h=>?_;obtain⟨x,rfl,e,q⟩:=h;refine⟨_,(aj (aA (b.pe d av (aa (pv 0) (aa (bi T.zf0) ae))))),?_⟩;exact⟨_,Y,x,12,Y,e,q⟩
inductive PZ(K:fy)(a:U V)(H:Hp)(Q:VK)(_E:XK):Prop
 |i(x:V)(_:a=[x])(_:IE x)(_:∀C,ad H C->Q (.bl (jx x)) C)
theorem YO(T:Txt K G A)(c:uG P w K G u q_ 3 "is_written" ["word"] (Pf K))(F:vr K "is_word" "is_word" OH f Ag):ap P w K G u q_ 4 f Ag ["word"] (PZ K):=by
 refine F.o ["word"] λg d An a s H j Q Ah e h=>?_;obtain⟨x,rfl,b,q⟩:=h;refine⟨_,(aj (aA (oj (c8 dI (pv 0) bL (aC _)) (fz (c.pe e av (aa (pv 0) ae)))))),?_⟩;refine⟨_,Y,Y,_,Y,?_⟩;cases x with
 |non=>exact aw (q _ (ad.refl _))
 |int i=>exact ak ⟨_,Y,_,Y,b,q⟩
 |str z=>exact ak ⟨_,Y,_,Y,b,q⟩
 |_=>exact b.elim
def Gs:V->n_
 |.non=>c0
 |.int i=>Et (O i)
 |_=>d_
inductive uP(K:fy)(a:U V)(H:Hp)(Q:VK)(_E:XK):Prop
 |i(z:hO)(_:a=[.str z])(_:Q (.bl d_) H)
theorem Zn(T:Txt K G A)(F:vr K "is_whole" "is_whole" oB f Ag):ap P w K G u q_ 1 f Ag ["thing"] (uP K):=by
 refine F.o ["thing"] λc b An a s H d Q Ah e h=>?_;obtain⟨z,rfl,q⟩:=h;refine⟨_,(aj (aA (gK (aL (dj K) (by rfl) T.dq PyProof.Rows.Boot.«isinstance» (aa (pv 0) (aa (gM T.nQ PyProof.Rows.Boot.«int») ae))) (fz (lF (aL (dj K) (by rfl) T.dq PyProof.Rows.Boot.«isinstance» (aa (pv 0) (aa (gM T.yo PyProof.Rows.Boot.«bool») ae)))))))),?_⟩;exact⟨_,Y,_,_,_,Y,gG (.str z) T.isi,_,Y,ak q⟩
inductive PF(K:fy)(a:U V)(H:Hp)(Q:VK)(_E:XK):Prop
 |i(x:V)(_:a=[x])(_:IE x)(_:Q (.bl (Gs x)) H)
theorem zlf(T:Txt K G A)(c:uG P w K G u q_ 1 "is_whole" ["thing"] (uP K))(F:vr K "is_value" "is_value" oA f Ag):ap P w K G u q_ 2 f Ag ["value"] (λb H Q _=>∃z:hO,b=[.str z]/\Q (.bl d_) H):=by
 refine F.o (len:=by rintro _ _ _ _ ⟨z,rfl,_⟩;rfl) ["value"] λg d An a s H b Q Ah e h=>?_;obtain⟨z,rfl,q⟩:=h;refine⟨_,(aj (aA (oj (c8 dI (pv 0) bL (aC _)) (fz (gK (c.pe e av (aa (pv 0) ae)) (fz (lD gi gi (iq iy (bi T.nh)) (pv 0) (bi T.nh)))))))),?_⟩;exact⟨_,Y,Y,_,Y,ak ⟨_,Y,z,Y,_,Y,ak q⟩⟩
theorem Th(T:Txt K G A)(a:uG P w K G u q_ 1 "is_whole" ["thing"] ur)(b:uG P w K G u q_ 1 "is_whole" ["thing"] (uP K))(F:vr K "is_value" "is_value" oA f Ag):ap P w K G u q_ 2 f Ag ["value"] (PF K):=by
 refine ((yS T a F).or0 (zlf T b F)).imp λd H Q Ah h=>?_;obtain⟨x,rfl,c,q⟩:=h;cases x with
 |non=>exact .inl ⟨cx,Y,q⟩
 |int i=>exact .inl ⟨O i,Y,q⟩
 |str z=>exact .inr ⟨z,Y,q⟩
 |_=>exact c.elim
inductive Oa(K:fy)(A:Ad)(b:U V)(H:Hp)(Q:VK)(_E:XK):Prop
 |i(a:ce)(x:V)(_:b=[.ref a,x])(_:IE x)(_:(((∃X fs,H a=O (.ins A.aY X fs))/\∀C,ad H C->Q (.bl (Gs x)) C)\/((∃X fs,H a=O (.ins A.bJ X fs))/\∀C,ad H C->Q (.bl (jx x)) C)))
theorem Zl(T:Txt K G A)(e:uG P w K G u q_ 4 "is_word" ["word"] (PZ K))(g:uG P w K G u q_ 2 "is_value" ["value"] (PF K))(F:vr K "takes" "takes" OZ f Ag):ap P w K G u q_ 5 f Ag ["part","value"] (Oa K A):=by
 refine F.o ["part","value"] λj i An b s H l Q Ah c h=>?_;obtain⟨a,x,rfl,d,h⟩:=h;refine⟨_,(aj (aA (dA (cR (aL (dj K) (by rfl) T.dq PyProof.Rows.Boot.«isinstance» (aa (pv 0) (aa (dJ T.qZ) ae)))) (e.pe c av (aa (pv 1) ae)) (g.pe c av (aa (pv 1) ae))))),?_⟩;rcases h with⟨⟨X,fs,h⟩,q⟩ |⟨⟨X,fs,h⟩,q⟩
 ·exact⟨_,Y,_,_,_,Y,nB h T.dZ T.zcA T.mP T.xE,_,Y,ak ⟨_,Y,x,Y,d,q _ (ad.refl _)⟩⟩
 ·exact⟨_,Y,_,_,_,Y,nB h T.d0 T.zcB T.mP T.xF,_,Y,aw ⟨_,Y,x,Y,d,q⟩⟩
def DK(L:U ce)(H C:Hp):Prop:=∀b o,b∉L->H b=O o->C b=O o
theorem DK.of(s:ad H C):DK L H C:=λb o _ e=>s b o e
theorem DK.one(k:Kp c H C)(a:c∈L):DK L H C:=λb o d e=>k b o (λz=>d (z ▸ a)) e
theorem DK.trans(a:DK L Ai Am)(b:DK L Am H3):DK L Ai H3:=λx o c e=>b x o c (a x o c e)
theorem DK.put(a:c∈L):DK L H (upd H c o):=λb Au d e=>by exact (ag (show b≠c from λz=>d (by exact z ▸ a))) ▸ e
theorem DK.mono{a:U ce}(k:DK L H C)(h:∀b∈L,b∈a):DK a H C:=λb o c e=>k b o (λz=>c (h b z)) e
def eQ:ft->U hO->U (Key×V)
 |_,[]=>[]
 |n,z::r=>(.inr z,.int n)::eQ (n+1) r
theorem yN:∀(n:ft)(N:U hO)(z:hO),aP (eQ n N) (.inr z)=if z∈N then O (.int ((n+N.idxOf z:ft):gV)) else cx
 |n,[],z=>rfl
 |n,y::r,z=>by
  by_cases e:y=z
  ·subst e;rw[mu j_,DR];exact eV Y
  ·have a:aP (eQ n (y::r)) (.inr z)=aP (eQ (n+1) r) (.inr z):=dN (λq=>e (FO q));simp only[a,yN (n+1) r z]
   grind
theorem yM:∀(n:ft)(N:U hO)(z:hO),eQ n (N++[z])=eQ n N++[(.inr z,.int ((n+N.length:ft):gV))]
 |n,[],z=>rfl
 |n,y::r,z=>by
  show _::eQ (n+1) (r++[z])=_::(eQ (n+1) r++_);simp only[yM (n+1) r z,r_]
  grind
theorem rY:∀(n:ft)(N:U hO),(eQ n N).length=N.length
 |_,[]=>rfl
 |n,_::r=>by show (eQ (n+1) r).length+1=_;rw[rY];rfl
def bv(N:U hO):U (Key×V):=eQ 0 N
def fK(A:Ad)(H:Hp)(a c d:ce)(N:U hO)(J:U OI):Prop:=(∃X,H a=O (.ins A.bJ X [("column", .ref c),("numbered", .ref d)]))/\eF A.aY H c J/\H d=O (.dK (bv N))
theorem fK.same{A:Ad}{H C:Hp}{a c d:ce}{N:U hO}{J:U OI}(h:fK A H a c d N J)(s:ad H C):fK A C a c d N J:=by
 obtain⟨⟨X,b⟩,e,f⟩:=h;exact⟨⟨X,s _ _ b⟩,e.same s,s _ _ f⟩
inductive Om(A:Ad)(a:U V)(H:Hp)(Q:VK)(_E:XK):Prop
 |i(p X:ce)(_:a=[.ref p])(_:H p=O (.ins A.bJ X []))(_:∀(c d:ce)(C:Hp),fK A C p c d [] []->Kp p H C->H c=cx->H d=cx->c≠d->Q .non C)
theorem Rv(T:Txt K G A)(M:iA P w K G u (yl P w) 10 A.aY ["self","values"] (tY K A))(F:vr K "__init__" "WordColumn.__init__" Q5 f Ag):ap P w K G u q_ 12 f Ag ["self"] (Om A):=by
 obtain⟨N,R,S,Z,qp⟩:=M;refine F.o ["self"] λnN A0 An C s H vs Q Ah hr h=>?_;obtain⟨p,X,rfl,J,q⟩:=h;refine⟨_,(ao (cK (pv 0) (oi Z S (hr.mono (by decide)) Y T.xu qp .nil cf (aa (cP ae) ae)) Y)
  (aj (cK (pv 0) lE Y))),?_⟩
 refine⟨bI Y,λl hl=>?_⟩;intro c n r v D;have a:H c=cx:=by
  rw[←r,ag];intro z;rw[z,af]at r;cases r
 have e1:(upd (upd (upd H l (.lst [])) n (.own c)) c (.ins A.aY n [])) l=O (.lst []):=by
  have n1:=aF af v;have n2:=aF af r;rw[ag n2,ag n1];exact af
 have y:ad H (upd (upd (upd H l (.lst [])) n (.own c)) c (.ins A.aY n [])):=ay (ay (ad.new hl) v) (by rw[ag (v_ D)];exact r);refine⟨c,n,l,[],Y,af,n7.of e1,ot _,λ_ Am C2 B=>⟨Y,?_⟩,λz=>(by cases z)⟩;have g:=aF J a;have h2:=B p _ g (y _ _ J);refine⟨_,Y,p,A.bJ,X,_,Y,h2,T.d0,T.mF,by decide,λd hd=>?_⟩;have i:=aF af hd;obtain⟨E,x⟩:=C2;have j:Am d=cx:=by rw[←hd,ag (v_ i)]
 have m:=aF x j;refine⟨_,Y,p,A.bJ,X,_,Y,by rw[ag i];exact af,T.d0,T.mG,by show 1<1000;decide,q c d _ ⟨⟨X,af⟩,⟨E,?_⟩,?_⟩ (λb o L e=>?_) a ?_ m⟩
 ·rw[ag g.symm,ag m,ag g.symm];exact x
 ·rw[ag i.symm,af];rfl
 ·have I:b≠d:=λz=>by
   subst z;have:=B b o (λz=>by rw[z,a]at e;cases e) (y _ _ e);rw[j]at this;cases this
  rw[ag L,ag I,ag L];exact B b o (λz=>by rw[z,a]at e;cases e) (y _ _ e)
 ·cases hz:H d with
  |none=>rfl
  |some o=>
   have:=B d o m.symm (y _ _ hz);rw[j]at this;cases this
inductive Pc(A:Ad)(b:U V)(H:Hp)(Q:VK)(_E:XK):Prop
 |i(a c d:ce)(N:U hO)(J:U OI)(x:V)(_:b=[.ref a,x])(_:fK A H a c d N J)(_:N.length<=1000)(_:((x = .non/\Q .non H)\/∃z:hO,x = .str z/\(z∈N->Q (.int (N.idxOf z)) H)/\(z∉N->Q (.int N.length) (upd H d (.dK (bv (N++[z])))))))
theorem RY(T:Txt K G A)(F:vr K "number_of" "WordColumn.number_of" OX f Ag):ap P w K G u q_ 1 f Ag ["self","word"] (Pc A):=by
 refine F.o ["self","word"] λD p An i s H E Q Ah I h=>?_;obtain⟨a,c,d,N,J,x,rfl,⟨⟨X,m⟩,L,j⟩,r,h⟩:=h;refine⟨_,(aj (aA (dA (aE dI (pv 1) bL (aC _)) bL (cU K GL FS FT yj (bz K (pv 0) Y) (aa (pv 1) (aa (aL jP (by rfl) T.bu PyProof.Rows.Boot.«len» (aa (bz K (pv 0) Y) ae)) ae)))))),?_⟩;refine⟨_,Y,Y,_,Y,?_⟩;rcases h with⟨rfl,q⟩ |⟨z,rfl,y,B⟩
 ·exact aw q
 ·have n:=yN 0 N z;have b:(bv N).length=N.length:=rY 0 N;refine ak ⟨_,Y,a,_,X,_,_,Y,m,T.d0,T.mG,Y,.inr (.inr (.inl ⟨Y,.inl ⟨_,j⟩⟩)),_,Y,_,Y,a,_,X,_,_,Y,m,T.d0,T.mG,Y,d,_,Y,j,d,_,.inr z,_,Y,Y,j,λv e=>?_,λe=>⟨?_,?_⟩⟩
  ·have e:aP (eQ 0 N) (.inr z)=O v:=e;rw[n]at e;by_cases g:z∈N
   ·rw[mu g,Eb]at e;cases e;exact y g
   ·rw[ks g]at e;cases e
  ·rw[b];exact aV r
  ·have l:aP (eQ 0 N) (.inr z)=cx:=e;rw[n]at l;by_cases g:z∈N
   ·rw[mu g]at l;cases l
   ·have C:bR (bv N) (.inr z) (.int ((bv N).length:gV))=bv (N++[z]):=by
     rw[oy _ e,b];have:=yM 0 N z;rw[Eb]at this;exact this.symm
    rw[C,b];exact B g
def dW(N:U hO):OI->V
 |none=>.non
 |some i=>.str (N.getD i.toNat "")
def inR(N:U hO)(J:U OI):Prop:=∀i:gV,O i∈J->0<=i/\i<N.length
def dm(N:U hO):V->U hO×OI
 |.str z=>if z∈N then (N,O (N.idxOf z:gV)) else (N++[z],O (N.length:gV))
 |_=>(N,cx)
inductive PY(A:Ad)(b:U V)(H:Hp)(Q:VK)(_E:XK):Prop
 |i(a c d:ce)(r:gV)(x:V)(N:U hO)(J:U OI)(_:b=[.ref a,.int r,x])(_:fK A H a c d N J)(_:Ex J=c0)(_:N.length<=1000)(_:0<=r)(_:r<(J.length:gV)+1)(_:(x = .non\/∃z,x = .str z))(_:Ex (cp J r.toNat (dm N x).2)=c0)(_:∀C,DK [c,d] H C->fK A C a c d (dm N x).1 (cp J r.toNat (dm N x).2)->Q .non C)
theorem Tg(T:Txt K G A)(CP:aZ P w K G u (yl P w) 12 A.aY "put" ["self","row","value"] (uK A))(CN:aZ P w K G u q_ 1 A.bJ "number_of" ["self","word"] (Pc A))(F:vr K "put" "WordColumn.put" Ou f Ag):ap P w K G u q_ 13 f Ag ["self","row","word"] (PY A):=by
 obtain⟨A0,A1,p9,rM,qv⟩:=CP;obtain⟨A2,A3,C,D,E⟩:=CN;refine F.o ["self","row","word"] λnN A4 An I s H vs Q Ah hr h=>?_;obtain⟨a,c,d,r,x,N,J,rfl,W,ok,hw,r0,r1,hx,b,q⟩:=h;obtain⟨⟨X,n⟩,⟨g,i⟩,B⟩:=id W;have p:=bO n i λz=>hQ (show (2)=1 from tS Ga (HO.ins.inj z).2.2) (by decide);have L:=bO n B (by intro z;cases z);have v:=bO i B (by intro z;cases z);refine⟨_,(aj (bf (bp (bz K (pv 0) Y) T.dZ rM p9 (hr.mono (by decide)) qv .nil cf (aa (pv 1) (aa (bp (pv 0) T.d0 D C (hr.mono (by decide)) E .nil av (aa (pv 2) ae)) ae))))),?_⟩;have fin:∀(o) (Ai),eF A.aY Ai c J->DK [c,d] H Ai->o=(dm N x).2->Ai d=O (.dK (bv (dm N x).1))->∀Am,Kp c Ai Am->eF A.aY Am c (cp J r.toNat o)->Q .non Am:=λo Ai C1 k1 eo M Am e j=>by
  subst eo;refine q Am (k1.trans (DK.one e (by simp))) ⟨⟨X,e a _ p (k1 a _ (by simp[p,L]) n)⟩,j,e d _ v.symm M⟩
 refine⟨_,Y,a,_,X,_,_,Y,n,T.d0,T.mF,Y,c,g,_,Y,i,Y,_,Y,_,Y,a,X,_,Y,n,Y,_,Y,a,c,d,N,J,x,Y,W,hw,?_⟩;have R:J.length<8:=by
  have:=lC b;unfold cp at this;rw[gT,gv,r_,yy]at this;omega
 have l:∀{Z:Prop},¬ (0<=r/\r<(J.length)+1)->Z:=λh=>hQ ⟨r0,r1⟩ h;rcases hx with rfl |⟨z,rfl⟩
 ·refine .inl ⟨Y,c,r,cx,J,Y,⟨g,i⟩,ok,R,λh=>l h,λ_ _ _ Am e j=>fin cx H ⟨g,i⟩ (DK.of (ad.refl _)) Y B Am e j,λ_ _ z=>?_⟩;have:Ex (cp J r.toNat cx)=c0:=b;rw[this]at z;cases z
 ·refine .inr ⟨z,Y,λS=>?_,λS=>?_⟩
  ·have m:dm N (.str z)=(N,O (N.idxOf z:gV)):=mu S;refine⟨c,r,O (N.idxOf z),J,Y,⟨g,i⟩,ok,R,λh=>l h,λ_ _ _ Am e j=>fin _ H ⟨g,i⟩ (DK.of (ad.refl _)) (by rw[m]) (by rw[m];exact B) Am e j,λ_ _ z=>?_⟩;rw[m]at b;rw[b]at z;cases z
  ·have m:dm N (.str z)=(N++[z],O (N.length:gV)):=ks S;have y:(upd H d (.dK (bv (N++[z])))) c=O (.ins A.aY g [("lying", .str (ju J))]):=by rw[ag v];exact i
   refine⟨c,r,O (N.length),J,Y,⟨g,y⟩,ok,R,λh=>l h,λ_ _ _ Am e j=>fin _ _ ⟨g,y⟩ (DK.put (by simp)) (by rw[m]) (by rw[m];exact af) Am e j,λ_ _ z=>?_⟩;rw[m]at b;rw[b]at z;cases z
inductive Oc(A:Ad)(b:U V)(H:Hp)(Q:VK)(_E:XK):Prop
 |i(a c d:ce)(r:gV)(N:U hO)(J:U OI)(_:b=[.ref a,.int r])(_:fK A H a c d N J)(_:Ex J=c0)(_:0<=r)(_:r<(J.length:gV))(_:∀C,Kp c H C->fK A C a c d N (J.eraseIdx r.toNat)->Q .non C)
theorem Vb(T:Txt K G A)(p:aZ P w K G u (yl P w) 12 A.aY "drop" ["self","row"] (uk A))(F:vr K "drop" "WordColumn.drop" Pz f Ag):ap P w K G u q_ 13 f Ag ["self","row"] (Oc A):=by
 obtain⟨v,x,y,B,C⟩:=p;refine F.o ["self","row"] λR D An e s H S Q Ah E h=>?_;obtain⟨a,c,d,r,N,J,rfl,⟨⟨X,g⟩,⟨m,b⟩,n⟩,ok,I,L,q⟩:=h;have i:=bO g b λz=>hQ (show (2)=1 from tS Ga (HO.ins.inj z).2.2) (by decide);have j:=bO b n (by intro z;cases z);refine⟨_,(aj (bf (bp (bz K (pv 0) Y) T.dZ B y (E.mono (by decide)) C .nil cf (aa (pv 1) ae)))),?_⟩;exact⟨_,Y,a,_,X,_,_,Y,g,T.d0,T.mF,Y,c,m,_,Y,b,Y,_,Y,c,r,J,Y,⟨m,b⟩,ok,λh=>hQ ⟨I,L⟩ h,λ_ _ Am l M=>q Am l ⟨⟨X,l a _ i g⟩,M,l d _ j.symm n⟩⟩
theorem ya{Ay:Type}[BU Ay]:∀(acc l:U Ay),(met acc l).length=acc.length+l.length↔l.Nodup/\∀x∈l,x∉acc
 |acc,[]=>by simp[met]
 |acc,k::r=>by
  have b:=ya (if k∈acc then acc else acc++[k]) r;have a:=nJ (if k∈acc then acc else acc++[k]) r;show (met (if k∈acc then acc else acc++[k]) r).length=acc.length+(r.length+1)↔_;by_cases c:k∈acc
  ·rw[mu c]at a ⊢;constructor
   ·grind
   ·simp_all
  ·rw[ks c]at b ⊢;have e:acc.length+(r.length+1)=(acc++[k]).length+r.length:=by rw[gT];simp;lia
   simp only[e,b,Cg]
   grind
theorem W0[BU Ay](l:U Ay):(met [] l).length=l.length↔l.Nodup:=by
 have:=ya [] l;simpa using this
theorem w5{a b:hO}(h:Es (.str a) (.str b)=c0):a=b:=by
 exact t9 h
abbrev E9:=hO×hO
variable{hs:U E9}{h h0:E9}
def il(h:E9):n_:=iu 8 (.str h.1) && decide (h.2 = "number" \/ h.2 = "word")
def fj(H:Hp)(as:U ce)(hs:U E9):Prop:=as.length=hs.length/\∀(i:ft)(a:ce)(h:E9),as[i]?=O a->hs[i]?=O h->H a=O (.tup [.str h.1,.str h.2])
theorem fj.same(h:fj H as hs)(s:ad H C):fj C as hs:=⟨h.1,λi a x b c=>s _ _ (h.2 i a x b c)⟩
def fw(hs:U E9):n_:=decide (1<=hs.length/\hs.length<=8) && (hs.all il && decide ((hs.map (·.1)).Nodup))
inductive P'(K:fy)(a:U V)(H:Hp)(Q:VK)(_E:XK):Prop
 |i(p:ce)(h:E9)(_:a=[.ref p])(_:H p=O (.tup [.str h.1,.str h.2]))(_:asc h.1)(_:h.1.length<=1000)(_:∀C,ad H C->Q (.bl (il h)) C)
theorem RM(T:Txt K G A)(i:uG P w K G u q_ 2 "is_small" ["text","most"] (oO K))(F:vr K "is_head" "is_head" Od f Ag):ap P w K G u q_ 3 f Ag ["head"] (P' K):=by
 refine F.o ["head"] λx j An c s H y Q Ah l h=>?_;obtain⟨p,⟨n,k⟩,rfl,a,m,r,q⟩:=h;refine⟨_,(ao (aN (PW.pt (fT (eD (cR (aL (dj K) (by rfl) T.dq PyProof.Rows.Boot.«isinstance» (aa (pv 0) (aa (gM T.nR PyProof.Rows.Boot.«tuple») ae))))) (gm (aE fR (aL (cD K) (by rfl) T.bu PyProof.Rows.Boot.«len» (aa (pv 0) ae)) ah (aC _))))) (aj (aA fc))
   aO)
  (aj (aA (gK (i.pe l av (aa (aG (aT K) (pv 0) ah (λ_ _=>rfl)) (aa (bi T.zfZ) ae))) (fz (c8 (iU K) (aG (aT K) (pv 0) ah (λ_ _=>rfl)) (cz (aa au (aa au ae))) (by rfl))))))),?_⟩
 refine⟨_,Y,_,_,_,Y,gG (.tup a) T.xM,_,Y,ak ⟨_,Y,p,_,Y,.inr (th.of a),Y,_,Y,ak ?_⟩⟩;refine⟨_,Y,p,_,_,_,Y,Y,th.of a,Y,_,8,Y,⟨m,r⟩,λAi d=>⟨_,Y,?_⟩⟩;have q:∀C,ad H C->Q (.bl (iu 8 (.str n) && decide (k = "number" \/ k = "word"))) C:=q;generalize iu 8 (.str n)=b at q ⊢;cases b with
 |false=>exact ak (q _ d)
 |true=>
  refine aw ⟨_,Y,p,_,_,_,Y,Y,th.of (d _ _ a),Y,(show 2<=fx by decide),λv g=>⟨v,_,Y,.inr (th.of af),Y,Y,?_⟩⟩;have e:GP (.str k) [V.str "number",V.str "word"]=decide (k = "number" \/ k = "word"):=by
   unfold GP;rw[x0];simp only[y_,Lg,Fw,JK,CB];constructor
   ·rintro (h |h)
    ·exact .inl (w5 h).symm
    ·exact .inr (w5 h).symm
   ·rintro (h |h) <;> subst h
    ·exact .inl (jT Y)
    ·exact .inr (jT Y)
  rw[e];exact q _ (ay d g)
inductive OC(K:fy)(A:Ad)(a:U V)(H:Hp)(Q:VK)(Ah:XK):Prop
 |i(l:ce)(as:U ce)(hs:U E9)(_:a=[.ref l])(_:n7 K H l (as.map V.ref))(_:fj H as hs)(_:hs.length<=100)(_:(∀h∈hs,asc h.1/\h.1.length<=1000))(_:(fw hs=c0->∀C,ad H C->Q .non C))(_:(fw hs=d_->∀C,ad H C->Ah (.ref A.gE) cx C))
theorem TK:(["head"]:U hO).Nodup:=by decide +kernel
theorem yx:(["name","kind"]:U hO).Nodup:=by decide +kernel
theorem R6(T:Txt K G A)(Z:uG P w K G u q_ 3 "is_head" ["head"] (P' K))(F:vr K "check_heads" "check_heads" Qv f Ag):ap P w K G u (yl P w) 4 f Ag ["heads"] (OC K A):=by
 refine F.oX ["heads"] λnN A0 An D s H vs Q Ah hr h=>?_;obtain⟨l,as,hs,rfl,j,n,hl,ht,q1,v⟩:=h;have e:(as.map V.ref).length=hs.length:=by rw[bd];exact n.1
 refine⟨_,(ao (aN (eD (zm gi gi ah (aL (cD K) (by rfl) T.bu PyProof.Rows.Boot.«len» (aa (pv 0) ae)) (bi T.zfW))) (aj (c9 de T.vd Y (by rfl) T.ng (aa au ae)))
   aO)
  (ao (aN (eD (cR (aL (jO K Y) (by rfl) T.jm PyProof.Rows.Boot.«all» (aa (bK (Ac:=["head"]) (fr:=[cx]) ⟨Y,Y,Y,Y,Y,Y⟩ Y (bV (pv 0))
    (λAj Ap s H=>⟨aH (i:=0) TK Y (gS Y),bn,(Z.pe hr av (aa (pv 0) ae))⟩)) ae)))) (aj (c9 de T.vd Y (by rfl) T.ng (aa au ae)))
   aO)
  (aj (aN (aE fR (aL zeL (by rfl) T.bu PyProof.Rows.Boot.«len» (aa (gL (Z7 K Y) (by rfl) T.zjy PyProof.Rows.Boot.«set» (aa (bK (Ac:=["name","kind"]) (fr:=[cx,cx]) ⟨Y,Y,Y,Y,Y,Y⟩ Y (bV (pv 0))
    (λAj Ap s H=>⟨eA K (n:=2) Y (bP (aH (i:=0) yx Y (gS Y)) (bP (aH (i:=1) yx Y (gS Y)) eB)),bn,(pv 0)⟩)) ae)) ae)) (aL (cD K) (by rfl) T.bu PyProof.Rows.Boot.«len» (aa (pv 0) ae)) (aC _)) (aj (c9 de T.vd Y (by rfl) T.ng (aa au ae)))
   aO)))),?_⟩
 refine⟨_,Y,l,_,Y,.inl j,_,_,Y,Y,_,Y,?_⟩;rw[e];by_cases N:(1:gV)<=(hs.length:gV)
 ·rw[fo N];refine aw ⟨_,_,Y,Y,_,Y,?_⟩;by_cases R:(hs.length:gV)<=8
  ·rw[fo R];refine ak ⟨_,Y,l,Y,⟨_,j⟩,⟨cE (E:=as.map V.ref) (λi acc C=>ad H C/\acc=(hs.take i).map λh=>V.bl (il h)) ⟨ad.refl _,Y⟩ ?_ ?_ ?_ ?_⟩⟩
   ·rintro i acc C hi ⟨g,rfl⟩;refine⟨g.seq j,?_⟩;rw[bd,gv];omega
   ·rw[e];exact f' (aV (by omega))
   ·rintro i x acc Ai p c ⟨g,rfl⟩;have a:i<hs.length:=by rw[←e];exact c
    have d:i<as.length:=by rw[n.1];exact a
    rw[cc,a_ d]at p;cases p;have q:hs[i]?=O hs[i]:=a_ a;have E:=(n.same g).2 i _ _ (a_ d) q;obtain⟨a1,a2⟩:=ht _ (j' a);refine⟨Wk.set Y,tT ⟨_,Y,_,hs[i],Y,E,a1,a2,λAm m=>cw c ⟨g.trans m,?_⟩⟩⟩;rw[ke,q,dn];rfl
   ·rintro acc Ai ⟨g,rfl⟩ b hb;refine⟨b,hs.map il,Y,.of ?_,_,Y,?_⟩
    ·rw[af,e,gl,p_];rfl
    rw[Dz,QQ];have m:=ay (o:=.lst ((hs.take (as.map V.ref).length).map λh=>V.bl (il h))) g hb;generalize upd Ai b (.lst ((hs.take (as.map V.ref).length).map λh=>V.bl (il h)))=Am at m;cases S:hs.all il with
    |false=>
     refine aw ⟨by show 1<=fx;decide,v ?_ Am m⟩;unfold fw;rw[S,Bool.false_and,Ee]
    |true=>
     refine ak ⟨_,Y,l,Y,⟨_,m.seq j⟩,⟨cE (E:=as.map V.ref) (λi acc C=>ad H C/\acc=(hs.take i).map λh=>V.str h.1) ⟨m,Y⟩ ?_ ?_ ?_ ?_⟩⟩
     ·rintro i acc C hi ⟨g,rfl⟩;refine⟨g.seq j,?_⟩;rw[bd,gv];omega
     ·rw[e];exact f' (aV (by omega))
     ·rintro i x acc H3 p c ⟨y,rfl⟩;have a:i<hs.length:=by rw[←e];exact c
      have d:i<as.length:=by rw[n.1];exact a
      rw[cc,a_ d]at p;cases p;have q:hs[i]?=O hs[i]:=a_ a;have E:=(n.same y).2 i _ _ (a_ d) q;refine⟨_,_,Y,th.of E,Y,_,_,Y,_,_,Y,Y,?_⟩;refine⟨(Wk.set Y).trans (Wk.set Y),tT ⟨_,Y,cw c ⟨y,?_⟩⟩⟩;rw[ke,q,dn];rfl
     ·rintro acc H3 ⟨y,rfl⟩ b3 I;have s4:=ay (o:=.lst ((hs.map (·.1)).map V.str)) y I;have ea:(hs.take (as.map V.ref).length).map (λh=>V.str h.1)=(hs.map (·.1)).map V.str:=by rw[e,gl,p_];rfl
      rw[ea];refine⟨b3,hs.map (·.1),Y,n7.of af,by rw[bd];exact hl,λX J=>?_⟩;have L:=ay (o:=mz X (met [] (hs.map (·.1))).length) s4 J;have r:=nJ [] (hs.map (·.1));rw[bd]at r;refine⟨X,_,Y,af,by simp at r;omega,_,Y,l,_,Y,.inl (L.seq j),Y,_,Y,?_⟩;rw[BS,e];have M:=W0 (hs.map (·.1));rw[bd]at M;by_cases B:(hs.map (·.1)).Nodup
      ·rw[fo (show ((met [] (hs.map (·.1))).length:gV)=(hs.length:gV) by rw[M.mpr B])];refine ak (q1 ?_ _ L);unfold fw;rw[fo (by omega),S,fo B];rfl
      ·rw[dV (show ¬ ((met [] (hs.map (·.1))).length:gV)=(hs.length:gV) from λz=>B (M.mp (by omega)))];refine aw ⟨by show 1<=fx;decide,v ?_ _ L⟩;unfold fw;rw[dV B,Ee,Ee]
  ·rw[dV R];refine aw ⟨by show 1<=fx;decide,v ?_ _ (ad.refl _)⟩;unfold fw;rw[dV (by omega)];rfl
 ·rw[dV N];refine ak ⟨_,Y,aw ⟨by show 1<=fx;decide,v ?_ _ (ad.refl _)⟩⟩;unfold fw;rw[dV (by omega)];rfl
inductive PM where
 |num(g:U OI)
 |wrd(N:U hO)(J:U OI)
def PM.col:PM->U OI
 |.num g=>g
 |.wrd _ J=>J
def PM.cells:PM->U V
 |.num g=>g.map ov
 |.wrd N J=>J.map (dW N)
def PM.ok:PM->Prop
 |.num g=>Ex g=c0
 |.wrd N J=>Ex J=c0/\inR N J/\N.length<=1000
def PM.takes:PM->V->n_
 |.num _=>Gs
 |.wrd _ _=>jx
def PM.at(A:Ad)(H:Hp)(a:ce)(Ap:U ce):PM->Prop
 |.num g=>eF A.aY H a g/\Ap=[a]
 |.wrd N J=>∃c d,fK A H a c d N J/\Ap=[a,c,d]
def KJ:V->OI
 |.int i=>O i
 |_=>cx
def PM.put(x:V):PM->PM
 |.num g=>.num (g++[KJ x])
 |.wrd N J=>.wrd (dm N x).1 (J++[(dm N x).2])
def PM.drop(k:ft):PM->PM
 |.num g=>.num (g.eraseIdx k)
 |.wrd N J=>.wrd N (J.eraseIdx k)
theorem PM.keep{p:PM}(h:p.at A H a Ap)(k:DK L H C)(hd:∀b∈Ap,b∉L):p.at A C a Ap:=by
 cases p with
 |num g=>
  obtain⟨⟨X,h⟩,rfl⟩:=h;exact⟨⟨X,k _ _ (hd a (by simp)) h⟩,Y⟩
 |wrd N J=>
  obtain⟨c,d,⟨⟨X,e⟩,⟨f,i⟩,j⟩,rfl⟩:=h;exact⟨c,d,⟨⟨X,k _ _ (hd a (by simp)) e⟩,⟨f,k _ _ (hd c (by simp)) i⟩,k _ _ (hd d (by simp)) j⟩,Y⟩
theorem PM.kind{p:PM}(h:p.at A H a Ap)(e:b∈Ap):(∃Aj X fs,H b=O (.ins Aj X fs)/\fs.length<=2)\/∃kvs,H b=O (.dK kvs):=by
 cases p with
 |num g=>
  obtain⟨⟨X,h⟩,rfl⟩:=h;rw[ku.mp e];exact .inl ⟨_,_,_,h,bI Y⟩
 |wrd N J=>
  obtain⟨c,d,⟨⟨X,f⟩,⟨l,i⟩,j⟩,rfl⟩:=h;simp only[f_,m_,u3]at e;rcases e with rfl |rfl |rfl
  ·exact .inl ⟨_,_,_,f,bI Y⟩
  ·exact .inl ⟨_,_,_,i,bI Y⟩
  ·exact .inr ⟨_,j⟩
abbrev aW:=ce×U ce×PM
variable{I:U aW}
def jI(A:Ad)(H:Hp)(I:U aW):Prop:=(∀q∈I,q.2.2.at A H q.1 q.2.1)/\((I.map (·.2.1)).flatten).Nodup
def bX(J:U hO)(I:U aW):U (Key×V):=(J.zip I).map λq=>(.inr q.1,.ref q.2.1)
theorem sh:∀{J:U hO}{I:U aW}{z:hO},z∉J->aP (bX J I) (.inr z)=cx
 |[],_,_,_=>rfl
 |_::_,[],_,_=>rfl
 |n::r,q::I,z,h=>by
  have a:¬ (CC n:Key)=CC z:=λe=>h (by exact (FO e) ▸ j_);have e:aP (bX (n::r) (q::I)) (.inr z)=aP (bX r I) (.inr z):=dN a;rw[e];exact sh λhz=>h (hE _ hz)
theorem WF(h:J.length=I.length)(z:hO)(q:aW):bX (J++[z]) (I++[q])=bX J I++[(.inr z,.ref q.1)]:=by
 delta bX
 rw[JS h,dn];rfl
structure bS(t:Ad)(H:Hp)(tb pd ll:ce)(o:z_)(ns:U hO)(ps:U aW)(living:U gV)(coming:gV):Prop where
 tab:∃dx,H tb=O (.ins t.aX dx [("parts", .ref pd),("living", .ref ll),("coming", .int coming)])
 dic:H pd=O (.frz o (.dK (bX ns ps)))
 liv:H ll=O (.lst (living.map V.int))
 par:jI t H ps
 len:ns.length=ps.length
def ge(h:E9):PM:=if h.2 = "word" then .wrd [] [] else .num []
inductive Qk(K:fy)(A:Ad)(a:U V)(H:Hp)(Q:VK)(Ah:XK):Prop
 |i(p X l:ce)(as:U ce)(hs:U E9)(_:a=[.ref p,.ref l])(_:H p=O (.ins A.aX X []))(_:H l=O (.lst (as.map V.ref)))(_:fj H as hs)(_:hs.length<=100)(_:(∀h∈hs,asc h.1/\h.1.length<=1000))(_:(fw hs=d_->∀C,ad H C->Ah (.ref A.gE) cx C))(_:(fw hs=c0->∀(C:Hp)(pd ll:ce)(o:z_)(I:U aW),bS A C p pd ll o (hs.map (·.1)) I [] 0->I.map (·.2.2)=hs.map ge->(∀q∈I,∀b∈q.2.1,H b=cx/\b≠pd)->H ll=cx->H pd=cx->ll≠pd->Kp p H C->Q .non C))
theorem zjJ(T:Txt K G A)(px:uG P w K G u (yl P w) 4 "check_heads" ["heads"] (OC K A))(CW:iA P w K G u q_ 12 A.bJ ["self"] (Om A))(CI:iA P w K G u (yl P w) 10 A.aY ["self","values"] (tY K A))(F:vr K "__init__" "Table.__init__" z8 f Ag):ap P w K G u (yl P w) 14 f Ag ["self","columns"] (Qk K A):=by
 obtain⟨AT,AU,p7,rL,qu⟩:=CW;obtain⟨AV,AW,pY,rH,qp⟩:=CI;refine F.oX ["self","columns","name","kind"] λnN AX An AC s H vs Q Ah hr h=>?_;obtain⟨p,X,l,as,hs,rfl,hp,hS,hA,hl,ht,q1,q2⟩:=h;have hu:=iM hr;refine⟨_,(ao (bf (px.pe hr bU (aa (pv 1) ae)))
  (ao (cK (pv 0) lE Y)
  (ao (PS.nox (fg qw Y (bV (pv 1)) (eA K (n:=2) Y (bP (aH (i:=2) nN Y (gS Y)) (bP (aH (i:=3) nN Y (gS Y)) eB)))
   (aj (sK hu (bz K (pv 0) Y) (pv 2) (dA (aE bh (pv 3) au (aC _)) (sk rL p7 (hr.mono (by decide)) Y T.qZ qu .nil av) (oi rH pY (hr.mono (by decide)) Y T.xu qp .nil cf (aa (cP ae) ae))) Y))))
  (ao (Ww (cK (pv 0) (cP ae) Y))
  (aj (cK (pv 0) ah Y)))))),?_⟩
 refine⟨_,Y,l,as,hs,Y,n7.of hS,hA,hl,ht,λgood Ai s1=>?_,q1⟩;have q2:=q2 good;intro pd Z;have AD:(upd Ai pd (.dK [])) p=O (.ins A.aX X []):=by rw[ag (aF (s1 _ _ hp) Z)];exact s1 _ _ hp
 refine⟨_,Y,p,A.aX,X,_,Y,AD,T.bD,T.hV,by show 0<1000;decide,?_⟩;have AE:l≠p:=bO hS hp (by intro z;cases z);have AF:(hs.map (·.1)).Nodup:=by
  unfold fw at good;rw[sB,sB]at good;exact t9 good.2.2
 have L:H pd=cx:=s1.free Z;have M:p≠pd:=aF (s1 _ _ hp) Z;have k1:Kp p H (upd (upd Ai pd (.dK [])) p (.ins A.aX X [("parts", .ref pd)])):=λb o a e=>by
  rw[ag a,ag (aF (s1 _ _ e) Z)];exact s1 _ _ e
 have h2:(upd (upd Ai pd (.dK [])) p (.ins A.aX X [("parts", .ref pd)])) p=O (.ins A.aX X [("parts", .ref pd)]):=af;have h3:(upd (upd Ai pd (.dK [])) p (.ins A.aX X [("parts", .ref pd)])) pd=O (.dK []):=by rw[ag M.symm];exact af
 have A7:∀{C:Hp},Kp p H C->C l=O (.lst (as.map V.ref)):=λk=>k l _ AE hS;refine⟨_,Y,l,Y,⟨_,n7.of (A7 k1)⟩,⟨jV (K:=K) (a:=l) (E:=as.map V.ref) (λi σ C=>∃(v2 v3:eH V)(I:U aW),σ=[O (.ref p),O (.ref l),v2,v3]/\Kp p H C/\C p=O (.ins A.aX X [("parts", .ref pd)])/\C pd=O (.dK (bX ((hs.map (·.1)).take i) I))/\jI A C I/\I.map (·.2.2)=(hs.take i).map ge/\(∀q∈I,∀b∈q.2.1,H b=cx/\b≠pd)/\I.length=i)
  ⟨cx,cx,[],Y,k1,h2,h3,⟨λq g=>(by cases g),Kj⟩,Y,λq g=>(by cases g),Y⟩ (λi σ C hi hp=>by obtain⟨_,_,_,_,k,_⟩:=hp;exact n7.of (A7 k)) ?_ ?_⟩⟩
 ·rintro i x σ E J ⟨v2,v3,I,rfl,kc,j,m,⟨pa,pn⟩,N,D,r⟩;have A3:i<as.length:=by
   have:=(cs.mp J).1
   rwa[bd]at this
  have AG:i<hs.length:=by rw[←hA.1];exact A3
  rw[cc,a_ A3]at J;cases J;have eh:hs[i]?=O hs[i]:=a_ AG;have A8:=hA.2 i _ _ (a_ A3) eh;have hh:=kc _ _ (bO A8 hp (by intro z;cases z)) A8;have A0:(hs.map (·.1)).take (i+1)=(hs.map (·.1)).take i++[hs[i].1]:=by rw[ke,cc,eh];rfl
  have AH:hs[i].1∉(hs.map (·.1)).take i:=by
   have:=AF;rw[←ES (i+1) (hs.map (·.1)),A0,Er]at this;exact λz=>(Cp.mp this).2.2 _ z _ (DP _ (List.mem_singleton_self _)) Y
  have AI:((hs.map (·.1)).take i).length=I.length:=by rw[gv,bd];omega
  have step:∀(x:ce)(Ap:U ce)(H3:Hp),ad E H3->(ge hs[i]).at A H3 x Ap->(∀b∈Ap,E b=cx)->Ap.Nodup->∃H4,gZ H3 pd (.str hs[i].1) (.ref x) H4/\∃(v2 v3:eH V)(I:U aW),[O (V.ref p),O (V.ref l),O (V.str hs[i].1),O (V.str hs[i].2)]=[O (.ref p),O (.ref l),v2,v3]/\Kp p H H4/\H4 p=O (.ins A.aX X [("parts", .ref pd)])/\H4 pd=O (.dK (bX ((hs.map (·.1)).take (i+1)) I))/\jI A H4 I/\I.map (·.2.2)=(hs.take (i+1)).map ge/\(∀q∈I,∀b∈q.2.1,H b=cx/\b≠pd)/\I.length=i+1:=by
   intro x Ap H3 S AJ A1 AK;have A4:=S _ _ m;have AL:(bX ((hs.map (·.1)).take i) I).length<fx:=by
    unfold bX;rw[bd,Ci];exact aV (by omega)
   have A9:∀b∈Ap,b≠pd:=λb a z=>by
    have:=A1 b a;rw[z,m]at this;cases this
   have fH:∀b∈Ap,H b=cx:=λb a=>by
    cases hz:H b with
    |none=>rfl
    |some o=>
     by_cases AA:b=p
     ·have:=A1 b a;rw[AA,j]at this;cases this
     ·have:=kc b o AA hz;rw[A1 b a]at this;cases this
   refine⟨_,gZ.k (k:=.inr hs[i].1) A4 AL,_,_,I++[(x,Ap,ge hs[i])],Y,λb o a e=>?_,?_,?_,⟨λq g=>?_,?_⟩,?_,λq g=>?_,?_⟩
   ·rw[ag (λz=>by rw[z,L]at e;cases e)];exact S _ _ (kc b o a e)
   ·rw[ag M];exact S _ _ j
   ·rw[af,oy _ (sh AH),A0,WF AI]
   ·have kL:DK [pd] E (upd H3 pd (.dK (bR (bX ((hs.map (·.1)).take i) I) (.inr hs[i].1) (.ref x)))):=(DK.of S).trans (DK.put (by simp));rcases pA.mp g with h |h
    ·exact PM.keep (pa q h) kL λb a=>by simp[(D q h b a).2]
    ·rw[ku.mp h];exact PM.keep AJ (DK.put (L:=[pd]) (by simp)) λb a=>by simp[A9 b a]
   ·rw[dn,CU];have ef:(([(x,Ap,ge hs[i])]:U aW).map (·.2.1)).flatten=Ap:=by simp
    rw[ef];refine Cp.mpr ⟨pn,AK,λb a c hc z=>?_⟩;subst z;obtain⟨fq,AM,AN⟩:=vg.mp a;obtain⟨q,g,rfl⟩:=nk.mp AM;have:=A1 b hc;rcases PM.kind (pa q g) AN with⟨_,_,_,e,_⟩ |⟨_,e⟩ <;> rw[e]at this <;> cases this
   ·rw[dn,N,ke,eh,dn];rfl
   ·rcases pA.mp g with h |h
    ·exact D q h
    ·rw[ku.mp h];exact λb a=>⟨fH b a,A9 b a⟩
   ·rw[gT,r];rfl
  refine⟨_,_,Y,th.of hh,Y,_,_,Y,_,_,Y,Y,?_⟩;refine⟨_,Y,Y,_,Y,?_⟩;have un:∀{y z:ce}{o:HO}{Hx:Hp},(upd Hx z o) y=cx->y≠z/\Hx y=cx:=λ{y z o Hx} h=>by
   have n:y≠z:=λe=>by rw[e,af]at h;cases h
   rw[ag n]at h;exact⟨n,h⟩
  by_cases hw:hs[i].2 = "word"
  ·rw[show decide (V.str hs[i].2=V.str "word")=c0 by rw[hw,uQ]];refine aw λx R J v AO=>⟨x,R,Y,af,λc d H3 W k3 AQ A4 AR=>⟨Y,?_⟩⟩
   obtain⟨c1,c2⟩:=un AQ;obtain⟨d1,d2⟩:=un A4;have S:ad E H3:=λb o e=>k3 b o (aF e J) (by rw[ag (aF e J),ag (aF e v)];exact e);obtain⟨H4,D4,I4⟩:=step x [x,c,d] H3 S (by unfold ge;rw[mu hw];exact⟨c,d,W,Y⟩) (λb a=>by
    simp only[f_,m_,u3]at a;rcases a with rfl |rfl |rfl
    ·exact J
    ·exact (un c2).2
    ·exact (un d2).2) (by simp[c1.symm,d1.symm,AR])
   exact⟨_,Y,p,_,X,_,_,Y,S _ _ j,T.bD,T.hV,Y,_,Y,pd,H4,Y,D4,I4⟩
  ·rw[kr hw];refine ak ⟨bI Y,λl0 A5 x R J v AO=>?_⟩;obtain⟨x1,x2⟩:=un J;have sl:ad E (upd E l0 (.lst [])):=ad.new A5;have e1:(upd (upd (upd E l0 (.lst [])) R (.own x)) x (.ins A.aY R [])) l0=O (.lst []):=by
    rw[ag (aF af J),ag (aF af v)];exact af
   refine⟨x,R,l0,[],Y,af,n7.of e1,ot _,λ_ H3 C3 k3=>⟨Y,?_⟩,λz=>(by cases z)⟩;have S:ad E H3:=λb o e=>k3 b o (aF (sl _ _ e) J) (by rw[ag (aF (sl _ _ e) J),ag (aF (sl _ _ e) v)];exact sl _ _ e);obtain⟨H4,D4,I4⟩:=step x [x] H3 S (by unfold ge;rw[ks hw];exact⟨C3,Y⟩) (λb a=>by rw[ku.mp a];exact x2) (by simp);exact⟨_,Y,p,_,X,_,_,Y,S _ _ j,T.bD,T.hV,Y,_,Y,pd,H4,Y,D4,I4⟩
 ·rintro σ E ⟨v2,v3,I,rfl,kc,j,m,⟨pa,pn⟩,N,D,r⟩;have AS:(as.map V.ref).length=hs.length:=by rw[bd];exact hA.1
  rw[AS]at r N m;have A0:(hs.map (·.1)).take hs.length=hs.map (·.1):=xv (by rw[bd];exact dv _);rw[A0]at m;rw[gl]at N;refine⟨bI Y,λll B=>?_⟩;have A2:p≠ll:=aF j B;have A6:pd≠ll:=aF m B;have AB:(upd E ll (.lst [])) p=O (.ins A.aX X [("parts", .ref pd)]):=by rw[ag A2];exact j
  refine⟨_,Y,p,A.aX,X,_,Y,AB,T.bD,T.fX,by show 1<1000;decide,pd,bX (hs.map (·.1)) I,by rw[ag M.symm,ag A6];exact m,λo=>?_⟩;refine⟨_,Y,p,A.aX,X,_,Y,by rw[ag M];exact af,T.bD,T.qh,by show 2<1000;decide,?_⟩;have hH:∀b,b≠p->b≠pd->∀z,E b=O z->(upd (upd (upd (upd E ll (.lst [])) p (.ins A.aX X (cV "living" (.ref ll) [("parts", .ref pd)]))) pd (.frz o (.dK (bX (hs.map (·.1)) I)))) p (.ins A.aX X (cV "coming" (.int 0) (cV "living" (.ref ll) [("parts", .ref pd)])))) b=O z:=λb h1 h2 z e=>by
   rw[ag h1,ag h2,ag h1,ag (aF e B)];exact e
  have fH:∀q∈I,∀b∈q.2.1,b≠p:=λq g b a z=>by
   have:=(D q g b a).1;rw[z,hp]at this;cases this
  have A5:H ll=cx:=by
   cases hz:H ll with
   |none=>rfl
   |some o=>
    have:=kc ll o A2.symm hz;rw[B]at this;cases this
  refine q2 _ pd ll o I ⟨⟨X,af⟩,?_,?_,⟨λq g=>?_,pn⟩,by rw[bd,r]⟩ N D A5 L A6.symm λb z a e=>?_
  ·rw[ag M.symm];exact af
  ·rw[ag A2.symm,ag A6.symm,ag A2.symm];exact af
  ·exact PM.keep (L:=[p,pd]) (pa q g) (λb z a e=>by
    simp only[f_,m_,u3,Ie]at a;exact hH b a.1 a.2 z e) λb a=>by simp[fH q g b a,(D q g b a).2]
  ·have h2:b≠pd:=λz=>by rw[z,L]at e;cases e
   exact hH b a h2 z (kc b z a e)
theorem y4:∀{J:U hO}{I:U aW}{i:ft}{z:hO}{q:aW},J.Nodup->J[i]?=O z->I[i]?=O q->aP (bX J I) (.inr z)=O (.ref q.1)
 |[],_,i,z,q,_,h,_=>by cases h
 |_::_,[],i,z,q,_,_,h=>by cases h
 |n::r,p::I,0,z,q,_,c,d=>by
  cases c;cases d;exact eV Y
 |n::r,p::I,i+1,z,q,g,c,d=>by
  obtain⟨a,b⟩:=Cg.mp g;have f:¬ (CC n:Key)=CC z:=λe=>a (by exact (FO e) ▸ (eT c));have e:aP (bX (n::r) (p::I)) (.inr z)=aP (bX r I) (.inr z):=dN f;rw[e];exact y4 b c d
theorem xG(n:gV)(l:U gV):GP (.int n) (l.map V.int)=decide (n∈l):=by
 delta GP
 rw[x0,E5];simp only[CB];constructor
 ·rintro⟨v,a,e⟩;obtain⟨m,b,rfl⟩:=nk.mp a;exact (Fe.mp e) ▸ b
 ·intro h;exact⟨_,nk.mpr ⟨n,h,Y⟩,jT Y⟩
theorem x6:∀{l:U gV}{n y:gV}{m:ft},m<l.idxOf n->l[m]?=O y->y≠n
 |[],n,y,m,_,h=>by cases h
 |a::r,n,y,m,b,h=>by
  by_cases e:a=n
  ·subst e;rw[DR]at b;omega
  ·have c:(a ==n)=d_:=x4.mpr e;rw[Go,c]at b;cases m with
   |zero=>cases h;exact e
   |succ k=>exact x6 (m:=k) (by simp_all) h
theorem rA(l:U gV):(l.map V.int).all bN=c0:=by
 rw[i_];intro x a;obtain⟨i,_,rfl⟩:=nk.mp a;rfl
theorem jI.same(h:jI A H I)(s:ad H C):jI A C I:=⟨λq a=>PM.keep (L:=[]) (h.1 q a) (DK.of s) λb _=>by simp,h.2⟩
theorem bS.same{A:Ad}{H C:Hp}{Al pd ll:ce}{o:z_}{J:U hO}{I:U aW}{E:U gV}{coming:gV}(h:bS A H Al pd ll o J I E coming)(s:ad H C):bS A C Al pd ll o J I E coming:=by
 obtain⟨⟨X,a⟩,b,c,d,e⟩:=h;exact⟨⟨X,s _ _ a⟩,s _ _ b,s _ _ c,d.same s,e⟩
inductive uH(A:Ad)(a:U V)(H:Hp)(Q:VK)(Ah:XK):Prop
 |i(Al pd ll:ce)(o:z_)(J:U hO)(I:U aW)(E:U gV)(coming:gV)(z:hO)(_:a=[.ref Al,.str z])(_:bS A H Al pd ll o J I E coming)(_:J.Nodup)(_:(∀(i:ft)(q:aW),J[i]?=O z->I[i]?=O q->Q (.ref q.1) H))(_:(z∉J->Ah (.ref A.ci) cx H))
theorem Vw(T:Txt K G A)(F:vr K "part" "Table.part" NY f Ag):ap P w K G u (yl P w) 1 f Ag ["self","name"] (uH A):=by
 refine F.oX ["self","name"] λx j An b s H y Q Ah l h=>?_;obtain⟨Al,pd,ll,o,J,I,E,coming,z,rfl,⟨⟨X,e⟩,m,B,C,n⟩,p,q,r⟩:=h;have g:=iM l;have c:fh H pd (.str z) (aP (bX J I) (.inr z)):=.inl ⟨_,.inr z,.inr ⟨o,m⟩,Y,Y⟩;refine⟨_,(ao (aN (sN (XO g (pv 1) (bz K (pv 0) Y))) (aj (c9 de T.zoL Y (by rfl) T.xx (aa au ae)))
   aO)
  (aj (aA (og g (bz K (pv 0) Y) (pv 1) (λ_ _=>rfl))))),?_⟩
 refine⟨_,Y,_,Y,Al,_,X,_,_,Y,e,T.bD,T.hV,Y,pd,_,Y,c,_,Y,?_⟩;by_cases hz:z∈J
 ·obtain⟨i,d⟩:=oT hz;have a:i<I.length:=by rw[←n];exact (cs.mp d).1
  have v:=y4 p d (a_ a);rw[v]at c ⊢;exact ak ⟨_,Y,Al,_,X,_,_,Y,e,T.bD,T.hV,Y,_,Y,pd,_,Y,c,q i _ d (a_ a)⟩
 ·rw[sh hz];exact aw ⟨by decide,r hz⟩
inductive Qg(A:Ad)(a:U V)(H:Hp)(Q:VK)(Ah:XK):Prop
 |i(Al pd ll:ce)(o:z_)(J:U hO)(I:U aW)(E:U gV)(coming n:gV)(_:a=[.ref Al,.int n])(_:bS A H Al pd ll o J I E coming)(_:(n∈E->Q (.int (E.idxOf n)) H))(_:(n∉E->Ah (.ref A.fu) cx H))
theorem Ym(T:Txt K G A)(F:vr K "place_of" "Table.place_of" Of f Ag):ap P w K G u (yl P w) 1 f Ag ["self","number"] (Qg A):=by
 refine F.oX ["self","number"] λq i An b s H r Q Ah v h=>?_;obtain⟨Al,pd,ll,o,J,I,E,coming,n,rfl,⟨⟨X,e⟩,x,c,B,C⟩,j,l⟩:=h;refine⟨_,(ao (aN (aE (ZM K) (pv 1) (bz K (pv 0) Y) (by rfl)) (aj (c9 de T.zcz Y (by rfl) T.qX (aa au ae)))
   aO)
  (aj (aA (cU K mI De Df nM (bz K (pv 0) Y) (aa (pv 1) ae))))),?_⟩
 refine⟨_,Y,_,Y,Al,_,X,_,_,Y,e,T.bD,T.fX,Y,ll,_,Y,.inl (n7.of c),Y,rA _,_,Y,?_⟩;rw[xG];by_cases a:n∈E
 ·rw[fo a];have g:=o_ a;refine ak ⟨_,Y,Al,_,X,_,_,Y,e,T.bD,T.fX,Y,.inl ⟨Y,_,n7.of c⟩,_,Y,ll,_,_,E.idxOf n,Y,Y,c,rA _,Y,⟨.int n,?_,jT Y⟩,λm z p hz=>?_,j a⟩
  ·rw[cc,a_ g,Ef g];rfl
  ·rw[cc]at hz;cases d:E[m]? with
   |none=>rw[d]at hz;cases hz
   |some y=>
    rw[d]at hz;cases hz;exact x4.mpr (x6 p d)
 ·rw[dV a];exact aw ⟨by decide,l a⟩
def gc(I:U aW)(g:U V):n_:=decide (g.length=I.length) && ((I.zip g).all λq=>q.1.2.2.takes q.2)
theorem se(h:J.length=I.length)(a:i<I.length):∃k,(bX J I)[i]?=O (k,.ref I[i].1):=by
 have b:i<J.length:=by simp_all
 refine⟨.inr J[i],?_⟩
 delta bX
 simp_all
theorem sf(h:J.length=I.length):(bX J I).length=I.length:=by
 delta bX
 grind
theorem PM.cls{p:PM}(h:p.at A H a Ap):(∃X fs,H a=O (.ins A.aY X fs)/\p.takes=Gs)\/(∃X fs,H a=O (.ins A.bJ X fs)/\p.takes=jx):=by
 cases p with
 |num g=>
  obtain⟨⟨X,h⟩,_⟩:=h;exact .inl ⟨_,_,h,Y⟩
 |wrd N J=>
  obtain⟨c,d,⟨⟨X,b⟩,_⟩,_⟩:=h;exact .inr ⟨_,_,b,Y⟩
inductive Pa(K:fy)(A:Ad)(a:U V)(H:Hp)(Q:VK)(Ah:XK):Prop
 |i(Al pd ll:ce)(o:z_)(J:U hO)(I:U aW)(E:U gV)(coming:gV)(l:ce)(g:U V)(_:a=[.ref Al,.ref l])(_:bS A H Al pd ll o J I E coming)(_:H l=O (.lst g))(_:(∀x∈g,IE x))(_:g.length<=100)(_:I.length<=100)(_:E.length<64)(_:(gc I g=c0->∀C,ad H C->Q .non C))(_:(gc I g=d_->∀C,ad H C->Ah (.ref A.gD) cx C))
theorem yr:(["part","value"]:U hO).Nodup:=by decide +kernel
theorem TD(T:Txt K G A)(pQ:uG P w K G u q_ 5 "takes" ["part","value"] (Oa K A))(F:vr K "check_put" "Table.check_put" zZ f Ag):ap P w K G u (yl P w) 6 f Ag ["self","values"] (Pa K A):=by
 refine F.oX ["self","values"] λnN A0 An v s H vs Q Ah hr h=>?_;obtain⟨Al,pd,ll,o,J,I,E,coming,l,g,rfl,TA,m,hx,A1,A2,A3,q1,Z⟩:=h;obtain⟨⟨X,y⟩,n,h3,h4,h5⟩:=id TA;have z:(E.map V.int).length=E.length:=bd _;have c:=sf h5;refine⟨_,(ao (aN (aE bh (aL (cD K) (by rfl) T.bu PyProof.Rows.Boot.«len» (aa (bz K (pv 0) Y) ae)) (bi T.xz) (aC _)) (aj (c9 de T.vc Y (by rfl) T.m9 (aa au ae)))
   aO)
  (ao (aN (aE fR (aL (cD K) (by rfl) T.bu PyProof.Rows.Boot.«len» (aa (pv 1) ae)) (aL Ys (by rfl) T.bu PyProof.Rows.Boot.«len» (aa (bz K (pv 0) Y) ae)) (aC _)) (aj (c9 de T.vc Y (by rfl) T.m9 (aa au ae)))
   aO)
  (aj (aN (eD (cR (aL (jO K Y) (by rfl) T.jm PyProof.Rows.Boot.«all» (aa (bK (Ac:=["part","value"]) (fr:=[cx,cx]) ⟨Y,Y,Y,Y,Y,Y⟩ Y (zd K (by rfl) T.jn (aa (sm (bz K (pv 0) Y)) (aa (pv 1) ae)))
    (λAj Ap s H=>⟨eA K (n:=2) Y (bP (aH (i:=0) yr Y (gS Y)) (bP (aH (i:=1) yr Y (gS Y)) eB)),bn,(pQ.pe hr av (aa (pv 0) (aa (pv 1) ae)))⟩)) ae)))) (aj (c9 de T.vc Y (by rfl) T.m9 (aa au ae)))
   aO)))),?_⟩
 refine⟨_,Y,Al,_,X,_,_,Y,y,T.bD,T.fX,Y,ll,_,Y,.inl (n7.of h3),Y,_,Y,?_⟩;rw[BS,z,dV (show ¬ (E.length:gV)=64 by omega)];refine ak ⟨_,Y,l,_,Y,.inl (n7.of m),_,Y,Al,_,X,_,_,Y,y,T.bD,T.hV,Y,pd,_,Y,.inr ⟨o,n⟩,Y,_,Y,?_⟩;rw[BS,c];by_cases hc:g.length=I.length
 ·rw[fo (show (g.length:gV)=(I.length:gV) by omega)];refine ak ⟨_,Y,Al,_,X,_,_,Y,y,T.bD,T.hV,Y,pd,_,Y,.inr ⟨o,n⟩,λB d=>⟨_,Y,B,pd,o,bX J I,l,g,Y,af,?_,n7.of ?_,?_⟩⟩
  ·rw[ag (aF n d)];exact n
  ·rw[ag (aF m d)];exact m
  have s1:ad H (upd H B (g9 B pd)):=ad.new d;refine kX (n:=I.length) (λi acc C=>ad H C/\acc=((I.zip g).take i).map λq=>V.bl (q.1.2.2.takes q.2)) ⟨s1,Y⟩ ?_ (f' (aV (by omega))) ?_ ?_
  ·rintro i acc C p ⟨a,rfl⟩;refine⟨by rw[bd,gv];omega,λh=>⟨a _ _ n,by rw[c];exact h,g,_,n7.of (a _ _ m),a_ (by omega)⟩,λh=>⟨a _ _ n,g,n7.of (a _ _ m),.inl (by rw[c];exact h)⟩⟩
  ·rintro i x acc Am H3 p ⟨a,rfl⟩ ⟨T0,D,rfl,hy⟩;obtain⟨k,y1,y2,e1,e2,rfl⟩:=hy g (n7.of (a _ _ m));obtain⟨k',ek⟩:=se h5 p;rw[ek]at e1;cases e1;have e:i<g.length:=by omega
   rw[a_ e]at e2;cases e2;have r:ad H (upd Am T0 (.tup [V.ref I[i].1,g[i]])):=ay a D;have L:=(h4.same r).1 _ (j' p);have et:((I.zip g).take (i+1)).map (λq=>V.bl (q.1.2.2.takes q.2))=((I.zip g).take i).map (λq=>V.bl (q.1.2.2.takes q.2))++[V.bl (I[i].2.2.takes g[i])]:=by
    rw[ke,BE (z:=(I[i],g[i])) |>.mpr ⟨a_ p,a_ e⟩,dn];rfl
   refine⟨T0,_,Y,th.of af,Y,_,_,Y,_,_,Y,Y,(Wk.set Y).trans (Wk.set Y),tT ⟨_,Y,_,Y,I[i].1,g[i],Y,hx _ (j' e),?_⟩⟩;rcases PM.cls L with⟨M,N,j,R⟩ |⟨M,N,j,R⟩
   ·exact .inl ⟨⟨M,N,j⟩,λH4 S=>cw p ⟨r.trans S,by rw[et,R]⟩⟩
   ·exact .inr ⟨⟨M,N,j⟩,λH4 S=>cw p ⟨r.trans S,by rw[et,R]⟩⟩
  ·rintro acc Am ⟨a,rfl⟩ b hb;have ez:(I.zip g).length=I.length:=by rw[Ci];omega
   refine⟨b,(I.zip g).map λq=>q.1.2.2.takes q.2,Y,.of ?_,_,Y,?_⟩
   ·rw[af,←ez,gl,p_];rfl
   have r:=ay (o:=.lst (((I.zip g).take I.length).map λq=>V.bl (q.1.2.2.takes q.2))) a hb;rw[Dz];have eg:gc I g=(I.zip g).all (λq=>q.1.2.2.takes q.2):=by unfold gc;rw[fo hc];rfl
   show if (!((I.zip g).all (λq=>q.1.2.2.takes q.2)))=c0 then _ else _
   rw[←eg];cases hg:gc I g with
   |true=>exact ak (q1 hg _ r)
   |false=>exact aw ⟨by show 1<=fx;decide,Z hg _ r⟩
 ·rw[dV (show ¬ (g.length:gV)=(I.length:gV) by omega)];refine aw ⟨by show 1<=fx;decide,Z ?_ _ (ad.refl _)⟩;unfold gc;rw[dV hc];rfl
def cI:ft->U aW->U (PM->PM)->U aW
 |i+1,q::r,f::s=>(q.1,q.2.1,f q.2.2)::cI i r s
 |_,I,_=>I
theorem nL:∀(i:ft)(I:U aW)(fs:U (PM->PM)),(cI i I fs).length=I.length
 |0,_,_=>rfl
 |_+1,[],_=>rfl
 |_+1,_::_,[]=>rfl
 |i+1,q::r,f::s=>by show (cI i r s).length+1=_;rw[nL];rfl
theorem rR:∀{i:ft}{I:U aW}{fs:U (PM->PM)}{q:aW}{f:PM->PM},I[i]?=O q->fs[i]?=O f->(cI i I fs)[i]?=O q/\cI (i+1) I fs=(cI i I fs).set i (q.1,q.2.1,f q.2.2)
 |0,[],_,_,_,h,_=>by cases h
 |0,q::r,[],_,_,_,h=>by cases h
 |0,q::r,f::s,_,_,c,d=>by
  cases c;cases d;exact⟨Y,Y⟩
 |i+1,[],_,_,_,h,_=>by cases h
 |i+1,q::r,[],_,_,_,h=>by cases h
 |i+1,q::r,f::s,e,g,c,d=>by
  obtain⟨a,b⟩:=rR (i:=i) c d;refine⟨a,?_⟩;show _::cI (i+1) r s=(_::cI i r s).set (i+1) _
  simp_all
theorem nK:∀(i:ft)(I:U aW)(fs:U (PM->PM)),(cI i I fs).map (λq=>(q.1,q.2.1))=I.map (λq=>(q.1,q.2.1))
 |0,_,_=>rfl
 |_+1,[],_=>rfl
 |_+1,_::_,[]=>rfl
 |i+1,q::r,f::s=>by show _::(cI i r s).map _=_::_;rw[nK]
def FP(Al ll:ce)(I:U aW):U ce:=Al::ll::(I.map (·.2.1)).flatten
theorem xr{a:U aW}(h:a.map (λq=>(q.1,q.2.1))=I.map (λq=>(q.1,q.2.1))):(a.map (·.2.1)).flatten=(I.map (·.2.1)).flatten:=by
 have:=tS (Kk Nw) h;simp only[p_,p_]at this;exact tS List.flatten this
theorem n6:∀{J:U hO}{I a:U aW},a.map (λq=>(q.1,q.2.1))=I.map (λq=>(q.1,q.2.1))->bX J a=bX J I
 |[],_,_,_=>rfl
 |_::_,[],[],_=>rfl
 |_::_,[],_::_,h=>by cases h
 |_::_,_::_,[],h=>by cases h
 |n::r,q::I,b :: a,h=>by
  obtain⟨c,d⟩:=IR h;show (CC n,V.ref b.1)::bX r a=(CC n,V.ref q.1)::bX r I;rw[n6 d,(Prod.mk.inj c).1]
theorem xj:∀{l:U (U ce)}{i j:ft}{a b:U ce}{x:ce},l.flatten.Nodup->l[i]?=O a->l[j]?=O b->i≠j->x∈a->x∈b->wa
 |c::r,0,0,_,_,_,_,_,_,h,_,_=>h Y
 |c::r,0,j+1,a,b,x,d,e,f,_,g,m=>by
  cases e;exact (Cp.mp d).2.2 x g x (vg.mpr ⟨b,eT (show r[j]?=O b from f),m⟩) Y
 |c::r,i+1,0,a,b,x,d,e,f,_,g,m=>by
  cases f;exact (Cp.mp d).2.2 x m x (vg.mpr ⟨a,eT (show r[i]?=O a from e),g⟩) Y
 |c::r,i+1,j+1,a,b,x,d,e,f,n,g,m=>by
  exact xj (Cp.mp d).2.1 e f (λz=>n (by rw[z])) g m
theorem bS.upd{o:z_}(h:bS A H Al pd ll o J I E coming){q:aW}{pm:PM}(l:I[i]?=O q)(k:DK q.2.1 H H3)(m:pm.at A H3 q.1 q.2.1):bS A H3 Al pd ll o J (I.set i (q.1,q.2.1,pm)) E coming:=by
 obtain⟨⟨X,u⟩,v,w,⟨x,f⟩,y⟩:=h;have n:=x q (eT l);have g:(I.set i (q.1,q.2.1,pm)).map (λq=>(q.1,q.2.1))=I.map (λq=>(q.1,q.2.1)):=by
  simp only[List.map_set];apply List.ext_getElem?;intro j;rw[Jj];by_cases e:i=j
  ·subst e;have p:=(cs.mp l).1
   simp_all
  ·rw[ks e]
 have z:Al∉q.2.1:=λc=>by
  rcases PM.kind n c with⟨Aj,d,fs,e,p⟩ |⟨kvs,e⟩
  ·simp_all
  ·rw[u]at e;cases e
 have B:pd∉q.2.1:=λc=>by
  rcases PM.kind n c with⟨Aj,d,fs,e,p⟩ |⟨kvs,e⟩ <;> rw[v]at e <;> cases e
 have C:ll∉q.2.1:=λc=>by
  rcases PM.kind n c with⟨Aj,d,fs,e,p⟩ |⟨kvs,e⟩ <;> rw[w]at e <;> cases e
 refine⟨⟨X,k _ _ z u⟩,by exact (n6 g) ▸ (k _ _ B v),k _ _ C w,⟨λD r=>?_,by rw[xr g];exact f⟩,by rw[List.length_set];exact y⟩;obtain⟨j,a⟩:=oT r;rw[Jj]at a;by_cases e:i=j
 ·rw[mu e]at a
  split at a
  ·cases a;exact m
  ·cases a
 ·rw[ks e]at a;refine PM.keep (x D (eT a)) k λb c s=>?_;exact xj f (by rw[cc,a];rfl) (by rw[cc,l];rfl) (v_ e) c s
theorem bS.apart{o:z_}(h:bS A H Al pd ll o J I E coming){q:aW}(a:q∈I)(c:b∈q.2.1)(hz:b=Al\/b=ll\/b=pd):wa:=by
 obtain⟨⟨X,i⟩,j,l,⟨f,g⟩,m⟩:=h;rcases PM.kind (f q a) c with⟨Aj,d,fs,e,n⟩ |⟨kvs,e⟩
 ·grind
 ·grind
theorem zmj(a b c v:V):cV "coming" v ([("parts",a),("living",b),("coming",c)]:U (hO×V))=([("parts",a),("living",b),("coming",v)]:U (hO×V)):=Y
theorem nv(g:U OI)(o:OI):cp g g.length o=g++[o]:=by
 delta cp
 grind
theorem nV{o:OI}(h:Ex g=c0)(b:g.length<8)(a:Et o=c0):Ex (g++[o])=c0:=
 yP (by simp only[gT,so];assumption) (by simp only[List.all_append,nU h,Ck,a];rfl)
theorem nZ{x:V}(h:Gs x=c0):x=ov (KJ x)/\Et (KJ x)=c0:=by
 cases x <;> first |exact⟨Y,Y⟩ |exact⟨Y,h⟩ |cases h
theorem u9{x:V}(h:jx x=c0):x = .non\/∃z,x = .str z:=by
 cases x <;> first |exact .inl Y |exact .inr ⟨_,Y⟩ |cases h
theorem yE(x:V)(h:N.length<=1000):Et (dm N x).2=c0:=by
 cases x with
 |str z=>
  show Et (if z∈N then (N,O (N.idxOf z:gV)) else (N++[z],O (N.length))).2=c0
  split
  ·have:=o_ ‹z∈N›;exact fo (by lia)
  ·show decide (_/\_)=c0;exact fo (by lia)
 |_=>rfl
inductive Qw(K:fy)(A:Ad)(a:U V)(H:Hp)(Q:VK)(Ah:XK):Prop
 |i(Al pd ll:ce)(o:z_)(J:U hO)(I:U aW)(E:U gV)(coming:gV)(l:ce)(g:U V)(_:a=[.ref Al,.ref l])(_:bS A H Al pd ll o J I E coming)(_:H l=O (.lst g))(_:l≠ll)(_:(∀x∈g,IE x))(_:g.length<=100)(_:I.length<=100)(_:E.length<8)(_:(∀q∈I,q.2.2.ok/\q.2.2.col.length=E.length))(_:(gc I g=c0->∀C,DK (FP Al ll I) H C->bS A C Al pd ll o J (cI I.length I (g.map PM.put)) (E++[coming]) (coming+1)->Q (.int coming) C))(_:(gc I g=d_->∀C,ad H C->Ah (.ref A.gD) cx C))
theorem zjK(T:Txt K G A)(CK:aZ P w K G u (yl P w) 6 A.aX "check_put" ["self","values"] (Pa K A))(CP:aZ P w K G u (yl P w) 12 A.aY "put" ["self","row","value"] (uK A))(CW:aZ P w K G u q_ 13 A.bJ "put" ["self","row","word"] (PY A))(F:vr K "put" "Table.put" Qd f Ag):ap P w K G u (yl P w) 14 f Ag ["self","values"] (Qw K A):=by
 obtain⟨AX,AY,AE,AF,AG⟩:=CK;obtain⟨AZ,Ba,AH,AI,AJ⟩:=CP;obtain⟨Bb,Be,AK,AL,AM⟩:=CW;refine F.oX ["self","values","part","value","number"] λnN Bf An AN s H vs Q Ah hr h=>?_;obtain⟨Al,pd,ll,o,J,I,E,coming,l,g,rfl,TA,L,AO,hx,AQ,AR,AS,AT,q1,q2⟩:=h;obtain⟨⟨X,h1⟩,h2,h3,h4,h5⟩:=id TA;have A2:=sf h5;have A3:l∉FP Al ll I:=λm=>by
  unfold FP at m;rcases f_.mp m with z |m
  ·rw[z,h1]at L;cases L
  rcases f_.mp m with z |m
  ·exact AO z
  obtain⟨Ap,M,m⟩:=vg.mp m;obtain⟨q,hq,rfl⟩:=nk.mp M;rcases PM.kind (h4.1 q hq) m with⟨_,_,_,e,_⟩ |⟨_,e⟩ <;> rw[L]at e <;> cases e
 refine⟨_,(ao (bf (bp (pv 0) T.bD AF AE (hr.mono (by decide)) AG .nil bU (aa (pv 1) ae)))
  (ao (PS.nox (fg qw Y (zd K (by rfl) T.jn (aa (sm (bz K (pv 0) Y)) (aa (pv 1) ae))) (eA K (n:=2) Y (bP (aH (i:=2) nN Y (gS Y)) (bP (aH (i:=3) nN Y (gS Y)) eB)))
   (aj (bf (PE.alt (bp (pv 2) T.dZ AI AH (hr.mono (by decide)) AJ .nil cf (aa (aL (cD K) (by rfl) T.bu PyProof.Rows.Boot.«len» (aa (bz K (pv 0) Y) ae)) (aa (pv 3) ae))) (bp (pv 2) T.d0 AL AK (hr.mono (by decide)) AM .nil av (aa (aL (cD K) (by rfl) T.bu PyProof.Rows.Boot.«len» (aa (bz K (pv 0) Y) ae)) (aa (pv 3) ae))))))))
  (ao (aK (i:=4) nN Y (gS Y) (bz K (pv 0) Y))
  (ao (bf (cU K mI u4 uB jl (bz K (pv 0) Y) (aa (pv 4) ae)))
  (ao (sL (pv 0) ah rq)
  (aj (aA (pv 4)))))))),?_⟩
 refine⟨_,Y,Al,X,_,Y,h1,Y,_,Y,Al,pd,ll,o,J,I,E,coming,l,g,Y,TA,L,hx,AQ,AR,hJ AS (by decide),λgood Ai v=>?_,q2⟩;have q1:=q1 good;obtain⟨hc,hg⟩:g.length=I.length/\(I.zip g).all (λq=>q.1.2.2.takes q.2)=c0:=by
  unfold gc at good;rw[sB]at good;exact⟨t9 good.1,good.2⟩
 have Bg:=TA.same v;have k1:DK (FP Al ll I) H Ai:=DK.of v;refine⟨_,Y,Al,_,X,_,_,Y,v _ _ h1,T.bD,T.hV,Y,pd,_,Y,.inr ⟨o,v _ _ h2⟩,λvw R=>⟨_,Y,vw,pd,o,bX J I,l,g,Y,af,?_,n7.of ?_,?_⟩⟩
 ·rw[ag (aF (v _ _ h2) R)];exact v _ _ h2
 ·rw[ag (aF (v _ _ L) R)];exact v _ _ L
 have s2:ad H (upd Ai vw (g9 vw pd)):=ay v R;generalize upd Ai vw (g9 vw pd)=Am at s2;refine xq (n:=I.length) (λi σ C=>∃v2 v3:eH V,σ=[O (.ref Al),O (.ref l),v2,v3,cx]/\DK (FP Al ll I) H C/\bS A C Al pd ll o J (cI i I (g.map PM.put)) E coming) ⟨cx,cx,Y,DK.of s2,TA.same s2⟩ ?_ ?_ ?_
 ·rintro i σ C hi ⟨v2,v3,rfl,k,TB⟩;have hd:=TB.dic;rw[n6 (nK _ _ _)]at hd;have A4:=k l _ A3 L;exact⟨λh=>⟨hd,by rw[A2];exact h,g,_,n7.of A4,a_ (by omega)⟩,λh=>⟨hd,g,n7.of A4,.inl (by rw[A2];exact h)⟩⟩
 ·rintro i x σ H3 H4 hi ⟨v2,v3,rfl,k,TB⟩ ⟨T0,AU,rfl,hy⟩;obtain⟨k0,y1,y2,e1,e2,rfl⟩:=hy g (n7.of (k l _ A3 L));obtain⟨k',ek⟩:=se h5 hi;rw[ek]at e1;cases e1;have S:i<g.length:=by omega
  rw[a_ S]at e2;cases e2;have s4:ad H3 (upd H3 T0 (.tup [V.ref I[i].1,g[i]])):=ad.new AU;have TC:=TB.same s4;have kc:=k.trans (DK.of (L:=FP Al ll I) s4);have A5:(upd H3 T0 (.tup [V.ref I[i].1,g[i]])) T0=O (.tup [V.ref I[i].1,g[i]]):=af;generalize upd H3 T0 (.tup [V.ref I[i].1,g[i]])=H4 at s4 TC kc A5;refine⟨T0,_,Y,th.of A5,Y,_,_,Y,_,_,Y,Y,?_⟩;have A6:I[i]?=O I[i]:=a_ hi;obtain⟨m1,m2⟩:=rR (i:=i) (I:=I) (fs:=g.map PM.put) A6 (by rw[cc,a_ S];rfl);have Z:=TC.par.1 _ (eT m1);have A0:I[i].2.2.takes g[i]=c0:=i_.mp hg (I[i],g[i]) (eT (i:=i) (BE (z:=(I[i],g[i])) |>.mpr ⟨A6,a_ S⟩));obtain⟨o1,y⟩:=AT _ (j' hi);have M:∀b∈I[i].2.1,b∈FP Al ll I:=λb m=>hE _ (hE _ (vg.mpr ⟨_,nk.mpr ⟨_,j' hi,Y⟩,m⟩));have fin:∀(pm:PM)(B:Hp),DK I[i].2.1 H4 B->pm.at A B I[i].1 I[i].2.1->pm=I[i].2.2.put g[i]->∃v2 v3:eH V,[O (V.ref Al),O (V.ref l),O (V.ref I[i].1),O g[i],cx]=[O (.ref Al),O (.ref l),v2,v3,cx]/\DK (FP Al ll I) H B/\bS A B Al pd ll o J (cI (i+1) I (g.map PM.put)) E coming:=λpm B k5 a5 e5=>by
   refine⟨_,_,Y,kc.trans (k5.mono M),?_⟩;rw[m2,←e5];exact TC.upd m1 k5 a5
  obtain⟨⟨A7,p⟩,_,A8,_,_⟩:=id TC;have A9:(E.map V.int).length=E.length:=bd _;generalize I[i]=qq at Z A0 o1 y fin;obtain⟨a,Ap,pm⟩:=qq;cases pm with
  |num As=>
   obtain⟨⟨dc,hC⟩,j⟩:=Z;have y:As.length=E.length:=y;obtain⟨v1,AV⟩:=nZ A0;refine .inl ⟨_,Y,a,dc,_,Y,hC,Y,_,Y,Al,_,A7,_,_,Y,p,T.bD,T.fX,Y,ll,_,Y,.inl (n7.of A8),_,Y,a,(E.length:gV),KJ g[i],As,?_,⟨dc,hC⟩,o1,by omega,λh=>hQ ⟨by omega,by omega⟩ h,λ_ _ _ B k5 C5=>?_,λ_ _ z=>?_⟩
   ·rw[A9,←v1];rfl
   ·have C5:=C5;rw[nI,←y,nv]at C5;have j:Ap=[a]:=j;exact fin (.num (As++[KJ g[i]])) B (DK.one k5 (by show a∈Ap;rw[j];simp)) ⟨C5,j⟩ Y
   ·rw[nI,←y,nv,nV o1 (by omega) AV]at z;cases z
  |wrd N ms=>
   obtain⟨c,d,W,j⟩:=Z;obtain⟨AA,Bh,AB⟩:=o1;have y:ms.length=E.length:=y;obtain⟨⟨dw,hw⟩,_⟩:=id W;refine .inr ⟨_,Y,a,dw,_,Y,hw,Y,_,Y,Al,_,A7,_,_,Y,p,T.bD,T.fX,Y,ll,_,Y,.inl (n7.of A8),_,Y,a,c,d,(E.length:gV),g[i],N,ms,?_,W,AA,AB,by omega,by omega,u9 A0,?_,λB k5 W5=>?_⟩
   ·rw[A9];rfl
   ·rw[nI,←y,nv];exact nV AA (by omega) (yE g[i] AB)
   ·rw[nI,←y,nv]at W5;have j:Ap=[a,c,d]:=j;exact fin (.wrd (dm N g[i]).1 (ms++[(dm N g[i]).2])) B (k5.mono (by intro b m;show b∈Ap;rw[j];simp at m ⊢;rcases m with rfl |rfl <;> simp)) ⟨c,d,W5,j⟩ Y
 ·rintro σ H3 ⟨v2,v3,rfl,k,TB⟩;obtain⟨⟨n,r⟩,A1,D,AC,AW⟩:=id TB;have n1:Al≠ll:=bO r D (by intro z;cases z);have n2:pd≠Al:=bO A1 r (by intro z;cases z);have n3:pd≠ll:=bO A1 D (by intro z;cases z);refine⟨_,Y,Al,_,n,_,_,Y,r,T.bD,T.qh,Y,?_⟩;refine⟨_,Y,Al,_,n,_,_,Y,r,T.bD,T.fX,Y,.inl ⟨Y,_,n7.of D⟩,_,Y,ll,_,_,Y,Y,D,by rw[bd];exact aV (by omega),?_⟩;have p:(upd H3 ll (.lst (E.map V.int++[V.int coming]))) Al=O (.ins A.aX n [("parts", .ref pd),("living", .ref ll),("coming", .int coming)]):=by rw[ag n1];exact r
  refine⟨_,Y,Al,_,n,_,_,Y,p,T.bD,T.qh,Y,_,_,Y,Y,n,_,p,by show 3<1000;decide,?_⟩;rw[zmj];refine⟨_,Y,q1 _ (k.trans ((DK.put (by unfold FP;simp)).trans (DK.put (by unfold FP;simp)))) ⟨⟨n,af⟩,?_,?_,⟨λq hq=>?_,AC.2⟩,AW⟩⟩
  ·rw[ag n2,ag n3];exact A1
  ·rw[ag n1.symm,af,dn];rfl
  ·refine PM.keep (L:=[ll,Al]) (AC.1 q hq) ((DK.put (by simp)).trans (DK.put (by simp))) λb m AD=>?_;simp only[f_,m_,u3]at AD;exact TB.apart hq m (by rcases AD with z |z <;> simp[z])
theorem w9:∀(l:U gV)(k:ft),(l.map V.int).eraseIdx k=(l.eraseIdx k).map V.int
 |[],_=>rfl
 |_::_,0=>rfl
 |a::r,k+1=>by show V.int a::(r.map V.int).eraseIdx k=V.int a::(r.eraseIdx k).map V.int;rw[w9]
theorem wz(p:PM):p.cells.length=p.col.length:=by cases p <;> exact bd _
theorem zeX{p:PM}(h:k<p.col.length):p.cells[k]?=O (p.cells.getD k .non):=by
 have h:k<p.cells.length:=by rw[wz];exact h
 simp_all
inductive Q9(A:Ad)(a:U V)(H:Hp)(Q:VK)(Ah:XK):Prop
 |i(Al pd ll:ce)(o:z_)(J:U hO)(I:U aW)(E:U gV)(coming n:gV)(_:a=[.ref Al,.int n])(_:bS A H Al pd ll o J I E coming)(_:I.length<=100)(_:E.length<=64)(_:(∀q∈I,q.2.2.ok/\q.2.2.col.length=E.length))(_:(n∉E->Ah (.ref A.fu) cx H))(_:(n∈E->∀C,DK (FP Al ll I) H C->bS A C Al pd ll o J (cI I.length I (nc I.length (PM.drop (E.idxOf n)))) (E.eraseIdx (E.idxOf n)) coming->Q .non C))
theorem VG(T:Txt K G A)(CL:aZ P w K G u (yl P w) 1 A.aX "place_of" ["self","number"] (Qg A))(CD:aZ P w K G u (yl P w) 12 A.aY "drop" ["self","row"] (uk A))(CW:aZ P w K G u q_ 13 A.bJ "drop" ["self","row"] (Oc A))(F:vr K "drop" "Table.drop" z7 f Ag):ap P w K G u (yl P w) 14 f Ag ["self","number"] (Q9 A):=by
 obtain⟨AG,AH,A0,A1,A2⟩:=CL;obtain⟨AI,AJ,A3,A4,A5⟩:=CD;obtain⟨AK,AL,A6,A7,A8⟩:=CW;refine F.oX ["self","number","place","part"] λnN AM An A9 s H vs Q Ah hr h=>?_;obtain⟨Al,pd,ll,o,J,I,E,coming,n,rfl,TA,AN,AO,AA,q1,Z⟩:=h;obtain⟨⟨X,h1⟩,h2,h3,h4,h5⟩:=id TA;have y:=sf h5;refine⟨_,(ao (aK (i:=2) nN Y (gS Y) (bp (pv 0) T.bD A1 A0 (hr.mono (by decide)) A2 .nil bU (aa (pv 1) ae)))
  (ao (PS.nox (fg qw Y (ZA (sm (bz K (pv 0) Y))) (aH (i:=3) nN Y (gS Y))
   (aj (bf (PE.alt (bp (pv 3) T.dZ A4 A3 (hr.mono (by decide)) A5 .nil cf (aa (pv 2) ae)) (bp (pv 3) T.d0 A7 A6 (hr.mono (by decide)) A8 .nil av (aa (pv 2) ae)))))))
  (aj (bf (cU K mI Ho Hq yh (bz K (pv 0) Y) (aa (pv 2) ae)))))),?_⟩
 refine⟨_,Y,Al,X,_,Y,h1,Y,_,Y,Al,pd,ll,o,J,I,E,coming,n,Y,TA,λhn=>?_,q1⟩;have Z:=Z hn;have hk:=o_ hn;generalize E.idxOf n=k at Z hk;refine⟨_,Y,Al,_,X,_,_,Y,h1,T.bD,T.hV,Y,pd,_,Y,.inr ⟨o,h2⟩,λvw B=>⟨vw,pd,o,bX J I,Y,af,?_,?_⟩⟩
 ·rw[ag (aF h2 B)];exact h2
 have s2:ad H (upd H vw (g9 vw pd)):=ad.new B;refine xq (n:=I.length) (λi σ C=>∃p:eH V,σ=[O (.ref Al),O (.int n),O (.int k),p]/\DK (FP Al ll I) H C/\bS A C Al pd ll o J (cI i I (nc I.length (PM.drop k))) E coming) ⟨cx,Y,DK.of s2,TA.same s2⟩ ?_ ?_ ?_
 ·rintro i σ C r ⟨p,rfl,kk,TB⟩;have hd:=TB.dic;rw[n6 (nK _ _ _)]at hd;exact⟨λh=>⟨hd,by rw[y];exact h⟩,λh=>⟨hd,by rw[y];exact h⟩⟩
 ·rintro i x σ H3 H4 r ⟨p,rfl,kk,TC⟩ ⟨rfl,k0,e1⟩;obtain⟨k',ek⟩:=se h5 r;rw[ek]at e1;cases e1;have AB:=a_ r;obtain⟨m1,m2⟩:=rR (i:=i) (I:=I) AB (by rw[E3,mu r]);have l:=TC.par.1 _ (eT m1);obtain⟨o1,D⟩:=AA _ (j' r);have AC:∀b∈I[i].2.1,b∈FP Al ll I:=λb hb=>hE _ (hE _ (vg.mpr ⟨_,nk.mpr ⟨_,j' r,Y⟩,hb⟩));have fin:∀(pm:PM)(g:Hp),DK I[i].2.1 H4 g->pm.at A g I[i].1 I[i].2.1->pm=I[i].2.2.drop k->∃p:eH V,[O (V.ref Al),O (V.int n),O (V.int k),O (V.ref I[i].1)]=[O (.ref Al),O (.int n),O (.int k),p]/\DK (FP Al ll I) H g/\bS A g Al pd ll o J (cI (i+1) I (nc I.length (PM.drop k))) E coming:=λpm g v a5 e5=>by
   refine⟨_,Y,kk.trans (v.mono AC),?_⟩;rw[m2,←e5];exact TC.upd m1 v a5
  generalize I[i]=qq at l o1 D fin;obtain⟨a,Ap,pm⟩:=qq;cases pm with
  |num As=>
   obtain⟨⟨dc,hC⟩,e⟩:=l;have D:As.length=E.length:=D;have e:Ap=[a]:=e;exact .inl ⟨_,Y,a,dc,_,Y,hC,Y,_,Y,a,(k:gV),As,Y,⟨dc,hC⟩,o1,λh=>hQ ⟨by omega,by omega⟩ h,λ_ _ g v C5=>fin (.num (As.eraseIdx k)) g (DK.one v (by show a∈Ap;rw[e];simp)) ⟨C5,e⟩ Y⟩
  |wrd N ms=>
   obtain⟨c,d,W,e⟩:=l;obtain⟨AD,AQ,AR⟩:=o1;have D:ms.length=E.length:=D;have e:Ap=[a,c,d]:=e;obtain⟨⟨dw,hw⟩,_⟩:=id W;exact .inr ⟨_,Y,a,dw,_,Y,hw,Y,_,Y,a,c,d,(k:gV),N,ms,Y,W,AD,by omega,by omega,λg v W5=>fin (.wrd N (ms.eraseIdx k)) g (DK.one v (by show c∈Ap;rw[e];simp)) ⟨c,d,W5,e⟩ Y⟩
 ·rintro σ H3 ⟨p,rfl,kk,TB⟩;obtain⟨⟨L,m⟩,M,j,R,AE⟩:=id TB;have n1:Al≠ll:=bO m j (by intro z;cases z);have n3:pd≠ll:=bO M j (by intro z;cases z);have el:(E.map V.int).length=E.length:=bd _;have AF:Hc (k:gV) (E.map V.int).length=O k:=by
   rw[el];exact (rB (xO (by omega) (by omega))).1
  refine⟨_,Y,Al,_,L,_,_,Y,m,T.bD,T.fX,Y,.inl ⟨Y,_,n7.of j⟩,_,Y,ll,_,(k:gV),k,V.int E[k],Y,Y,j,by omega,by omega,AF,by rw[cc,a_ hk];rfl,?_⟩;have ee:=w9 E k;rw[ee];refine Z _ (kk.trans (DK.put (by unfold FP;simp))) ⟨⟨L,by rw[ag n1];exact m⟩,by rw[ag n3];exact M,af,⟨λq hq=>?_,R.2⟩,AE⟩;refine PM.keep (L:=[ll]) (R.1 q hq) (DK.put (by simp)) λb hb S=>?_;rw[ku]at S;exact TB.apart hq hb (.inr (.inl S))
def HP:U hO:=["a","b","age","abcdefgh","zz"]
theorem SU:HP.Nodup:=by decide +kernel
theorem VY:∀z∈HP,iu 8 (.str z)=c0:=by decide +kernel
theorem ZV:∀z∈HP,z.cps.all (· < 128)=c0/\z.length<=1000:=by decide +kernel
def LH(hs:U E9):Prop:=1<=hs.length/\hs.length<=3/\∃r:ft,∀(j:ft)(h:E9),hs[j]?=O h->HP[(j+r) % 5]?=O h.1/\(h.2 = "number" \/ h.2 = "word")
theorem LH.mem(L:LH hs)(c:h∈hs):h.1∈HP/\(h.2 = "number" \/ h.2 = "word"):=by
 obtain⟨_,_,r,a⟩:=L;obtain⟨j,b⟩:=oT c;exact⟨eT (a j h b).1,(a j h b).2⟩
theorem LH.nodup(L:LH hs):(hs.map (·.1)).Nodup:=by
 obtain⟨_,h,r,a⟩:=L;rw[List.nodup_iff_pairwise_ne,List.pairwise_iff_getElem];intro i j b c f e;simp only[bd]at b c;simp only[J4,J4]at e;have g:=(a i _ (a_ b)).1;have d:=(a j _ (a_ c)).1;rw[←e]at d;have:=e7 SU g d
 lia
theorem LH.good(L:LH hs):fw hs=c0:=by
 delta fw
 rw[fo ⟨L.1,jE L.2.1 (by decide)⟩,fo L.nodup];have:hs.all il=c0:=i_.mpr λh c=>by
  obtain⟨a,b⟩:=L.mem c
  delta il
  simp only[VY _ a,fo b];rfl
 rw[this];rfl
def ij(h:E9)(x:V):n_:=if h.2 = "word" then jx x else Gs x
theorem XY(i:ft)(m:gV):((0+(i:gV)+m) % 5).toNat=(i+(m % 5).toNat) % 5:=by
 rw[FQ,←Int.add_emod_emod];obtain⟨j,a⟩:=HE (qc m (b:=5) (by decide));rw[a];rfl
inductive Pb(K:fy)(a:U V)(H:Hp)(Q:VK)(_E:XK):Prop
 |i(p:ce)(J:U gV)(k:gV)(_:a=[.ref p,.int k])(_:n7 K H p (J.map V.int))(_:∀(l:ce)(as:U ce)(hs:U E9)(C:Hp),ad H C->H l=cx->C l=O (.lst (as.map V.ref))->fj C as hs->LH hs->Q (.ref l) C)
theorem Tk(T:Txt K G A)(Z:uG P w K G u q_ 3 "_law_mix" ["_law_script","_law_k"] (jr K))(F:vr K "_law_columns" "_law_columns" OV f Ag):ap P w K G u q_ 4 f Ag ["_law_script","_law_k"] (Pb K):=by
 refine F.o ["_law_script","_law_k","_law_names","_law_found_here","_law_j"] λnN A8 An A0 s H vs Q Ah hr h=>?_;obtain⟨p,J,k,rfl,hS,q⟩:=h;refine gb ⟨_,(jq (i:=2) nN Y (gS Y) (fS (aM au (aM au (aM au (aM au (aM au cj))))))
  (bY (aK (i:=3) nN Y (gS Y) (cP ae))
  (bY (fg qw Y (fB (by rfl) T.eP (aa (aq aU ah (aq b9 (Z.pe hr av (aa (pv 0) (aa (pv 1) ae))) ah)) ae)) (aH (i:=4) nN Y (gS Y))
   (aj (bf (cU K mI u4 uB jl (pv 3) (aa (cz (aa (aG (bF K) (pv 2) (aq b9 (aq aU (pv 4) (Z.pe hr av (aa (pv 0) (aa (aq aU (pv 1) ah) ae)))) ah) (λ_ _=>rfl)) (aa (aG (bF K) (cP (aa au (aa au ae))) (aq b9 (Z.pe hr av (aa (pv 0) (aa (aq aU (aq aU (pv 1) ah) (pv 4)) ae))) ah) (λ_ _=>rfl)) ae))) ae)))))
  (ox (aA (pv 3)))))),?_⟩
 refine⟨bI Y,λc A1=>?_⟩;have s1:ad H (upd H c (.lst (HP.map V.str))):=ad.new A1;have h1:(upd H c (.lst (HP.map V.str))) c=O (.lst (HP.map V.str)):=af;show fv _ _ _ (upd H c (.lst (HP.map V.str))) _;generalize upd H c (.lst (HP.map V.str))=Ai at s1 h1;refine⟨bI Y,λlf l=>?_⟩;have s2:ad Ai (upd Ai lf (.lst [])):=ad.new l;have h2:(upd Ai lf (.lst [])) lf=O (.lst (([]:U ce).map V.ref)):=af;have B:=s2 _ _ h1;have A2:c≠lf:=aF h1 l;have d:=s1.free l;show fv _ _ _ (upd Ai lf (.lst [])) _;generalize upd Ai lf (.lst [])=Am at s2 h2 B;have t2:=s1.trans s2;have a1:=qc (mix J k) (b:=3) (by decide);have a2:=pU (mix J k) (b:=3) (by decide);refine⟨_,Y,_,Y,p,J,_,Y,t2.seq hS,_,_,Y,Y,by show (0:gV)<3;decide,_,_,Y,Y,_,Y,by show -2 ^ 62<=1+mix J k % 3;omega,by show 1+mix J k % 3<2 ^ 62;omega,?_⟩;obtain⟨N,hN,A9,AA⟩:∃N:ft,1+mix J k % 3=N/\1<=N/\N<=3:=⟨(1+mix J k % 3).toNat,by omega,by omega,by omega⟩
 dsimp only;rw[hN,nI];have m0:=qc (mix J (k+1)) (b:=5) (by decide);refine⟨jW (λi σ C=>∃(v4:eH V)(as:U ce)(hs:U E9),σ=[O (.ref p),O (.int k),O (.ref c),O (.ref lf),v4]/\ad H C/\C c=O (.lst (HP.map V.str))/\C lf=O (.lst (as.map V.ref))/\fj C as hs/\hs.length=i/\∀(j:ft)(h:E9),hs[j]?=O h->HP[(j+(mix J (k+1) % 5).toNat) % 5]?=O h.1/\(h.2 = "number" \/ h.2 = "word"))
  ⟨cx,[],[],Y,t2,B,h2,⟨Y,λi a h e=>(by cases e)⟩,Y,λj h e=>(by cases e)⟩ ?_ ?_⟩
 ·rintro i σ H3 hi ⟨v4,as,hs,rfl,D,m,E,n,b,r⟩;have z0:=qc (0+(i:gV)+mix J (k+1)) (b:=5) (by decide);have z1:=pU (0+(i:gV)+mix J (k+1)) (b:=5) (by decide);have ez:=XY i (mix J (k+1));have hz:((0+(i:gV)+mix J (k+1)) % 5).toNat<HP.length:=by show _<5;omega
  obtain⟨v,g5⟩:∃v,HP[((0+(i:gV)+mix J (k+1)) % 5).toNat]?=O v:=⟨_,a_ hz⟩
  have A3:FY (HP.map V.str) ((0+(i:gV)+mix J (k+1)) % 5)=O (.str v):=cS z0 (by rw[cc,g5];rfl);rw[ez]at g5;obtain⟨g,A4,A5⟩:∃g:hO,FY [V.str "number",V.str "word"] (mix J (k+2+(0+(i:gV))) % 2)=O (.str g)/\(g = "number" \/ g = "word"):=by
   rcases (show mix J (k+2+(0+(i:gV))) % 2=0\/mix J (k+2+(0+(i:gV))) % 2=1 by omega) with e |e <;> rw[e]
   ·exact⟨_,Y,.inl Y⟩
   ·exact⟨_,Y,.inr Y⟩
  refine⟨_,Y,.inl ⟨Y,_,n7.of E⟩,_,Y,_,Y,_,Y,_,Y,_,_,Y,Y,p,J,_,Y,D.seq hS,_,_,Y,Y,_,_,Y,Y,by show (0:gV)<5;decide,c,_,_,_,Y,Y,n7.of m,A3,bI Y,λl2 A6=>?_⟩;have s4:ad H3 (upd H3 l2 (.lst [V.str "number",V.str "word"])):=ad.new A6;refine⟨_,Y,_,Y,_,_,Y,Y,_,Y,_,_,Y,Y,p,J,_,Y,(D.trans s4).seq hS,_,_,Y,Y,by show (0:gV)<2;decide,l2,_,_,_,Y,Y,n7.of af,A4,(show 2<=fx by decide),λM x=>?_⟩;have R:=ay (o:=.tup [V.str v,V.str g]) s4 x;have h5:=R _ _ E;have I:(upd (upd H3 l2 (.lst [V.str "number",V.str "word"])) M (.tup [V.str v,V.str g])) M=O (.tup [V.str v,V.str g]):=af;have A7:M≠lf:=λz=>by rw[z,s4 _ _ E]at x;cases x
  refine⟨lf,_,_,Y,Y,h5,by rw[bd,n.1];exact aV (by omega),O (.int (0+(i:gV))),as++[M],hs++[(v,g)],Y,oC (D.trans R) d,?_,?_,⟨?_,λj a h L S=>?_⟩,?_,λj h e=>?_⟩
  ·rw[ag A2];exact R _ _ m
  ·rw[af,dn];rfl
  ·rw[gT,gT,n.1];rfl
  ·by_cases X:j<as.length
   ·rw[kI X]at L;rw[kI (by rw[←n.1];exact X)]at S;have e3:=R _ _ (n.2 j a h L S);rw[ag (λz=>by rw[z,h5]at e3;cases e3)];exact e3
   ·have y:j=as.length:=by
     have:=(cs.mp L).1;rw[gT,so]at this;omega
    subst y;rw[na (dv _),DG]at L;rw[n.1,na (dv _),DG]at S;cases L;cases S;rw[ag A7];exact I
  ·rw[gT,b];rfl
  ·by_cases X:j<hs.length
   ·rw[kI X]at e;exact r j h e
   ·have y:j=hs.length:=by
     have:=(cs.mp e).1;rw[gT,so]at this;omega
    subst y;rw[na (dv _),DG]at e;cases e;rw[b];exact⟨g5,A5⟩
 ·rintro σ H3 ⟨v4,as,hs,rfl,D,m,E,n,b,r⟩;exact⟨_,Y,q lf as hs H3 D d E n ⟨by omega,by omega,_,r⟩⟩
theorem sr{g:U V}{z:gV}(h0:0<=z)(b:z<g.length):∃v,FY g z=O v/\v∈g:=by
 have a:z.toNat<g.length:=by simp_all
 exact⟨g[z.toNat],cS h0 (a_ a),j' a⟩
def yQ:V->n_
 |.str z=>z.cps.all (· < 128) && decide (z.length<=1000)
 |.non=>c0
 |.int _=>c0
 |_=>d_
theorem yR{x:V}(h:yQ x=c0):IE x:=by
 cases x with
 |str z=>
  have h:(z.cps.all (· < 128) && decide (z.length<=1000))=c0:=h;simp only[sB]at h;exact⟨h.1,t9 h.2⟩
 |non=>trivial
 |int i=>trivial
 |_=>cases h
def va:U V:=[.str "a", .str "b", .str "ab", .str "zz", .non,.str "abcdefghijkl", .str "ba"]
theorem RX:∀x∈va,yQ x=c0/\jx x=c0:=by
 intro x a
 delta va at a
 simp only[f_,m_,u3]at a;rcases a with rfl |rfl |rfl |rfl |rfl |rfl |rfl <;> decide +kernel
inductive Qn(K:fy)(a:U V)(H:Hp)(Q:VK)(_E:XK):Prop
 |i(p:ce)(J:U gV)(k:gV)(z:hO)(_:a=[.ref p,.int k,.str z])(_:n7 K H p (J.map V.int))(_:∀(x:V)(C:Hp),ad H C->IE x->ij ("",z) x=c0->Q x C)
theorem Rm(T:Txt K G A)(i:uG P w K G u q_ 3 "_law_mix" ["_law_script","_law_k"] (jr K))(F:vr K "_law_cell_of" "_law_cell_of" Oe f Ag):ap P w K G u q_ 4 f Ag ["_law_script","_law_k","_law_kind"] (Qn K):=by
 refine F.o ["_law_script","_law_k","_law_kind","_law_number"] λj n An d s H C Q Ah r h=>?_;obtain⟨p,J,k,z,rfl,x,q⟩:=h;refine gb ⟨_,(bY (aK (i:=3) j Y (gS Y) (i.pe r av (aa (pv 0) (aa (pv 1) ae))))
  (zl (aE bh (pv 2) au (aC _)) (ir (lG (bF K) (fS (aM au (aM au (aM au (aM au (aM bL (aM au (aM au cj)))))))) (aq b9 (pv 3) ah) (λ_ _=>rfl)))
  (ir (lG (bF K) (fS (aM ah (aM ah (aM ah (aM bL (aM (iq iy ah) (aM ah (aM ah (aM (aq b9 (aq gh (pv 3) ah) ah) cj))))))))) (aq b9 (pv 3) ah) (λ_ _=>rfl))))),?_⟩
 refine⟨_,Y,_,Y,p,J,_,Y,x,?_⟩;generalize mix J k=m;refine⟨_,Y,Y,_,Y,?_⟩;by_cases b:z = "word"
 ·rw[b,uQ];obtain⟨v,e,c⟩:=sr (g:=va) (z:=m % 7) (qc _ (by decide)) (pU _ (by decide));obtain⟨y,B⟩:=RX v c;refine aw ⟨bI Y,λl g=>⟨_,Y,_,_,Y,Y,by show (0:gV)<7;decide,l,_,_,_,Y,Y,n7.of af,e,q v _ (ad.new g) (yR y) ?_⟩⟩;unfold ij;rw[mu b];exact B
 ·rw[kr b];have D:=qc (m / 8) (b:=30) (by decide);have E:=pU (m / 8) (b:=30) (by decide);obtain⟨v,e,c⟩:=sr (g:=[.int 0,.int 1,.int 2,.non,.int (-5),.int 4000000,.int 1,.int (m / 8 % 30)]) (z:=m % 8) (qc _ (by decide)) (pU _ (by decide));have a:IE v/\Gs v=c0:=by
   simp only[f_,m_,u3]at c;rcases c with rfl |rfl |rfl |rfl |rfl |rfl |rfl |rfl
   ·exact⟨trivial,Y⟩
   ·exact⟨trivial,Y⟩
   ·exact⟨trivial,Y⟩
   ·exact⟨trivial,Y⟩
   ·exact⟨trivial,Y⟩
   ·exact⟨trivial,Y⟩
   ·exact⟨trivial,Y⟩
   ·exact⟨trivial,fo (by omega)⟩
  refine ak ⟨5,Y,_,Y,_,_,Y,Y,⟨by decide,by decide⟩,_,_,Y,Y,by show (0:gV)<30;decide,bI Y,λl g=>⟨_,Y,_,_,Y,Y,by show (0:gV)<8;decide,l,_,_,_,Y,Y,n7.of af,e,q v _ (ad.new g) a.1 ?_⟩⟩;unfold ij;rw[ks b];exact a.2
def kO(hs:U E9)(g:U V):Prop:=g.length=hs.length/\(∀x∈g,IE x)/\∀(i:ft)(h:E9)(x:V),hs[i]?=O h->g[i]?=O x->ij h x=c0
inductive PQ(K:fy)(a:U V)(H:Hp)(Q:VK)(_E:XK):Prop
 |i(p l:ce)(J:U gV)(k:gV)(as:U ce)(hs:U E9)(_:a=[.ref p,.int k,.ref l])(_:n7 K H p (J.map V.int))(_:H l=O (.lst (as.map V.ref)))(_:fj H as hs)(_:hs.length<=3)(_:∀(lr:ce)(g:U V)(C:Hp),ad H C->H lr=cx->C lr=O (.lst g)->kO hs g->Q (.ref lr) C)
theorem Y8:(["_law_j","_law_script","_law_k","_law_columns_here"]:U hO).Nodup:=by decide +kernel
theorem Vo(T:Txt K G A)(r:uG P w K G u q_ 4 "_law_cell_of" ["_law_script","_law_k","_law_kind"] (Qn K))(F:vr K "_law_row" "_law_row" P8 f Ag):ap P w K G u q_ 5 f Ag ["_law_script","_law_k","_law_columns_here"] (PQ K):=by
 refine F.o ["_law_script","_law_k","_law_columns_here"] λnN M An v s H vs Q Ah N h=>?_;obtain⟨p,l,J,k,as,hs,rfl,R,I,z,h3,q⟩:=h;have S:(as.map V.ref).length=hs.length:=by rw[bd];exact z.1
 refine⟨_,(aj (aA (bK (Ac:=["_law_j","_law_script","_law_k","_law_columns_here"]) (fr:=[cx,O 0,O 1,O 2]) ⟨Y,Y,Y,Y,Y,Y⟩ Y (fB (by rfl) T.eP (aa (aL (cD K) (by rfl) T.bu PyProof.Rows.Boot.«len» (aa (pv 2) ae)) ae))
    (λAj Ap s H=>⟨aH (i:=0) Y8 Y (gS Y),bn,(r.pe N av (aa (pv 1) (aa (aq aU (pv 2) (pv 0)) (aa (aG (aT K) (aG (bF K) (pv 3) (pv 0) (λ_ _=>rfl)) ah (λ_ _=>rfl)) ae))))⟩)))),?_⟩
 refine⟨_,Y,l,_,Y,.inl (n7.of I),_,Y,by omega,by omega,?_⟩;rw[nI,S];refine⟨iG (λi acc C=>ad H C/\acc.length=i/\(∀x∈acc,IE x)/\∀(j:ft) (h) (x),hs[j]?=O h->acc[j]?=O x->ij h x=c0) ⟨ad.refl _,Y,λx X=>(by cases X),λj h x _ e=>(by cases e)⟩ (λi acc C n Z=>Cc Z.2.1) (f' (aV (by omega))) ?_ ?_⟩
 ·rintro i acc Ai n ⟨b,a,B,D⟩;have c:i<as.length:=by rw[z.1];exact n
  have L:=a_ n;have ht:=(z.same b).2 i _ _ (a_ c) L;have ai:FY (as.map V.ref) (0+(i))=O (.ref as[i]):=by
   rw[FQ];exact dX (by rw[cc,a_ c];rfl)
  refine⟨Wk.set Y,tT ⟨_,Y,_,Y,_,Y,_,_,Y,Y,_,Y,_,Y,l,_,_,_,Y,Y,n7.of (b _ _ I),ai,_,_,_,_,Y,Y,th.of ht,Y,p,J,_,hs[i].2,Y,b.seq R,λx Am s2 o2 f2=>cw n ⟨b.trans s2,?_,λy hy=>?_,λj h y E d=>?_⟩⟩⟩
  ·rw[gT,a];rfl
  ·rcases pA.mp hy with h |h
   ·exact B y h
   ·rw[ku.mp h];exact o2
  ·by_cases hj:j<acc.length
   ·rw[kI hj]at d;exact D j h y E d
   ·have g:j=acc.length:=by
     have:=(cs.mp d).1;rw[gT,so]at this;omega
    rw[g,na (dv _),DG]at d;cases d;rw[g,a,L]at E;cases E;exact f2
 ·rintro acc Ai ⟨b,a,B,D⟩ lr m;exact q lr acc _ (ay b m) (b.free m) af ⟨a,B,D⟩
theorem x8:∀{l:U hO}{n y:hO}{m:ft},m<l.idxOf n->l[m]?=O y->y≠n
 |[],n,y,m,_,h=>by cases h
 |a::r,n,y,m,b,h=>by
  by_cases e:a=n
  ·subst e;rw[DR]at b;omega
  ·have c:(a ==n)=d_:=x4.mpr e;rw[Go,c]at b;cases m with
   |zero=>cases h;exact e
   |succ k=>exact x8 (l:=r) (m:=k) (by simp_all) h
theorem WO(l:U hO):(l.map V.str).all bN=c0:=by
 rw[i_];intro x a;obtain⟨i,_,rfl⟩:=nk.mp a;rfl
inductive o5(H:Hp)(a:ce):Prop
 |i(as:U ce)(hs:U E9)(_:H a=O (.lst (as.map V.ref)))(_:fj H as hs)(_:hs.length<=100)(_:(∀h∈hs,asc h.1/\h.1.length<=1000))(_:fw hs=d_)
theorem o5.same{H C:Hp}{a:ce}(h:o5 H a)(s:ad H C):o5 C a:=by
 obtain⟨as,hs,b,c,d,e,f⟩:=h;exact⟨as,hs,s _ _ b,c.same s,d,e,f⟩
def JL:U (hO×V):=[("not", .int 2),("both", .int 3),("either", .int 3)]
def Kt(H C:Hp):Prop:=∀b o,H b=O o->C b=O o\/(∃I,o = .tbl I)\/(∃x y,o = .frz x y)\/∃kvs,o = .dK kvs
theorem cA(s:ad H C):Kt H C:=λb o e=>.inl (s b o e)
theorem Kt.tup(k:Kt H C){g:U V}(e:H a=O (.tup g)):C a=O (.tup g):=(k a _ e).elim id λz=>by grind
theorem Kt.lst(k:Kt H C){g:U V}(e:H a=O (.lst g)):C a=O (.lst g):=(k a _ e).elim id λz=>by grind
theorem Kt.ins(k:Kt H C){fs:U (hO×V)}(e:H a=O (.ins Aj X fs)):C a=O (.ins Aj X fs):=(k a _ e).elim id λz=>by rcases z with⟨_,z⟩ |⟨_,_,z⟩ |⟨_,z⟩ <;> cases z
def XE:tA->KN
 |.Lambda _ _ _ p=>p
 |_=>⟨0,0,0,0⟩
def X6:tA->tA
 |.Call _ [_,l] _ _=>l
 |e=>e
def Ub:nW->tA
 |.Expr e _=>e
 |.Assign _ e _=>e
 |_=>.Constant .none 0 ⟨0,0,0,0⟩
def rE(s:nW)(i:ft):KN:=XE (X6 (Ub ((cF s).getD i (.Pass ⟨0,0,0,0⟩))))
def rF(x:hO):hO:=x ++ ".<locals>." ++ "<lambda>"
abbrev N5:hO:=rF "check_question_of"
abbrev T2:KN:=rE tD 0
abbrev N7:hO:=rF "marked_values"
abbrev Zv:KN:=rE tI 1
abbrev MW:hO:=rF "Table.places_where"
abbrev Qt(i:ft):KN:=rE sT i
structure Ec(t:Ad)(H:Hp):Prop where
 c:cB H t.p_check_question_of T2 N5
 v:cB H t.p_marked_values Zv N7
 w0:cB H t.p_Table_places_where (Qt 0) MW
 w1:cB H t.p_Table_places_where (Qt 1) MW
def gp(A:Ad):U ce:=[A.p_check_question_of,A.p_marked_values,A.p_Table_places_where]
def RT(A:Ad)(H C:Hp):Prop:=(∀b o,b∉gp A->H b=O o->C b=O o)/\(Ec A H->Ec A C)
theorem HA.same(x:HA H c q)(s:ad H C):HA C c q:=x.mono λo e=>s _ _ e
theorem oY(x:cB H p Av q)(s:ad H C):cB C p Av q:=
 by obtain⟨I,e,A,h⟩:=x;exact⟨I,s _ _ e,A,h.imp id λ⟨c,f,d⟩=>⟨c,f,HA.same d s⟩⟩
theorem Ec.same(a:Ec A H)(s:ad H C):Ec A C:=⟨oY a.c s,oY a.v s,oY a.w0 s,oY a.w1 s⟩
theorem RT.refl(A:Ad)(H:Hp):RT A H H:=⟨λ_ _ _ e=>e,id⟩
theorem RT.of(s:ad H C):RT A H C:=⟨λb o _ e=>s b o e,λa=>a.same s⟩
theorem RT.trans(a:RT A H C)(b:RT A C Am):RT A H Am:=⟨λc o n e=>b.1 c o n (a.1 c o n e),λd=>b.2 (a.2 d)⟩
theorem Ec.tab(a:Ec A H)(c:b∈gp A):∃I,H b=O (.tbl I):=by
 simp only[gp,f_,m_,u3]at c;rcases c with rfl |rfl |rfl
 ·exact⟨_,a.c.choose_spec.1⟩
 ·exact⟨_,a.v.choose_spec.1⟩
 ·exact⟨_,a.w0.choose_spec.1⟩
theorem RT.keep(r:RT A H C)(a:Ec A H)(e:H b=O o)(n:∀I,o≠.tbl I):C b=O o:=r.1 b o (λc=>by obtain⟨I,z⟩:=a.tab c;rw[e]at z;cases z;exact n I Y) e
theorem RT.kt(r:RT A H C)(a:Ec A H):Kt H C:=λb o e=>by
 cases o with
 |tbl I=>exact .inr (.inl ⟨I,Y⟩)
 |_=>exact .inl (r.keep a e nofun)
inductive Tr(α:Type) where
 |lf(x:α) |neg (q:Tr α) |two (e:n_) (q r:Tr α) |bad (w:hO) (a:U V)
structure Lf where
 α:Type
 at':Hp->ce->α->Prop
 kt:∀{H H':Hp}{a:ce}{x:α},Kt H H'->at' H a x->at' H' a x
 tup:∀{H:Hp}{a:ce}{x:α},at' H a x->∃w xs,H a=O (.tup (.str w::xs))/\xs.length<=1000/\JL.lookup w=cx
def jw(e:n_):hO:=if e=c0 then "either" else "both"
def bc(L:Lf)(H:Hp):ce->Tr L.α->Prop
 |a,.lf x=>L.at' H a x
 |a,.neg q=>∃b,H a=O (.tup [.str "not", .ref b])/\bc L H b q
 |a,.two e q r=>∃b c,H a=O (.tup [.str (jw e),.ref b,.ref c])/\bc L H b q/\bc L H c r
 |a,.bad w d=>H a=O (.tup (.str w::d))/\d.length<=1000/\∃n:ft,JL.lookup w=O (.int n)/\n≠d.length+1
theorem bc.kt{L:Lf}{H C:Hp}(k:Kt H C):∀{q:Tr L.α}{a:ce},bc L H a q->bc L C a q
 |.lf _,_,h=>L.kt k h
 |.neg q,_,⟨b,e,h⟩=>⟨b,k.tup e,bc.kt k h⟩
 |.two _ q r,_,⟨b,c,e,d,f⟩=>⟨b,c,k.tup e,bc.kt k d,bc.kt k f⟩
 |.bad _ _,_,⟨e,r⟩=>⟨k.tup e,r⟩
def DB{α:Type}(c:α->eH ce)(z:ce):ft->Tr α->eH ce
 |d,.lf x=>if 6<d then O z else c x
 |d,.neg q=>if 6<d then O z else DB c z (d+1) q
 |d,.two _ q r=>if 6<d then O z else (DB c z (d+1) q).or (DB c z (d+1) r)
 |_,.bad _ _=>O z
def Tr.parts  : Tr α->U (Tr α)
 |.neg q=>[q] |.two _ q r=>[q,r] |_=>[]
theorem wB{c:α->eH ce}(h:6<d):∀q:Tr α,DB c z d q=O z
 |.lf _=>by rw[DB,mu h]
 |.neg _=>by rw[DB,mu h]
 |.two _ _ _=>by rw[DB,mu h]
 |.bad _ _=>rfl
theorem bc.form{L:Lf}(c:L.α->eH ce)(z:ce):∀{q:Tr L.α},bc L H a q->∃w g,H a=O (.tup (.str w::g))/\g.length<=1000/\
  ((∃x,q = .lf x/\L.at' H a x/\JL.lookup w=cx)\/∃n:ft,JL.lookup w=O (.int n)/\((n≠g.length+1/\∃Au s,q = .bad Au s)\/
   (n=g.length+1/\∃bs:U ce,g=bs.map V.ref/\bs.length=q.parts.length/\bs.length<=2/\(∀(i:ft) b p,bs[i]?=O b->q.parts[i]?=O p->bc L H b p)/\∀d,d<=6->DB c z d q=q.parts.findSome? (DB c z (d+1)))))
 |.lf x,h=>let⟨w,g,e,l,j⟩:=L.tup h;⟨w,g,e,l,.inl ⟨x,Y,h,j⟩⟩
 |.neg q,⟨b,e,h⟩=>⟨_,_,e,bI Y,.inr ⟨2,Y,.inr ⟨Y,[b],Y,Y,bI Y,λi b p f m=>by match i,f,m with |0,f,m=>cases f;cases m;exact h,λd hd=>by rw[DB,ks (by exact DN ‹_›),Tr.parts,CV];cases DB c z (d+1) q <;> rfl⟩⟩⟩
 |.two e q r,⟨b,y,A,u,v⟩=>⟨_,_,A,bI Y,.inr ⟨3,by cases e <;> rfl,.inr ⟨Y,[b,y],Y,Y,bI Y,λi b p f m=>by
   match i,f,m with
   |0,f,m=>cases f;cases m;exact u
   |1,f,m=>cases f;cases m;exact v,λd hd=>by rw[DB,ks (by exact DN ‹_›),Tr.parts,CV,CV];cases DB c z (d+1) q <;> cases DB c z (d+1) r <;> rfl⟩⟩⟩
 |.bad w s,⟨e,l,n,u,v⟩=>⟨w,s,e,l,.inr ⟨n,u,.inl ⟨v,w,s,Y⟩⟩⟩
theorem xb{α β:Type}{f:α->eH β}:∀{l:U α}{i:ft}{p:α},l[i]?=O p->(∀(k:ft) q,k<i->l[k]?=O q->f q=cx)->(f p).isSome=c0->l.findSome? f=f p
 |[],_,_,h,_,_=>nomatch h
 |y::r,0,_,h,_,z=>by cases h;obtain⟨b,e⟩:=BI.mp z;simp only[CV,e]
 |y::r,i+1,p,h,k,z=>by simp only[CV,k 0 y (Nat.zero_lt_succ _) Y];exact xb h (λj q a e=>k (j+1) q (Nat.succ_lt_succ a) e) z
theorem kB(x:V)(g:U V):dF (x::g) (O 1) cx=g:=L2.Gp (x::g) (by simp)
theorem kD(x:V)(g:U V):¬ (HT.D' (x::g).length 0 (O 1)=0/\HT.D' (x::g).length (x::g).length cx=(x::g).length):=nofun
inductive oG(b:U V)(H:Hp)(Q:VK)(_E:XK):Prop
 |i(a:ce)(x:hO)(g:U V)(_:b=[.ref a])(_:H a=O (.tup (.str x::g)))(_:Q (.bl (JL.lookup x).isSome) H)
theorem Td(T:Txt K G A)(c:IF w K G "JOINING" JL)(F:vr K "is_joined" "is_joined" PP f Ag):ap P w K G u q_ 1 f Ag ["asked"] oG:=by
 refine F.o ["asked"] λi d An b s H j Q Ah l h=>?_;obtain⟨a,x,g,rfl,e,q⟩:=h;refine⟨_,(aj (aA (Rl (c.pin (aG (aT K) (pv 0) ah (λ_ _=>rfl)))))),?_⟩;exact⟨_,Y,a,_,_,_,Y,Y,th.of e,cS (by decide) Y,x,Y,q⟩
theorem xl{l:ce}(h:J8 K H l)(f:Ec A H)(r:RT A H C):J8 K C l:=h.elim .inl λ⟨a,b,c,d,e⟩=>.inr ⟨a,b,c,d,r.keep f e nofun⟩
inductive Mu(P:sJ)(w:uF)(K:fy)(G:hO->eH cv)(u:sG)(A:Ad)(L:Lf)(c:L.α->eH ce)(k0:ft)(H:Hp)(l:ce):Prop
 |i(Ag:B')(I:U hO)(b:Sp)(_:J8 K H l)(_:ap P w K G u (yl P w) k0 l Ag I b)(_:cM K Ag I [])(_:∀(Ai:Hp)(a:ce)(x:L.α)(Q:VK)(Ah:XK),RT A H Ai->L.at' Ai a x->
  (c x=cx->∀Am,RT A Ai Am->Q .non Am)->(∀Aj,c x=O Aj->∀Am,RT A Ai Am->Ah (.ref Aj) cx Am)->b [.ref a] Ai Q Ah)
theorem Mu.rt{L:Lf}{c:L.α->eH ce}{l:ce}(h:Mu P w K G u A L c k0 H l)(e:Ec A H)(r:RT A H C):Mu P w K G u A L c k0 C l:=
 by obtain⟨Ag,I,d,v,F,b,h⟩:=h;exact⟨Ag,I,d,xl v e r,F,b,λAi a x Q Ah f=>h Ai a x Q Ah (r.trans f)⟩
inductive Zm(P:sJ)(w:uF)(K:fy)(G:hO->eH cv)(u:sG)(A:Ad)(L:Lf)(c:L.α->eH ce)(k0 m:ft)(b:U V)(H:Hp)(Q:VK)(Ah:XK):Prop
 |i(a l:ce)(d:ft)(q:Tr L.α)(_:b=[.ref a,.int d,.ref l])(_:bc L H a q)(_:7<=d+m)(_:d<=7)(_:Ec A H)(_:Mu P w K G u A L c k0 H l)(_:DB c A.aI d q=cx->∀C,RT A H C->Q .non C)(_:∀Aj,DB c A.aI d q=O Aj->∀C,RT A H C->Ah (.ref Aj) cx C)
def uj(P:sJ)(w:uF)(K:fy)(G:hO->eH cv)(u:sG)(A:Ad)(L:Lf)(c:L.α->eH ce)(k0:ft):ft->Sp
 |0=>λ_ _ _ _=>wa
 |m+1=>Zm P w K G u A L c k0 m
theorem Vl{L:Lf}{c:L.α->eH ce}(T:Txt K G A)(h0:1<=k0)(jy:IF w K G "JOINING" JL)(gU:uG P w K G u q_ 1 "is_joined" ["asked"] oG)(pC:uG P w K G u (yl P w) (k0+m) "check_within" ["asked","depth","check_simple"] (uj P w K G u A L c k0 m))(F:vr K "check_within" "check_within" ON f Ag):
  ap P w K G u (yl P w) (k0+m+1) f Ag ["asked","depth","check_simple"] (uj P w K G u A L c k0 (m+1)):=by
 refine F.oX ["asked","depth","check_simple","part"] λnN A5 An X s H vs Q Ah Z h=>?_;obtain⟨a,l,d,q,rfl,hq,hd,A6,TT,Aj,k1,E⟩:=h;obtain⟨x,g,r,hx,hc⟩:=hq.form c A.aI;refine⟨_,(ao (aN (aE e9 (pv 1) (bi T.zf1) (aC _)) (aj (c9 de T.kF Y (by rfl) T.jh (aa au ae)))
   aO)
  (ao (aN (PW.pt (fT (eD (cR (aL (dj K) (by rfl) T.dq PyProof.Rows.Boot.«isinstance» (aa (pv 0) (aa (gM T.nR PyProof.Rows.Boot.«tuple») ae))))) (fT (aE bh (aL (cD K) (by rfl) T.bu PyProof.Rows.Boot.«len» (aa (pv 0) ae)) ah (aC _)) (gm (eD (cR (aL (dj K) (by rfl) T.dq PyProof.Rows.Boot.«isinstance» (aa (aG (aT K) (pv 0) ah (λ_ _=>rfl)) (aa (gM T.yL PyProof.Rows.Boot.«str») ae))))))))) (aj (c9 de T.kF Y (by rfl) T.jh (aa au ae)))
   aO)
  (aj (aN (eD (cR (gU.pe Z av (aa (pv 0) ae) (by omega)))) (aj (bf (sj P w K G u k0 Z bU (aa (pv 0) ae) (pv 2) (by omega))))
   (aj (aN (aE fR (aL (cD K) (by rfl) T.bu PyProof.Rows.Boot.«len» (aa (pv 0) ae)) (jy.pix (aG (aT K) (pv 0) ah (λ_ _=>rfl))) (aC _)) (aj (c9 de T.kF Y (by rfl) T.jh (aa au ae)))
   (aj (fg NP Y (j9 (gk (km K) (pv 0) (fe ah) iV)) (aH (i:=3) nN Y (gS Y))
   (aj (bf (pC.pe Z bU (aa (pv 3) (aa (aq aU (pv 1) ah) (aa (pv 2) ae))) (by omega)))))))))))),?_⟩
 refine⟨_,Y,_,_,Y,Y,_,Y,?_⟩;by_cases d6:6<d
 ·rw[fo (by omega:(6:gV)<d)];exact aw ⟨by decide,E _ (wB d6 q) _ (RT.refl _ _)⟩
 rw[dV (by omega:¬ (6:gV)<d)];refine⟨_,Y,_,_,_,Y,gG (.tup r) T.xM,_,Y,ak ⟨_,Y,a,_,Y,.inr (th.of r),Y,_,Y,?_⟩⟩;refine ak ⟨_,Y,a,_,_,_,Y,Y,th.of r,cS (by decide) Y,_,_,_,Y,gG (.str _) T.xK,_,Y,ak ?_⟩;refine⟨_,Y,a,_,_,Y,r,_,Y,?_⟩;rcases hc with⟨y,rfl,hy,hj⟩ |⟨n,hn,hc⟩
 ·rw[hj];obtain⟨A0,A1,A2,v,Aq,J,hC⟩:=Aj;have e1:DB c A.aI d (.lf y)=c y:=by rw[DB,ks d6]
  rw[e1]at k1 E;exact aw ⟨l,A0,A1,A2,Y,v,Aq,J,_,Y,v,hC H a y _ _ (RT.refl _ _) hy k1 E⟩
 rw[hn];refine ak ⟨_,Y,a,_,Y,.inr (th.of r),_,Y,a,_,_,_,Y,Y,th.of r,cS (by decide) Y,x,_,Y,hn,Y,_,Y,?_⟩;rcases hc with⟨n1,_,_,rfl⟩ |⟨rfl,bs,rfl,I,A7,A3,M⟩
 ·rw[show (!decide (V.int (((V.str x::g).length:ft):gV)=V.int (n:gV)))=c0 by
   rw[dV λy=>n1 (by have:=V.int.inj y;rw[r_]at this;omega)];rfl]
  exact aw ⟨by decide,E _ Y _ (RT.refl _ _)⟩
 ·rw[show (!decide (V.int (((V.str x::bs.map V.ref).length:ft):gV)=V.int (((bs.map V.ref).length+1:ft):gV)))=d_ by simp];have M:=M d (by omega);refine ak ⟨_,Y,1,Y,a,_,Y,th.of r,kD _ _,λpt A4=>⟨pt,Y,⟨_,th.of af⟩,⟨?_⟩⟩⟩;have ec:dF (V.str x::bs.map V.ref) (O 1) cx=bs.map V.ref:=kB _ _;rw[ec];have N:RT A H (upd H pt (.tup (bs.map V.ref))):=.of (ad.new A4);have h1:(upd H pt (.tup (bs.map V.ref))) pt=O (.tup (bs.map V.ref)):=af;generalize upd H pt (.tup (bs.map V.ref))=Ai at N h1;have T1:=N.2 TT;refine Wa (K:=K) (E:=bs.map V.ref) (λi σ C=>∃v3,σ=[O (.ref a),O (.int d),O (.ref l),v3]/\RT A Ai C/\∀(k:ft) p,k<i->q.parts[k]?=O p->DB c A.aI (d+1) p=cx) ⟨cx,Y,RT.refl _ _,λk p h=>hQ h (Nat.not_lt_zero _)⟩ ?_ ?_ ?_
  ·rintro i σ C _ ⟨_,_,D,_⟩;exact th.of (D.keep T1 h1 nofun)
  ·rintro i y σ C hx ⟨v3,rfl,D,R⟩;rw[cc]at hx;obtain⟨b,J,rfl⟩:=rk.mp hx;have hi:i<q.parts.length:=by rw[←I];exact (cs.mp J).1
   have B:=a_ hi;obtain⟨m',rfl⟩:∃m',m=m' + 1:=⟨m - 1,by omega⟩
   have S:=N.trans D;refine⟨_,Y,_,Y,_,_,Y,Y,_,Y,b,l,d+1,q.parts[i],Y,(A3 i b _ J B).kt (S.kt TT),by omega,by omega,S.2 TT,Aj.rt TT S,λz H3 s4=>⟨_,Y,D.trans s4,λk p j e=>?_⟩,λC' z H3 s4=>E C' ?_ H3 (S.trans s4)⟩
   ·rcases Nat.lt_succ_iff_lt_or_eq.mp j with h |rfl
    ·exact R k p h e
    ·rw[B]at e;cases e;exact z
   ·rw[M,xb B (λk p h e=>R k p h e) (by rw[z];rfl),z]
  ·rintro σ C ⟨v3,rfl,D,R⟩;refine k1 ?_ C (N.trans D);rw[M,Eg];intro p hp;obtain⟨k,j⟩:=oT hp;refine R k p ?_ j;have:=(cs.mp j).1;rw[bd,I];exact this
inductive uf(P:sJ)(w:uF)(K:fy)(G:hO->eH cv)(u:sG)(A:Ad)(L:Lf)(c:L.α->eH ce)(k0:ft)(b:U V)(H:Hp)(Q:VK)(Ah:XK):Prop
 |i(a l:ce)(q:Tr L.α)(_:b=[.ref a,.ref l])(_:bc L H a q)(_:Ec A H)(_:Mu P w K G u A L c k0 H l)(_:DB c A.aI 1 q=cx->∀C,RT A H C->Q .non C)(_:∀Aj,DB c A.aI 1 q=O Aj->∀C,RT A H C->Ah (.ref Aj) cx C)
theorem Sb{L:Lf}{c:L.α->eH ce}(T:Txt K G A)(d:uG P w K G u (yl P w) (k0+7) "check_within" ["asked","depth","check_simple"] (uj P w K G u A L c k0 7))(F:vr K "check_joined" "check_joined" O_ f Ag):
  ap P w K G u (yl P w) (k0+8) f Ag ["asked","check_simple"] (uf P w K G u A L c k0):=by
 refine F.oX ["asked","check_simple"] λn e An b s H p Q Ah g h=>?_;obtain⟨a,l,q,rfl,i,TT,Aj,j,m⟩:=h;refine⟨_,(aj (bf (d.pe g bU (aa (pv 0) (aa ah (aa (pv 1) ae))) (by omega)))),?_⟩;exact⟨_,Y,_,Y,a,l,1,q,Y,i,by decide,by decide,TT,Aj,j,m⟩
def SL:U (hO×V):=[("all", .int 1),("none", .int 1),("is", .int 2),("below", .int 2),("above", .int 2),("among", .int 2)]
inductive Sm where
 |zero(b:n_) |one (k:ft) (v:V) |among (a:U V) |bad (w:hO) (a:U V)
def SM:ft->hO
 |0 => "is" |1 => "below" |_ => "above"
def zw(b:n_):hO:=if b=c0 then "all" else "none"
def Sm.things:Sm->U V
 |.one _ v=>[v] |.among a=>a |_=>[]
def i6(H:Hp)(a:ce):Sm->Prop
 |.zero b=>H a=O (.tup [.str (zw b)])
 |.one k v=>H a=O (.tup [.str (SM k),v])
 |.among c=>∃l,H a=O (.tup [.str "among", .ref l])/\H l=O (.lst c)/\c.length<=1000
 |.bad w c=>H a=O (.tup (.str w::c))/\c.length<=1000/\JL.lookup w=cx/\SL.lookup w≠O (.int (c.length+1:ft))
theorem i6.kt(k:Kt H C): ∀{s:Sm},i6 H a s->i6 C a s
 |.zero _,e=>k.tup e
 |.one _ _,e=>k.tup e
 |.among _,⟨l,b,c,z⟩=>⟨l,k.tup b,k.lst c,z⟩
 |.bad _ _,⟨e,r⟩=>⟨k.tup e,r⟩
theorem i6.flat   : ∀{s:Sm},i6 H a s->(∃b,s = .among b)\/(∃w b,s = .bad w b)\/∃w,H a=O (.tup (.str w::s.things))/\w ≠ "among" /\ JL.lookup w=cx/\SL.lookup w=O (.int (s.things.length+1:ft))/\s.things.length<=1
 |.zero c0,e=>.inr (.inr ⟨_,e,by decide,Y,Y,bI Y⟩)
 |.zero d_,e=>.inr (.inr ⟨_,e,by decide,Y,Y,bI Y⟩)
 |.one 0 _,e=>.inr (.inr ⟨_,e,by decide,Y,Y,bI Y⟩)
 |.one 1 _,e=>.inr (.inr ⟨_,e,by decide,Y,Y,bI Y⟩)
 |.one (_+2) _,e=>.inr (.inr ⟨_,e,(by decide:("above" : hO) ≠ "among"),Y,Y,bI Y⟩)
 |.among b,_=>.inl ⟨b,Y⟩
 |.bad w b,_=>.inr (.inl ⟨w,b,Y⟩)
def LQ(Aq:V->Prop):Lf where
 α:=Sm
 at' H a s:=i6 H a s/\∀v∈s.things,Aq v
 kt k h:=⟨h.1.kt k,h.2⟩
 tup {H a s} h:=by
  obtain⟨h,_⟩:=h;rcases h.flat with⟨b,rfl⟩ |⟨w,b,rfl⟩ |⟨w,e,_,j,_,l⟩
  ·obtain⟨l,e,_⟩:=h;exact⟨_,_,e,bI Y,Y⟩
  ·exact⟨w,b,h.1,h.2.1,h.2.2.1⟩
  ·exact⟨w,_,e,jE l (bI Y),j⟩
def cQ(z:ce):Sm->eH ce
 |.bad _ _=>O z
 |_=>cx
theorem V7{v:V}(h:SL.lookup x=O v):∃n:ft,v = .int n:=by
 have:=ri h;simp only[SL,f_,m_,u3,J5]at this;rcases this with⟨_,e⟩ |⟨_,e⟩ |⟨_,e⟩ |⟨_,e⟩ |⟨_,e⟩ |⟨_,e⟩
 ·exact⟨1,e⟩
 ·exact⟨1,e⟩
 all_goals exact⟨2,e⟩
inductive O'(b:U V)(H:Hp)(Q:VK)(_E:XK):Prop
 |i(a:ce)(s:Sm)(_:b=[.ref a])(_:i6 H a s)(_:∀w b,s≠.bad w b)(_:∀(l:ce) g,s = .among g->H l=O (.lst g)->Q (.ref l) H)(_:∀(p:ce),(∀g,s≠.among g)->H p=cx->Q (.ref p) (upd H p (.tup s.things)))
theorem zlb(T:Txt K G A)(F:vr K "things_named" "things_named" Qj f Ag):ap P w K G u q_ 1 f Ag ["simple"] O':=by
 refine F.o ["simple"] λB n An d s H c Q Ah C h=>?_;obtain⟨a,q,rfl,i,r,v,x⟩:=h;refine⟨_,(ao (aN (aE bh (aG (aT K) (pv 0) ah (λ_ _=>rfl)) au (aC _)) (ao (aN (eD (cR (aL (dj K) (by rfl) T.dq PyProof.Rows.Boot.«isinstance» (aa (aG (aT K) (pv 0) ah (λ_ _=>rfl)) (aa (gM T.j6 PyProof.Rows.Boot.«list») ae))))) ou
   aO)
  (aj (aA (aG (aT K) (pv 0) ah (λ_ _=>rfl)))))
   aO)
  (aj (aA (gk (km K) (pv 0) (fe ah) iV)))),?_⟩
 rcases i.flat with⟨c,rfl⟩ |⟨w,c,rfl⟩ |⟨w,b,j,_⟩
 ·obtain⟨l,b,m,_⟩:=i;refine⟨_,Y,a,_,_,_,Y,Y,th.of b,Y,Y,_,Y,aw ?_⟩;refine⟨_,Y,a,_,_,_,Y,Y,th.of b,Y,_,_,_,Y,gG (.lst m) T.ill,_,Y,ak ?_⟩;exact⟨_,Y,a,_,_,_,Y,Y,th.of b,Y,v l c Y m⟩
 ·exact hQ Y (r w c)
 ·refine⟨_,Y,a,_,_,_,Y,Y,th.of b,cS (by decide) Y,Y,_,Y,?_⟩;rw[dV λz=>j (V.str.inj z)];refine ak ⟨_,Y,1,Y,a,_,Y,th.of b,kD _ _,λp y=>?_⟩;rw[kB];exact x p (λg z=>by subst z;obtain⟨l,e,_⟩:=i;rw[b]at e;cases e;exact j Y) y
inductive OG(P:sJ)(w:uF)(K:fy)(G:hO->eH cv)(u:sG)(Aq:V->Prop)(H:Hp)(Ao:ce):Prop
 |i(Ag:B')(I:U hO)(a:Sp)(_:J8 K H Ao)(_:ap P w K G u q_ 3 Ao Ag I a)(_:cM K Ag I [])(_:∀(v:V)(Ai:Hp)(Q:VK)(Ah:XK),Aq v->(∀Am,ad Ai Am->Q (.bl c0) Am)->a [v] Ai Q Ah)
theorem mZ{l:ce}(h:J8 K H l)(s:ad H C):J8 K C l:=h.elim .inl λ⟨a,b,c,d,e⟩=>.inr ⟨a,b,c,d,s _ _ e⟩
inductive ui(P:sJ)(w:uF)(K:fy)(G:hO->eH cv)(u:sG)(A:Ad)(Aq:V->Prop)(b:U V)(H:Hp)(Q:VK)(Ah:XK):Prop
 |i(a Ao:ce)(s:Sm)(_:b=[.ref a,.ref Ao])(_:(LQ Aq).at' H a s)(_:OG P w K G u Aq H Ao)(_:cQ A.aI s=cx->∀C,ad H C->Q .non C)(_:∀Aj,cQ A.aI s=O Aj->∀C,ad H C->Ah (.ref Aj) cx C)
theorem RQ:(["thing","is_good"]:U hO).Nodup:=by decide +kernel
theorem Sa(T:Txt K G A)(vn:IF w K G "SIMPLE_asking" SL)(mm:uG P w K G u q_ 1 "things_named" ["simple"] O')(F:vr K "check_simple_of" "check_simple_of" O0 f Ag):
  ap P w K G u (yl P w) 4 f Ag ["simple","is_good"] (ui P w K G u A Aq):=by
 refine F.oX ["simple","is_good"] λnN A3 An A0 s H j Q Ah hr h=>?_;obtain⟨a,Ao,q,rfl,⟨d,hG⟩,Aj,k1,R⟩:=h;refine⟨_,(ao (aN (PW.pt (fT (sN (vn.pnin (aG (aT K) (pv 0) ah (λ_ _=>rfl)))) (gm (aE fR (aL (cD K) (by rfl) T.bu PyProof.Rows.Boot.«len» (aa (pv 0) ae)) (vn.pix (aG (aT K) (pv 0) ah (λ_ _=>rfl))) (aC _))))) (aj (c9 de T.kF Y (by rfl) T.jh (aa au ae)))
   aO)
  (aj (aN (eD (cR (aL (jO K Y) (by rfl) T.jm PyProof.Rows.Boot.«all» (aa (bK (Ac:=["thing","is_good"]) (fr:=[cx,O 1]) ⟨Y,Y,Y,Y,Y,Y⟩ Y (PI.alt (bV (mm.pe hr av (aa (pv 0) ae))) (j9 (mm.pe hr av (aa (pv 0) ae))))
    (λAj Ap s H=>⟨aH (i:=0) RQ Y (gS Y),bn,(sj P w K G u 3 hr av (aa (pv 0) ae) (pv 1) (by omega))⟩)) ae)))) (aj (c9 de T.kF Y (by rfl) T.jh (aa au ae)))
   aO))),?_⟩
 have hz:q.things.length<=1000:=by
  rcases d.flat with⟨j,rfl⟩ |⟨w,j,rfl⟩ |⟨_,_,_,_,_,l⟩
  ·obtain⟨_,_,_,z⟩:=d;exact z
  ·exact ot _
  ·omega
 obtain⟨x,g,D,m⟩:∃x g,H a=O (.tup (.str x::g))/\((SL.lookup x=O (.int (g.length+1:ft))/\cQ A.aI q=cx)\/(SL.lookup x≠O (.int (g.length+1:ft))/\cQ A.aI q=O A.aI)):=by
  rcases d.flat with⟨j,rfl⟩ |⟨w,j,rfl⟩ |⟨w,e,_,_,h,_⟩
  ·obtain⟨l,e,_⟩:=d;exact⟨_,_,e,.inl ⟨Y,Y⟩⟩
  ·exact⟨_,_,d.1,.inr ⟨d.2.2.2,Y⟩⟩
  ·refine⟨_,_,e,.inl ⟨h,?_⟩⟩;cases q with
   |bad w' j=>cases d.1.symm.trans (show H a=O (.tup [.str w]) from e);exact hQ h d.2.2.2
   |_=>rfl
 refine⟨_,Y,a,_,_,_,Y,Y,th.of D,cS (by decide) Y,x,Y,_,Y,?_⟩;rcases m with⟨m,S⟩ |⟨m,S⟩
 ·rw[m];refine ak ⟨_,Y,a,_,Y,.inr (th.of D),_,Y,a,_,_,_,Y,Y,th.of D,cS (by decide) Y,x,_,Y,m,Y,_,Y,?_⟩;rw[show (!decide (V.int (((V.str x::g).length:ft):gV)=V.int ((g.length+1:ft):gV)))=d_ by simp];refine ak ?_;have k3:=k1 S;obtain⟨E,I,J,X,F',Z,hg⟩:=Aj;have nb:∀w j,q≠.bad w j:=λw j z=>by subst z;cases S
  have fin:∀(Ai:Hp),ad H Ai->∀L:ce,Ai L=cx->∃(p:ce)(bs:U n_),[V.ref L]=[.ref p]/\n7 K (upd Ai L (.lst (nc q.things.length (.bl c0)))) p (bs.map V.bl)/\bs.all id=c0:=λAi c L d=>by
   refine⟨L,nc q.things.length c0,Y,.of ?_,?_⟩
   ·rw[af,List.map_replicate]
   ·rw[i_];intro b Z;exact Hr Z
  have am:(∃g,q = .among g)\/∀g,q≠.among g:=by cases q <;> first |exact .inl ⟨_,Y⟩ |exact .inr nofun
  rcases am with⟨As,rfl⟩ |A1
  ·refine .inl ⟨_,Y,a,_,Y,d,nb,λl j e m=>⟨l,Y,⟨_,n7.of m⟩,⟨cE (E:=j) (λi acc C=>ad H C/\acc=nc i (.bl c0)) ⟨ad.refl _,Y⟩ ?_ ?_ ?_ ?_⟩⟩,λp z=>hQ Y (z As)⟩
   all_goals cases e
   ·rintro i acc C hi ⟨c,rfl⟩;exact⟨n7.of (c _ _ m),by rw[B1];exact dv _⟩
   ·exact f' (aV hz)
   ·rintro i x acc C hx r ⟨c,rfl⟩;refine⟨Wk.set Y,tT ⟨Ao,E,I,J,Y,mZ X c,F',Z,_,Y,mZ X c,hg _ C _ _ (hG x (eT hx)) λAm s2=>cw r ⟨c.trans s2,?_⟩⟩⟩;rw[E_]
   ·rintro acc C ⟨c,rfl⟩ q d;obtain⟨p,bs,e1,e2,e3⟩:=fin C c q d;refine⟨p,bs,e1,e2,?_⟩;rw[e3];exact⟨_,Y,ak (k3 _ (ay c d))⟩
  ·refine .inr ⟨_,Y,a,q,Y,d,nb,λl g z=>hQ z (A1 g),λM _ A2=>⟨M,Y,⟨_,th.of af⟩,⟨?_⟩⟩⟩;have N:ad H (upd H M (.tup q.things)):=ad.new A2;have h0:(upd H M (.tup q.things)) M=O (.tup q.things):=af;generalize upd H M (.tup q.things)=H0 at N h0;refine mT (E:=q.things) (λi acc C=>ad H0 C/\acc=nc i (.bl c0)) ⟨ad.refl _,Y⟩ ?_ ?_ ?_ ?_
   ·rintro i acc C hi ⟨c,rfl⟩;exact⟨th.of (c _ _ h0),by rw[B1];exact dv _⟩
   ·exact f' (aV hz)
   ·rintro i x acc C hx r ⟨c,rfl⟩;refine⟨Wk.set Y,tT ⟨Ao,E,I,J,Y,mZ X (N.trans c),F',Z,_,Y,mZ X (N.trans c),hg _ C _ _ (hG x (eT hx)) λAm s2=>cw r ⟨c.trans s2,?_⟩⟩⟩;rw[E_]
   ·rintro acc C ⟨c,rfl⟩ q d;obtain⟨p,bs,e1,e2,e3⟩:=fin C (N.trans c) q d;refine⟨p,bs,e1,e2,?_⟩;rw[e3];exact⟨_,Y,ak (k3 _ (ay (N.trans c) d))⟩
 ·have R:=R _ S _ (ad.refl _);cases B:SL.lookup x with
  |none=>exact aw (aw ⟨by show 1<=fx;decide,R⟩)
  |some v=>
   obtain⟨n,rfl⟩:=V7 B;refine ak ⟨_,Y,a,_,Y,.inr (th.of D),_,Y,a,_,_,_,Y,Y,th.of D,cS (by decide) Y,x,_,Y,B,Y,_,Y,?_⟩;rw[show (!decide (V.int (((V.str x::g).length:ft):gV)=V.int (n:gV)))=c0 by
    rw[dV λy=>m (by rw[B];exact tS O y.symm)];rfl]
   exact aw ⟨by show 1<=fx;decide,R⟩
theorem tN(s:ad (del H c) C)(n:H c=O o):ad H (upd C c o):=λb Au e=>by
 by_cases a:b=c
 ·subst a;rw[n]at e;cases e;exact af
 ·rw[ag a];exact s b Au (by rw[c7 a];exact e)
theorem iJ{o:z_}(n:H c=O (DL o c)):Kt H (del H c):=λb Au e=>by
 by_cases a:b=c
 ·subst a;rw[n]at e;cases e;exact .inr (.inr (.inl ⟨_,_,Y⟩))
 ·exact .inl (by exact (c7 a) ▸ e)
theorem oV(x:cB H p Av q)(f:H c=O (DL Ar c))(g:Ar.data = .cell (O Au)):cB (del H c) p Av q:=by
 obtain⟨I,b,j,h⟩:=x;refine⟨I,by rw[c7 λz=>by simp only[z,f]at b;cases b];exact b,j,h.imp id λ⟨d,l,e,m,A,a,i,r⟩=>⟨d,l,e,m,A,?_,i,r⟩⟩;rw[c7 λz=>by
  rw[z,f]at a;injection a with a
  injection a with a _
  rw[a,i]at g;cases g]
 exact a
theorem Ec.del(a:Ec A H)(b:H c=O (DL Ar c))(d:Ar.data = .cell (O Au)):Ec A (del H c):=⟨oV a.c b d,oV a.v b d,oV a.w0 b d,oV a.w1 b d⟩
theorem lN(r:RT A (upd Ai c (DL Ar c)) Am)(n:Ai c=cx)(f:Ar.data = .cell (O Au)):RT A Ai (del Am c):=by
 refine⟨λb o g e=>?_,λh=>?_⟩
 ·have a:=aF e n;rw[c7 a];exact r.1 b o g (by rw[ag a];exact e)
 ·have d:Ec A (upd Ai c (DL Ar c)):=h.same (ad.new n);exact (r.2 d).del (r.keep d af nofun) f
theorem sS(r:RT A (del H c) H4)(a:H c=O (DL Ar c))(d:Ar.data = .cell (O Au))(n:H4 c=cx):RT A H (upd H4 c (DL Ar c)):=by
 refine⟨λb o f e=>?_,λg=>(r.2 (g.del a d)).same (ad.new n)⟩;by_cases z:b=c
 ·subst z;rw[a]at e;cases e;exact af
 ·rw[ag z];exact r.1 b o f (by rw[c7 z];exact e)
theorem iZ{a:ce}{b:t_ cv}(x:cB H p Av q)(s:jK a H C)(e:H a=O (.tbl b))(n:p≠a):cB C p Av q:=by
 obtain⟨I,f,g,h⟩:=x;refine⟨I,s _ _ n f,g,h.imp id λ⟨c,i,h⟩=>⟨c,i,?_⟩⟩;obtain⟨Ar,j,A,d,r⟩:=h;exact⟨Ar,j,A,s _ _ (λz=>by rw[z,e]at d;cases d) d,r⟩
def Nd(A:Ad):Prop:=A.p_check_question_of≠A.p_marked_values/\A.p_check_question_of≠A.p_Table_places_where/\A.p_marked_values≠A.p_Table_places_where
theorem tR(a:jK p H C)(c:p∈gp A)(k:Ec A H->Ec A C):RT A H C:=⟨λb o d e=>a b o (λz=>d (z ▸ c)) e,k⟩
theorem X9(c:Nd A)(b:jK A.p_check_question_of H C)(k:∀p,cB H A.p_check_question_of p N5->cB C A.p_check_question_of p N5):RT A H C:=tR b (by simp[gp]) λa=>
 have e:=a.c.choose_spec.1
 ⟨k _ a.c,iZ a.v b e c.1.symm,iZ a.w0 b e c.2.1.symm,iZ a.w1 b e c.2.1.symm⟩
theorem Y2(c:Nd A)(b:jK A.p_marked_values H C)(k:∀p,cB H A.p_marked_values p N7->cB C A.p_marked_values p N7):RT A H C:=tR b (by simp[gp]) λa=>
 have e:=a.v.choose_spec.1
 ⟨iZ a.c b e c.1,k _ a.v,iZ a.w0 b e c.2.2.symm,iZ a.w1 b e c.2.2.symm⟩
theorem zL(c:Nd A)(b:jK A.p_Table_places_where H C)(k:∀p,cB H A.p_Table_places_where p MW->cB C A.p_Table_places_where p MW):RT A H C:=tR b (by simp[gp]) λa=>
 have e:=a.w0.choose_spec.1
 ⟨iZ a.c b e c.2.1,iZ a.v b e c.2.2,k _ a.w0,k _ a.w1⟩
inductive My(P:sJ)(w:uF)(K:fy)(G:hO->eH cv)(u:sG)(Aq:V->Prop)(Ao:ce):Prop
 |i(Ag:B')(I:U hO)(a:Sp)(_:∃Ar b Ag c,K.lookup Ao=O ⟨Ar,b,.func Ag,c⟩)(_:ap P w K G u q_ 3 Ao Ag I a)(_:cM K Ag I [])(_:∀(v:V)(Ai:Hp)(Q:VK)(Ah:XK),Aq v->(∀Am,ad Ai Am->Q (.bl c0) Am)->a [v] Ai Q Ah)
theorem My.gds{Ao:ce}(h:My P w K G u Aq Ao)(H:Hp):OG P w K G u Aq H Ao:=by obtain⟨Ag,I,a,v,F,b,h⟩:=h;exact⟨Ag,I,a,.inl v,F,b,h⟩
abbrev db(A:Ad)(q:Tr Sm):eH ce:=DB (cQ A.aI) A.aI 1 q
inductive ug(P:sJ)(w:uF)(K:fy)(G:hO->eH cv)(u:sG)(A:Ad)(Aq:V->Prop)(b:U V)(H:Hp)(Q:VK)(Ah:XK):Prop
 |i(a Ao:ce)(q:Tr Sm)(_:b=[.ref a,.ref Ao])(_:bc (LQ Aq) H a q)(_:Ec A H)(_:My P w K G u Aq Ao)(_:db A q=cx->∀C,RT A H C->Q .non C)(_:∀Aj,db A q=O Aj->∀C,RT A H C->Ah (.ref Aj) cx C)
theorem Us(T:Txt K G A)(nd:Nd A)(B:gr u G)(pz:uG P w K G u (yl P w) 13 "check_joined" ["asked","check_simple"] (uf P w K G u A (LQ Aq) (cQ A.aI) 5))(j:uG P w K G u (yl P w) 4 "check_simple_of" ["simple","is_good"] (ui P w K G u A Aq))(F:gt K "check_question_of" "check_question_of" tD f Ag A.jc A.p_check_question_of):
  ap P w K G u (yl P w) 14 f Ag ["question","is_good"] (ug P w K G u A Aq):=by
 refine F.o ["question","is_good"] λnN An d s H vs Q Ah m h=>?_;obtain⟨a,Ao,q,rfl,hq,n,hg,k1,k2⟩:=h;refine⟨_,(aj (bf (pz.peZ (i:=1) (y := "is_good") m bU NV (aa (pv 0) (aa (oh Y Y F.hd B) ae)) Y Y Y Y))),?_⟩;refine⟨_,Y,n.c,λAi l sb L kt LH=>⟨_,Y,λAr Au M N ru=>?_⟩⟩;have p:=X9 nd sb kt;have U1:=p.2 n;obtain⟨pm,c',A0,y,R⟩:=LH;have g:ad Ai (upd Ai (s.heap.objs.size+1) (DL Ar (s.heap.objs.size+1))):=ad.new M;have C:(upd Ai (s.heap.objs.size+1) (DL Ar (s.heap.objs.size+1))) (s.heap.objs.size+1)=O (DL Ar (s.heap.objs.size+1)):=af;have c:∀Am,RT A (upd Ai (s.heap.objs.size+1) (DL Ar (s.heap.objs.size+1))) Am->RT A H (del Am (s.heap.objs.size+1)):=λAm r=>p.trans (lN r M N);have i:=U1.same g;refine⟨a,l,q,Y,hq.kt ((p.trans (.of g)).kt n),i,?_,λz Am D=>k1 z _ (c Am D),λAj z Am D=>k2 Aj z _ (c Am D)⟩;have X:=m6 (Aa:=P) (w:=w) (K:=K) (mg:=G) (base:=u) y "simple" 4 (λv z=>ui P w K G u A Aq [v,z]) ?S (@zE P w) (λAn d s H v z Q Ah m h=>?B) (λus L=>match us,L with |[_],_=>rfl)
 case S=>exact⟨Y,Y,Y,by decide,Y,by decide,.inl ⟨Y,λ_ _=>rfl⟩⟩
 case B=>
  refine⟨_,j.pe m y6 (aa (pv 0) (aa (pv 1) ae)),?_⟩;exact⟨_,Y,_,Y,h⟩
 refine⟨_,_,_,.inr ⟨_,_,_,_,g _ _ y⟩,X.1,X.2,λH3 Z q' Q' E' E I j1 j2=>?_⟩;have b:=E.keep i C nofun;exact⟨.ref Z,.ref Ao,Ar,Au,Y,⟨E.keep i (g _ _ y) nofun,(HA.same R g).mono λo e=>(HA.same R g).elim λ_ x=>x.elim λ_ x=>x.elim λ_ x=>by cases x.1.symm.trans e;exact E.keep i e nofun⟩,b,N,ru,Z,Ao,q',Y,(LQ Aq).kt (iJ b) I,hg.gds _,λz H4 J _=>j1 z _ (.of (tN J b)),λAj z H4 J _=>j2 Aj z _ (.of (tN J b))⟩
def GI(v:V):Prop:=∃n,v = .int n
def GW(v:V):Prop:=∃z,v = .str z/\IE v/\iu 12 v=c0
def Cm(Aq:V->Prop):Prop:=∀x v,Aq x->Aq v->kM x v
theorem wF:Cm GI:=by rintro _ _ ⟨a,e⟩ ⟨b,f⟩;exact .inl ⟨a,b,e,f⟩
theorem Uw:Cm GW:=by rintro _ _ ⟨a,e,_⟩ ⟨b,f,_⟩;exact .inr ⟨a,b,e,f⟩
def kW:ft->V->V->n_
 |0,x,v=>decide (x=v)
 |1,x,v=>ltV x v
 |_,x,v=>ltV v x
def Sm.holds:Sm->V->n_
 |.zero c0,_=>c0
 |.zero d_,x=>decide (x = .non)
 |.one k v,x=>if x = .non then d_ else kW k x v
 |.among a,x=>if x = .non then d_ else GP x a
 |.bad _ _,_=>d_
inductive ko(A:Ad)(Aq:V->Prop)(b:U V)(H:Hp)(Q:VK)(Ah:XK):Prop
 |i(a:ce)(q:Tr Sm)(_:b=[.ref a])(_:bc (LQ Aq) H a q)(_:Ec A H)(_:db A q=cx->∀C,RT A H C->Q .non C)(_:∀Aj,db A q=O Aj->∀C,RT A H C->Ah (.ref Aj) cx C)
theorem VV(T:Txt K G A)(i:DD K G "is_whole" oB ["thing"])(j:uG P w K G u (yl P w) 14 "check_question_of" ["question","is_good"] (ug P w K G u A GI))(F:vr K "check_question" "check_question" NR f Ag):
  ap P w K G u (yl P w) 15 f Ag ["question"] (ko A GI):=by
 obtain⟨Ao,c,b,J,l⟩:=i;have m:My P w K G u GI Ao:=by
  obtain⟨Ar,p,_,_,_,_,_,_,d,_,lk,_⟩:=J.ex;exact⟨b,_,_,⟨Ar,p,b,d,lk⟩,(yT T J).mono (by decide),l,λv Ai Q Ah ⟨n,e⟩ q=>⟨n,by rw[e],q _ (ad.refl _)⟩⟩
 refine F.oX ["question"] λD r An g s H E Q Ah x h=>?_;obtain⟨a,q,rfl,y,z,B,C⟩:=h;refine⟨_,(aj (bf (j.pe x bU (aa (pv 0) (aa (dJ c) ae))))),?_⟩;exact⟨_,Y,a,Ao,q,Y,y,z,m,B,C⟩
theorem ZJ(T:Txt K G A)(i:DD K G "is_written" tG ["word"])(j:uG P w K G u q_ 2 "is_small" ["text","most"] (oO K))(l:uG P w K G u (yl P w) 14 "check_question_of" ["question","is_good"] (ug P w K G u A GW))(F:vr K "check_question_of_words" "check_question_of_words" Pn f Ag):
  ap P w K G u (yl P w) 15 f Ag ["question"] (ko A GW):=by
 obtain⟨Ao,c,b,J,m⟩:=i;have n:My P w K G u GW Ao:=by
  obtain⟨Ar,p,_,_,_,_,_,_,d,_,lk,_⟩:=J.ex;exact⟨b,_,_,⟨Ar,p,b,d,lk⟩,yU T j J,m,λv Ai Q Ah ⟨z,e,r,x⟩ q=>⟨v,Y,r,λC s=>by rw[x];exact q C s⟩⟩
 refine F.oX ["question"] λM y An g s H N Q Ah B h=>?_;obtain⟨a,q,rfl,D,E,I,L⟩:=h;refine⟨_,(aj (bf (l.pe B bU (aa (pv 0) (aa (dJ c) ae))))),?_⟩;exact⟨_,Y,a,Ao,q,Y,D,E,n,I,L⟩
inductive ub(Aq:V->Prop)(b:U V)(H:Hp)(Q:VK)(_E:XK):Prop
 |i(a:ce)(s:Sm)(x:V)(_:b=[.ref a,x])(_:(LQ Aq).at' H a s)(_:∀w b,s≠.bad w b)(_:x = .non\/Aq x)(_:Q (.bl (s.holds x)) H)
theorem X3(m:Cm Aq)(T:Txt K G A)(F:vr K "answers" "answers" Qc f Ag):ap P w K G u q_ 1 f Ag ["simple","value"] (ub Aq):=by
 refine F.o ["simple","value"] λS E An n s H r Q Ah I h=>?_;obtain⟨a,q,x,rfl,⟨d,y⟩,L,B,k⟩:=h;have X:=iM I;refine⟨_,(ao (aN (aE bh (aG (aT K) (pv 0) ah (λ_ _=>rfl)) au (aC _)) (aj (aA fc))
   aO)
  (ao (aN (aE bh (aG (aT K) (pv 0) ah (λ_ _=>rfl)) au (aC _)) (aj (aA (c8 dI (pv 1) bL (aC _))))
   aO)
  (ao (aN (aE dI (pv 1) bL (aC _)) (aj (aA fc))
   aO)
  (ao (aN (aE bh (aG (aT K) (pv 0) ah (λ_ _=>rfl)) au (aC _)) (aj (aA (c8 bh (pv 1) (aG (aT K) (pv 0) ah (λ_ _=>rfl)) (aC _))))
   aO)
  (ao (aN (aE bh (aG (aT K) (pv 0) ah (λ_ _=>rfl)) au (aC _)) (aj (aA (c8 yX (pv 1) (aG (aT K) (pv 0) ah (λ_ _=>rfl)) (aC _))))
   aO)
  (ao (aN (aE bh (aG (aT K) (pv 0) ah (λ_ _=>rfl)) au (aC _)) (aj (aA (c8 yV (pv 1) (aG (aT K) (pv 0) ah (λ_ _=>rfl)) (aC _))))
   aO)
  (aj (aA (c8 (iU K) (pv 1) (aG (aT K) (pv 0) ah (λ_ _=>rfl)) (by rfl)))))))))),?_⟩
 have C:∀v,Aq v->v≠.non:=λv h z=>by rcases m v v h h with⟨_,_,e,_⟩ |⟨_,_,e,_⟩ <;> (rw[z]at e;cases e)
 cases q with
 |bad w r=>exact hQ Y (L w r)
 |zero b=>
  cases b with
  |true=>exact⟨_,Y,a,_,_,_,Y,Y,th.of d,Y,Y,_,Y,aw k⟩
  |false=>exact⟨_,Y,a,_,_,_,Y,Y,th.of d,Y,Y,_,Y,ak ⟨_,Y,a,_,_,_,Y,Y,th.of d,Y,Y,_,Y,aw ⟨_,Y,Y,k⟩⟩⟩
 |one c v=>
  have M:=y v (.head _);rcases B with rfl |j
  ·match c,d with
   |0,d=>exact⟨_,Y,a,_,_,_,Y,Y,th.of d,Y,Y,_,Y,ak ⟨_,Y,a,_,_,_,Y,Y,th.of d,Y,Y,_,Y,ak ⟨_,Y,Y,_,Y,aw k⟩⟩⟩
   |1,d=>exact⟨_,Y,a,_,_,_,Y,Y,th.of d,Y,Y,_,Y,ak ⟨_,Y,a,_,_,_,Y,Y,th.of d,Y,Y,_,Y,ak ⟨_,Y,Y,_,Y,aw k⟩⟩⟩
   |_+2,d=>exact⟨_,Y,a,_,_,_,Y,Y,th.of d,Y,Y,_,Y,ak ⟨_,Y,a,_,_,_,Y,Y,th.of d,Y,Y,_,Y,ak ⟨_,Y,Y,_,Y,aw k⟩⟩⟩
  have g:=C x j;have k:Q (.bl (kW c x v)) H:=by rw[←show (Sm.one c v).holds x=kW c x v from ks g];exact k
  have p:=m x v j M
  match c,d,k with
  |0,d,k=>
   refine⟨_,Y,a,_,_,_,Y,Y,th.of d,Y,Y,_,Y,ak ⟨_,Y,a,_,_,_,Y,Y,th.of d,Y,Y,_,Y,ak ⟨_,Y,Y,_,Y,?_⟩⟩⟩;rw[dV g];exact ak ⟨_,Y,a,_,_,_,Y,Y,th.of d,Y,Y,_,Y,aw ⟨_,Y,_,Y,a,_,_,_,Y,Y,th.of d,Y,p.Iv,k⟩⟩
  |1,d,k=>
   refine⟨_,Y,a,_,_,_,Y,Y,th.of d,Y,Y,_,Y,ak ⟨_,Y,a,_,_,_,Y,Y,th.of d,Y,Y,_,Y,ak ⟨_,Y,Y,_,Y,?_⟩⟩⟩;rw[dV g];exact ak ⟨_,Y,a,_,_,_,Y,Y,th.of d,Y,Y,_,Y,ak ⟨_,Y,a,_,_,_,Y,Y,th.of d,Y,Y,_,Y,aw ⟨_,Y,_,Y,a,_,_,_,Y,Y,th.of d,Y,p,k⟩⟩⟩
  |_+2,d,k=>
   refine⟨_,Y,a,_,_,_,Y,Y,th.of d,Y,Y,_,Y,ak ⟨_,Y,a,_,_,_,Y,Y,th.of d,Y,Y,_,Y,ak ⟨_,Y,Y,_,Y,?_⟩⟩⟩;rw[dV g];exact ak ⟨_,Y,a,_,_,_,Y,Y,th.of d,Y,Y,_,Y,ak ⟨_,Y,a,_,_,_,Y,Y,th.of d,Y,Y,_,Y,ak ⟨_,Y,a,_,_,_,Y,Y,th.of d,Y,Y,_,Y,aw ⟨_,Y,_,Y,a,_,_,_,Y,Y,th.of d,Y,p,k⟩⟩⟩⟩
 |among J=>
  obtain⟨l,i,N,hz⟩:=d;refine⟨_,Y,a,_,_,_,Y,Y,th.of i,Y,Y,_,Y,ak ⟨_,Y,a,_,_,_,Y,Y,th.of i,Y,Y,_,Y,ak ⟨_,Y,Y,_,Y,?_⟩⟩⟩;rcases B with rfl |j
  ·exact aw k
  have g:=C x j;have k:Q (.bl (GP x J)) H:=by rw[←show (Sm.among J).holds x=GP x J from ks g];exact k
  have D:∀v,Aq v->bN v=c0:=λv h=>by rcases m v v h h with⟨_,_,rfl,_⟩ |⟨_,_,rfl,_⟩ <;> rfl
  rw[dV g];refine ak ⟨_,Y,a,_,_,_,Y,Y,th.of i,Y,Y,_,Y,ak ⟨_,Y,a,_,_,_,Y,Y,th.of i,Y,Y,_,Y,ak ⟨_,Y,a,_,_,_,Y,Y,th.of i,Y,Y,_,Y,ak ⟨_,Y,_,Y,a,_,_,_,Y,Y,th.of i,Y,?_⟩⟩⟩⟩;exact⟨l,_,Y,.inl (n7.of N),D x j,i_.mpr λv R=>D v (y v R),k⟩
def Tr.holds{α β:Type}(a:α->β->n_):Tr α->β->n_
 |.lf x,b=>a x b
 |.neg q,b=>!q.holds a b
 |.two e q r,b=>if e=c0 then q.holds a b || r.holds a b else q.holds a b && r.holds a b
 |.bad _ _,_=>d_
theorem fU{y:hO}{g As:U V}(e:H a=O (.tup (.str x::g)))(b:H a=O (.tup (.str y::As))):x=y:=by simp_all
theorem Sk{f r:β->n_}{b:U β}(h0:H a=O (.lst ((b.map f).map V.bl)))(hz:b.length<=1000)(h:∀o C (R:VK),R (.bl (r o)) C->Ax [O (.bl (f o))] C R)(k:∀C p,ad H C->C p=O (.lst ((b.map r).map V.bl))->Q (.ref p) C):
  kN [cx] (Ko K a) (fv 0) lX Ax σ H Q:=by
 refine⟨cE (E:=(b.map f).map V.bl) (λi acc C=>ad H C/\acc=((b.take i).map r).map V.bl) ⟨ad.refl _,Y⟩ ?_ ?_ ?_ ?_⟩
 ·rintro i acc C d ⟨c,rfl⟩;exact⟨n7.of (c _ _ h0),by simp;exact Dt _ _⟩
 ·simp;exact f' (aV hz)
 ·rintro i x acc C g e ⟨c,rfl⟩;have d:i<b.length:=by simp_all
  simp[a_ d]at g;subst g;refine⟨Wk.set Y,tT (h b[i] _ _ (cw e ⟨c,?_⟩))⟩;simp only[Fa,a_ d,dn,dn];rfl
 ·rintro acc C ⟨c,rfl⟩ p j;refine k _ p (ay c j) ?_;rw[af];simp
theorem wK{f Ao r:β->n_}{c:U β}(h0:H a=O (.lst ((c.map f).map V.bl)))(j:H b=O (.lst ((c.map Ao).map V.bl)))(hz:c.length<=1000)(l:∀o C (R:VK),R (.bl (r o)) C->Ax [O (.bl (f o)),O (.bl (Ao o))] C R)(k:∀C p,ad H C->C p=O (.lst ((c.map r).map V.bl))->Q (.ref p) C):
  kN [cx,cx] (LI K a b) (qY K 2 (qV (fv 0) (qV (fv 1) xw))) lX Ax σ H Q:=by
 refine⟨qI (E:=(c.map f).map V.bl) (ys:=(c.map Ao).map V.bl) (λi acc C=>ad H C/\acc=((c.take i).map r).map V.bl) ⟨ad.refl _,Y⟩ c.length (by simp) ?_ (f' (aV hz)) ?_ ?_⟩
 ·rintro i acc C e ⟨d,rfl⟩;exact⟨n7.of (d _ _ h0),n7.of (d _ _ j),by grind⟩
 ·rintro i x y acc C m g h e ⟨d,rfl⟩ n;simp[a_ e]at g h;subst g h;refine⟨m,_,Y,th.of af,Y,_,_,Y,_,_,Y,Y,(Wk.set Y).trans (Wk.set Y),tT (l c[i] _ _ (cw e ⟨ay d n,?_⟩))⟩;simp only[Fa,a_ e,dn,dn];rfl
 ·rintro acc C ⟨d,rfl⟩ p q;refine k _ p (ay d q) ?_;rw[af];simp
inductive MX(P:sJ)(w:uF)(K:fy)(G:hO->eH cv)(u:sG)(A:Ad)(L:Lf)(c:L.α->eH ce){β:Type}(e:L.α->β->n_)(b:U β)(k0:ft)(H:Hp)(l:ce):Prop
 |i(Ag:B')(I:U hO)(d:Sp)(_:J8 K H l)(_:ap P w K G u q_ k0 l Ag I d)(_:cM K Ag I [])(_:∀(Ai:Hp)(a:ce)(x:L.α)(Q:VK)(Ah:XK),RT A H Ai->L.at' Ai a x->c x=cx->
  (∀p Am,RT A Ai Am->Am p=O (.lst ((b.map (e x)).map V.bl))->Q (.ref p) Am)->d [.ref a] Ai Q Ah)
theorem MX.rt{L:Lf}{c:L.α->eH ce}{f:L.α->β->n_}{d:U β}{l:ce}(h:MX P w K G u A L c f d k0 H l)(g:Ec A H)(r:RT A H C):MX P w K G u A L c f d k0 C l:=
 by obtain⟨Ag,I,e,v,F,b,h⟩:=h;exact⟨Ag,I,e,xl v g r,F,b,λAi a x Q Ah i=>h Ai a x Q Ah (r.trans i)⟩
inductive TM(P:sJ)(w:uF)(K:fy)(G:hO->eH cv)(u:sG)(A:Ad)(L:Lf)(c:L.α->eH ce){β:Type}(e:L.α->β->n_)(k0 m:ft)(f:U V)(H:Hp)(Q:VK)(_E:XK):Prop
 |i(a l:ce)(d:ft)(q:Tr L.α)(b:U β)(_:f=[.ref a,.ref l])(_:bc L H a q)(_:DB c A.aI d q=cx)(_:6<=d+m)(_:b.length<=1000)(_:Ec A H)(_:MX P w K G u A L c e b k0 H l)(_:∀p C,RT A H C->C p=O (.lst ((b.map (q.holds e)).map V.bl))->Q (.ref p) C)
def oJ(P:sJ)(w:uF)(K:fy)(G:hO->eH cv)(u:sG)(A:Ad)(L:Lf)(c:L.α->eH ce)(a:L.α->β->n_)(k0:ft):ft->Sp
 |0=>λ_ _ _ _=>wa
 |m+1=>TM P w K G u A L c a k0 m
theorem gA{c:α->eH ce}{q:Tr α}(h:DB c z d q=cx):d<=6:=FW λn=>by rw[wB (by exact JQ ‹_›) q]at h;cases h
theorem Wy:(["part","marks_of"]:U hO).Nodup:=by decide +kernel
theorem XD:(["mark"]:U hO).Nodup:=by decide +kernel
theorem nO:(["one","other"]:U hO).Nodup:=by decide +kernel
theorem YE{L:Lf}{c:L.α->eH ce}{D:L.α->β->n_}(T:Txt K G A)(h0:1<=k0)(gU:uG P w K G u q_ 1 "is_joined" ["asked"] oG)(kK:uG P w K G u q_ (k0+m) "marked" ["asked","marks_of"] (oJ P w K G u A L c D k0 m))(F:vr K "marked" "marked" PK f Ag):
  ap P w K G u q_ (k0+m+1) f Ag ["asked","marks_of"] (oJ P w K G u A L c D k0 (m+1)):=by
 refine F.o ["asked","marks_of","parts"] λnN AD An A4 s H vs Q Ah hr h=>?_;obtain⟨a,l,d,q,E,rfl,hq,J,hd,hz,A1,Aj,k⟩:=h;obtain⟨x,g,ha,hx,hc⟩:=hq.form c A.aI;have A5:=gA J;refine⟨_,(ao (aN (eD (cR (gU.pe hr av (aa (pv 0) ae) (by omega)))) (aj (aA (sj P w K G u k0 hr av (aa (pv 0) ae) (pv 1) (by omega))))
   aO)
  (ao (gN (i:=2) nN Y (gS Y) (Ac:=["part","marks_of"]) (fr:=[cx,O 1]) ⟨Y,Y,Y,Y,Y,Y⟩ Y (j9 (gk (km K) (pv 0) (fe ah) iV))
    (λAj Ap s H=>⟨aH (i:=0) Wy Y (gS Y),bn,(kK.pe hr av (aa (pv 0) (aa (pv 1) ae)) (by omega))⟩))
  (ao (aN (aE bh (aG (aT K) (pv 0) ah (λ_ _=>rfl)) au (aC _)) (aj (aA (bK (Ac:=["mark"]) (fr:=[cx]) ⟨Y,Y,Y,Y,Y,Y⟩ Y (bV (aG (bF K) (pv 2) ah (λ_ _=>rfl)))
    (λAj Ap s H=>⟨aH (i:=0) XD Y (gS Y),bn,(lF (pv 0))⟩))))
   aO)
  (ao (aN (aE bh (aG (aT K) (pv 0) ah (λ_ _=>rfl)) au (aC _)) (aj (aA (bK (Ac:=["one","other"]) (fr:=[cx,cx]) ⟨Y,Y,Y,Y,Y,Y⟩ Y (om K (by rfl) T.jn (aa (aG (bF K) (pv 2) ah (λ_ _=>rfl)) (aa (aG (bF K) (pv 2) ah (λ_ _=>rfl)) ae)))
    (λAj Ap s H=>⟨eA K (n:=2) Y (bP (aH (i:=0) nO Y (gS Y)) (bP (aH (i:=1) nO Y (gS Y)) eB)),bn,(gK (pv 0) (fz (pv 1)))⟩))))
   aO)
  (aj (aA (bK (Ac:=["one","other"]) (fr:=[cx,cx]) ⟨Y,Y,Y,Y,Y,Y⟩ Y (om K (by rfl) T.jn (aa (aG (bF K) (pv 2) ah (λ_ _=>rfl)) (aa (aG (bF K) (pv 2) ah (λ_ _=>rfl)) ae)))
    (λAj Ap s H=>⟨eA K (n:=2) Y (bP (aH (i:=0) nO Y (gS Y)) (bP (aH (i:=1) nO Y (gS Y)) eB)),bn,(oj (pv 0) (fz (pv 1)))⟩)))))))),?_⟩
 refine⟨_,Y,a,_,_,Y,ha,_,Y,?_⟩;rcases hc with⟨y,rfl,hy,hj⟩ |⟨n,hn,hc⟩
 ·rw[hj];rw[DB,ks (by omega)]at J;obtain⟨A6,A7,A8,v,Aq,hb,hC⟩:=Aj;exact aw ⟨l,A6,A7,A8,Y,v,Aq,hb,_,Y,v,hC H a y _ _ (RT.refl _ _) hy J k⟩
 rw[hn];rcases hc with⟨_,_,_,rfl⟩ |⟨_,bs,rfl,Z,AE,A9,ep⟩
 ·cases J
 have AA:=J;rw[ep d A5,Eg]at J;refine ak ⟨_,Y,1,Y,a,_,Y,th.of ha,kD _ _,λpt AB=>⟨pt,Y,⟨_,th.of af⟩,?_⟩⟩;have ec:dF (V.str x::bs.map V.ref) (O 1) cx=bs.map V.ref:=kB _ _;rw[ec];have s1:RT A H (upd H pt (.tup (bs.map V.ref))):=.of (ad.new AB);have h1:(upd H pt (.tup (bs.map V.ref))) pt=O (.tup (bs.map V.ref)):=af;generalize upd H pt (.tup (bs.map V.ref))=Ai at s1 h1;have U1:=s1.2 A1;refine⟨mT (E:=bs.map V.ref) (λi acc C=>∃I:U ce,acc=I.map V.ref/\I.length=i/\RT A Ai C/\∀(k:ft) p r,I[k]?=O p->q.parts[k]?=O r->C p=O (.lst ((E.map (r.holds D)).map V.bl))) ⟨[],Y,Y,RT.refl _ _,nofun⟩ ?_ ?_ ?_ ?_⟩
 ·rintro i acc C hi ⟨I,rfl,rfl,s2,_⟩;exact⟨th.of (s2.keep U1 h1 nofun),by rw[bd];exact dv _⟩
 ·rw[bd];exact f' (aV (by omega))
 ·rintro i x acc C hx AC ⟨I,rfl,A2,s2,hk⟩;rw[cc]at hx;obtain⟨b,hb,rfl⟩:=rk.mp hx;have hi:i<q.parts.length:=by rw[←Z];exact (cs.mp hb).1
  have A3:=a_ hi;have J:=J _ (j' hi);have:=gA J;obtain⟨m',rfl⟩:∃m',m=m' + 1:=⟨m - 1,by omega⟩
  have M:=s1.trans s2;refine⟨Wk.set Y,tT ⟨_,Y,_,Y,b,l,d+1,q.parts[i],E,Y,(A9 i b _ hb A3).kt (M.kt A1),J,by omega,hz,M.2 A1,Aj.rt A1 M,λp H3 S h3=>cw AC ⟨I++[p],by rw[dn];rfl,by rw[gT,A2];rfl,s2.trans S,λk p' r X e2=>?_⟩⟩⟩;rcases Ih k I.length with A0 |A0
  ·rw[kI A0]at X;exact S.keep (M.2 A1) (hk k p' r X e2) nofun
  ·rw[na A0]at X;have:k=I.length:=by have:=(cs.mp X).1;simp at this;omega
   subst this;simp at X;subst X;rw[A2,A3]at e2;cases e2;exact h3
 ·rintro acc C ⟨I,rfl,hl,s2,hk⟩ N z;rw[bd]at hl;have M:RT A H (upd C N (.lst (I.map V.ref))):=(s1.trans s2).trans (.of (ad.new z));have k3:∀(k:ft) p r,I[k]?=O p->q.parts[k]?=O r->(upd C N (.lst (I.map V.ref))) p=O (.lst ((E.map (r.holds D)).map V.bl)):=λk p r X e2=>ad.new z _ _ (hk k p r X e2);have z:(upd C N (.lst (I.map V.ref))) N=O (.lst (I.map V.ref)):=af;have B:=M.keep A1 ha nofun;generalize upd C N (.lst (I.map V.ref))=H3 at M k3 z B;cases q with
  |lf y=>obtain⟨_,_,e,_,j⟩:=L.tup hq;cases ha.symm.trans e;rw[j]at hn;cases hn
  |bad x vs=>exact hQ (AA.symm.trans Y) nofun
  |neg q=>
   obtain⟨p0,rfl⟩:=HJ.mp (hl.trans Z);obtain⟨_,e,_⟩:=hq;obtain rfl:=fU ha e;exact⟨_,Y,a,_,_,_,Y,Y,th.of B,cS (by decide) Y,Y,_,Y,aw ⟨_,Y,N,_,_,_,Y,Y,n7.of z,Y,p0,Y,⟨_,n7.of (k3 0 p0 q Y Y)⟩,Sk (k3 0 p0 q Y Y) hz (λo C R h=>⟨_,Y,_,Y,h⟩) λC p S h=>k p C (M.trans (.of S)) h⟩⟩
  |two e q r=>
   obtain⟨p0,p1,rfl⟩:∃x y,I=[x,y]:=match I,hl.trans Z with |[x,y],_=>⟨x,y,Y⟩
   have h0:=k3 0 p0 q Y Y;have h1:=k3 1 p1 r Y Y;obtain⟨_,_,e',_⟩:=hq;obtain rfl:=fU ha e';cases e with
   |false=>
    refine⟨_,Y,a,_,_,_,Y,Y,th.of B,cS (by decide) Y,Y,_,Y,ak ⟨_,Y,a,_,_,_,Y,Y,th.of B,cS (by decide) Y,Y,_,Y,aw ⟨_,Y,N,_,_,_,Y,Y,n7.of z,Y,_,Y,N,_,_,_,Y,Y,n7.of z,Y,p0,p1,_,_,Y,n7.of h0,n7.of h1,wK h0 h1 hz (λo C R h=>⟨_,Y,_,Y,?_⟩) λC p S h=>k p C (M.trans (.of S)) h⟩⟩⟩;rw[show (Tr.two d_ q r).holds D o=(q.holds D o && r.holds D o) from Y]at h;cases e:q.holds D o <;> rw[e]at h
    ·exact h
    ·exact⟨_,Y,h⟩
   |true=>
    refine⟨_,Y,a,_,_,_,Y,Y,th.of B,cS (by decide) Y,Y,_,Y,ak ⟨_,Y,a,_,_,_,Y,Y,th.of B,cS (by decide) Y,Y,_,Y,ak ⟨_,Y,N,_,_,_,Y,Y,n7.of z,Y,_,Y,N,_,_,_,Y,Y,n7.of z,Y,p0,p1,_,_,Y,n7.of h0,n7.of h1,wK h0 h1 hz (λo C R h=>⟨_,Y,_,Y,?_⟩) λC p S h=>k p C (M.trans (.of S)) h⟩⟩⟩;rw[show (Tr.two c0 q r).holds D o=(q.holds D o || r.holds D o) from Y]at h;cases e:q.holds D o <;> rw[e]at h
    ·exact⟨_,Y,h⟩
    ·exact h
open Classical in
theorem Pt{f:Key->V}(k:Key):∀(I acc:U (Key×V)),(∀p∈I,p.2=f p.1)->aP (I.foldl (λa p=>bR a p.1 p.2) acc) k=if k∈I.map GN then O (f k) else aP acc k
 |[],acc,_=>by simp_all
 |p::I,acc,h=>by
  simp only[Dn,Pt k I _ λp b=>h p (hE _ b),Rt]
  grind
open Classical in
theorem Q4{f:Key->V}{I:U (Key×V)}(h:∀p∈I,p.2=f p.1)(k:Key):aP (dB I) k=if k∈I.map GN then O (f k) else cx:=Pt k I [] h
theorem VL{k:Key}:(aP kvs k).isSome=c0↔k∈kvs.map GN:=by
 rw[←jv,E5,nk]
 grind
theorem MT(o:OI):ov o=kV (.inl o):=by cases o <;> rfl
theorem zfm(g:U OI):∃a:U OI,(dB (g.map λo=>((.inl o:Key),V.bl c0))).map (λb=>kV b.1)=a.map ov/\(∀o∈g,o∈a)/\a.length<=g.length:=by
 have f:=Q4 (f:=λ_=>.bl c0) (I:=g.map λo=>((.inl o),V.bl c0)) λp h=>by
  obtain⟨o,_,rfl⟩:=nk.mp h;rfl
 have c:∀k:Key,k∈(dB (g.map λo=>((.inl o),V.bl c0))).map GN↔∃o∈g,pw o=k:=λk=>by
  rw[←VL,f k]
  simp_all
 have d:=lK (g.map λo=>((.inl o),V.bl c0));rw[bd]at d;generalize dB (g.map λo=>((.inl o),V.bl c0))=kvs at c d;refine⟨kvs.map λb=>b.1.elim id λ_=>cx,?_,λo i=>?_,by simp_all⟩
 ·rw[p_];refine BW λb j=>?_;obtain⟨o,_,e⟩:=(c b.1).mp (CY j);show kV b.1=ov (b.1.elim id λ_=>cx);exact e ▸ (MT o).symm
 ·obtain⟨b,l,m⟩:=nk.mp ((c (.inl o)).mpr ⟨o,i,Y⟩);exact nk.mpr ⟨b,l,by rw[m];rfl⟩
theorem Wx{a:U OI}{f:OI->V}{o:OI}(h:o∈a):aP (dB ((a.map (pw:OI->Key)).zip (a.map f))) (.inl o)=O (f o):=by
 rw[List.zip_map',Q4 (f:=λk:Key=>k.elim f λ_=>.non) (λp b=>by obtain⟨o,_,rfl⟩:=nk.mp b;rfl),mu]
 ·rfl
 ·simp_all
def Fp(s:Sm)(o:OI):n_:=s.holds (ov o)
theorem y0(o:OI):ov o = .non\/GI (ov o):=by cases o;exact .inl Y;exact .inr ⟨_,Y⟩
theorem qE(x:HA H c q)(a:Ec A H)(r:RT A H C):HA C c q:=by obtain⟨Ar,b,Au,e,y⟩:=x;exact⟨Ar,b,Au,r.keep a e nofun,y⟩
inductive ZG(v z:V)(H:Hp)(Q:VK)(_E:XK):Prop
 |i(a l:ce)(s:Sm)(b:U OI)(_:v = .ref a)(_:z = .ref l)(_:(LQ GI).at' H a s)(_:∀w c,s≠.bad w c)(_:H l=O (.lst (b.map ov)))(_:b.length<=1000)(_:∀p Am,ad H Am->Am p=O (.lst ((b.map (Fp s)).map V.bl))->Q (.ref p) Am)
inductive Oz(A:Ad)(b:U V)(H:Hp)(Q:VK)(_E:XK):Prop
 |i(a p:ce)(q:Tr Sm)(g:U OI)(_:b=[.ref a,.ref p])(_:bc (LQ GI) H a q)(_:db A q=cx)(_:H p=O (.lst (g.map ov)))(_:g.length<=1000)(_:Ec A H)(_:∀r C,RT A H C->C r=O (.lst ((g.map (q.holds Fp)).map V.bl))->Q (.ref r) C)
theorem Yi:(["value"]:U hO).Nodup:=by decide +kernel
theorem Rr:(["value","found"]:U hO).Nodup:=by decide +kernel
theorem XA:(["value","simple"]:U hO).Nodup:=by decide +kernel
theorem YY(T:Txt K G A)(nd:Nd A)(B:gr u G)(kK:uG P w K G u q_ 8 "marked" ["asked","marks_of"] (oJ P w K G u A (LQ GI) (cQ A.aI) Fp 2 6))(pc:uG P w K G u q_ 1 "answers" ["simple","value"] (ub GI))(F:gt K "marked_values" "marked_values" tI f Ag A.jd A.p_marked_values):
  ap P w K G u q_ 9 f Ag ["question","values"] (Oz A):=by
 refine F.o ["question","values","each","marks","found"] λnN An N s H vs Q Ah hr h=>?_;obtain⟨a,p,q,g,rfl,hq,A6,hp,hz,AC,k⟩:=h;have hu:=iM hr;refine⟨_,(ao (aK (i:=2) nN Y (zs Y) (gL (wt Y) (by rfl) T.j6 PyProof.Rows.Boot.«list» (aa (gL (Tu Y) (by rfl) T.yA PyProof.Rows.Boot.«dict» (aa (bK (Ac:=["value"]) (fr:=[cx]) ⟨Y,Y,Y,Y,Y,Y⟩ Y (bV (pv 1))
    (λAj Ap s H=>⟨aH (i:=0) Yi Y (gS Y),bn,(cz (aa (pv 0) (aa fc ae)))⟩)) ae)) ae)))
  (ao (aK (i:=3) nN Y (gS Y) (kK.peZ (i:=2) (y := "each") hr av PH (aa (pv 0) (aa (oh Y Y F.hd B) ae)) Y Y Y Y))
  (ao (aK (i:=4) nN Y (zs Y) (Xk K Y (by rfl) T.yA (by rfl) T.jn (aa (pv 2) (aa (pv 3) ae))))
  (aj (aA (bK (Ac:=["value","found"]) (fr:=[cx,O 4]) ⟨Y,Y,Y,Y,Y,Y⟩ Y (bV (pv 1))
    (λAj Ap s H=>⟨aH (i:=0) Rr Y (gS Y),bn,(og hu (pv 1) (pv 0) (λ_ _=>rfl))⟩))))))),?_⟩
 refine⟨_,Y,p,Y,⟨_,n7.of hp⟩,⟨cE (E:=g.map ov) (λi acc C=>∃as:U ce,acc=as.map V.ref/\as.length=i/\ad H C/\∀(j:ft) b o,as[j]?=O b->g[j]?=O o->C b=O (.tup [ov o,.bl c0])) ⟨[],Y,Y,ad.refl _,nofun⟩ ?_ ?_ ?_ ?_⟩⟩
 ·rintro i acc C E ⟨as,rfl,rfl,s1,_⟩;exact⟨n7.of (s1 _ _ hp),by rw[bd];exact dv _⟩
 ·rw[bd];exact f' (aV hz)
 ·rintro i x acc C I e ⟨as,rfl,A0,s1,hk⟩;rw[bd]at e;rw[cc,a_ e]at I;cases I;refine⟨Wk.set Y,tT ⟨_,Y,by show 2<=fx;decide,λb hb=>cw (by rw[bd];exact e) ⟨as++[b],by rw[dn];rfl,by rw[gT,A0];rfl,ay s1 hb,λj b' o D J=>?_⟩⟩⟩;rcases Ih j as.length with hj |hj
  ·rw[kI hj]at D;exact ad.new hb _ _ (hk j b' o D J)
  ·rw[na hj]at D;have:j=as.length:=by have:=(cs.mp D).1;simp at this;omega
   subst this;simp at D;subst D;rw[A0,a_ e]at J;cases J;exact af
 ·rintro acc C ⟨as,rfl,L,s1,hk⟩ p1 y;rw[bd]at L;have s2:ad H (upd C p1 (.lst (as.map V.ref))):=ay s1 y;have A1:∀(j) b o,as[j]?=O b->g[j]?=O o->(upd C p1 (.lst (as.map V.ref))) b=O (.tup [ov o,.bl c0]):=λj b o D J=>ad.new y _ _ (hk j b o D J);have y:(upd C p1 (.lst (as.map V.ref))) p1=O (.lst (as.map V.ref)):=af;generalize upd C p1 (.lst (as.map V.ref))=Am at s2 A1 y;refine⟨p1,as,g.map λo=>(.inl o,.bl c0),Y,y,by rw[bd,L],λi b pr D J=>?_,λd hd=>⟨d,_,Y,af,λl A7=>?_⟩⟩
  ·rw[cc]at J;obtain⟨o,e3,rfl⟩:=rk.mp J;rw[A1 i b o D e3,MT]
  obtain⟨c,ee,A8,AD⟩:=zfm g;rw[ee];have m:ad H (upd (upd Am d (.dK (dB (g.map λo=>(.inl o,.bl c0))))) l (.lst (c.map ov))):=ay (ay s2 hd) A7;have h4:(upd (upd Am d (.dK (dB (g.map λo=>(.inl o,.bl c0))))) l (.lst (c.map ov))) l=O (.lst (c.map ov)):=af;generalize upd (upd Am d (.dK (dB (g.map λo=>(.inl o,.bl c0))))) l (.lst (c.map ov))=H4 at m h4;have U4:=AC.same m;refine⟨_,Y,U4.v,λH5 lm sb L kt LH=>⟨_,Y,λAr Au hc ed ru=>?_⟩⟩;have r5:=Y2 nd sb kt;obtain⟨pm,c',AE,eL,cd⟩:=LH;have h5:=r5.keep U4 h4 nofun;generalize s.heap.objs.size+1+1=R at hc eL ⊢;have s6:ad H5 (upd H5 R (DL Ar R)):=ad.new hc;have A2:(upd H5 R (DL Ar R)) R=O (DL Ar R):=af;have r6:=r5.trans (.of s6);have X:=r6.2 U4;have FL:=m6 (Aa:=P) (w:=w) (K:=K) (mg:=G) (base:=u) eL "simple" 1
   ZG
   ?S zD (λAn N s H v z Q Ah hr h=>?B) (λus L=>match us,L with |[_],_=>rfl)
  case S=>exact⟨Y,Y,Y,by decide,Y,by decide,.inr ⟨Y,λ_ _=>rfl⟩⟩
  case B=>
   refine⟨_,bK (fr:=[cx,O 0]) ⟨Y,Y,Y,Y,Y,Y⟩ Y (bV (pv 1)) (λAj Ap s H=>⟨aH (i:=0) XA Y (gS Y),bn,pc.pe hr av (aa (pv 1) (aa (pv 0) ae))⟩),?_⟩;obtain⟨a,l,q,c,rfl,rfl,ha,nb,L,hz,k⟩:=h;refine⟨_,Y,l,Y,⟨_,n7.of L⟩,⟨cE (K:=K) (E:=c.map ov) (λi acc C=>ad H C/\acc=((c.take i).map (Fp q)).map V.bl) ⟨ad.refl _,Y⟩ ?_ ?_ ?_ ?_⟩⟩
   ·rintro i acc C E ⟨m,rfl⟩;exact⟨n7.of (m _ _ L),by simp;omega⟩
   ·rw[bd];exact f' (aV hz)
   ·rintro i x acc C I e ⟨m,rfl⟩;have E:i<c.length:=by rw[bd]at e;exact e
    rw[cc,a_ E]at I;cases I;refine⟨Wk.set Y,tT ⟨_,Y,_,Y,a,q,ov c[i],Y,(LQ GI).kt (cA m) ha,nb,y0 _,cw e ⟨m,?_⟩⟩⟩;rw[Fa,a_ E,dn,dn];rfl
   ·rintro acc C ⟨m,rfl⟩ p hp;refine k p _ (ay m hp) ?_;rw[af,bd,gl]
  refine⟨a,lm,1,q,c,Y,(hq.kt (cA m)).kt (r6.kt U4),A6,by decide,by omega,X,⟨_,_,_,.inr ⟨_,_,_,_,s6 _ _ eL⟩,FL.1,FL.2,λH7 a' q' Q' E' M A9 A3 j=>?_⟩,λr H7 M h7=>?_⟩
  ·have n:=M.keep X A2 nofun;refine⟨.ref a',.ref l,Ar,Au,Y,⟨M.keep X (s6 _ _ eL) nofun,qE (HA.same cd s6) X M⟩,n,ed,ru,a',l,q',c,Y,Y,(LQ GI).kt (iJ n) A9,(λw vs z=>by rw[z]at A3;cases A3),(iJ n).lst (M.keep X (s6 _ _ h5) nofun),by omega,λp8 H8 s8 h8 n8=>j p8 _ (.of (tN s8 n)) ?_⟩;rw[ag λz=>?_]
   ·exact h8
   rw[z,n8]at h8;cases h8
  have AA:=M.keep X (s6 _ _ h5) nofun;have n:=M.keep X A2 nofun;have r8:=(RT.of m).trans (r5.trans (lN M hc ed));have A4:=(iJ n).lst h7;have A5:=(iJ n).lst AA;have Z:=r8.keep AC hp nofun;generalize del H7 R=H8 at r8 A4 A5 Z;refine⟨_,Y,_,Y,l,r,c.map pw,(c.map (q.holds Fp)).map V.bl,Y,?_,n7.of A4,by simp,λd hd=>⟨_,Y,p,Y,⟨_,n7.of (ad.new hd _ _ Z)⟩,?_⟩⟩
  ·rw[p_];exact n7.of (A5.trans (by rw[BW λo _=>MT o];rfl))
  have s9:ad H8 (upd H8 d (.dK (dB ((c.map pw).zip ((c.map (q.holds Fp)).map V.bl))))):=ad.new hd;have h9:(upd H8 d (.dK (dB ((c.map pw).zip ((c.map (q.holds Fp)).map V.bl))))) d=O (.dK (dB ((c.map pw).zip ((c.map (q.holds Fp)).map V.bl)))):=af;generalize upd H8 d (.dK (dB ((c.map pw).zip ((c.map (q.holds Fp)).map V.bl))))=H9 at s9 h9;rw[p_]at h9;refine⟨cE (E:=g.map ov) (λi acc C=>ad H9 C/\acc=((g.take i).map (q.holds Fp)).map V.bl) ⟨ad.refl _,Y⟩ ?_ ?_ ?_ ?_⟩
  ·rintro i acc C E ⟨m,rfl⟩;exact⟨n7.of (m _ _ (s9 _ _ Z)),by simp;omega⟩
  ·rw[bd];exact f' (aV hz)
  ·rintro i x acc C I e ⟨m,rfl⟩;have E:i<g.length:=by rw[bd]at e;exact e
   rw[cc,a_ E]at I;cases I;refine⟨Wk.set Y,tT ⟨_,Y,_,Y,d,.bl (q.holds Fp g[i]),Y,?_,cw e ⟨m,?_⟩⟩⟩
   ·have:=fh.k (k:=.inl g[i]) (m _ _ h9);rw[Wx (A8 _ (j' E)),←MT]at this;exact this
   rw[Fa,a_ E,dn,dn];rfl
  ·rintro acc C ⟨m,rfl⟩ r' AB;have s5:=ay (o:=.lst (((g.take (g.map ov).length).map (q.holds Fp)).map V.bl)) (s9.trans m) AB;refine k r' _ (r8.trans (.of s5)) ?_;rw[af,bd,gl]
def dk(f:OI->n_):ft->U OI->U (ft×OI)
 |_,[]=>[]
 |b,x::r=>if f x=c0 then (b,x)::dk f (b+1) r else dk f (b+1) r
theorem rn(f:OI->n_):∀(b:ft)(g As:U OI),dk f b (g++As)=dk f b g++dk f (b+g.length) As
 |b,[],As=>rfl
 |b,x::r,As=>by
  simp only[Js,dk,dk,rn f (b+1) r As,show b+1+r.length=b+(r.length+1) by exact Cf _ _ _];cases f x <;> rfl
theorem lp(f:OI->n_):∀(b:ft)(g:U OI),(dk f b g).length<=g.length
 |_,[]=>dv _
 |b,x::r=>by
  have:=lp f (b+1) r;simp only[dk];cases f x
  ·exact Cr this
  ·exact Gb this
theorem Z5(f:OI->n_)(b:ft)(g:U OI)(x:OI):dk f b (g++[x])=dk f b g++if f x=c0 then [(b+g.length,x)] else []:=by
 simp only[rn];rfl
def cY(H:Hp):U ce->U (ft×OI)->Prop
 |[],[]=>GX
 |a::as,p::I=>H a=O (.tup [.int p.1,ov p.2])/\cY H as I
 |_,_=>wa
theorem cY.len{H:Hp}:∀{as:U ce}{I:U (ft×OI)},cY H as I->as.length=I.length
 |[],[],_=>rfl
 |_::as,_::I,h=>tS (· + 1) (cY.len h.2)
theorem cY.kt{H C:Hp}(k:∀b g,H b=O (.tup g)->C b=O (.tup g)):∀{as:U ce}{I:U (ft×OI)},cY H as I->cY C as I
 |[],[],_=>trivial
 |_::as,_::I,h=>⟨k _ _ h.1,cY.kt k h.2⟩
theorem cY.app{H:Hp}{bs:U ce}{a:U (ft×OI)}(Ao:cY H bs a):∀{as:U ce}{I:U (ft×OI)},cY H as I->cY H (as++bs) (I++a)
 |[],[],_=>Ao
 |_::as,_::I,h=>⟨h.1,cY.app Ao h.2⟩
theorem cY.get{H:Hp}:∀{as:U ce}{I:U (ft×OI)}{i:ft}{a:ce},cY H as I->as[i]?=O a->∃p,I[i]?=O p/\H a=O (.tup [.int p.1,ov p.2])
 |_::as,p::I,0,_,h,e=>by cases e;exact⟨p,Y,h.1⟩
 |_::as,_::I,i+1,_,h,e=>cY.get (i:=i) h.2 e
theorem Ec.nt(a:Ec A H)(e:H b=O o)(n:∀I,o≠.tbl I):b∉gp A:=λc=>by obtain⟨I,z⟩:=a.tab c;rw[e]at z;cases z;exact n I Y
theorem oW{l:ce}{g:U V}(x:cB H p Av q)(e:H l=O (.lst g)):cB (upd H l o) p Av q:=by
 obtain⟨I,b,d,h⟩:=x;refine⟨I,by rw[ag λz=>by grind];exact b,d,h.imp id λ⟨c,f,h⟩=>⟨c,f,?_⟩⟩;obtain⟨Ar,i,A,a,r⟩:=h;exact⟨Ar,i,A,by rw[ag λz=>by rw[z,e]at a;cases a];exact a,r⟩
theorem Ec.lst{l:ce}{g:U V}(a:Ec A H)(e:H l=O (.lst g)):Ec A (upd H l o):=⟨oW a.c e,oW a.v e,oW a.w0 e,oW a.w1 e⟩
inductive OK(A:Ad)(b:U V)(H:Hp)(Q:VK)(Ah:XK):Prop
 |i(c a:ce)(q:Tr Sm)(g:U OI)(_:b=[.ref c,.ref a])(_:eF A.aY H c g)(_:Ex g=c0)(_:bc (LQ GI) H a q)(_:Ec A H)(_:db A q=cx->∀l as C,RT A H C->C l=O (.lst (as.map V.ref))->cY C as (dk (q.holds Fp) 0 g)->Q (.ref l) C)(_:∀Aj,db A q=O Aj->∀C,RT A H C->Ah (.ref Aj) cx C)
theorem yp:(["place","mark","begin","block"]:U hO).Nodup:=by decide +kernel
theorem UJ(T:Txt K G A)(jz:uG P w K G u (yl P w) 15 "check_question" ["question"] (ko A GI))(jH:uG P w K G u q_ 9 "unpacked" ["bits"] uO)(pL:uG P w K G u q_ 9 "marked_values" ["question","values"] (Oz A))(F:vr K "answering" "Column.answering" zP f Ag):ap P w K G u (yl P w) 16 f Ag ["self","question"] (OK A):=by
 refine F.oX ["self","question","found","begin","kind","block","marks"] λnN AB An A5 s H vs Q Ah hr h=>?_;obtain⟨c,a,q,g,rfl,N,ok,hq,A4,k1,k2⟩:=h;have hl:=iS ok;have A6:=wI g;refine⟨_,(ao (bf (jz.pe hr bU (aa (pv 1) ae)))
  (ao (aK (i:=2) nN Y (gS Y) (cP ae))
  (ao (aK (i:=3) nN Y (zs Y) ah)
  (ao (PS.nox (fg qw Y (bV (jH.pe hr av (aa (bz K (pv 0) Y) ae))) (eA K (n:=2) Y (bP (aH (i:=4) nN Y (gS Y)) (bP (aH (i:=5) nN Y (zs Y)) eB)))
   (ao (aK (i:=6) nN Y (gS Y) (pL.pe hr av (aa (pv 1) (aa (pv 5) ae))))
  (ao (bf (cU K mI GD GF yg (pv 2) (aa (bK (Ac:=["place","mark","begin","block"]) (fr:=[cx,cx,O 3,O 5]) ⟨Y,Y,Y,Y,Y,Y⟩ Y (zc K (by rfl) T.yC (aa (pv 6) ae))
    (λAj Ap s H=>⟨eA K (n:=2) Y (bP (aH (i:=0) yp Y (gS Y)) (bP (aH (i:=1) yp Y (gS Y)) eB)),(kg (cR (pv 1))),(cz (aa (aq aU (pv 2) (pv 0)) (aa (aG (bF K) (pv 3) (pv 0) (λ_ _=>rfl)) ae)))⟩)) ae)))
  (aj (zj (i:=3) nN Y (zs Y) (aL (cD K) (by rfl) T.bu PyProof.Rows.Boot.«len» (aa (pv 5) ae)) xI))))))
  (aj (aA (pv 2))))))),?_⟩
 refine⟨_,Y,a,q,Y,hq,A4,λz Ai r1=>?_,k2⟩
 ·have U1:=r1.2 A4;obtain⟨X,N⟩:=N;have N:=r1.keep A4 N nofun;have hq:=hq.kt (r1.kt A4);refine⟨bI Y,λl R=>?_⟩;have s1:ad Ai (upd Ai l (.lst [])):=ad.new R;have h1:(upd Ai l (.lst [])) l=O (.lst []):=af;have U2:=U1.same s1;have N:=s1 _ _ N;refine⟨_,Y,c,_,X,_,_,Y,N,T.dZ,T.kP,Y,gB g,?_,qH ok,by rw[mS];exact Qr ok,λlt H3 s3 A1 F3=>?_⟩
  ·rw[mS];rfl
  obtain⟨as,a1,a2,a3,a4⟩:=F3;have S:=wH g;have J:=qH ok;generalize gB g=bl at A6 S J a2 a3;have U3:=U2.same s3;have h3:=s3 _ _ h1;have A7:∀a∈as,a.1≠l/\a.2≠l:=λa ha=>by
   obtain⟨L,E⟩:=a4 a ha;exact⟨λz=>(by rw[z,h1]at L;cases L),λz=>(by rw[z,h1]at E;cases E)⟩
  have A8:lt≠l:=λz=>by rw[z,h1]at A1;cases A1
  refine⟨lt,Y,⟨_,n7.of a1⟩,⟨jV (K:=K) (a:=lt) (E:=as.map λa=>V.ref a.1) (λk σ C=>∃(v4 v5 v6:eH V)(j:U ce),σ=[O (.ref c),O (.ref a),O (.ref l),O (.int (((bl.take k).map (·.2)).flatten.length:ft)),v4,v5,v6]/\(∀b o,b≠l->b∉gp A->H3 b=O o->C b=O o)/\Ec A C/\C l=O (.lst (j.map V.ref))/\cY C j (dk (q.holds Fp) 0 ((bl.take k).map (·.2)).flatten))
   ⟨cx,cx,cx,[],Y,λb o _ _ e=>e,U3,h3,trivial⟩ ?_ ?_ ?_⟩⟩
  ·rintro k σ C hk ⟨_,_,_,_,_,h,_⟩;exact n7.of (h _ _ A8 (U3.nt a1 (by nofun)) a1)
  ·rintro k y σ H4 hy ⟨v4,v5,v6,j,rfl,k4,Z,g4,n⟩;have A0:k<as.length:=by
    have:=(cs.mp hy).1
    rwa[bd]at this
   rw[cc,a_ A0]at hy;cases hy;have ec:bl[k]?=O (bl[k]'(by omega)):=a_ (by omega);obtain⟨z1,z2⟩:=a3 k as[k] _ (a_ A0) ec;obtain⟨L,E⟩:=A7 _ (j' A0);have z1:=k4 _ _ L (U3.nt z1 (by nofun)) z1;have z2:=k4 _ _ E (U3.nt z2 (by nofun)) z2;have J:=(gg (J _ (j' (by omega:k<bl.length))).1).2;have tk:bl.take (k+1)=bl.take k++[bl[k]'(by omega)]:=by rw[ke,ec];rfl
   have v:(((bl.take (k+1)).map (·.2)).flatten).length<=g.length:=by
    conv=>rhs;rw[←S,←ES (k+1) bl,dn,CU,gT]
    exact Gi _ _
   have A2:((bl.take (k+1)).map (·.2)).flatten=((bl.take k).map (·.2)).flatten++(bl[k]'(by omega)).2:=by rw[tk,dn];simp
   rw[A2,gT]at v;rw[A2];generalize ((bl.take k).map (·.2)).flatten=fl at n v ⊢;generalize bl[k].2=d at z2 J v ⊢;have A9:=hq.kt λb o e=>by
    cases o with
    |tbl I=>exact .inr (.inl ⟨I,Y⟩)
    |_=>exact .inl (k4 b _ (aF e R) (U1.nt e (by nofun)) (s3 _ _ (s1 _ _ e)))
   refine⟨as[k].1,_,Y,th.of z1,Y,_,_,Y,_,_,Y,Y,?_⟩;refine⟨_,Y,_,Y,a,as[k].2,q,d,Y,A9,z,z2,by omega,Z,λr H5 r5 h5=>?_⟩;have z5:=r5.keep Z z2 nofun;have g5:=r5.keep Z g4 nofun;have U5:=r5.2 Z;have M:=n.kt λb As e=>r5.keep Z e nofun;have k5:=λb o L E e=>r5.1 b o E (k4 b o L E e);have AC:=lp (q.holds Fp) 0 fl;have AD:=M.len;refine⟨_,Y,.inl ⟨Y,_,n7.of g5⟩,_,Y,r,_,Y,n7.of h5,kX (n:=d.length) (λi acc C=>∃bs:U ce,acc=bs.map V.ref/\ad H5 C/\cY C bs (dk (q.holds Fp) fl.length (d.take i))) ⟨[],Y,ad.refl _,trivial⟩ ?_ (f' (aV (by omega))) ?_ ?_⟩
   ·rintro i acc H6 B ⟨bs,rfl,s6,ab⟩;have:=lp (q.holds Fp) fl.length (d.take i);rw[gv]at this;have l2:=ab.len;refine⟨by rw[bd];omega,λB=>⟨_,_,n7.of (s6 _ _ h5),by rw[cc,cc,a_ B];rfl⟩,λB=>⟨_,n7.of (s6 _ _ h5),by rw[bd,bd];exact B⟩⟩
   ·rintro i x acc H6 H7 B ⟨bs,rfl,s6,ab⟩ ⟨T',A3,rfl,hy⟩;obtain⟨y,ey,rfl⟩:=hy _ (n7.of (s6 _ _ h5));rw[cc,cc,a_ B]at ey;cases ey;refine⟨T',_,Y,th.of af,Y,_,_,Y,_,_,Y,Y,(Wk.set Y).trans (Wk.set Y),_,Y,?_⟩;refine⟨_,Y,?_⟩;have AA:d.take (i+1)=d.take i++[d[i]]:=by rw[ke,a_ B];rfl
    have ht:=Z5 (q.holds Fp) fl.length (d.take i) d[i];rw[←AA,gv,Cj (f' B)]at ht;have D:=ay (o:=.tup [.int i,.bl (q.holds Fp d[i])]) s6 A3;have m:=ab.kt λb As e=>ad.new (o:=.tup [.int i,.bl (q.holds Fp d[i])]) A3 b _ e;generalize upd H6 T' (.tup [.int i,.bl (q.holds Fp d[i])])=H7 at D m ⊢;cases e:q.holds Fp d[i]with
    |false=>
     refine ak (cw B ⟨bs,Y,D,?_⟩);rw[ht,e];simpa using m
    |true=>
     refine aw ⟨_,Y,_,Y,_,_,Y,Y,_,Y,_,Y,as[k].2,_,_,_,Y,Y,n7.of (D _ _ z5),dX (by rw[cc,a_ B];rfl),by show 2<=fx;decide,λb hb=>cw B ⟨bs++[b],by rw[dn];rfl,ay D hb,?_⟩⟩;rw[ht,e];refine cY.app ?_ (m.kt λb' As e=>ad.new hb b' _ e);exact⟨af,trivial⟩
   ·rintro acc H6 ⟨bs,rfl,s6,ab⟩ p hp;rw[gl]at ab;have AE:=lp (q.holds Fp) fl.length d;have AF:=ab.len;have D:=ay (o:=.lst (bs.map V.ref)) s6 hp;have m:=ab.kt λb As e=>ad.new (o:=.lst (bs.map V.ref)) hp b _ e;have h7:(upd H6 p (.lst (bs.map V.ref))) p=O (.lst (bs.map V.ref)):=af;generalize upd H6 p (.lst (bs.map V.ref))=H7 at D m h7 ⊢;have g7:=D _ _ g5;refine⟨l,p,_,_,Y,Y,g7,h7,?_,_,Y,_,Y,as[k].2,d.map ov,Y,.inl (n7.of ?_),_,_,Y,Y,O (.str (bH.getD bl[k].1 "")),O (.ref as[k].2),O (.ref r),j ++ bs,?_,λb o L E e=>?_,(U5.same D).lst g7,?_,?_⟩
    ·rw[bd,bd];exact f' (aV (by omega))
    ·rw[ag E];exact D _ _ z5
    ·rw[bd,gT];rfl
    ·rw[ag L];exact D _ _ (k5 b o L E e)
    ·rw[af,dn]
    ·rw[rn,Eb];have kt:∀b As,H7 b=O (.tup As)->upd H7 l (.lst (j.map V.ref++bs.map V.ref)) b=O (.tup As):=λb As e=>by
      rw[ag λz=>by rw[z,g7]at e;cases e];exact e
     exact cY.app (m.kt kt) ((M.kt λb As e=>D b _ e).kt kt)
  ·rintro σ H4 ⟨v4,v5,v6,j,rfl,k4,Z,g4,n⟩;rw[bd,a2,gl,S]at n;refine⟨_,Y,k1 z l j H4 ⟨λb o nb e=>?_,λ_=>Z⟩ g4 n⟩;have e:=r1.1 b o nb e;exact k4 b o (aF e R) nb (s3 _ _ (s1 _ _ e))
theorem RT.free{l:ce}(r:RT A H Ai)(b:Ec A Ai)(h:Ai l=cx):H l=cx:=by
 cases e:H l with
 |none=>rfl
 |some o=>
  have:=r.1 l o (λz=>by obtain⟨_,a⟩:=b.tab z;rw[h]at a;cases a) e
  grind
inductive oN(A:Ad)(b:U V)(H:Hp)(Q:VK)(Ah:XK):Prop
 |i(c a:ce)(q:Tr Sm)(g:U OI)(_:b=[.ref c,.ref a])(_:eF A.aY H c g)(_:Ex g=c0)(_:bc (LQ GI) H a q)(_:Ec A H)(_:db A q=cx->∀l C,RT A H C->C l=O (.lst (((dk (q.holds Fp) 0 g).map λp=>(p.1:gV)).map V.int))->H l=cx->Q (.ref l) C)(_:∀Aj,db A q=O Aj->∀C,RT A H C->Ah (.ref Aj) cx C)
theorem yq:(["row","value"]:U hO).Nodup:=by decide +kernel
theorem Zd(T:Txt K G A)(S:aZ P w K G u (yl P w) 16 A.aY "answering" ["self","question"] (OK A))(F:vr K "rows" "Column.rows" zT f Ag):
  ap P w K G u (yl P w) 17 f Ag ["self","question"] (oN A):=by
 obtain⟨Z,A0,m,n,r⟩:=S;refine F.oX ["self","question"] λnN A1 An v s H vs Q Ah hr h=>?_;obtain⟨c,a,q,g,rfl,⟨X,J⟩,ok,hq,L,j,k2⟩:=h;have hl:=iS ok;refine⟨_,(aj (aA (bK (Ac:=["row","value"]) (fr:=[cx,cx]) ⟨Y,Y,Y,Y,Y,Y⟩ Y (bV (bp (pv 0) T.dZ n m (hr.mono (by decide)) r .nil bU (aa (pv 1) ae)))
    (λAj Ap s H=>⟨eA K (n:=2) Y (bP (aH (i:=0) yq Y (gS Y)) (bP (aH (i:=1) yq Y (gS Y)) eB)),bn,(pv 0)⟩)))),?_⟩
 refine⟨_,Y,c,X,_,Y,J,Y,_,Y,c,a,q,g,Y,⟨X,J⟩,ok,hq,L,λz l as Ai y M b=>?_,k2⟩;have B:=lp (q.holds Fp) 0 g;have j:=j z;generalize dk (q.holds Fp) 0 g=I at b j B;have D:=b.len;refine⟨l,Y,⟨_,n7.of M⟩,⟨cE (K:=K) (E:=as.map V.ref) (λi acc C=>ad Ai C/\acc=((I.take i).map λp=>(p.1)).map V.int) ⟨ad.refl _,Y⟩ ?_ ?_ ?_ ?_⟩⟩
 ·rintro i acc C E ⟨d,rfl⟩;exact⟨n7.of (d _ _ M),by rw[bd,bd,gv];exact Dt ..⟩
 ·rw[bd];exact f' (aV (by omega))
 ·rintro i x acc C N e ⟨d,rfl⟩;have E:i<as.length:=by rw[bd]at e;exact e
  rw[cc,a_ E]at N;cases N;obtain⟨p,ep,ha⟩:=b.get (a_ E);refine⟨as[i],_,Y,th.of (d _ _ ha),Y,_,_,Y,_,_,Y,Y,(Wk.set Y).trans (Wk.set Y),tT ⟨_,Y,cw e ⟨d,?_⟩⟩⟩;rw[ke,ep,dn,dn];rfl
 ·rintro acc C ⟨d,rfl⟩ p R;refine j p _ (y.trans (.of (ay d R))) ?_ (y.free (y.2 L) (d.free R));rw[af,bd,D,gl]
def GS(v:V):Prop:=∃z,v = .str z
theorem WX:Cm GS:=by rintro _ _ ⟨a,e⟩ ⟨b,f⟩;exact .inr ⟨a,b,e,f⟩
def Tr.map{α β:Type}(f:α->β):Tr α->Tr β
 |.lf x=>.lf (f x)
 |.neg q=>.neg (q.map f)
 |.two e q r=>.two e (q.map f) (r.map f)
 |.bad w a=>.bad w a
theorem mQ{α β:Type}{f:α->β}{c:β->eH ce}{z:ce}:∀(q:Tr α)(d:ft),DB c z d (q.map f)=DB (λx=>c (f x)) z d q
 |.lf x,d=>rfl
 |.neg q,d=>by simp only[Tr.map,DB,DB,mQ q]
 |.two e q r,d=>by simp only[Tr.map,DB,DB,mQ q,mQ r]
 |.bad w a,d=>rfl
theorem nu{α β γ δ:Type}{f:α->β}{a:β->γ->n_}{c:α->δ->n_}{b:γ}{d:δ}(h:∀x,a (f x) b=c x d):∀q:Tr α,(q.map f).holds a b=q.holds c d
 |.lf x=>h x
 |.neg q=>by simp only[Tr.map,Tr.holds,Tr.holds,nu h q]
 |.two e q r=>by simp only[Tr.map,Tr.holds,Tr.holds,nu h q,nu h r]
 |.bad w g=>rfl
def Sm.num(N:U hO):Sm->Sm
 |.zero b=>.zero b
 |.bad w a=>.bad w a
 |s=>.among (((bv N).filter λc=>s.holds (kV c.1)).map (·.2))
theorem lA:∀(n:ft)(N:U hO)(i:ft),(eQ n N)[i]?=N[i]?.map λz=>(.inr z,.int ((n+i:ft):gV))
 |n,[],i=>rfl
 |n,z::r,0=>rfl
 |n,z::r,i+1=>by
  show (eQ (n+1) r)[i]?=_;rw[lA (n+1) r i,Cf];rfl
theorem UV{f:V->n_}{i:gV}(h0:0<=i)(n:i<N.length):GP (.int i) (((bv N).filter λd=>f (kV d.1)).map (·.2))=f (.str (N.getD i.toNat "")):=by
 have e:(bv N)[i.toNat]?=O (.inr (N.getD i.toNat ""),.int i):=by
  rw[bv,lA,nn,a_ (by simp_all)];simp;lia
 rw[x0,GP,E5];constructor
 ·rintro⟨x,g,l⟩;obtain⟨d,b,rfl⟩:=nk.mp g;obtain⟨b,m⟩:=Di.mp b;obtain⟨j,c⟩:=oT b;have a:=c;simp only[bv,lA]at a;obtain⟨z,hz,rfl⟩:=rk.mp a;have:((0+j):gV)=i:=eq_of_beq l;rw[show j=i.toNat by lia,e]at c;rw[FO (tS GN (kn c):(CC _)=CC z)];exact m
 ·intro h;exact⟨.int i,nk.mpr ⟨_,Di.mpr ⟨eT e,h⟩,Y⟩,beq_self_eq_true i⟩
theorem zjA{o:OI}(h:∀i,o=O i->0<=i/\i<N.length)(s:Sm):Fp (s.num N) o=s.holds (dW N o):=by
 cases o with
 |none=>cases s <;> rfl
 |some i=>
  obtain⟨h0,a⟩:=h i Y;cases s with
  |zero b=>cases b <;> rfl
  |bad w c=>rfl
  |_=>exact UV h0 a
theorem YR{f:V->n_}{v:V}(h:v∈((bv N).filter λa=>f (kV a.1)).map (·.2)):GI v:=by
 obtain⟨a,c,rfl⟩:=nk.mp h;obtain⟨j,b⟩:=oT (Di.mp c).1;simp only[bv,lA]at b;obtain⟨z,_,rfl⟩:=rk.mp b;exact⟨_,Y⟩
theorem yO(f:V->n_)(i:ft):((((bv N).take i).filter λa=>f (kV a.1)).map (·.2)).length<=i:=by
 rw[bd];exact jE (ER _ _) (List.length_take_le _ _)
inductive Xn(A:Ad)(m:ft)(g:U V)(H:Hp)(Q:VK)(_E:XK):Prop
 |i(a b c d:ce)(N:U hO)(J:U OI)(q:Tr Sm)(e:ft)(_:g=[.ref a,.ref b])(_:fK A H a c d N J)(_:N.length<=1000)(_:bc (LQ GS) H b q)(_:DB (cQ A.aI) A.aI e q=cx)(_:6<=e+m)(_:∀f C,ad H C->bc (LQ GI) C f (q.map (Sm.num N))->Q (.ref f) C)
def um(A:Ad):ft->Sp
 |0=>λ_ _ _ _=>wa
 |m+1=>Xn A m
theorem YV:(["part","self"]:U hO).Nodup:=by decide +kernel
theorem yu:(["word","number","question"]:U hO).Nodup:=by decide +kernel
theorem Uv(T:Txt K G A)(gU:uG P w K G u q_ 1 "is_joined" ["asked"] oG)(pc:uG P w K G u q_ 1 "answers" ["simple","value"] (ub GS))(CI:aZ P w K G u q_ (1+m) A.bJ "in_numbers" ["self","question"] (um A m))(F:vr K "in_numbers" "WordColumn.in_numbers" OJ f Ag):ap P w K G u q_ (1+m+1) f Ag ["self","question"] (um A (m+1)):=by
 obtain⟨AK,AL,p6,rK,qt⟩:=CI;refine F.o ["self","question"] λnN AM An AB s H vs Q Ah hr h=>?_;obtain⟨a,b,c,d,N,J,q,e,rfl,W,hw,hq,R,hm,k⟩:=h;obtain⟨x,g,D,hx,hf⟩:=hq.form (cQ A.aI) A.aI;have he:=gA R;refine⟨_,(ao (aN (cR (gU.pe hr av (aa (pv 1) ae) (by omega))) (aj (aA (gL (wx K) (by rfl) T.nR PyProof.Rows.Boot.«tuple» (aa (aq jp (cP (aa (aG (aT K) (pv 1) ah (λ_ _=>rfl)) ae)) (bK (Ac:=["part","self"]) (fr:=[cx,O 0]) ⟨Y,Y,Y,Y,Y,Y⟩ Y (j9 (gk (km K) (pv 1) (fe ah) iV))
    (λAj Ap s H=>⟨aH (i:=0) YV Y (gS Y),bn,(bp (pv 1) T.d0 rK p6 (hr.mono (by omega)) qt .nil av (aa (pv 0) ae))⟩))) ae))))
   aO)
  (ao (aN (aE (iU K) (aG (aT K) (pv 1) ah (λ_ _=>rfl)) (cz (aa au (aa au ae))) (by rfl)) (aj (aA (pv 1)))
   aO)
  (aj (aA (cz (aa au (aa (zlR (bK (Ac:=["word","number","question"]) (fr:=[cx,cx,O 1]) ⟨Y,Y,Y,Y,Y,Y⟩ Y (Z2 (VD (bz K (pv 0) Y)))
    (λAj Ap s H=>⟨eA K (n:=2) Y (bP (aH (i:=0) yu Y (gS Y)) (bP (aH (i:=1) yu Y (gS Y)) eB)),(kg (cR (pc.pe hr av (aa (pv 2) (aa (pv 0) ae)) (by omega)))),(pv 1)⟩))) ae))))))),?_⟩
 refine⟨_,Y,b,_,_,Y,D,_,Y,?_⟩;rcases hf with⟨s,rfl,hs,hj⟩ |⟨n,hn,hf⟩
 ·rw[hj];have nb:∀w vs,s≠.bad w vs:=λw vs z=>by subst z;exact hQ ((ks (by omega)).symm.trans R) nofun
  refine ak ⟨_,Y,b,_,_,_,Y,Y,th.of D,cS (by decide) Y,by show 2<=fx;decide,λp0 AC=>⟨p0,_,Y,.inr (th.of af),Y,Y,?_⟩⟩;have nz:(∃z,s = .zero z)\/(GP (.str x) [.str "all", .str "none"]=d_/\s.num N = .among (((bv N).filter λB=>s.holds (kV B.1)).map (·.2))):=by
   cases s with
   |zero z=>exact .inl ⟨z,Y⟩
   |bad w vs=>exact hQ Y (nb w vs)
   |one n v=>
    obtain rfl:=fU D hs.1;exact .inr ⟨match n with |0=>rfl |1=>rfl |_+2=>rfl,Y⟩
   |among vs=>
    obtain⟨l,e,_⟩:=hs.1;obtain rfl:=fU D e;exact .inr ⟨Y,Y⟩
  have s1:ad H (upd H p0 (.tup [.str "all", .str "none"])):=ad.new AC;generalize upd H p0 (.tup [.str "all", .str "none"])=Ai at s1;have A2:=(LQ GS).kt (cA s1) hs;rcases nz with⟨z,rfl⟩ |⟨ni,en⟩
  ·obtain rfl:=fU D hs.1;cases z <;> exact⟨_,Y,aw ⟨_,Y,k b _ s1 ⟨A2.1,nofun⟩⟩⟩
  rw[ni];obtain⟨⟨X,h1⟩,_,h3⟩:=W.same s1;refine⟨_,Y,ak ⟨d,bv N,h3,λo=>⟨_,Y,a,_,X,_,_,Y,by rw[ag (bO h1 h3 nofun)];exact h1,T.d0,T.mG,Y,d,bv N,Y,.inr ⟨o,af⟩,λp hp=>⟨p,d,o,bv N,Y,af,?_,?_⟩⟩⟩⟩
  ·rw[ag (aF af hp)];exact af
  have kf:∀b Au,b≠d->Ai b=O Au->(upd (upd Ai d (.frz o (.dK (bv N)))) p (jL p d)) b=O Au:=λb Au n e=>by
   have e:(upd Ai d (.frz o (.dK (bv N)))) b=O Au:=by rw[ag n];exact e
   rw[ag (aF e hp)];exact e
  have A0:(upd (upd Ai d (.frz o (.dK (bv N)))) p (jL p d)) d=O (.frz o (.dK (bv N))):=by rw[ag (aF af hp)];exact af
  generalize upd (upd Ai d (.frz o (.dK (bv N)))) p (jL p d)=Am at kf A0;have AD:=(LQ GS).kt (λb Au e=>by
   by_cases z:b=d
   ·subst z;rw[h3]at e;cases e;exact .inr (.inr (.inr ⟨_,Y⟩))
   ·exact .inl (kf b Au z e)) A2
  have hl:(bv N).length=N.length:=rY 0 N;refine kX (n:=(bv N).length) (λi acc C=>ad Am C/\acc=(((bv N).take i).filter λB=>s.holds (kV B.1)).map (·.2)) ⟨ad.refl _,Y⟩ ?_ (f' (aV (by omega))) ?_ ?_
  ·rintro i acc C hi ⟨E,rfl⟩;exact⟨yO _ i,λh=>⟨E _ _ A0,h⟩,λh=>⟨E _ _ A0,h⟩⟩
  ·rintro i v acc C _ hi ⟨E,rfl⟩ ⟨p1,kk,y,AE,rfl,ek,rfl⟩;have S:=ay (o:=.tup [kV kk,y]) E AE;have A3:=ek;rw[bv,lA]at A3;obtain⟨z,_,e2⟩:=rk.mp A3;cases e2;refine⟨p1,_,Y,th.of af,Y,_,_,Y,_,_,Y,Y,(Wk.set Y).trans (Wk.set Y),_,Y,_,Y,b,s,.str z,Y,(LQ GS).kt (cA S) AD,nb,.inr ⟨z,Y⟩,_,Y,?_⟩;have et:(((bv N).take (i+1)).filter λB=>s.holds (kV B.1)).map (·.2)=(((bv N).take i).filter λB=>s.holds (kV B.1)).map (·.2)++if s.holds (.str z)=c0 then [.int ((0+i:ft):gV)] else []:=by
    rw[ke,ek,IS,dn];show _++Kk _ (Ir _ [_])=_;rw[E4];show _++Kk _ (if s.holds (.str z)=c0 then _ else _)=_;cases s.holds (.str z) <;> rfl
   cases e:s.holds (.str z) with
   |false=>
    refine ak (cw hi ⟨S,?_⟩);rw[et,e];simp
   |true=>
    refine aw ⟨_,Y,cw hi ⟨S,?_⟩⟩;rw[et,e];rfl
  ·rintro acc C ⟨E,rfl⟩ l AF;rw[gl];have S:=ay (o:=.lst (((bv N).filter λB=>s.holds (kV B.1)).map (·.2))) E AF;have h4:(upd C l (.lst (((bv N).filter λB=>s.holds (kV B.1)).map (·.2)))) l=_:=af;generalize upd C l (.lst (((bv N).filter λB=>s.holds (kV B.1)).map (·.2)))=H4 at S h4;have A4:=S _ _ A0;refine⟨A4,by show 2<=fx;decide,λp2 A5=>k p2 _ (ay (λb Au e=>?_) A5) ?_⟩
   ·have e:=s1 _ _ e;by_cases z:b=d
    ·subst z;rw[h3]at e;cases e;exact af
    ·rw[ag z];exact S _ _ (kf b Au z e)
   ·show (LQ GI).at' _ _ (s.num N);rw[en];have nl:l≠d:=bO h4 A4 nofun;have h5:(upd H4 d (.dK (bv N))) l=O (.lst (((bv N).filter λB=>s.holds (kV B.1)).map (·.2))):=by rw[ag nl];exact h4
    have:=yO (N:=N) s.holds (bv N).length;rw[gl]at this;exact⟨⟨l,af,by rw[ag (aF h5 A5)];exact h5,by omega⟩,λv=>YR⟩
 rw[hn];rcases hf with⟨_,_,_,rfl⟩ |⟨_,bs,rfl,L,AN,AG,ep⟩
 ·cases R
 have AH:=R;have R:=Eg.mp ((ep e he).symm.trans R);have L:bs.length=(show Tr Sm from q).parts.length:=L;refine aw ⟨_,Y,b,_,_,_,Y,Y,th.of D,cS (by decide) Y,by show 1<=fx;decide,λl0 AI=>?_⟩;have s0:ad H (upd H l0 (.lst [.str x])):=ad.new AI;have h0:(upd H l0 (.lst [.str x])) l0=O (.lst [.str x]):=af;show PJ _ _ _ _ _ (upd H l0 (.lst [.str x])) _;generalize upd H l0 (.lst [.str x])=H0 at s0 h0;refine⟨_,Y,1,Y,b,_,Y,th.of (s0 _ _ D),kD _ _,λpt A6=>⟨pt,Y,⟨_,th.of af⟩,?_⟩⟩;have ec:dF (V.str x::bs.map V.ref) (O 1) cx=bs.map V.ref:=kB _ _;rw[ec];have s1:ad H (upd H0 pt (.tup (bs.map V.ref))):=ay s0 A6;have h0:=ad.new (o:=.tup (bs.map V.ref)) A6 _ _ h0;have h1:(upd H0 pt (.tup (bs.map V.ref))) pt=O (.tup (bs.map V.ref)):=af;generalize upd H0 pt (.tup (bs.map V.ref))=Ai at s1 h1 h0;refine⟨mT (E:=bs.map V.ref) (λi acc C=>∃I:U ce,acc=I.map V.ref/\I.length=i/\ad Ai C/\∀(k:ft) p r,I[k]?=O p->q.parts[k]?=O r->bc (LQ GI) C p (r.map (Sm.num N))) ⟨[],Y,Y,ad.refl _,nofun⟩ ?_ ?_ ?_ ?_⟩
 ·rintro i acc C hi ⟨I,rfl,rfl,s2,_⟩;exact⟨th.of (s2 _ _ h1),by rw[bd];exact dv _⟩
 ·rw[bd];exact f' (aV (by omega))
 ·rintro i x acc C hx AJ ⟨I,rfl,A7,s2,hk⟩;rw[cc]at hx;obtain⟨b,D,rfl⟩:=rk.mp hx;have hi:i<q.parts.length:=by rw[←L];exact (cs.mp D).1
  have A8:=a_ hi;have R:=R _ (j' hi);have:=gA R;obtain⟨m',rfl⟩:∃m',m=m' + 1:=⟨m - 1,by omega⟩
  have E:=s1.trans s2;have W3:=W.same E;obtain⟨⟨X,hI⟩,_⟩:=id W3;refine⟨Wk.set Y,tT ⟨_,Y,a,X,_,Y,hI,Y,_,Y,a,b,c,d,N,J,q.parts[i],e+1,Y,W3,hw,(AG i b _ D A8).kt (cA E),R,by omega,λp H3 S h3=>cw AJ ⟨I++[p],by rw[dn];rfl,by rw[gT,A7];rfl,s2.trans S,λk p' r Z e2=>?_⟩⟩⟩;rcases Ih k I.length with A1 |A1
  ·rw[kI A1]at Z;exact (hk k p' r Z e2).kt (cA S)
  ·rw[na A1]at Z;have:k=I.length:=by have:=(cs.mp Z).1;simp at this;omega
   subst this;simp at Z;subst Z;rw[A7,A8]at e2;cases e2;exact h3
 ·rintro acc C ⟨I,rfl,hl,s2,hk⟩ pl M;rw[bd]at hl;have E:ad Ai (upd C pl (.lst (I.map V.ref))):=ay s2 M;have k3:∀(k:ft) p r,I[k]?=O p->q.parts[k]?=O r->bc (LQ GI) (upd C pl (.lst (I.map V.ref))) p (r.map (Sm.num N)):=λk p r Z e2=>(hk k p r Z e2).kt (cA (ad.new M));have M:(upd C pl (.lst (I.map V.ref))) pl=O (.lst (I.map V.ref)):=af;generalize upd C pl (.lst (I.map V.ref))=H3 at E k3 M;refine⟨l0,pl,_,_,Y,Y,E _ _ h0,M,f' (aV (by simp;omega)),λp5 A9=>⟨p5,_,Y,.inl ⟨n7.of af,λpp AA=>k pp _ (ay (ay (s1.trans E) A9) AA) ?_⟩⟩⟩;have k5:=λk p r Z e2=>(k3 k p r Z e2).kt (cA (ay (o:=.tup (.str x::I.map V.ref)) (ad.new A9) AA));cases q with
  |lf y=>obtain⟨_,_,e,_,j⟩:=(LQ GS).tup hq;cases D.symm.trans e;rw[j]at hn;cases hn
  |bad x vs=>exact hQ (AH.symm.trans Y) nofun
  |neg q=>
   obtain⟨p0,rfl⟩:=HJ.mp (hl.trans L);obtain⟨_,e,_⟩:=hq;obtain rfl:=fU D e;exact⟨p0,af,k5 0 p0 q Y Y⟩
  |two e q r=>
   obtain⟨p0,p1,rfl⟩:∃x y,I=[x,y]:=match I,hl.trans L with |[x,y],_=>⟨x,y,Y⟩
   obtain⟨_,_,e',_⟩:=hq;obtain rfl:=fU D e';exact⟨p0,p1,af,k5 0 p0 q Y Y,k5 1 p1 r Y Y⟩
theorem lq{α γ δ:Type}{a:α->γ->n_}{c:α->δ->n_}{b:γ}{d:δ}(h:∀x,a x b=c x d):∀q:Tr α,q.holds a b=q.holds c d
 |.lf x=>h x
 |.neg q=>by simp only[Tr.holds,Tr.holds,lq h q]
 |.two e q r=>by simp only[Tr.holds,Tr.holds,lq h q,lq h r]
 |.bad w f=>rfl
def ff(f:V->n_):ft->U V->U gV
 |_,[]=>[]
 |n,x::r=>if f x=c0 then (n:gV)::ff f (n+1) r else ff f (n+1) r
theorem rp{f:OI->n_}{Ao:OI->V}{h:V->n_}:∀{g:U OI}(n:ft),(∀o∈g,f o=h (Ao o))->(dk f n g).map (λp=>(p.1:gV))=ff h n (g.map Ao)
 |[],n,_=>rfl
 |x::r,n,e=>by
  have a:=rp (g:=r) (n+1) λo b=>e o (hE _ b);simp only[dk,n5,ff,e x (j_ ..),←a];cases h (Ao x) <;> rfl
theorem Ui(q:Tr Sm)(g:U OI):(dk (q.holds Fp) 0 g).map (λp=>(p.1:gV))=ff (q.holds Sm.holds) 0 (g.map ov):=rp 0 λo _=>lq (a:=Fp) (c:=Sm.holds) (λs=>rfl) q
theorem UF(q:Tr Sm){J:U OI}(hR:inR N J):(dk ((q.map (Sm.num N)).holds Fp) 0 J).map (λp=>(p.1:gV))=ff (q.holds Sm.holds) 0 (J.map (dW N)):=rp 0 λo a=>nu (c:=Sm.holds) (λs=>zjA (λi e=>hR i (e ▸ a)) s) q
theorem zf{f:V->n_}:∀{g:U V}{n:ft}{i:gV},i∈ff f n g->(n:gV)<=i
 |x::r,n,i,h=>by
  rw[ff]at h;have a:=λh=>zf (f:=f) (g:=r) (n:=n+1) (i:=i) h;cases e:f x <;> rw[e]at h
  ·have:=a h;exact EF ‹_›
  ·rcases f_.mp h with h |h
   ·simp_all
   ·have:=a h;exact EF ‹_›
theorem zg{f:V->n_}:∀{g:U V}{n k:ft}{x:V},g[k]?=O x->(((n+k:ft):gV)∈ff f n g↔f x=c0)
 |y::r,n,0,_,h=>by
  cases h;simp only[ff];cases e:f y
  ·exact⟨λh=>hQ (zf h) (by lia),nofun⟩
  ·simp_all
 |y::r,n,k+1,x,h=>by
  simp only[ff,←zg (g:=r) (n:=n+1) (k:=k) h,show n+1+k=n+(k+1) by exact Cf _ _ _];cases f y
  ·rfl
  ·exact⟨λh=>(f_.mp h).resolve_left (by lia),hE _⟩
def PM.isW:PM->n_
 |.num _=>d_
 |.wrd _ _=>c0
def GK(b:n_):V->Prop:=if b=c0 then GW else GI
inductive uJ(A:Ad)(b:n_)(d:U V)(H:Hp)(Q:VK)(Ah:XK):Prop
 |i(c a:ce)(Ap:U ce)(q:Tr Sm)(p:PM)(_:d=[.ref c,.ref a])(_:p.isW=b)(_:p.at A H c Ap)(_:p.ok)(_:bc (LQ (GK b)) H a q)(_:Ec A H)(_:db A q=cx->∀l C,RT A H C->C l=O (.lst ((ff (q.holds Sm.holds) 0 p.cells).map V.int))->Q (.ref l) C)(_:∀Aj,db A q=O Aj->∀C,RT A H C->Ah (.ref Aj) cx C)
theorem Sm.gs{q:Tr Sm}(h:bc (LQ GW) H a q):bc (LQ GS) H a q:=by
 induction q generalizing a with
 |lf s=>exact⟨h.1,λv g=>by obtain⟨z,e,_⟩:=h.2 v g;exact⟨z,e⟩⟩
 |neg q d=>let⟨b,e,h⟩:=h;exact⟨b,e,d h⟩
 |two e q r d f=>let⟨b,c,e,h,i⟩:=h;exact⟨b,c,e,d h,f i⟩
 |bad w j=>exact h
theorem Z4{q:Tr Sm}:db A (q.map (Sm.num N))=db A q:=by
 simp only[db,mQ,show (λx=>cQ A.aI (Sm.num N x))=cQ A.aI from funext λs=>by cases s <;> rfl]
theorem Rq:∀{b H Q Ah},uJ A d_ b H Q Ah->oN A b H Q Ah:=λ⟨c,a,Ap,q,p,e,d,f,ok,i,j,m,n⟩=>by
 cases p with
 |wrd _ _=>cases d
 |num g=>exact⟨c,a,q,g,e,f.1,ok,i,j,λz l C r h _=>m z l C r (h.trans (tS (λl=>O (HO.lst (l.map V.int))) (Ui q g))),n⟩
theorem Sv(T:Txt K G A)(M:uG P w K G u (yl P w) 15 "check_question_of_words" ["question"] (ko A GW))(R:aZ P w K G u q_ 7 A.bJ "in_numbers" ["self","question"] (um A 6))(CR:aZ P w K G u (yl P w) 17 A.aY "rows" ["self","question"] (oN A))(F:vr K "rows" "WordColumn.rows" OY f Ag):ap P w K G u (yl P w) 18 f Ag ["self","question"] (uJ A c0):=by
 obtain⟨S,Z,p6,rK,qt⟩:=R;obtain⟨A0,A1,n,r,v⟩:=CR;refine F.oX ["self","question"] λnN A2 An x s H vs Q Ah y h=>?_;obtain⟨a,b,Ap,q,p,rfl,hb,hp,ok,L,g,k1,k2⟩:=h;refine⟨_,(ao (bf (M.pe y bU (aa (pv 1) ae)))
  (aj (aA (bp (bz K (pv 0) Y) T.dZ r n (y.mono (by decide)) v .nil bU (aa (bp (pv 0) T.d0 rK p6 (y.mono (by decide)) qt .nil av (aa (pv 1) ae)) ae))))),?_⟩
 cases p with
 |num _=>cases hb
 |wrd N J=>
 obtain⟨c,d,W,_⟩:=hp;obtain⟨ok,hR,hw⟩:=ok;refine⟨_,Y,b,q,Y,L,g,λz Ai i=>?_,k2⟩;have U1:=i.2 g;obtain⟨⟨X,j⟩,⟨B,m⟩,C⟩:=W;have W1:fK A Ai a c d N J:=⟨⟨X,i.keep g j nofun⟩,⟨B,i.keep g m nofun⟩,i.keep g C nofun⟩
 have D:bc (LQ GW) Ai b q:=bc.kt (L:=LQ GW) (i.kt g) L;have j:=i.keep g j nofun;have m:=i.keep g m nofun;refine⟨_,Y,a,_,X,_,_,Y,j,T.d0,T.mF,Y,c,B,_,Y,m,Y,_,Y,a,X,_,Y,j,Y,_,Y,a,b,c,d,N,J,q,1,Y,W1,hw,Sm.gs D,z,by decide,λb' Am E I=>?_⟩;refine⟨c,b',_,J,Y,⟨B,E _ _ m⟩,ok,I,U1.same E,λ_ l H3 r3 C _=>k1 z l H3 (i.trans ((RT.of E).trans r3)) (C.trans (tS (λl=>O (HO.lst (l.map V.int))) (UF q hR))),λAj e=>hQ ((Z4.trans z).symm.trans e) nofun⟩
inductive P2(A:Ad)(b:U V)(H:Hp)(Q:VK)(Ah:XK):Prop
 |i(c a:ce)(Ap:U ce)(q:Tr Sm)(p:PM)(_:b=[.ref c,.ref a])(_:p.at A H c Ap)(_:bc (LQ (GK p.isW)) H a q)(_:Ec A H)(_:db A q=cx->∀C,RT A H C->Q .non C)(_:∀Aj,db A q=O Aj->∀C,RT A H C->Ah (.ref Aj) cx C)
theorem zj1(T:Txt K G A)(m:uG P w K G u (yl P w) 15 "check_question_of_words" ["question"] (ko A GW))(n:uG P w K G u (yl P w) 15 "check_question" ["question"] (ko A GI))(F:vr K "check_asked_of" "check_asked_of" Pj f Ag):
  ap P w K G u (yl P w) 16 f Ag ["part","question"] (P2 A):=by
 refine F.oX ["part","question"] λv r An b s H x Q Ah d h=>?_;obtain⟨c,a,Ap,q,p,rfl,e,g,i,j,l⟩:=h;refine⟨_,(aj (aN (cR (aL (dj K) (by rfl) T.dq PyProof.Rows.Boot.«isinstance» (aa (pv 0) (aa (dJ T.qZ) ae)))) (aj (bf (m.pe d bU (aa (pv 1) ae))))
   (aj (bf (n.pe d bU (aa (pv 1) ae)))))),?_⟩
 cases p with
 |num _=>
  obtain⟨⟨X,h⟩,_⟩:=e;exact⟨_,Y,_,_,_,Y,nB h T.dZ T.zcA T.mP T.xE,_,Y,ak ⟨_,Y,a,q,Y,g,i,j,l⟩⟩
 |wrd _ _=>
  obtain⟨_,_,⟨⟨X,h⟩,_⟩,_⟩:=e;exact⟨_,Y,_,_,_,Y,nB h T.d0 T.zcB T.mP T.xF,_,Y,aw ⟨_,Y,a,q,Y,g,i,j,l⟩⟩
def TL:U (hO×V):=[("any", .int 1),("in", .int 3)]
theorem Tz{v:V}(h:TL.lookup x=O v):∃n:ft,v = .int n:=by
 have:=ri h;simp only[TL,f_,m_,u3,J5]at this;rcases this with⟨_,e⟩ |⟨_,e⟩
 ·exact⟨1,e⟩
 ·exact⟨3,e⟩
inductive Wh where
 |any |isin (z:hO) (q:Tr Sm) |bad (w:hO) (a:U V)
def qg(kd:hO->n_)(H:Hp)(a:ce):Wh->Prop
 |.any=>H a=O (.tup [.str "any"])
 |.isin z q=>∃b,H a=O (.tup [.str "in", .str z,.ref b])/\bc (LQ (GK (kd z))) H b q
 |.bad w c=>H a=O (.tup (.str w::c))/\c.length<=1000/\JL.lookup w=cx/\TL.lookup w≠O (.int (c.length+1:ft))
def LW(kd:hO->n_):Lf where
 α:=Wh
 at':=qg kd
 kt {H C a x} k h:=match x,h with
  |.any,e=>k.tup e
  |.isin _ _,⟨b,e,h⟩=>⟨b,k.tup e,h.kt k⟩
  |.bad _ _,⟨e,r⟩=>⟨k.tup e,r⟩
 tup {H a x} h:=match x,h with
  |.any,e=>⟨_,_,e,bI Y,Y⟩
  |.isin _ _,⟨_,e,_⟩=>⟨_,_,e,bI Y,Y⟩
  |.bad _ _,⟨e,l,j,_⟩=>⟨_,_,e,l,j⟩
def aS(J:U hO)(I:U aW)(z:hO):eH PM:=I[J.idxOf z]?.map (·.2.2)
def cW(A:Ad)(pm:hO->eH PM):Wh->eH ce
 |.any=>cx
 |.isin z q=>if (pm z).isSome=c0 then db A q else O A.ci
 |.bad _ _=>O A.aI
def hW(pm:hO->eH PM):Wh->ft->n_
 |.any,_=>c0
 |.isin z q,i=>q.holds Sm.holds (((pm z).elim [] PM.cells).getD i .non)
 |.bad _ _,_=>d_
structure J6(t:Ad)(H:Hp)(tb:ce)(ns:U hO)(ps:U aW)(living:U gV)(kd:hO->n_):Prop where
 tab:∃pd ll o coming,bS t H tb pd ll o ns ps living coming
 nd:ns.Nodup
 ok:∀q∈ps,q.2.2.ok/\q.2.2.col.length=living.length
 l64:living.length<=64
 kd:∀(i:ft) z q,ns[i]?=O z->ps[i]?=O q->kd z=q.2.2.isW
def mx:HO->Prop
 |.ins _ _ _ |.dK _ |.lst _ |.frz _ (.dK _)=>GX
 |_=>wa
theorem U9{q:aW}(a:q∈I)(c:b∈q.2.1):b∈FP Al ll I:=.tail _ (.tail _ (vg.mpr ⟨_,nk.mpr ⟨q,a,Y⟩,c⟩))
theorem bS.via{o:z_}(h:bS A H Al pd ll o J I E coming)(k:∀b o,b∈pd::FP Al ll I->mx o->H b=O o->C b=O o):bS A C Al pd ll o J I E coming:=
 let⟨⟨X,i⟩,j,l,a,m⟩:=h
 ⟨⟨X,k _ _ (.tail _ (.head _)) trivial i⟩,k _ _ (.head _) trivial j,k _ _ (.tail _ (.tail _ (.head _))) trivial l,⟨λq g=>have k:=λb o (n)=>k b o (.tail _ (U9 g n));match q,a.1 q g,k with
  | (_,_,.num _),⟨⟨X,e⟩,f⟩,k=>⟨⟨X,k _ _ (f ▸ .head _) trivial e⟩,f⟩
  | (_,_,.wrd _ _),⟨c,d,⟨⟨X,p⟩,⟨r,s⟩,u⟩,f⟩,k=>⟨c,d,⟨⟨X,k _ _ (f ▸ .head _) trivial p⟩,⟨r,k _ _ (f ▸ .tail _ (.head _)) trivial s⟩,k _ _ (f ▸ .tail _ (.tail _ (.head _))) trivial u⟩,f⟩,a.2⟩,m⟩
theorem RT.plain(r:RT A H C)(a:Ec A H)(b:ce)(o:HO)(p:mx o)(e:H b=O o):C b=O o:=r.keep a e λ_ z=>by rw[z]at p;exact p
theorem wV(a:H c=O (DL Ar c))(b:ce)(o:HO)(p:mx o)(e:H b=O o):del H c b=O o:=by
 rw[c7 λz=>by simp only[z,a]at e;cases e;exact p];exact e
theorem bS.rt{o:z_}(h:bS A H Al pd ll o J I E coming)(a:Ec A H)(r:RT A H C):bS A C Al pd ll o J I E coming:=h.via λb o _=>r.plain a b o
theorem J6.via{A:Ad}{H C:Hp}{Al:ce}{J:U hO}{I:U aW}{E:U gV}{kd:hO->n_}(h:J6 A H Al J I E kd)(k:∀b o,mx o->H b=O o->C b=O o):J6 A C Al J I E kd:=
 by obtain⟨⟨_,_,_,_,a⟩,b,c,d,e⟩:=h;exact⟨⟨_,_,_,_,a.via λb o _=>k b o⟩,b,c,d,e⟩
theorem J6.pm(h:J6 A H Al J I E kd)(z:hO):(z∉J/\aS J I z=cx)\/∃q∈I,aS J I z=O q.2.2/\kd z=q.2.2.isW/\z∈J/\∀(j:ft) a,J[j]?=O z->I[j]?=O a->a=q:=by
 obtain⟨_,_,_,_,c⟩:=h.tab;have c:=c.len;by_cases hz:z∈J
 ·have f:=o_ hz;have d:J[J.idxOf z]?=O z:=by simp_all
  have b:=a_ (show J.idxOf z<I.length by simp_all);refine .inr ⟨_,eT b,by simp only[aS,b];rfl,h.kd _ _ _ d b,hz,λj a e g=>?_⟩;cases e7 h.nd e d
  simp_all
 ·refine .inl ⟨hz,?_⟩;rw[aS,B3 (by rw[Iu hz];exact Cc (JR ‹_›))];rfl
inductive uh(A:Ad)(b:U V)(H:Hp)(Q:VK)(Ah:XK):Prop
 |i(Al a:ce)(J:U hO)(I:U aW)(E:U gV)(kd:hO->n_)(x:Wh)(_:b=[.ref Al,.ref a])(_:J6 A H Al J I E kd)(_:qg kd H a x)(_:Ec A H)(_:cW A (aS J I) x=cx->∀C,RT A H C->Q .non C)(_:∀Aj,cW A (aS J I) x=O Aj->∀C,RT A H C->Ah (.ref Aj) cx C)
theorem R8(T:Txt K G A)(C:IF w K G "SIMPLE_tables" TL)(S:uG P w K G u (yl P w) 16 "check_asked_of" ["part","question"] (P2 A))(Z:aZ P w K G u (yl P w) 1 A.aX "part" ["self","name"] (uH A))(F:vr K "check_simple" "Table.check_simple" z6 f Ag):
  ap P w K G u (yl P w) 17 f Ag ["self","simple"] (uh A):=by
 obtain⟨A0,A1,mq,nF,mJ⟩:=Z;refine F.oX ["self","simple"] λnN A2 An r s H D Q Ah L h=>?_;obtain⟨Al,a,J,I,E,kd,x,rfl,l,j,A3,B,d⟩:=h;refine⟨_,(ao (aN (PW.pt (fT (sN (C.pnin (aG (aT K) (pv 1) ah (λ_ _=>rfl)))) (gm (aE fR (aL (cD K) (by rfl) T.bu PyProof.Rows.Boot.«len» (aa (pv 1) ae)) (C.pix (aG (aT K) (pv 1) ah (λ_ _=>rfl))) (aC _))))) (aj (c9 de T.kF Y (by rfl) T.jh (aa au ae)))
   aO)
  (aj (aN (aE bh (aG (aT K) (pv 1) ah (λ_ _=>rfl)) au (aC _)) (aj (bf (S.pe L bU (aa (bp (pv 0) T.bD nF mq (L.mono (by decide)) mJ .nil bU (aa (aG (aT K) (pv 1) ah (λ_ _=>rfl)) ae)) (aa (aG (aT K) (pv 1) ah (λ_ _=>rfl)) ae)))))
   aO))),?_⟩
 cases x with
 |any=>exact⟨_,Y,a,_,_,_,Y,Y,th.of j,Y,_,Y,_,Y,ak ⟨_,Y,a,_,Y,.inr (th.of j),_,Y,a,_,_,_,Y,Y,th.of j,Y,_,_,Y,Y,Y,_,Y,ak ⟨_,Y,a,_,_,_,Y,Y,th.of j,Y,Y,_,Y,ak (B Y _ (RT.refl _ _))⟩⟩⟩
 |isin z q=>
  obtain⟨b,c,M⟩:=j;refine⟨_,Y,a,_,_,_,Y,Y,th.of c,Y,_,Y,_,Y,ak ⟨_,Y,a,_,Y,.inr (th.of c),_,Y,a,_,_,_,Y,Y,th.of c,Y,_,_,Y,Y,Y,_,Y,ak ⟨_,Y,a,_,_,_,Y,Y,th.of c,Y,Y,_,Y,aw ?_⟩⟩⟩;obtain⟨pd,ll,o,coming,TA⟩:=l.tab;obtain⟨X,h1⟩:=TA.tab;refine⟨_,Y,Al,X,_,Y,h1,Y,_,Y,a,_,_,_,Y,Y,th.of c,Y,Al,pd,ll,o,J,I,E,coming,z,Y,TA,l.nd,λi p N R=>⟨_,Y,a,_,_,_,Y,Y,th.of c,Y,?_⟩,λhz=>?_⟩
  ·have e3:=l.kd i z p N R;rw[e3]at M;have e4:(aS J I z).isSome=c0:=by
    rcases l.pm z with⟨n,_⟩ |⟨_,_,e,_⟩
    ·exact hQ (eT N) n
    ·rw[e];rfl
   have e5:cW A (aS J I) (.isin z q)=db A q:=mu e4;rw[e5]at B d;exact⟨p.1,b,_,q,p.2.2,Y,TA.par.1 p (eT R),M,A3,B,d⟩
  ·rcases l.pm z with⟨_,e⟩ |⟨_,_,_,_,m,_⟩
   ·exact d _ (ks (by rw[e];nofun)) _ (RT.refl _ _)
   ·exact hQ m hz
 |bad x D=>
  obtain⟨c,_,_,hl⟩:=j;have d:=d _ Y _ (RT.refl _ _);refine⟨_,Y,a,_,_,_,Y,Y,th.of c,cS (by decide) Y,x,Y,_,Y,?_⟩;cases g:TL.lookup x with
  |none=>exact aw (aw ⟨by decide,d⟩)
  |some v=>
   obtain⟨n,rfl⟩:=Tz g;refine ak ⟨_,Y,a,_,Y,.inr (th.of c),_,Y,a,_,_,_,Y,Y,th.of c,cS (by decide) Y,x,_,Y,g,Y,_,Y,?_⟩;rw[show (!decide (V.int (((V.str x::D).length:ft):gV)=V.int (n)))=c0 by
    rw[dV λy=>hl (by rw[g];exact tS O y.symm)];rfl]
   exact aw ⟨by decide,d⟩
inductive uD(A:Ad)(b:U V)(H:Hp)(Q:VK)(_E:XK):Prop
 |i(Al a:ce)(J:U hO)(I:U aW)(E:U gV)(kd:hO->n_)(x:Wh)(_:b=[.ref Al,.ref a])(_:J6 A H Al J I E kd)(_:qg kd H a x)(_:Ec A H)(_:cW A (aS J I) x=cx)(_:∀p C,RT A H C->C p=O (.lst (((rd E.length).map (hW (aS J I) x)).map V.bl))->Q (.ref p) C)
theorem YG:(["number"]:U hO).Nodup:=by decide +kernel
theorem Xt:(["place","found"]:U hO).Nodup:=by decide +kernel
theorem Wt(T:Txt K G A)(CP:aZ P w K G u (yl P w) 1 A.aX "part" ["self","name"] (uH A))(CR:aZ P w K G u (yl P w) 17 A.aY "rows" ["self","question"] (oN A))(CW:aZ P w K G u (yl P w) 18 A.bJ "rows" ["self","question"] (uJ A c0))(F:vr K "marks_of" "Table.marks_of" z9 f Ag):
  ap P w K G u q_ 19 f Ag ["self","simple"] (uD A):=by
 obtain⟨A5,A6,mq,nF,mJ⟩:=CP;obtain⟨A7,A8,R,S,Z⟩:=CR;obtain⟨A9,AA,A0,A1,A2⟩:=CW;refine F.o ["self","simple","found"] λnN AB An A3 s H vs Q Ah L h=>?_;obtain⟨Al,a,J,I,E,kd,x,rfl,v,hx,M,n,k⟩:=h;obtain⟨pd,ll,o,coming,TA⟩:=v.tab;obtain⟨X,B⟩:=TA.tab;have AC:=v.l64;refine⟨_,(ao (aN (aE bh (aG (aT K) (pv 1) ah (λ_ _=>rfl)) au (aC _)) (aj (aA (bK (Ac:=["number"]) (fr:=[cx]) ⟨Y,Y,Y,Y,Y,Y⟩ Y (bV (bz K (pv 0) Y))
    (λAj Ap s H=>⟨aH (i:=0) YG Y (gS Y),bn,fc⟩))))
   aO)
  (ao (aK (i:=2) nN Y (zs Y) (PE.alt (bp (bp (pv 0) T.bD nF mq (L.mono (by decide)) mJ .nil cf (aa (aG (aT K) (pv 1) ah (λ_ _=>rfl)) ae)) T.dZ S R (L.mono (by decide)) Z .nil cf (aa (aG (aT K) (pv 1) ah (λ_ _=>rfl)) ae)) (bp (bp (pv 0) T.bD nF mq (L.mono (by decide)) mJ .nil cf (aa (aG (aT K) (pv 1) ah (λ_ _=>rfl)) ae)) T.d0 A1 A0 (L.mono (by decide)) A2 .nil cf (aa (aG (aT K) (pv 1) ah (λ_ _=>rfl)) ae))))
  (aj (aA (bK (Ac:=["place","found"]) (fr:=[cx,O 2]) ⟨Y,Y,Y,Y,Y,Y⟩ Y (fB (by rfl) T.eP (aa (aL (cD K) (by rfl) T.bu PyProof.Rows.Boot.«len» (aa (bz K (pv 0) Y) ae)) ae))
    (λAj Ap s H=>⟨aH (i:=0) Xt Y (gS Y),bn,(c8 (iU K) (pv 0) (pv 1) (by rfl))⟩)))))),?_⟩
 cases x with
 |bad w vs=>cases n
 |any=>
  refine⟨_,Y,a,_,_,_,Y,Y,th.of hx,Y,Y,_,Y,aw ⟨_,Y,Al,_,X,_,_,Y,B,T.bD,T.fX,Y,ll,Y,⟨_,n7.of TA.liv⟩,⟨cE (E:=E.map V.int) (λi acc C=>ad H C/\acc=nc i (.bl c0)) ⟨ad.refl _,Y⟩ ?_ ?_ ?_ ?_⟩⟩⟩
  ·rintro i acc C hi ⟨d,rfl⟩;exact⟨n7.of (d _ _ TA.liv),by rw[B1];exact dv _⟩
  ·rw[bd];exact f' (aV (by omega))
  ·rintro i x acc C hx A4 ⟨d,rfl⟩;exact⟨Wk.set Y,tT (cw A4 ⟨d,E_.symm⟩)⟩
  ·rintro acc C ⟨d,rfl⟩ p y;refine k p _ (.of (ay d y)) ?_;rw[af,bd,p_,show V.bl ∘ hW (aS J I) .any=QR ft (.bl c0) from Y,List.map_const,BJ]
 |isin z q=>
  obtain⟨b,D,hq⟩:=hx;refine⟨_,Y,a,_,_,_,Y,Y,th.of D,Y,Y,_,Y,ak ?_⟩;dsimp only[lW];refine bB λAD hN=>?_;rcases v.pm z with⟨_,e⟩ |⟨p,y,e,ek,m,only⟩
  ·rw[cW,e]at n;cases n
  have n:db A q=cx:=by rw[cW,e]at n;exact n
  obtain⟨ok,ol⟩:=v.ok p y;have fin:∀l C,RT A H C->C l=O (.lst ((ff (q.holds Sm.holds) 0 p.2.2.cells).map V.int))->AD [O (.ref Al),O (.ref a),O (.ref l)] C:=λl Ai r hl=>hN _ _ <| by
   obtain⟨X,B⟩:=(TA.rt M r).tab;have el:(E.map V.int).length=E.length:=bd _;refine⟨_,Y,Al,_,X,_,_,Y,B,T.bD,T.fX,Y,ll,_,Y,.inl (n7.of (TA.rt M r).liv),_,Y,by omega,by rw[bd];omega,⟨iG (λi acc C=>ad Ai C/\acc=((rd i).map (hW (aS J I) (.isin z q))).map V.bl) ⟨ad.refl _,Y⟩ ?_ ?_ ?_ ?_⟩⟩
   ·rintro i acc C hi ⟨_,rfl⟩;simp
   ·exact f' (aV (by omega))
   ·rintro i acc C hi ⟨d,rfl⟩;refine⟨Wk.set Y,tT ⟨_,Y,_,Y,l,_,Y,.inl (n7.of (d _ _ hl)),Y,rA _,cw hi ⟨d,?_⟩⟩⟩;rw[Dq,dn,dn,show (if d_=c0 then _ else GP (.int (0+(i))) ((ff (q.holds Sm.holds) 0 p.2.2.cells).map V.int))=hW (aS J I) (.isin z q) i by
     rw[ks kC,xG,hW,e,show (0+(i))=((0+i:ft):gV) by omega,x0,Gj,zg (zeX (by omega))];exact Iff.rfl]
    rfl
   ·rintro acc C ⟨d,rfl⟩ p y;refine k p _ (r.trans (.of (ay d y))) ?_;rw[af,el,nI]
  have j:=TA.par.1 p y;rw[ek]at hq;obtain⟨c,Ap,pm⟩:=p;cases pm with
  |num g=>
   obtain⟨⟨dc,hC⟩,_⟩:=id j;exact .inl ⟨_,Y,Al,X,_,Y,B,Y,_,Y,a,_,_,_,Y,Y,th.of D,Y,Al,pd,ll,o,J,I,E,coming,z,Y,TA,v.nd,λi p' e1 e2=>only i p' e1 e2 ▸ ⟨c,dc,_,Y,hC,Y,_,Y,a,_,_,_,Y,Y,th.of D,Y,Rq ⟨c,b,Ap,q,.num g,Y,Y,j,ok,hq,M,λ_ l Ai r h=>fin l Ai r h,λAj e=>hQ (n.symm.trans e) nofun⟩⟩,λhz=>hQ m hz⟩
  |wrd N ms=>
   obtain⟨_,_,⟨⟨dc,hC⟩,_⟩,_⟩:=id j;exact .inr ⟨_,Y,Al,X,_,Y,B,Y,_,Y,a,_,_,_,Y,Y,th.of D,Y,Al,pd,ll,o,J,I,E,coming,z,Y,TA,v.nd,λi p' e1 e2=>only i p' e1 e2 ▸ ⟨c,dc,_,Y,hC,Y,_,Y,a,_,_,_,Y,Y,th.of D,Y,⟨c,b,Ap,q,.wrd N ms,Y,Y,j,ok,hq,M,λ_ l Ai r h=>fin l Ai r h,λAj e=>hQ (n.symm.trans e) nofun⟩⟩,λhz=>hQ m hz⟩
def eU(f:ft->n_)(n:ft):U ft:=(rd n).filter f
theorem ze(f:ft->n_)(n:ft):eU f (n+1)=eU f n++if f n=c0 then [n] else []:=by
 simp only[eU,Dq,IS,E4];rfl
theorem sv(f:ft->n_)(n:ft):(eU f n).length<=n:=jE (ER _ _) (Cc BJ)
inductive Oq(A:Ad)(b:U V)(H:Hp)(Q:VK)(Ah:XK):Prop
 |i(Al a:ce)(J:U hO)(I:U aW)(E:U gV)(kd:hO->n_)(q:Tr Wh)(_:b=[.ref Al,.ref a])(_:J6 A H Al J I E kd)(_:bc (LW kd) H a q)(_:Ec A H)
  (_:DB (cW A (aS J I)) A.aI 1 q=cx->∀l C,RT A H C->C l=O (.lst ((eU (q.holds (hW (aS J I))) E.length).map λi=>.int (i:ft)))->Q (.ref l) C) (_:∀Aj,DB (cW A (aS J I)) A.aI 1 q=O Aj->∀C,RT A H C->Ah (.ref Aj) cx C)
theorem yt:(["place","mark"]:U hO).Nodup:=by decide +kernel
theorem QV(T:Txt K G A)(nd:Nd A)(B:gr u G)(CJ:∀kd pm,uG P w K G u (yl P w) 26 "check_joined" ["asked","check_simple"] (uf P w K G u A (LW kd) (cW A pm) 18))(CM:∀kd pm,uG P w K G u q_ 26 "marked" ["asked","marks_of"] (oJ P w K G u A (LW kd) (cW A pm) (hW pm) 20 6))(CS:aZ P w K G u (yl P w) 17 A.aX "check_simple" ["self","simple"] (uh A))(CK:aZ P w K G u q_ 19 A.aX "marks_of" ["self","simple"] (uD A))(F:gt K "places_where" "Table.places_where" sT f Ag A.jb A.p_Table_places_where):ap P w K G u (yl P w) 27 f Ag ["self","where"] (Oq A):=by
 obtain⟨AE,AF,A2,A3,A4⟩:=CS;obtain⟨AG,AH,A5,A6,A7⟩:=CK;refine F.o ["self","where","marks"] λnN An g s H vs Q Ah hr h=>?_;obtain⟨Al,a,J,I,E,kd,q,rfl,L,hq,M,k1,k2⟩:=h;have pz:=CJ kd (aS J I);have kK:=CM kd (aS J I);refine⟨_,(ao (bf (pz.peZ (i:=0) (y := "self") hr bU NV (aa (pv 1) (aa (oh Y Y F.hd B) ae)) Y Y Y Y))
  (ao (aK (i:=2) nN Y (gS Y) (kK.peZ (i:=0) (y := "self") hr av PH (aa (pv 1) (aa (oh Y Y F.hd B) ae)) Y Y Y Y))
  (aj (aA (bK (Ac:=["place","mark"]) (fr:=[cx,cx]) ⟨Y,Y,Y,Y,Y,Y⟩ Y (zc K (by rfl) T.yC (aa (pv 2) ae))
    (λAj Ap s H=>⟨eA K (n:=2) Y (bP (aH (i:=0) yt Y (gS Y)) (bP (aH (i:=1) yt Y (gS Y)) eB)),(kg (cR (pv 1))),(pv 0)⟩)))))),?_⟩
 refine bB λAK hN=>⟨_,Y,M.w0,λAi l sb hl kt LH=>⟨_,Y,λAr Au hc m ru=>?_⟩⟩
 have r1:=zL nd sb kt;obtain⟨pm,c',A8,N,cd⟩:=LH;generalize AI:s.heap.objs.size+1=c at hc N hN ⊢;have s2:ad Ai (upd Ai c (DL Ar c)):=ad.new hc;have A9:(upd Ai c (DL Ar c)) c=O (DL Ar c):=af;have r2:=r1.trans (.of s2);have U2:=r2.2 M;refine⟨a,l,q,Y,hq.kt (r2.kt M),U2,?_,λz Am n=>hN _ _ ?_,λAj z Am n=>k2 Aj z _ (r1.trans (lN n hc m))⟩
 ·have FL:=m6 (Aa:=P) (w:=w) (K:=K) (mg:=G) (base:=u) N "simple" 17 (λv z=>uh A [z,v]) ?S (@zE P w) (λAn g s H v z Q Ah hr h=>?B) (λus hl=>match us,hl with |[_],_=>rfl)
  case S=>exact⟨Y,Y,Y,by decide,Y,by decide,.inl ⟨Y,λ_ _=>rfl⟩⟩
  case B=>
   refine⟨_,bp (pv 1) T.bD A3 A2 (hr.mono (by decide)) A4 .nil y6 (aa (pv 0) ae),?_⟩;obtain⟨Al,a,J,I,E,kd,x,e,L,_⟩:=id h;cases e;obtain⟨_,_,_,_,⟨X,h1⟩,_⟩:=L.tab;exact⟨_,Y,Al,X,_,Y,h1,Y,_,Y,h⟩
  refine⟨_,_,_,.inr ⟨_,_,_,_,s2 _ _ N⟩,FL.1,FL.2,λH3 a' x Q' E' n hx j1 j2=>?_⟩;have d:=n.keep U2 A9 nofun;exact⟨.ref a',.ref Al,Ar,Au,Y,⟨n.keep U2 (s2 _ _ N) nofun,qE (HA.same cd s2) U2 n⟩,d,m,ru,Al,a',J,I,E,kd,x,Y,(L.via ((r2.trans n).plain M)).via (wV d),(LW kd).kt (iJ d) hx,(n.2 U2).del d m,λz H4 r4 n4=>j1 z _ (sS r4 d m n4),λAj z H4 r4 n4=>j2 Aj z _ (sS r4 d m n4)⟩
 have r4:=r1.trans (lN n hc m);have U4:=r4.2 M;refine bB λN2 AA=>⟨_,Y,U4.w1,λH5 lm sb hl kt LH=>⟨_,Y,λAr Au hc m ru=>?_⟩⟩
 have r5:=r4.trans (zL nd sb kt);obtain⟨pm,c',A8,N,cd⟩:=LH;have s6:ad H5 (upd H5 c (DL Ar c)):=ad.new hc;have A1:(upd H5 c (DL Ar c)) c=O (DL Ar c):=af;have r6:=r5.trans (.of s6);have U6:=r6.2 M;have AJ:=L.l64;refine⟨a,lm,1,q,rd E.length,Y,hq.kt (r6.kt M),z,by decide,by rw[BJ];omega,U6,?_,λr H7 R h7=>?_⟩
 ·have FL:=m6 (Aa:=P) (w:=w) (K:=K) (mg:=G) (base:=u) N "simple" 19 (λv z=>uD A [z,v]) ?S zD (λAn g s H v z Q Ah hr h=>?B) (λus hl=>match us,hl with |[_],_=>rfl)
  case S=>exact⟨Y,Y,Y,by decide,Y,by decide,.inl ⟨Y,λ_ _=>rfl⟩⟩
  case B=>
   refine⟨_,bp (pv 1) T.bD A6 A5 (hr.mono (by decide)) A7 .nil av (aa (pv 0) ae),?_⟩;obtain⟨Al,a,J,I,E,kd,x,e,L,h2,h3,h4,h5⟩:=h;cases e;obtain⟨_,_,_,_,⟨X,h1⟩,_⟩:=L.tab;exact⟨_,Y,Al,X,_,Y,h1,Y,_,Y,Al,a,J,I,E,kd,x,Y,L,h2,h3,h4,h5⟩
  refine⟨_,_,_,.inr ⟨_,_,_,_,s6 _ _ N⟩,FL.1,FL.2,λH7 a' x Q' E' R hx AB j=>?_⟩;have b:=R.keep U6 A1 nofun;refine⟨.ref a',.ref Al,Ar,Au,Y,⟨R.keep U6 (s6 _ _ N) nofun,qE (HA.same cd s6) U6 R⟩,b,m,ru,Al,a',J,I,E,kd,x,Y,(L.via ((r6.trans R).plain M)).via (wV b),(LW kd).kt (iJ b) hx,(R.2 U6).del b m,AB,λp H8 r8 D n8=>j p _ (sS r8 b m n8) ?_⟩;rw[ag λz=>by rw[z,n8]at D;cases D];exact D
 have b:=R.keep U6 A1 nofun;have r8:=r5.trans (lN R hc m);have D:(del H7 c) r=O (.lst (((rd E.length).map (q.holds (hW (aS J I)))).map V.bl)):=(iJ b).lst h7;refine AA _ _ ?_;generalize del H7 c=H8 at r8 D;refine⟨_,Y,r,_,Y,n7.of D,kX (n:=E.length) (λi acc C=>ad H8 C/\acc=(eU (q.holds (hW (aS J I))) i).map λi=>.int (i:ft)) ⟨ad.refl _,Y⟩ ?_ (f' (aV (by omega))) ?_ ?_⟩
 ·rintro i acc H9 Z ⟨s9,rfl⟩;refine⟨by rw[bd];exact sv _ i,λZ=>⟨_,_,n7.of (s9 _ _ D),by rw[cc,cc,Fn Z];rfl⟩,λZ=>⟨_,n7.of (s9 _ _ D),by rw[bd,bd,BJ];exact Z⟩⟩
 ·rintro i x acc H9 AC Z ⟨s9,rfl⟩ ⟨T',AD,rfl,hy⟩;obtain⟨y,ey,rfl⟩:=hy _ (n7.of (s9 _ _ D));rw[cc,cc,Fn Z]at ey;cases ey;refine⟨T',_,Y,th.of af,Y,_,_,Y,_,_,Y,Y,(Wk.set Y).trans (Wk.set Y),_,Y,_,Y,?_⟩;have A0:=ay (o:=.tup [.int i,.bl (q.holds (hW (aS J I)) i)]) s9 AD;have et:=ze (q.holds (hW (aS J I))) i;generalize upd H9 T' (.tup [.int i,.bl (q.holds (hW (aS J I)) i)])=AC at A0 ⊢;cases e:q.holds (hW (aS J I)) i with
  |false=>
   rw[e]at et;exact ak (cw Z ⟨A0,by rw[et];simp⟩)
  |true=>
   rw[e]at et;exact aw ⟨_,Y,cw Z ⟨A0,by rw[et,dn];rfl⟩⟩
 ·rintro acc H9 ⟨s9,rfl⟩ p hp;exact k1 z p _ (r8.trans (.of (ay s9 hp))) af
inductive PN(A:Ad)(b:U V)(H:Hp)(Q:VK)(Ah:XK):Prop
 |i(Al a:ce)(J:U hO)(I:U aW)(E:U gV)(kd:hO->n_)(q:Tr Wh)(_:b=[.ref Al,.ref a])(_:J6 A H Al J I E kd)(_:bc (LW kd) H a q)(_:Ec A H)
  (_:DB (cW A (aS J I)) A.aI 1 q=cx->∀l C,RT A H C->C l=O (.lst ((eU (q.holds (hW (aS J I))) E.length).map λi=>.int (E.getD i 0)))->Q (.ref l) C) (_:∀Aj,DB (cW A (aS J I)) A.aI 1 q=O Aj->∀C,RT A H C->Ah (.ref Aj) cx C)
theorem Vy:(["place","self"]:U hO).Nodup:=by decide +kernel
theorem Y5(T:Txt K G A)(Z:aZ P w K G u (yl P w) 27 A.aX "places_where" ["self","where"] (Oq A))(F:vr K "where" "Table.where" Og f Ag):ap P w K G u (yl P w) 28 f Ag ["self","where"] (PN A):=by
 obtain⟨A0,A1,n,r,v⟩:=Z;refine F.oX ["self","where"] λnN A2 An y s H vs Q Ah hr h=>?_;obtain⟨Al,a,J,I,E,kd,q,rfl,B,hq,D,g,k2⟩:=h;obtain⟨pd,ll,o,coming,TA⟩:=B.tab;obtain⟨X,j⟩:=TA.tab;refine⟨_,(aj (aA (bK (Ac:=["place","self"]) (fr:=[cx,O 0]) ⟨Y,Y,Y,Y,Y,Y⟩ Y (bV (bp (pv 0) T.bD r n (hr.mono (by decide)) v .nil bU (aa (pv 1) ae)))
    (λAj Ap s H=>⟨aH (i:=0) Vy Y (gS Y),bn,(aG (bF K) (bz K (pv 1) Y) (pv 0) (λ_ _=>rfl))⟩)))),?_⟩
 refine⟨_,Y,Al,X,_,Y,j,Y,_,Y,Al,a,J,I,E,kd,q,Y,B,hq,D,λz l Ai L M=>?_,k2⟩;have g:=g z;have A3:=B.l64;have N:=sv (q.holds (hW (aS J I))) E.length;have d:∀i∈eU (q.holds (hW (aS J I))) E.length,i<E.length:=λi c=>Dw.mp (Di.mp c).1;generalize eU (q.holds (hW (aS J I))) E.length=m at g M N d;have j:=L.keep D j nofun;have h3:=L.keep D TA.liv nofun;refine⟨l,Y,⟨_,n7.of M⟩,⟨cE (K:=K) (E:=m.map λi=>.int (i:ft)) (λi acc C=>ad Ai C/\acc=(m.take i).map λi=>.int (E.getD i 0)) ⟨ad.refl _,Y⟩ ?_ ?_ ?_ ?_⟩⟩
 ·rintro i acc C c ⟨b,rfl⟩;exact⟨n7.of (b _ _ M),by rw[bd,gv];exact Dt ..⟩
 ·rw[bd];exact f' (aV (by omega))
 ·rintro i x acc C R c ⟨b,rfl⟩;have e:i<m.length:=by rw[bd]at c;exact c
  have S:=a_ e;rw[cc,S]at R;cases R;have hm:=d _ (j' e);refine⟨Wk.set Y,tT ⟨_,Y,Al,_,X,_,_,Y,b _ _ j,T.bD,T.fX,Y,_,Y,ll,_,_,.int (E.getD m[i] 0),Y,Y,n7.of (b _ _ h3),dX ?_,cw c ⟨b,?_⟩⟩⟩
  ·rw[cc,nn,a_ hm];rfl
  ·rw[ke,S,dn];rfl
 ·rintro acc C ⟨b,rfl⟩ p hp;refine g p _ (L.trans (.of (ay b hp))) ?_;rw[af,bd,gl]
@[elab_as_elim] theorem QZ{p:ft->Prop}(j:ft)(h:j+2<6)(a:p 0)(b:p 1)(c:p 2)(d:p 3):p j:=
 match j,h with
 |0,_=>a
 |1,_=>b
 |2,_=>c
 |3,_=>d
@[elab_as_elim] theorem six{p:ft->Prop}(j:ft)(h:j<6)(a:p 0)(b:p 1)(c:p 2)(d:p 3)(e:p 4)(f:p 5):p j:=
 match j,h with
 |0,_=>a
 |1,_=>b
 |2,_=>c
 |3,_=>d
 |4,_=>e
 |5,_=>f
def fZ(c:α->eH ce)(z:ce)(d:ft)(q:Tr α):Prop:=∀e,e+d<=7->DB c z e q=cx
theorem jU{c:α->eH ce}{x:α}(hd:1<=d)(h:c x=cx):fZ c z d (.lf x):=λe a=>by rw[DB,ks (by lia),h]
theorem xc{c:α->eH ce}{q:Tr α}(hd:1<=d)(h:fZ c z d q):fZ c z (d+1) (.neg q):=λe a=>by rw[DB,ks (by lia),h _ (by lia)]
theorem xf{c:α->eH ce}{b:n_}{q r:Tr α}(hd:1<=d)(h:fZ c z d q)(a:fZ c z d r):fZ c z (d+1) (.two b q r):=λe f=>by rw[DB,ks (by lia),h _ (by lia),a _ (by lia)];rfl
theorem Vm{c:α->eH ce}{a:ft}{q:Tr α}(h:fZ c z d q)(l:d<=a):fZ c z a q:=λe b=>h e (by lia)
def MV(j:ft):hO:=["all","none","is","below","above","among"].getD j ""
def dU(b:n_):U V:=if b=c0 then [.str "a", .str "b", .str "ab", .str "c", .str "zz"] else [.int 0,.int 1,.int 2,.int (-5),.int 9]
theorem O4:∀b,∀v∈dU b,GK b v:=by
 intro b v a;cases b with
 |false=>
  simp only[dU,IQ,MK,f_,m_,u3]at a;rcases a with rfl |rfl |rfl |rfl |rfl <;> exact⟨_,Y⟩
 |true=>
  simp only[dU,if_true,f_,m_,u3]at a;rcases a with rfl |rfl |rfl |rfl |rfl <;> exact⟨_,Y,yR (by decide +kernel),by decide +kernel⟩
theorem xA{P:Hp->Prop}(s:ad H C)(a:C p=cx)(k:∀Am,ad H Am->Am p=O o->P Am):P (upd C p o):=k _ (ay s a) af
inductive VB(K:fy)(A:Ad)(m:ft)(b:U V)(H:Hp)(Q:VK)(_E:XK):Prop
 |i(s:ce)(J:U gV)(k:gV)(z:hO)(d:ft)(_:b=[.ref s,.int k,.str z,.int d])(_:n7 K H s (J.map V.int))(_:1<=d)(_:d<=m+1)(_:z = "number" \/ z = "word")(_:∀a q C,ad H C->bc (LQ (GK (decide (z = "word")))) C a q->fZ (cQ A.aI) A.aI d q->Q (.ref a) C)
def uu(K:fy)(A:Ad):ft->Sp
 |0=>λ_ _ _ _=>wa
 |m+1=>VB K A m
theorem Xz(T:Txt K G A)(dO:uG P w K G u q_ 3 "_law_mix" ["_law_script","_law_k"] (jr K))(kJ:uG P w K G u q_ (3+m) "_law_column_question" ["_law_script","_law_k","_law_kind","_law_deep"] (uu K A m))(F:vr K "_law_column_question" "_law_column_question" Pd f Ag):
  ap P w K G u q_ (3+m+1) f Ag ["_law_script","_law_k","_law_kind","_law_deep"] (uu K A (m+1)):=by
 refine F.o ["_law_script","_law_k","_law_kind","_law_deep","_law_number","_law_one","_law_word","_law_some","_law_value"] λZ AB An A4 s H vs Q Ah hr h=>?_;obtain⟨r,J,k,z,d,rfl,hS,D,AC,hz,q⟩:=h;refine gb ⟨_,(bY (aK (i:=4) Z Y (gS Y) (dO.pe hr av (aa (pv 0) (aa (pv 1) ae)) (by omega)))
  (bY (aN (PW.pt (lL (aE e9 (pv 3) ah (aC _)) (lM (aE bh (aq b9 (pv 4) ah) ah (aC _))))) (aj (aA (cz (aa au (aa (kJ.pe hr av (aa (pv 0) (aa (aq aU (pv 1) ah) (aa (pv 2) (aa (aq cJ (pv 3) ah) ae)))) (by omega)) ae)))))
   aO)
  (bY (aN (PW.pt (lL (aE e9 (pv 3) ah (aC _)) (lM (aE bh (aq b9 (pv 4) ah) ah (aC _))))) (ao (aK (i:=5) Z Y (gS Y) (kJ.pe hr av (aa (pv 0) (aa (aq aU (pv 1) ah) (aa (pv 2) (aa (aq cJ (pv 3) ah) ae)))) (by omega)))
  (aj (aA (cz (aa (aG (bF K) (cP (aa au (aa au ae))) (aq b9 (aq gh (pv 4) ah) ah) (λ_ _=>rfl)) (aa (pv 5) (aa (kJ.pe hr av (aa (pv 0) (aa (aq aU (pv 1) ah) (aa (pv 2) (aa ah ae)))) (by omega)) ae)))))))
   aO)
  (jq (i:=6) Z Y (gS Y) (lG (bF K) (fS (aM au (aM au (aM au (aM au (aM au (aM au cj))))))) (aq b9 (aq gh (pv 4) ah) ah) (λ_ _=>rfl))
  (bY (aN (aE (iU K) (pv 6) (cz (aa au (aa au ae))) (by rfl)) (aj (aA (cz (aa (pv 6) ae))))
   aO)
  (jq (i:=7) Z Y (gS Y) (lG (bF K) (fS (d9 (fS (aM au (aM au (aM au (aM au (aM au cj)))))) (d9 (fS (aM ah (aM ah (aM ah (aM (iq iy ah) (aM ah cj)))))) cj))) (gL Zr (by rfl) T.nQ PyProof.Rows.Boot.«int» (aa (c8 bh (pv 2) au (aC _)) ae)) (λ_ _=>rfl))
  (bY (aK (i:=8) Z Y (gS Y) (aG (bF K) (pv 7) (aq b9 (aq gh (pv 4) ah) ah) (λ_ _=>rfl)))
  (ox (aA (dA (aE bh (pv 6) au (aC _)) (cz (aa (pv 6) (aa (cP (aa (pv 8) (aa (aG (bF K) (pv 7) (aq b9 (aq gh (pv 4) ah) ah) (λ_ _=>rfl)) ae))) ae))) (cz (aa (pv 6) (aa (pv 8) ae))))))))))))),?_⟩
 refine bB λN0 A0=>⟨_,Y,_,Y,r,J,k,Y,hS,A0 _ _ ?_⟩
 clear A0 N0;generalize mix J k=n;refine bB λN1 A1=>?_;have E:=A1 [O (.ref r),O (.int k),O (.str z),O (.int d),O (.int n),cx,cx,cx,cx] H <| by
  refine bB λN2 A2=>?_;have h3:=A2 [O (.ref r),O (.int k),O (.str z),O (.int d),O (.int n),cx,cx,cx,cx] H <| by
   refine bB λN y=>⟨bI Y,λl hl=>?_⟩
   have cd:∀{a b:gV},0<b->b<1073741824->ve a b:=λh1 E=>⟨h1,E⟩
   obtain⟨j,hj,ej⟩:∃j:ft,j<6/\n / 8 % 6=j:=by
    have h1:=qc (n / 8) (b:=6) (by decide);have E:=pU (n / 8) (b:=6) (by decide);exact⟨(n / 8 % 6).toNat,by omega,by omega⟩
   refine⟨_,Y,_,_,Y,Y,cd (by decide) (by decide),_,_,Y,Y,(by decide),l,_,_,.str (MV j),Y,Y,n7.of af,?_,y _ _ ?_⟩
   ·rw[ej];exact dX (six j hj Y Y Y Y Y Y)
   clear y N A2 N2 A1 N1;refine xA (ad.refl _) hl λAi s1 _=>?_;refine bB λN3 A5=>⟨_,Y,bI Y,λl5 A6=>⟨l5,_,Y,.inr (th.of af),Y,Y,_,Y,?_⟩⟩
   have I:ad H (upd Ai l5 (.tup [.str "all", .str "none"])):=ay s1 A6;generalize upd Ai l5 (.tup [.str "all", .str "none"])=Am at I;have g:=λE:2<=j=>A5 [O (.ref r),O (.int k),O (.str z),O (.int d),O (.int n),cx,O (.str (MV j)),cx,cx] Am <| by
    refine bB λN y=>⟨bI Y,λC A7=>⟨5,Y,bI Y,λlb A3=>⟨bI Y,λL M=>⟨_,Y,Y,.inr ⟨_,Y,?_⟩⟩⟩⟩⟩
    obtain⟨ls,X,e5,R,g,hM⟩:∃ls X,upd (upd (upd Am C (.lst (dU c0))) lb (.lst (dU d_))) L (.lst [.ref C,.ref lb])=X/\ad H X/\X ls=O (.lst (dU (decide (z = "word"))))/\(N [O (.ref r),O (.int k),O (.str z),O (.int d),O (.int n),cx,O (.str (MV j)),O (.ref ls),cx] X->oz K (.ref L) (.int (if decide (V.str z=V.str "number")=c0 then 1 else 0)) X λx Ai=>fv 7 x [O (.ref r),O (.int k),O (.str z),O (.int d),O (.int n),cx,O (.str (MV j)),cx,cx] Ai N):=by
     have hA:(upd (upd (upd Am C (.lst (dU c0))) lb (.lst (dU d_))) L (.lst [.ref C,.ref lb])) C=O (.lst (dU c0)):=ay (ad.new A3) M _ _ af;have hB:(upd (upd (upd Am C (.lst (dU c0))) lb (.lst (dU d_))) L (.lst [.ref C,.ref lb])) lb=O (.lst (dU d_)):=ad.new M _ _ af;have R:=ay (o:=.lst [.ref C,.ref lb]) (ay (ay I A7) A3) M;rcases hz with rfl |rfl
     ·exact⟨lb,_,Y,R,hB,λh=>⟨L,_,_,_,Y,Y,n7.of af,Y,h⟩⟩
     ·exact⟨C,_,Y,R,hA,λh=>⟨L,_,_,_,Y,Y,n7.of af,Y,h⟩⟩
    show oz K _ _ (upd (upd (upd Am C (.lst (dU c0))) lb (.lst (dU d_))) L _) _;rw[e5];refine hM (y _ _ ?_);clear hM y N e5;obtain⟨i,rfl⟩:∃i,j=i+2:=⟨j - 2,by omega⟩
    have p5:∀x:gV,∃v,FY (dU (decide (z = "word"))) (x % 5)=O v/\v∈dU (decide (z = "word")):=λx=>sr (qc _ (by decide)) (by
     rw[show (dU (decide (z = "word"))).length=5 by cases decide (z = "word") <;> rfl];exact pU _ (by decide))
    obtain⟨v,ev,mv⟩:=p5 (n / 64);obtain⟨v2,A8,S⟩:=p5 (n / 512);have mv:=O4 _ _ mv;have S:=O4 _ _ S;refine bB λN y=>⟨_,Y,_,Y,_,_,Y,Y,cd (by decide) (by decide),_,_,Y,Y,(by decide),ls,_,_,v,Y,Y,n7.of g,ev,y _ _ ?_⟩
    clear y N;have one:∀i,fZ (cQ A.aI) A.aI d (.lf (.one i v)):=λi=>jU D Y;have all:∀i,∀x∈(Sm.one i v).things,GK (decide (z = "word")) x:=λi x hx=>by rw[ku.mp hx];exact mv
    refine QZ i hj ?_ ?_ ?_ ?_
    ·exact⟨_,Y,Y,_,Y,ak ⟨_,Y,_,Y,bI Y,λp c=>q p (.lf (.one 0 v)) _ (ay R c) ⟨af,all 0⟩ (one 0)⟩⟩
    ·exact⟨_,Y,Y,_,Y,ak ⟨_,Y,_,Y,bI Y,λp c=>q p (.lf (.one 1 v)) _ (ay R c) ⟨af,all 1⟩ (one 1)⟩⟩
    ·exact⟨_,Y,Y,_,Y,ak ⟨_,Y,_,Y,bI Y,λp c=>q p (.lf (.one 2 v)) _ (ay R c) ⟨af,all 2⟩ (one 2)⟩⟩
    ·refine⟨_,Y,Y,_,Y,aw ⟨_,Y,_,Y,_,Y,_,Y,_,_,Y,Y,cd (by decide) (by decide),_,_,Y,Y,(by show (0:gV)<5;decide),ls,_,_,v2,Y,Y,n7.of g,A8,bI Y,λl7 A9=>⟨bI Y,λp c=>q p (.lf (.among [v,v2])) _ (ay (ay R A9) c) ⟨⟨l7,af,ad.new c _ _ af,bI Y⟩,λx hx=>?_⟩ (jU D Y)⟩⟩⟩;rcases f_.mp hx with rfl |hx
     ·exact mv
     ·rw[ku.mp hx];exact S
   revert g;exact six j hj (λ_=>aw ⟨_,Y,bI Y,λp c=>q p (.lf (.zero c0)) _ (ay I c) ⟨af,nofun⟩ (jU D Y)⟩) (λ_=>aw ⟨_,Y,bI Y,λp c=>q p (.lf (.zero d_)) _ (ay I c) ⟨af,nofun⟩ (jU D Y)⟩) (λg=>ak (g (by decide))) (λg=>ak (g (by decide))) (λg=>ak (g (by decide))) (λg=>ak (g (by decide)))
  refine⟨_,Y,_,_,Y,Y,_,Y,?_⟩;by_cases hd:1<d
  ·rw[fo (by omega:(1:gV)<d)];refine aw ⟨_,Y,_,_,Y,Y,(by decide),Y,_,Y,?_⟩;rw[BS];by_cases h4:n % 4=1
   ·rw[fo h4];obtain⟨d,rfl⟩:∃d',d=d' + 1:=⟨d - 1,by omega⟩
    obtain⟨m,rfl⟩:∃m',m=m' + 1:=⟨m - 1,by omega⟩
    refine aw (bB λN y=>⟨_,Y,_,Y,_,_,Y,Y,_,Y,_,Y,_,_,Y,Y,r,J,k+1,z,d,?_,hS,by omega,by omega,hz,λa1 q1 Ai s1 B f1=>y _ _ ?_⟩)
    ·show [V.ref r,V.int (k+1),V.str z,V.int (((d+1:ft):gV) - 1)]=_;rw[show (((d+1:ft):gV) - 1)=(d:gV) by omega]
    clear y N;obtain⟨e,ee⟩:∃e:n_,FY [V.str "both",V.str "either"] (n / 4 % 2)=O (.str (jw e)):=by
     have h1:=qc (n / 4) (b:=2) (by decide);have E:=pU (n / 4) (b:=2) (by decide);rcases (by omega:n / 4 % 2=0\/n / 4 % 2=1) with h |h <;> rw[h]
     ·exact⟨d_,Y⟩
     ·exact⟨c0,Y⟩
    refine⟨bI Y,λl hl=>⟨_,Y,_,_,Y,Y,⟨by decide,by decide⟩,_,_,Y,Y,(by decide),l,_,_,_,Y,Y,n7.of af,ee,_,Y,_,Y,_,Y,_,_,Y,Y,_,Y,?_⟩⟩;have I:=ay (o:=.lst [.str "both", .str "either"]) s1 hl;have B:=B.kt (cA (ad.new (o:=.lst [.str "both", .str "either"]) hl));exact⟨r,J,k+2,z,1,Y,I.seq hS,by omega,by omega,hz,λa2 q2 H3 s3 AA f2=>⟨bI Y,λp c=>q p (.two e q1 q2) _ (ay (I.trans s3) c) ⟨a1,a2,af,B.kt (cA (ay s3 c)),AA.kt (cA (ad.new c))⟩ (xf (by omega) f1 (Vm f2 (by omega)))⟩⟩
   ·rw[dV h4];exact ak h3
  ·rw[dV (by omega:¬ (1:gV)<d)];exact ak h3
 refine⟨_,Y,_,_,Y,Y,_,Y,?_⟩;by_cases hd:1<d
 ·rw[fo (by omega:(1:gV)<d)];refine aw ⟨_,Y,_,_,Y,Y,(by show (0:gV)<4;decide),Y,_,Y,?_⟩;rw[BS];by_cases h4:n % 4=0
  ·rw[fo h4];obtain⟨d,rfl⟩:∃d',d=d' + 1:=⟨d - 1,by omega⟩
   obtain⟨m,rfl⟩:∃m',m=m' + 1:=⟨m - 1,by omega⟩
   refine aw ⟨_,Y,_,Y,_,_,Y,Y,_,Y,_,Y,_,_,Y,Y,r,J,k+1,z,d,?_,hS,by omega,by omega,hz,λa1 q1 Ai s1 B f1=>⟨bI Y,λp c=>q p (.neg q1) _ (ay s1 c) ⟨a1,af,B.kt (cA (ad.new c))⟩ (xc (by omega) f1)⟩⟩;show [V.ref r,V.int (k+1),V.str z,V.int (((d+1:ft):gV) - 1)]=_;rw[show (((d+1:ft):gV) - 1)=(d:gV) by omega]
  ·rw[dV h4];exact ak E
 ·rw[dV (by omega:¬ (1:gV)<d)];exact ak E
def Iw(hs:U E9)(z:hO):n_:=decide (((z,"word"):E9)∈hs)
theorem yI{α β:Type}{f:α->β}:∀{l:U α}{x y:α},(l.map f).Nodup->x∈l->y∈l->f x=f y->x=y
 |a::r,x,y,h,d,g,e=>by
  rw[n5,Cg]at h;rcases f_.mp d with i |b <;> rcases f_.mp g with j |c
  ·simp_all
  ·exact hQ (i ▸ e ▸ CY c) h.1
  ·exact hQ (j ▸ e ▸ CY b) h.1
  ·exact yI h.2 b c e
theorem rC(L:(hs.map (·.1)).Nodup)(m:h∈hs):Iw hs h.1=decide (h.2 = "word"):=by
 rw[Iw,x0,Gj,Gj];exact⟨λz=>(tS Nw (yI L z m Y)).symm,λe=>by exact e ▸ m⟩
def WG(A:Ad)(hs:U E9)(H:Hp)(a:ce)(d:ft)(q:Tr Wh):Prop:=bc (LW (Iw hs)) H a q/\∀pm,(∀h∈hs,(pm h.1).isSome=c0)->fZ (cW A pm) A.aI d q
inductive UO(K:fy)(A:Ad)(m:ft)(c:U V)(H:Hp)(Q:VK)(_E:XK):Prop
 |i(s b:ce)(J:U gV)(k:gV)(d:ft)(as:U ce)(hs:U E9)(_:c=[.ref s,.int k,.ref b,.int d])(_:n7 K H s (J.map V.int))(_:H b=O (.lst (as.map V.ref)))(_:fj H as hs)(_:LH hs)(_:1<=d)(_:d<=m+1)(_:∀a q C,ad H C->WG A hs C a d q->Q (.ref a) C)
def uA(K:fy)(A:Ad):ft->Sp
 |0=>λ_ _ _ _=>wa
 |m+1=>UO K A m
theorem WG.same{q:Tr Wh}(h:WG A hs H a d q)(s:ad H C):WG A hs C a d q:=⟨bc.kt (cA s) h.1,h.2⟩
theorem VZ:(["_law_j","_law_script","_law_columns_here","_law_deep","_law_k"]:U hO).Nodup:=by decide +kernel
theorem zkG(T:Txt K G A)(dO:uG P w K G u q_ 3 "_law_mix" ["_law_script","_law_k"] (jr K))(kJ:uG P w K G u q_ 6 "_law_column_question" ["_law_script","_law_k","_law_kind","_law_deep"] (uu K A 3))(me:uG P w K G u q_ (6+m) "_law_where" ["_law_script","_law_k","_law_columns_here","_law_deep"] (uA K A m))(F:vr K "_law_where" "_law_where" Pr f Ag):
  ap P w K G u q_ (6+m+1) f Ag ["_law_script","_law_k","_law_columns_here","_law_deep"] (uA K A (m+1)):=by
 refine F.o ["_law_script","_law_k","_law_columns_here","_law_deep","_law_number","_law_parts","_law_name","_law_kind"] λnN A7 An A4 s H vs Q Ah hr h=>?_;obtain⟨v,z,J,k,d,as,hs,rfl,hS,D,M,L,R,A8,q⟩:=h;refine gb ⟨_,(bY (aK (i:=4) nN Y (gS Y) (dO.pe hr av (aa (pv 0) (aa (pv 1) ae)) (by omega)))
  (bY (aN (PW.pt (lL (aE e9 (pv 3) ah (aC _)) (lM (aE bh (aq b9 (pv 4) ah) ah (aC _))))) (aj (aA (cz (aa au (aa (me.pe hr av (aa (pv 0) (aa (aq aU (aq d7 ah (pv 1)) ah) (aa (pv 2) (aa (aq cJ (pv 3) ah) ae)))) (by omega)) ae)))))
   aO)
  (zl (PW.pt (lL (aE e9 (pv 3) ah (aC _)) (lM (aE bh (aq b9 (pv 4) ah) ah (aC _))))) (bY (gN (i:=5) nN Y (gS Y) (Ac:=["_law_j","_law_script","_law_columns_here","_law_deep","_law_k"]) (fr:=[cx,O 0,O 2,O 3,O 1]) ⟨Y,Y,Y,Y,Y,Y⟩ Y (fB (by rfl) T.eP (aa ah ae))
    (λAj Ap s H=>⟨aH (i:=0) VZ Y (gS Y),bn,(me.pe hr av (aa (pv 1) (aa (aq aU (aq aU (aq d7 ah (pv 4)) ah) (pv 0)) (aa (pv 2) (aa (aq cJ (pv 3) ah) ae)))) (by omega))⟩))
  (ir (j8 (Uu K) (eR (aM (aG (bF K) (cP (aa au (aa au ae))) (aq b9 (aq gh (pv 4) ah) ah) (λ_ _=>rfl)) cj)) (LG (gL (wx K) (by rfl) T.nR PyProof.Rows.Boot.«tuple» (aa (pv 5) ae))))))
  (bY (aN (aE bh (aq b9 (aq gh (pv 4) ah) ah) ah (aC _)) (aj (aA (cz (aa au ae))))
   aO)
  (bY (zi (aG (bF K) (pv 2) (aq b9 (aq gh (pv 4) ah) (aL (cD K) (by rfl) T.bu PyProof.Rows.Boot.«len» (aa (pv 2) ae))) (λ_ _=>rfl)) (eA K (n:=2) Y (bP (aH (i:=6) nN Y (gS Y)) (bP (aH (i:=7) nN Y (gS Y)) eB))))
  (ox (aA (cz (aa au (aa (pv 6) (aa (kJ.pe hr av (aa (pv 0) (aa (aq aU (pv 1) ah) (aa (pv 7) (aa ah ae)))) (by omega)) ae))))))))))),?_⟩
 refine bB λN0 g=>⟨_,Y,_,Y,v,J,k,Y,hS,g _ _ ?_⟩
 clear g N0;generalize mix J k=n;refine bB λN1 S=>?_;have h2:=S [O (.ref v),O (.int k),O (.ref z),O (.int d),O (.int n),cx,cx,cx] H <| by
  refine bB λN2 X=>?_;have h3:=X [O (.ref v),O (.int k),O (.ref z),O (.int d),O (.int n),cx,cx,cx] H <| by
   clear X N2 S N1;have el:(as.map V.ref).length=hs.length:=by rw[bd];exact M.1
   refine bB λA6 hN=>⟨_,Y,_,_,Y,Y,⟨by decide,by decide⟩,_,_,Y,Y,(by decide),Y,_,Y,?_⟩
   rw[BS];by_cases h6:n / 8 % 6=0
   ·rw[fo h6];exact aw ⟨bI Y,λp j=>q p (.lf .any) _ (ad.new j) ⟨af,λpm _=>jU R Y⟩⟩
   rw[dV h6];refine ak (hN _ _ ?_);clear hN A6;obtain⟨i,E,ei⟩:∃i:ft,i<hs.length/\n / 64 % ((as.map V.ref).length:ft)=i:=by
    have h0:=L.1;rw[el];have h1:=qc (n / 64) (b:=(hs.length:gV)) (by omega);have h2:=pU (n / 64) (b:=(hs.length:gV)) (by omega);exact⟨(n / 64 % (hs.length:gV)).toNat,by omega,by omega⟩
   have Z:i<as.length:=by rw[M.1];exact E
   have hh:=M.2 i _ _ (a_ Z) (a_ E);have hm:=j' E;have hk:=(L.mem hm).2;have A0:=rC L.nodup hm;refine bB λA6 hN=>⟨_,Y,_,Y,_,_,Y,Y,⟨by decide,by decide⟩,_,Y,z,_,Y,.inl (n7.of D),_,_,Y,Y,?_,z,_,_,.ref as[i],Y,Y,n7.of D,?_,?_⟩
   ·show (0:gV)<((as.map V.ref).length:ft);have:=L.1;omega
   ·rw[ei];exact dX (by rw[cc,a_ Z];rfl)
   generalize hs[i]=h at hh hm hk A0;refine⟨as[i],_,Y,th.of hh,Y,_,_,Y,_,_,Y,Y,hN _ _ ?_⟩;refine⟨_,Y,_,Y,_,Y,_,_,Y,Y,_,Y,v,J,k+7,h.2,3,Y,hS,by decide,by decide,hk,λa1 q1 Ai s1 r f1=>⟨bI Y,λp j=>q p (.lf (.isin h.1 q1)) _ (ay s1 j) ⟨⟨a1,af,?_⟩,λpm c=>jU R ?_⟩⟩⟩
   ·rw[A0];exact r.kt (cA (ad.new j))
   ·exact (mu (c h hm)).trans (f1 1 (by decide))
  refine⟨_,Y,_,_,Y,Y,_,Y,?_⟩;by_cases hd:1<d
  ·rw[fo (by omega:(1:gV)<d)];refine aw ⟨_,Y,_,_,Y,Y,(by decide),Y,_,Y,?_⟩;rw[BS];by_cases h4:n % 3=1
   ·rw[fo h4];obtain⟨d,rfl⟩:∃d',d=d' + 1:=⟨d - 1,by omega⟩
    obtain⟨m,rfl⟩:∃m',m=m' + 1:=⟨m - 1,by omega⟩
    obtain⟨e,ee⟩:∃e:n_,FY [V.str "both",V.str "either"] (n / 3 % 2)=O (.str (jw e)):=by
     have h1:=qc (n / 3) (b:=2) (by decide);have h2:=pU (n / 3) (b:=2) (by decide);rcases (by omega:n / 3 % 2=0\/n / 3 % 2=1) with h |h <;> rw[h]
     ·exact⟨d_,Y⟩
     ·exact⟨c0,Y⟩
    refine aw (bB λN0 g=>⟨_,Y,by decide,by decide,?_⟩);refine⟨iG (n:=2) (λi acc C=>∃N:U ce,acc=N.map V.ref/\N.length=i/\ad H C/\∀a∈N,∃q,WG A hs C a d q) ⟨[],Y,Y,ad.refl _,nofun⟩ ?_ (by decide) ?_ ?_⟩
    ·rintro i acc C E ⟨N,rfl,D,_⟩;rw[bd,D];exact dv _
    ·rintro i acc C E ⟨N,rfl,hw,I,ha⟩;refine⟨Wk.set Y,tT ⟨_,Y,_,Y,_,_,Y,Y,.inl ⟨by decide,by decide⟩,_,_,Y,Y,_,Y,_,_,Y,Y,_,Y,_,Y,_,_,Y,Y,?_⟩⟩;refine⟨v,z,J,2 * k+1+(0+(i:gV)),d,as,hs,?_,I.seq hS,I _ _ D,M.same I,L,by omega,by omega,λa q' H6 s6 A5=>cw E ⟨N++[a],by rw[dn];rfl,by rw[gT,hw];rfl,I.trans s6,λb hb=>?_⟩⟩
     ·show [V.ref v,V.int (2 * k+1+(0+(i:gV))),V.ref z,V.int (((d+1:ft):gV) - 1)]=_;rw[show (((d+1:ft):gV) - 1)=(d:gV) by omega]
     ·rcases pA.mp hb with h |h
      ·obtain⟨q0,h1⟩:=ha b h;exact⟨q0,h1.same s6⟩
      ·rw[ku.mp h];exact⟨q',A5⟩
    ·rintro acc H5 ⟨N,rfl,hw,I,ha⟩ p j;obtain⟨w1,w2,rfl⟩:∃x y,N=[x,y]:=match N,hw with |[x,y],_=>⟨x,y,Y⟩
     obtain⟨q1,g1⟩:=ha w1 (.head _);obtain⟨q2,g2⟩:=ha w2 (.tail _ (.head _));refine g _ _ ⟨bI Y,λl A1=>?_⟩;refine⟨_,Y,_,_,Y,Y,⟨by decide,by decide⟩,_,_,Y,Y,(by decide),l,_,_,_,Y,Y,n7.of af,ee,bI Y,λp1 A2=>⟨_,Y,p,[.ref w1,.ref w2],Y,.inl ⟨n7.of (ay (ad.new A1) A2 _ _ af),λp2 A3=>?_⟩⟩⟩;have s9:∀{o},ad H5 (upd (upd (upd (upd H5 p (.lst [.ref w1,.ref w2])) l (.lst [.str "both", .str "either"])) p1 (.tup [.str (jw e)])) p2 o):=ay (ay (ay (ad.new j) A1) A2) A3;exact⟨p1,p2,_,_,Y,Y,th.of (ad.new A3 _ _ af),th.of af,List.cons_ne_nil _ _,bI Y,nofun,λ_ p3 B=>q p3 (.two e q1 q2) _ (I.trans (ay s9 B)) ⟨⟨w1,w2,af,(g1.same (ay s9 B)).1,(g2.same (ay s9 B)).1⟩,λpm c=>xf (by omega) (g1.2 pm c) (g2.2 pm c)⟩⟩
   ·rw[dV h4];exact ak h3
  ·rw[dV (by omega:¬ (1:gV)<d)];exact ak h3
 refine⟨_,Y,_,_,Y,Y,_,Y,?_⟩;by_cases hd:1<d
 ·rw[fo (by omega:(1:gV)<d)];refine aw ⟨_,Y,_,_,Y,Y,(by show (0:gV)<3;decide),Y,_,Y,?_⟩;rw[BS];by_cases h4:n % 3=0
  ·rw[fo h4];obtain⟨d,rfl⟩:∃d',d=d' + 1:=⟨d - 1,by omega⟩
   obtain⟨m,rfl⟩:∃m',m=m' + 1:=⟨m - 1,by omega⟩
   refine aw ⟨_,Y,_,Y,_,_,Y,Y,.inl ⟨by decide,by decide⟩,_,_,Y,Y,_,Y,_,Y,_,_,Y,Y,v,z,J,2 * k+1,d,as,hs,?_,hS,D,M,L,by omega,by omega,λa1 q1 Ai s1 r=>⟨bI Y,λp j=>q p (.neg q1) _ (ay s1 j) ⟨⟨a1,af,(r.same (ad.new j)).1⟩,λpm c=>xc (by omega) (r.2 pm c)⟩⟩⟩;show [V.ref v,V.int (2 * k+1),V.ref z,V.int (((d+1:ft):gV) - 1)]=_;rw[show (((d+1:ft):gV) - 1)=(d:gV) by omega]
  ·rw[dV h4];exact ak h2
 ·rw[dV (by omega:¬ (1:gV)<d)];exact ak h2
theorem Uc{w:hO}(h:JL.lookup w=cx):w ≠ "not" /\ w ≠ "both" /\ w ≠ "either" :=by
 refine⟨?_,?_,?_⟩ <;> rintro rfl <;> cases h
theorem U'{w a b:hO}(c:w≠a)(d:w≠b):GP (.str w) [.str a,.str b]=d_:=by
 simp only[GP,y_,y_,Lg,Fw,Bool.or_eq_false_iff];exact⟨x4.mpr c.symm,x4.mpr d.symm⟩
theorem wJ{fr:U (eH ft)}{pt:ce}{bs:U n_}(h0:H pt=O (.tup (as.map V.ref)))(h:as.length=bs.length)(hz:as.length<=1000)(hs:∀(i:ft) a b C (R:VK),as[i]?=O a->bs[i]?=O b->ad H C->(∀Am,ad C Am->R (.bl b) Am)->Ax ((stC (cx::fr) σ).set 0 (O (.ref a))) C R)(k:∀C p,ad H C->C p=O (.lst (bs.map V.bl))->Q (.ref p) C):
  kN (cx::fr) (Kl K pt) (fv 0) lX Ax σ H Q:=by
 refine⟨mT (E:=as.map V.ref) (λi acc C=>ad H C/\acc=(bs.take i).map V.bl) ⟨ad.refl _,Y⟩ ?_ ?_ ?_ ?_⟩
 ·rintro i acc C d ⟨c,rfl⟩;exact⟨th.of (c _ _ h0),by simp_all⟩
 ·rw[bd];exact f' (aV hz)
 ·rintro i x acc C f e ⟨c,rfl⟩;have d:i<as.length:=by simp_all
  simp only[cc,a_ d]at f;cases f;have g:=a_ (show i<bs.length by simp_all);refine⟨Wk.set Y,tT (hs i _ _ _ _ (a_ d) g c λAm j=>cw e ⟨c.trans j,?_⟩)⟩;simp only[ke,g,dn];rfl
 ·rintro acc C ⟨c,rfl⟩ p l;refine k _ p (ay c l) ?_;simp only[af,bd,h,gl]
inductive Xf(A:Ad)(Aq:V->Prop)(m:ft)(b:U V)(H:Hp)(Q:VK)(_E:XK):Prop
 |i(a:ce)(x:V)(q:Tr Sm)(e:ft)(_:b=[.ref a,x])(_:bc (LQ Aq) H a q)(_:DB (cQ A.aI) A.aI e q=cx)(_:6<=e+m)(_:x = .non\/Aq x)(_:∀C,ad H C->Q (.bl (q.holds Sm.holds x)) C)
def ut(A:Ad)(Aq:V->Prop):ft->Sp
 |0=>λ_ _ _ _=>wa
 |m+1=>Xf A Aq m
theorem Zo:(["_law_part","_law_value"]:U hO).Nodup:=by decide +kernel
theorem Sz(hG:Cm Aq)(T:Txt K G A)(ma:uG P w K G u q_ (1+m) "_law_answers" ["_law_question","_law_value"] (ut A Aq m))(F:vr K "_law_answers" "_law_answers" Q8 f Ag):
  ap P w K G u q_ (1+m+1) f Ag ["_law_question","_law_value"] (ut A Aq (m+1)):=by
 refine F.o ["_law_question","_law_value","_law_word","_law_some"] λnN A4 An A0 s H j Q Ah hr h=>?_;obtain⟨a,x,q,e,rfl,X,n,hm,hx,k⟩:=h;have he:=gA n;refine⟨_,(ao (aK (i:=2) nN Y (gS Y) (aG (aT K) (pv 0) ah (λ_ _=>rfl)))
  (ao (aN (aE bh (pv 2) au (aC _)) (aj (aA (lF (ma.pe hr av (aa (aG (aT K) (pv 0) ah (λ_ _=>rfl)) (aa (pv 1) ae)) (by omega)))))
   aO)
  (ao (aN (aE (iU K) (pv 2) (cz (aa au (aa au ae))) (by rfl)) (ao (gN (i:=3) nN Y (gS Y) (Ac:=["_law_part","_law_value"]) (fr:=[cx,O 1]) ⟨Y,Y,Y,Y,Y,Y⟩ Y (j9 (gk (km K) (pv 0) (fe ah) iV))
    (λAj Ap s H=>⟨aH (i:=0) Zo Y (gS Y),bn,(ma.pe hr av (aa (pv 0) (aa (pv 1) ae)) (by omega))⟩))
  (aj (aA (dA (aE bh (pv 2) au (aC _)) (aL (jO K Y) (by rfl) T.jm PyProof.Rows.Boot.«all» (aa (pv 3) ae)) (aL (wp K Y) (by rfl) T.yn PyProof.Rows.Boot.«any» (aa (pv 3) ae))))))
   aO)
  (ao (aN (aE bh (pv 2) au (aC _)) (aj (aA fc))
   aO)
  (ao (aN (PW.pt (fT (aE bh (pv 2) au (aC _)) (gm (aE dI (pv 1) bL (aC _))))) (aj (aA (gK (c8 bh (pv 2) au (aC _)) (fz (c8 dI (pv 1) bL (aC _))))))
   aO)
  (ao (aN (aE (iU K) (pv 2) (cz (aa au (aa au ae))) (by rfl)) (aj (aA (dA (aE bh (pv 2) au (aC _)) (c8 bh (pv 1) (aG (aT K) (pv 0) ah (λ_ _=>rfl)) (aC _)) (c8 (iU K) (pv 1) (aG (aT K) (pv 0) ah (λ_ _=>rfl)) (by rfl)))))
   aO)
  (aj (aA (dA (aE bh (pv 2) au (aC _)) (c8 yX (pv 1) (aG (aT K) (pv 0) ah (λ_ _=>rfl)) (aC _)) (c8 yV (pv 1) (aG (aT K) (pv 0) ah (λ_ _=>rfl)) (aC _))))))))))),?_⟩
 cases q with
 |bad w j=>cases n
 |neg q=>
  obtain⟨b,E,hb⟩:=X;have n:=(ks (by omega)).symm.trans n;have:=gA n;obtain⟨m,rfl⟩:∃m',m=m' + 1:=⟨m - 1,by omega⟩
  exact⟨_,Y,a,_,_,_,Y,Y,th.of E,Y,_,Y,Y,_,Y,aw ⟨_,Y,a,_,_,_,Y,Y,th.of E,Y,_,Y,b,x,q,e+1,Y,hb,n,by omega,hx,λC s'=>⟨_,Y,k C s'⟩⟩⟩
 |two d q r=>
  obtain⟨b,c,E,hb,A1⟩:=X;have n:=(ks (by omega)).symm.trans n;rw[Hy]at n;have:=gA n.1;obtain⟨m,rfl⟩:∃m',m=m' + 1:=⟨m - 1,by omega⟩
  refine⟨_,Y,a,_,_,_,Y,Y,th.of E,Y,?_⟩;refine⟨_,Y,Y,_,Y,?_⟩;rw[show decide (V.str (jw d)=V.str "not")=d_ by cases d <;> rfl];refine ak ⟨_,Y,bI Y,λl N=>⟨l,_,Y,.inr (th.of af),Y,Y,_,Y,?_⟩⟩;rw[show (if d_=c0 then _ else GP (.str (jw d)) [.str "both", .str "either"])=c0 by cases d <;> rfl];have I:ad H (upd H l (.tup [.str "both", .str "either"])):=ad.new N;generalize upd H l (.tup [.str "both", .str "either"])=Ai at I;refine aw ⟨_,Y,1,Y,a,_,Y,th.of (I _ _ E),kD _ _,λpt A2=>⟨pt,Y,⟨_,th.of af⟩,?_⟩⟩;have ec:dF [V.str (jw d),.ref b,.ref c] (O 1) cx=[b,c].map V.ref:=kB _ _;rw[ec];have M:ad H (upd Ai pt (.tup ([b,c].map V.ref))):=ay I A2;have J:(upd Ai pt (.tup ([b,c].map V.ref))) pt=O (.tup ([b,c].map V.ref)):=af;refine wJ (bs:=[q.holds Sm.holds x,r.holds Sm.holds x]) J Y (bI Y) (λi a' b' C R Z e2 s3 kR=>?_) λH3 p s3 h3=>?_
  ·match i,Z,e2 with
   |0,Z,e2=>cases Z;cases e2;exact⟨_,Y,_,Y,b,x,q,e+1,Y,hb.kt (cA (M.trans s3)),n.1,by omega,hx,kR⟩
   |1,Z,e2=>cases Z;cases e2;exact⟨_,Y,_,Y,c,x,r,e+1,Y,A1.kt (cA (M.trans s3)),n.2,by omega,hx,kR⟩
  ·have k:=k H3 (M.trans s3);refine⟨_,Y,Y,_,Y,?_⟩;cases d with
   |false=>
    refine aw ⟨_,Y,p,_,Y,n7.of h3,?_⟩;rw[show [q.holds Sm.holds x,r.holds Sm.holds x].all id=(Tr.two d_ q r).holds Sm.holds x from tS _ (KH _)];exact k
   |true=>
    refine ak ⟨_,Y,p,_,Y,n7.of h3,?_⟩;rw[show [q.holds Sm.holds x,r.holds Sm.holds x].any id=(Tr.two c0 q r).holds Sm.holds x from tS _ (Fw _)];exact k
 |lf s=>
  obtain⟨w,g,E,N,hj⟩:=(LQ Aq).tup X;obtain⟨j1,j2,j3⟩:=Uc hj;have nb:∀w j,s≠.bad w j:=λw j z=>by subst z;exact hQ ((ks (by omega)).symm.trans n) nofun
  refine⟨_,Y,a,_,_,_,Y,Y,th.of E,cS (by decide) Y,?_⟩;refine⟨_,Y,Y,_,Y,?_⟩;rw[kr j1];refine ak ⟨_,Y,bI Y,λl N=>⟨l,_,Y,.inr (th.of af),Y,Y,_,Y,?_⟩⟩;rw[show (if d_=c0 then _ else GP (.str w) [.str "both", .str "either"])=d_ by rw[ks kC,U' j2 j3]];refine ak ?_;have I:ad H (upd H l (.tup [.str "both", .str "either"])):=ad.new N;generalize upd H l (.tup [.str "both", .str "either"])=Ai at I;have B:=(LQ Aq).kt (cA I) X;have D:=I _ _ E;clear N X E;have S:=k Ai I;have hn:∀v,Aq v->v≠.non:=λv h z=>by rcases hG v v h h with⟨_,_,e,_⟩ |⟨_,_,e,_⟩ <;> (rw[z]at e;cases e)
  have hs:(∃b,s = .zero b)\/(((∃c v,s = .one c v)\/∃j,s = .among j)/\w ≠ "all" /\ w ≠ "none" /\ s.holds .non=d_):=by
   cases s with
   |bad w j=>exact hQ Y (nb w j)
   |zero b=>exact .inl ⟨b,Y⟩
   |one c v=>
    obtain rfl:=fU D B.1;exact .inr ⟨.inl ⟨c,v,Y⟩,match c with |0=>by decide +kernel |1=>by decide +kernel |_+2=>(by decide +kernel:("above" : hO) ≠ "all"),match c with |0=>by decide +kernel |1=>by decide +kernel |_+2=>(by decide +kernel:("above" : hO) ≠ "none"),Y⟩
   |among j=>
    obtain⟨l,e,_⟩:=B.1;obtain rfl:=fU D e;exact .inr ⟨.inr ⟨j,Y⟩,by decide +kernel,by decide +kernel,Y⟩
  rcases hs with⟨b,rfl⟩ |⟨hs,w1,w2,h0⟩
  ·obtain rfl:=fU D B.1;cases b with
   |true=>exact⟨_,Y,Y,_,Y,aw S⟩
   |false=>exact⟨_,Y,Y,_,Y,ak ⟨_,Y,Y,_,Y,aw (aw ⟨_,Y,Y,_,Y,aw ⟨_,Y,Y,S⟩⟩)⟩⟩
  refine⟨_,Y,Y,_,Y,?_⟩;rw[kr w1];refine ak ⟨_,Y,Y,_,Y,?_⟩;rw[kr w2];refine ak ⟨_,Y,Y,_,Y,?_⟩;rcases hx with rfl |gx
  ·refine aw ⟨_,Y,Y,_,Y,?_⟩;rw[kr w2];have S:Q (.bl (s.holds .non)) Ai:=S;rw[h0]at S;exact ak S
  have xn:=hn x gx;rw[dV xn];refine ak ⟨_,Y,bI Y,λl2 A3=>⟨l2,_,Y,.inr (th.of af),Y,Y,_,Y,?_⟩⟩;have M:ad Ai (upd Ai l2 (.tup [.str "is", .str "among"])):=ad.new A3;generalize upd Ai l2 (.tup [.str "is", .str "among"])=Am at M;have y:=k Am (I.trans M);have L:=(LQ Aq).kt (cA M) B;rcases hs with⟨c,v,rfl⟩ |⟨j,rfl⟩
  ·obtain rfl:=fU D B.1;have y:Q (.bl (kW c x v)) Am:=by rw[←show (Sm.one c v).holds x=kW c x v from ks xn];exact y
   have c2:=hG x v gx (L.2 v (.head _));have J:=L.1
   match c,J,y with
   |0,J,y=>exact aw ⟨_,Y,Y,_,Y,aw ⟨_,Y,_,Y,a,_,_,_,Y,Y,th.of J,Y,c2.Iv,y⟩⟩
   |1,J,y=>exact ak ⟨_,Y,Y,_,Y,aw ⟨_,Y,_,Y,a,_,_,_,Y,Y,th.of J,Y,c2,y⟩⟩
   |_+2,J,y=>exact ak ⟨_,Y,Y,_,Y,ak ⟨_,Y,_,Y,a,_,_,_,Y,Y,th.of J,Y,c2,y⟩⟩
  ·obtain⟨l,e,N,hz⟩:=L.1;obtain rfl:=fU (M _ _ D) e;have y:Q (.bl (GP x j)) Am:=by rw[←show (Sm.among j).holds x=GP x j from ks xn];exact y
   have fl:∀v,Aq v->bN v=c0:=λv h=>by rcases hG v v h h with⟨_,_,rfl,_⟩ |⟨_,_,rfl,_⟩ <;> rfl
   exact aw ⟨_,Y,Y,_,Y,ak ⟨_,Y,_,Y,a,_,_,_,Y,Y,th.of e,Y,l,_,Y,.inl (n7.of N),fl x gx,i_.mpr λv hv=>fl v (L.2 v hv),y⟩⟩
def KL(hs:U E9)(z:hO):eH PM:=if z∈hs.map (·.1) then O (.num []) else cx
def hR(hs:U E9)(g:U V):Wh->J9->n_
 |.any,_=>c0
 |.isin z q,_=>q.holds Sm.holds (g.getD ((hs.map (·.1)).idxOf z) .non)
 |.bad _ _,_=>d_
def Zq(hs:U E9):Tr Wh->n_
 |.lf (.isin z _)=>Iw hs z
 |_=>d_
theorem TW{hs:U E9}{g:U V}{x:V}(a:ij h x=c0)(b:IE x):x = .non\/GK (decide (h.2 = "word")) x:=by
 simp only[ij]at a;by_cases e:h.2 = "word"
 ·rw[mu e]at a;rw[fo e];cases x with
  |non=>exact .inl Y
  |str z=>exact .inr ⟨z,Y,b,a⟩
  |_=>cases a
 ·rw[ks e]at a;rw[dV e,(nZ a).1];exact y0 _
inductive YI(A:Ad)(m:ft)(c:U V)(H:Hp)(Q:VK)(_E:XK):Prop
 |i(a b lr:ce)(as:U ce)(hs:U E9)(g:U V)(q:Tr Wh)(e:ft)(_:c=[.ref a,.ref b,.ref lr])(_:bc (LW (Iw hs)) H a q)(_:DB (cW A (KL hs)) A.aI e q=cx)(_:6<=e+m)(_:H b=O (.lst (as.map V.ref)))(_:fj H as hs)(_:LH hs)(_:H lr=O (.lst g))(_:kO hs g)(_:∀C,ad H C->Q (.bl (q.holds (hR hs g) ())) C)
def oI(A:Ad):ft->Sp
 |0=>λ_ _ _ _=>wa
 |m+1=>YI A m
theorem XI:(["_law_column"]:U hO).Nodup:=by decide +kernel
theorem YT:(["_law_part","_law_columns_here","_law_row_here"]:U hO).Nodup:=by decide +kernel
theorem Z8(T:Txt K G A)(CA:∀b,uG P w K G u q_ 7 "_law_answers" ["_law_question","_law_value"] (ut A (GK b) 6))(md:uG P w K G u q_ (7+m) "_law_found" ["_law_where_here","_law_columns_here","_law_row_here"] (oI A m))(F:vr K "_law_found" "_law_found" NX f Ag):
  ap P w K G u q_ (7+m+1) f Ag ["_law_where_here","_law_columns_here","_law_row_here"] (oI A (m+1)):=by
 refine F.o ["_law_where_here","_law_columns_here","_law_row_here","_law_names","_law_some"] λnN A9 An A3 s H vs Q Ah hr h=>?_;obtain⟨a,lc,lr,as,hs,g,q,e,rfl,hq,l,hm,hl,Z,L,A0,M,k⟩:=h;have he:=gA l;have ma:=CA (Zq hs q);refine⟨_,(ao (aN (aE bh (aG (aT K) (pv 0) ah (λ_ _=>rfl)) au (aC _)) (aj (aA fc))
   aO)
  (ao (aN (aE bh (aG (aT K) (pv 0) ah (λ_ _=>rfl)) au (aC _)) (aj (aA (lF (md.pe hr av (aa (aG (aT K) (pv 0) ah (λ_ _=>rfl)) (aa (pv 1) (aa (pv 2) ae))) (by omega)))))
   aO)
  (ao (aN (aE bh (aG (aT K) (pv 0) ah (λ_ _=>rfl)) au (aC _)) (ao (gN (i:=3) nN Y (gS Y) (Ac:=["_law_column"]) (fr:=[cx]) ⟨Y,Y,Y,Y,Y,Y⟩ Y (bV (pv 1))
    (λAj Ap s H=>⟨aH (i:=0) XI Y (gS Y),bn,(aG (aT K) (pv 0) ah (λ_ _=>rfl))⟩))
  (aj (aA (ma.pe hr av (aa (aG (aT K) (pv 0) ah (λ_ _=>rfl)) (aa (aG (bF K) (pv 2) (cU K mI De Df nM (pv 3) (aa (aG (aT K) (pv 0) ah (λ_ _=>rfl)) ae)) (λ_ _=>rfl)) ae)) (by omega)))))
   aO)
  (ao (gN (i:=4) nN Y (gS Y) (Ac:=["_law_part","_law_columns_here","_law_row_here"]) (fr:=[cx,O 1,O 2]) ⟨Y,Y,Y,Y,Y,Y⟩ Y (j9 (gk (km K) (pv 0) (fe ah) iV))
    (λAj Ap s H=>⟨aH (i:=0) YT Y (gS Y),bn,(md.pe hr av (aa (pv 0) (aa (pv 1) (aa (pv 2) ae))) (by omega))⟩))
  (aj (aA (dA (aE bh (aG (aT K) (pv 0) ah (λ_ _=>rfl)) au (aC _)) (aL (jO K Y) (by rfl) T.jm PyProof.Rows.Boot.«all» (aa (pv 4) ae)) (aL (wp K Y) (by rfl) T.yn PyProof.Rows.Boot.«any» (aa (pv 4) ae))))))))),?_⟩
 have I:∀{q' b m'} {C:Hp} {R:VK} {E':XK},m=m' + 1->ad H C->bc (LW (Iw hs)) H b q'->DB (cW A (KL hs)) A.aI (e+1) q'=cx->(∀Am,ad C Am->R (.bl (q'.holds (hR hs g) ())) Am)->oI A m [.ref b,.ref lc,.ref lr] C R E':=λ{q' b m' C R E'} em J S A4 kR=>by
  subst em;exact⟨b,lc,lr,as,hs,g,q',e+1,Y,S.kt (cA J),A4,by omega,J _ _ hl,Z.same J,L,J _ _ A0,M,kR⟩
 cases q with
 |bad w vs=>cases l
 |neg q=>
  obtain⟨b,B,S⟩:=hq;have l:=(ks (by omega)).symm.trans l;have:=gA l;exact⟨_,Y,a,_,_,_,Y,Y,th.of B,Y,Y,_,Y,ak ⟨_,Y,a,_,_,_,Y,Y,th.of B,Y,Y,_,Y,aw ⟨_,Y,a,_,_,_,Y,Y,th.of B,Y,_,Y,_,Y,I (m':=m - 1) (by omega) (ad.refl _) S l λC s'=>⟨_,Y,k C s'⟩⟩⟩⟩
 |two d q r=>
  obtain⟨b,c,B,S,A5⟩:=hq;have l:=(ks (by omega)).symm.trans l;rw[Hy]at l;have:=gA l.1;have w1:∀z:hO,z = "any" \/ z = "not" \/ z = "in" -> decide (V.str (jw d)=V.str z)=d_:=λz hz=>by rcases hz with rfl |rfl |rfl <;> cases d <;> rfl
  refine⟨_,Y,a,_,_,_,Y,Y,th.of B,Y,Y,_,Y,?_⟩;rw[w1 _ (.inl Y)];refine ak ⟨_,Y,a,_,_,_,Y,Y,th.of B,Y,Y,_,Y,?_⟩;rw[w1 _ (.inr (.inl Y))];refine ak ⟨_,Y,a,_,_,_,Y,Y,th.of B,Y,Y,_,Y,?_⟩;rw[w1 _ (.inr (.inr Y))];refine ak ⟨_,Y,1,Y,a,_,Y,th.of B,kD _ _,λpt A6=>⟨pt,Y,⟨_,th.of af⟩,?_⟩⟩;have ec:dF [V.str (jw d),.ref b,.ref c] (O 1) cx=[b,c].map V.ref:=kB _ _;rw[ec];have N:ad H (upd H pt (.tup ([b,c].map V.ref))):=ad.new A6;have h2:(upd H pt (.tup ([b,c].map V.ref))) pt=O (.tup ([b,c].map V.ref)):=af;refine wJ (bs:=[q.holds (hR hs g) (),r.holds (hR hs g) ()]) h2 Y (bI Y) (λi a' b' C R X e2 s3 kR=>?_) λH3 p s3 h3=>?_
  ·match i,X,e2 with
   |0,X,e2=>cases X;cases e2;exact⟨_,Y,_,Y,_,Y,I (m':=m - 1) (by omega) (N.trans s3) S l.1 kR⟩
   |1,X,e2=>cases X;cases e2;exact⟨_,Y,_,Y,_,Y,I (m':=m - 1) (by omega) (N.trans s3) A5 l.2 kR⟩
  ·have k:=k H3 (N.trans s3);have A7:=s3 _ _ (N _ _ B);refine⟨_,Y,a,_,_,_,Y,Y,th.of A7,Y,Y,_,Y,?_⟩;cases d with
   |false=>
    refine aw ⟨_,Y,p,_,Y,n7.of h3,?_⟩;rw[show [q.holds (hR hs g) (),r.holds (hR hs g) ()].all id=(Tr.two d_ q r).holds (hR hs g) () from tS _ (KH _)];exact k
   |true=>
    refine ak ⟨_,Y,p,_,Y,n7.of h3,?_⟩;rw[show [q.holds (hR hs g) (),r.holds (hR hs g) ()].any id=(Tr.two c0 q r).holds (hR hs g) () from tS _ (Fw _)];exact k
 |lf x=>
  have l:=(ks (by omega)).symm.trans l;cases x with
  |bad w vs=>cases l
  |any=>exact⟨_,Y,a,_,_,_,Y,Y,th.of hq,Y,Y,_,Y,aw (k H (ad.refl _))⟩
  |isin z q=>
   obtain⟨b,B,S⟩:=hq;refine⟨_,Y,a,_,_,_,Y,Y,th.of B,Y,Y,_,Y,ak ⟨_,Y,a,_,_,_,Y,Y,th.of B,Y,Y,_,Y,ak ⟨_,Y,a,_,_,_,Y,Y,th.of B,Y,Y,_,Y,aw ?_⟩⟩⟩;have hz:z∈hs.map (·.1):=FW λn=>by
    have:(KL hs z).isSome=d_:=by rw[KL,ks n];rfl
    rw[cW,this]at l;cases l
   have l:db A q=cx:=by
    have:(KL hs z).isSome=c0:=by rw[KL,mu hz];rfl
    rw[cW,mu this]at l;exact l
   refine⟨_,Y,lc,Y,⟨_,n7.of hl⟩,⟨cE (K:=K) (E:=as.map V.ref) (λi acc C=>ad H C/\acc=((hs.map (·.1)).take i).map V.str) ⟨ad.refl _,Y⟩ ?_ ?_ ?_ ?_⟩⟩
   ·rintro i acc C E ⟨J,rfl⟩;exact⟨n7.of (J _ _ hl),by rw[bd,gv];exact Dt ..⟩
   ·have:=L.2.1;rw[bd,Z.1];exact f' (aV (by omega))
   ·rintro i y acc C hy D ⟨J,rfl⟩;have E:i<as.length:=by rw[bd]at D;exact D
    have A1:i<hs.length:=by rw[←Z.1];exact E
    rw[cc,a_ E]at hy;cases hy;have hh:=(Z.same J).2 i _ _ (a_ E) (a_ A1);refine⟨Wk.set Y,tT ⟨_,Y,as[i],_,_,_,Y,Y,th.of hh,Y,cw D ⟨J,?_⟩⟩⟩;rw[ke,cc,a_ A1,dn];rfl
   ·rintro acc C ⟨J,rfl⟩ p hp;rw[bd,Z.1,←bd (f:=(·.1)) (as:=hs),gl];have N:ad H (upd C p (.lst ((hs.map (·.1)).map V.str))):=ay J hp;have h2:(upd C p (.lst ((hs.map (·.1)).map V.str))) p=O (.lst ((hs.map (·.1)).map V.str)):=af;have E:=o_ hz;have ez:(hs.map (·.1))[(hs.map (·.1)).idxOf z]?=O z:=by rw[a_ E,Ef E]
    have k:∀C,ad H C->Q (.bl (q.holds Sm.holds (g.getD ((hs.map (·.1)).idxOf z) .non))) C:=k;have D:∀{y:hO}{m:ft},m<(hs.map (·.1)).idxOf z->(hs.map (·.1))[m]?=O y->y≠z:=x8;generalize (hs.map (·.1)).idxOf z=j at E ez k D;rw[bd]at E;have ej:=a_ E;have hx:j<g.length:=by rw[M.1];exact E
    have ex:=a_ hx;have X:hs[j].1=z:=by rw[cc,ej]at ez;exact kn ez
    have hG:g[j] = .non\/GK (Iw hs z) g[j]:=by
     rw[←X,rC L.nodup (j' E)];exact TW (hs:=hs) (g:=g) (M.2.2 j _ _ ej ex) (M.2.1 _ (j' hx))
    rw[show g.getD j .non=g[j] by rw[nn,ex];rfl]at k;have A2:=N _ _ B;refine⟨_,Y,a,_,_,_,Y,Y,th.of A2,Y,_,Y,_,Y,.inl ⟨Y,_,n7.of h2⟩,_,Y,a,_,_,_,Y,Y,th.of A2,Y,p,_,_,j,Y,Y,h2,WO _,Y,⟨.str z,by rw[cc,ez];rfl,jT Y⟩,λm v A8 hv=>?_,lr,_,_,g[j],Y,Y,n7.of (N _ _ A0),dX ex,b,g[j],q,1,Y,S.kt (cA N),l,by decide,hG,λC s'=>k C (N.trans s')⟩;rw[cc]at hv;obtain⟨Au,eu,rfl⟩:=rk.mp hv;exact x4.mpr (D A8 eu)
def Qm(A:Ad):Sp:=λb H Q _=>(b=[.non]/\Q (.str "ok") H)\/∃(a Aj:ce)(z:hO),b=[.ref a]/\H a=O (fW a (.ref Aj))/\((Aj=A.aI/\z = "question")\/(Aj=A.ci/\z = "column"))/\∀C,ad H C->Q (.str z) C
theorem XM{c:ft}{An B:Prop}(h:c=1)(a:B):if (!decide (V.int (c:gV)=V.int 1))=c0 then An else B:=by
 subst h;exact a
theorem oE:cn ["_law_kept","_law_kinds"] ["_law_kept"] (aR tH):=by walk_at "sc"
theorem Z'(T:Txt K G A)(F:vr K "_law_refusal" "_law_refusal" tH f Ag):ap P w K G u q_ 1 f Ag ["_law_kept"] (Qm A):=by
 refine F.ok oE (λvs H Q Ah h=>?_) (λA0 An J s H vs Q Ah hr h=>?_)
 ·rcases h with⟨rfl,_⟩ |⟨a,Aj,z,rfl,_⟩ <;> rfl
 ·refine gb ⟨_,(bY (aN (aE dI (pv 0) bL (aC _)) (aj (aA au))
   aO)
  (jq (i:=1) oE.nd Y (gS Y) (fS (aM (aL (dj K) (by rfl) T.dq PyProof.Rows.Boot.«isinstance» (aa (pv 0) (aa (dJ T.qT) ae))) (aM (aL (dj K) (by rfl) T.dq PyProof.Rows.Boot.«isinstance» (aa (pv 0) (aa (dJ T.jh) ae))) (aM (aL (dj K) (by rfl) T.dq PyProof.Rows.Boot.«isinstance» (aa (pv 0) (aa (dJ T.m9) ae))) cj))))
  (jq (i:=1) oE.nd Y (gS Y) (j8 jp (LG (pv 1)) (fS (aM (aL (dj K) (by rfl) T.dq PyProof.Rows.Boot.«isinstance» (aa (pv 0) (aa (dJ T.ng) ae))) (aM (aL (dj K) (by rfl) T.dq PyProof.Rows.Boot.«isinstance» (aa (pv 0) (aa (dJ T.qU) ae))) (aM (aL (dj K) (by rfl) T.dq PyProof.Rows.Boot.«isinstance» (aa (pv 0) (aa (dJ T.xx) ae))) cj)))))
  (bY (aK (i:=1) oE.nd Y (gS Y) (aq jp (pv 1) (cP (aa (aL (dj K) (by rfl) T.dq PyProof.Rows.Boot.«isinstance» (aa (pv 0) (aa (dJ T.qW) ae))) (aa (aL (dj K) (by rfl) T.dq PyProof.Rows.Boot.«isinstance» (aa (pv 0) (aa (dJ T.qX) ae))) ae)))))
  (bY (aN (PW.pt (fT (aE fR (cU K mI PySem.F.slot_list_count PySem.F.type_list_count RV (pv 1) (aa fc ae)) ah (aC _)) (gm (eD (cR (aL (dj K) (by rfl) T.dq PyProof.Rows.Boot.«isinstance» (aa (pv 0) (aa (gM T.ziC PyProof.Rows.Boot.«ValueError») ae)))))))) (aj (aA au))
   aO)
  (ir (lG (bF K) (fS (aM au (aM au (aM au (aM au (aM au (aM au (aM au (aM au cj))))))))) (cU K mI De Df nM (pv 1) (aa fc ae)) (λ_ _=>rfl)))))))),?_⟩
  rcases h with⟨rfl,q⟩ |⟨a,Aj,z,rfl,p,hC,q1⟩
  ·exact⟨_,Y,Y,_,Y,aw q⟩
  refine⟨_,Y,Y,_,Y,ak ?_⟩;obtain⟨c,d,g,i,l,n,r,v,j,k0,k1,k2,k3,k4,k5,k6,k7,S,kv,hc,hj,x,hw⟩:∃(c d g i l n r v:n_)(j:ft),n' K (.ref Aj) (.ref A.gC)=O c/\n' K (.ref Aj) (.ref A.aI)=O d/\n' K (.ref Aj) (.ref A.gD)=O g/\n' K (.ref Aj) (.ref A.gE)=O i/\n' K (.ref Aj) (.ref A.dS)=O l/\n' K (.ref Aj) (.ref A.ci)=O n/\n' K (.ref Aj) (.ref A.fN)=O r/\n' K (.ref Aj) (.ref A.fu)=O v/\iC K Aj/\n' K (.ref Aj) (.type "ValueError")=O c0/\([.bl c,.bl d,.bl g,.bl i,.bl l,.bl n,.bl r,.bl v]:U V).countP (λz=>Es z (.bl c0))=1/\([.bl c,.bl d,.bl g,.bl i,.bl l,.bl n,.bl r,.bl v]:U V)[j]?=O (.bl c0)/\(∀m z,m<j->([.bl c,.bl d,.bl g,.bl i,.bl l,.bl n,.bl r,.bl v]:U V)[m]?=O z->Es z (.bl c0)=d_)/\([.str "bits", .str "question", .str "row", .str "table", .str "value", .str "column", .str "packing", .str "norow"]:U V)[j]?=O (.str z):=by
   rcases hC with⟨rfl,rfl⟩ |⟨rfl,rfl⟩
   ·exact⟨_,_,_,_,_,_,_,_,1,T.zge,T.zgf,T.zgg,T.zgh,T.zgi,T.zgj,T.zgk,T.zgl,T.zg6,T.zow,Y,Y,λm z x hz=>match m,x with |0,_=>by cases hz;rfl,Y⟩
   ·exact⟨_,_,_,_,_,_,_,_,5,T.zgs,T.zgt,T.zgu,T.zgv,T.zgw,T.zgx,T.zgy,T.zgz,T.zg7,T.zox,Y,Y,λm z x hz=>match m,x with |0,_=>by cases hz;rfl |1,_=>by cases hz;rfl |2,_=>by cases hz;rfl |3,_=>by cases hz;rfl |4,_=>by cases hz;rfl,Y⟩
  have Ao:∀{C D b},C a=O (fW a (.ref Aj))->n' K (.ref Aj) (.ref D)=O b->i3 K C (.ref a) (.ref D) b:=λh e=>zg1 h S e;refine⟨_,Y,_,_,_,Y,Ao p k0,_,Y,_,_,_,Y,Ao p k1,_,Y,_,_,_,Y,Ao p k2,bI Y,λX L=>?_⟩;have Z:=ad.new (o:=.lst [.bl c,.bl d,.bl g]) L;have M:=Z _ _ p;refine⟨_,Y,_,Y,_,_,_,Y,Ao M k3,_,Y,_,_,_,Y,Ao M k4,_,Y,_,_,_,Y,Ao M k5,bI Y,λl2 y=>?_⟩;refine⟨X,l2,_,_,Y,Y,by rw[ag (aF af y)];exact af,af,bI Y,λl3 N=>?_⟩;have s3:ad H (upd (upd (upd H X (.lst [.bl c,.bl d,.bl g])) l2 (.lst [.bl i,.bl l,.bl n])) l3 (.lst [.bl c,.bl d,.bl g,.bl i,.bl l,.bl n])):=ay (ay Z y) N;have h3:=s3 _ _ p;refine⟨_,Y,_,Y,_,_,_,Y,Ao h3 k6,_,Y,_,_,_,Y,Ao h3 k7,bI Y,λl4 B=>?_⟩;refine⟨l3,l4,_,_,Y,Y,by rw[ag (aF af B)];exact af,af,bI Y,λl5 R=>?_⟩;have s5:=ay (o:=.lst [.bl c,.bl d,.bl g,.bl i,.bl l,.bl n,.bl r,.bl v]) (ay s3 B) R;have h5:=s5 _ _ p;refine⟨_,Y,.inl ⟨Y,_,n7.of af⟩,l5,_,_,Y,Y,af,Y,Y,Y,_,Y,?_⟩;refine XM hc ⟨_,Y,_,_,_,Y,WV h5 S kv,_,Y,ak ⟨bI Y,λl6 E=>?_⟩⟩;have I:=aF af E;exact⟨_,Y,.inl ⟨Y,_,n7.of (by rw[ag I];exact af)⟩,l5,_,_,j,Y,Y,by rw[ag I];exact af,Y,Y,⟨.bl c0,hj,Y⟩,x,l6,_,_,_,Y,Y,n7.of af,dX hw,q1 _ (ay s5 E)⟩
inductive P4(A:Ad)(b:U V)(H:Hp)(Q:VK)(_E:XK):Prop
 |i(Al a:ce)(J:U hO)(I:U aW)(E:U gV)(kd:hO->n_)(q:Tr Wh)(z:hO)(_:b=[.ref Al,.ref a])(_:J6 A H Al J I E kd)(_:bc (LW kd) H a q)(_:Ec A H)(_:∀Aj,DB (cW A (aS J I)) A.aI 1 q=O Aj->(Aj=A.aI/\z = "question")\/(Aj=A.ci/\z = "column"))
  (_:DB (cW A (aS J I)) A.aI 1 q=cx->∀l C,RT A H C->C l=O (.lst ((eU (q.holds (hW (aS J I))) E.length).map λi=>.int (E.getD i 0)))->Q (.ref l) C) (_:∀Aj,DB (cW A (aS J I)) A.aI 1 q=O Aj->∀C,RT A H C->Q (.str z) C)
theorem XG(T:Txt K G A)(CW:aZ P w K G u (yl P w) 28 A.aX "where" ["self","where"] (PN A))(d:uG P w K G u q_ 1 "_law_refusal" ["_law_kept"] (Qm A))(F:vr K "_law_told" "_law_told" Qb f Ag):
  ap P w K G u q_ 29 f Ag ["_law_table","_law_where_here"] (P4 A):=by
 obtain⟨v,x,g,i,j⟩:=CW;refine F.o ["_law_table","_law_where_here","_law_kept","_law_found_here","e"] λc y An m s H vs Q Ah n h=>?_;obtain⟨Al,a,J,I,E,kd,q,z,rfl,p,B,D,hz,L,M⟩:=h;obtain⟨_,_,_,_,⟨X,N⟩,_⟩:=p.tab;refine⟨_,(ao (aK (i:=2) c Y (gS Y) bL)
  (ao (aK (i:=3) c Y (gS Y) bL)
  (ao (X4 Y Y Y c (i:=4) Y Y (by rfl) T.zfT
   (λpn xe Ah R=>(aj (aK (i:=3) c Y (gS Y) (bp (pv 0) T.bD i g (n.mono (by decide)) j .nil R (aa (pv 1) ae))))) (λa=>(aj (aK (i:=2) c Y (gS Y) (pv 4)))))
  (aj (aA (dA (aE dI (pv 2) bL (aC _)) (pv 3) (d.pe n av (aa (pv 2) ae)))))))),?_⟩
 refine⟨_,Y,Al,X,_,Y,N,Y,_,Y,Al,a,J,I,E,kd,q,Y,p,B,D,λe l C r S=>⟨_,Y,Y,_,Y,aw ⟨_,Y,L e l C r S⟩⟩,λAj e C r=>?_⟩;have hz:=hz Aj e;refine⟨?_,λb Z=>⟨_,Y,_,Y,Y,_,Y,ak ⟨_,Y,.inr ⟨b,Aj,z,Y,af,hz,λAm s2=>M Aj e Am (r.trans (.of ((ad.new Z).trans s2)))⟩⟩⟩⟩;rcases hz with⟨rfl,_⟩ |⟨rfl,_⟩
 ·exact T.zhA
 ·exact T.zhB
def PM.okN(Ao:ft):PM->Prop
 |.num g=>Ex g=c0
 |.wrd N J=>Ex J=c0/\inR N J/\N.length<=Ao/\N.Nodup
theorem PM.okN_ok{p:PM}(h:p.okN Ao)(a:Ao<=1000):p.ok:=by
 cases p with
 |num g=>exact h
 |wrd N J=>exact⟨h.1,h.2.1,jE h.2.2.1 a⟩
theorem VN{z:hO}{o:OI}(h:∀i:gV,o=O i->0<=i/\i<N.length):dW (N++[z]) o=dW N o:=by
 cases o with
 |none=>rfl
 |some i=>
  obtain⟨a,b⟩:=h i Y;show V.str ((N++[z]).getD i.toNat "")=V.str (N.getD i.toNat "");rw[nn,nn,kI (by simp_all)]
theorem PM.put_cells{p:PM}{x:V}(h:p.okN Ao)(c:p.takes x=c0):(p.put x).cells=p.cells++[x]:=by
 cases p with
 |num g=>
  show (g++[KJ x]).map ov=_;rw[dn];have:=(nZ c).1;show g.map ov++[ov (KJ x)]=g.map ov++[x]
  rw[←this]
 |wrd N J=>
  obtain⟨l,d,m,n⟩:=h;rcases u9 c with rfl |⟨z,rfl⟩
  ·show (J++[cx]).map (dW N)=_;rw[dn];rfl
  ·show (J++[(dm N (.str z)).2]).map (dW (dm N (.str z)).1)=_;by_cases a:z∈N
   ·have b:dm N (.str z)=(N,O (N.idxOf z:gV)):=mu a;rw[b,dn];have q:=o_ a;have:dW N (O (N.idxOf z)) = .str z:=by
     show V.str (N.getD (N.idxOf z:gV).toNat "")=_
     simp_all
    show J.map (dW N)++[dW N (O (N.idxOf z))]=J.map (dW N)++[V.str z]
    rw[this]
   ·have b:dm N (.str z)=(N++[z],O (N.length:gV)):=ks a;rw[b,dn];have f:J.map (dW (N++[z]))=J.map (dW N):=BW λo r=>VN λi e=>d i (by simp_all);have j:dW (N++[z]) (O (N.length)) = .str z:=by
     show V.str ((N++[z]).getD (N.length:gV).toNat "")=_
     simp_all
    show J.map (dW (N++[z]))++[dW (N++[z]) (O (N.length))]=_;rw[f,j];rfl
theorem PM.put_ok{p:PM}{x:V}(h:p.okN Ao)(m:p.takes x=c0)(n:p.col.length<8)(v:Ao<=900):(p.put x).okN (Ao+1)/\(p.put x).col.length=p.col.length+1:=by
 cases p with
 |num g=>
  refine⟨nV h n (nZ m).2,?_⟩;show (g++[KJ x]).length=g.length+1;rw[gT];rfl
 |wrd N J=>
  obtain⟨r,d,q,f⟩:=h;refine⟨⟨(nV (o:=(dm N x).2) r n (yE x (by lia))),?_⟩,?_⟩
  ·rcases u9 m with rfl |⟨z,rfl⟩
   ·refine⟨λi c=>?_,Cr q,f⟩;rcases pA.mp c with h |h
    ·exact d i h
    ·cases ku.mp h
   ·by_cases j:z∈N
    ·have l:dm N (.str z)=(N,O (N.idxOf z:gV)):=mu j;rw[l];refine⟨λi c=>?_,Cr q,f⟩;rcases pA.mp c with h |h
     ·exact d i h
     ·grind
    ·have l:dm N (.str z)=(N++[z],O (N.length:gV)):=ks j;rw[l];have w:(N++[z]).length=N.length+1:=by rw[gT];rfl
     refine⟨λi c=>?_,by show (N++[z]).length<=Ao+1;simp_all,?_⟩
     ·rcases pA.mp c with h |h
      ·have:=d i h;exact⟨this.1,by show i<((N++[z]).length:gV);lia⟩
      ·grind
     ·exact Cp.mpr ⟨f,by simp,λa s b u e=>j (by simp only[←ku.mp u,←e];exact s)⟩
  ·show (J++[(dm N x).2]).length=J.length+1;rw[gT];rfl
theorem Eo{α β:Type}(f:α->β):∀(l:U α)(k:ft),(l.map f).eraseIdx k=(l.eraseIdx k).map f
 |[],_=>rfl
 |_::_,0=>rfl
 |a::r,k+1=>by show f a::(r.map f).eraseIdx k=f a::(r.eraseIdx k).map f;rw[Eo]
theorem PM.drop_cells(p:PM)(k:ft):(p.drop k).cells=p.cells.eraseIdx k:=by
 cases p with
 |num g=>exact (Eo ov g k).symm
 |wrd N J=>exact (Eo (dW N) J k).symm
theorem PM.drop_ok{p:PM}(h:p.okN Ao)(a:k<p.col.length):(p.drop k).okN Ao/\(p.drop k).col.length=p.col.length - 1:=by
 cases p with
 |num g=>exact⟨rZ h k,by show (g.eraseIdx k).length=_;rw[Cy,mu (show k<g.length from a)];rfl⟩
 |wrd N J=>
  obtain⟨b,c,d,e⟩:=h;exact⟨⟨rZ b k,λi f=>c i (BO f),d,e⟩,by show (J.eraseIdx k).length=_;rw[Cy,mu (show k<J.length from a)];rfl⟩
def bZ(E:U gV)(rows:U (ce×U V)):U (Key×V):=(E.zip (rows.map λr=>V.ref r.1)).map λq=>(.inl (O q.1),q.2)
theorem sQ:∀{E:U gV}{rows:U (ce×U V)}{n:gV},n∉E->aP (bZ E rows) (.inl (O n))=cx
 |[],_,_,_=>rfl
 |_::_,[],_,_=>rfl
 |m::l,r::a,n,h=>by
  have b:¬ (pw (O m):Key)=pw (O n):=λe=>h (by grind);have e:aP (bZ (m::l) (r::a)) (.inl (O n))=aP (bZ l a) (.inl (O n)):=dN b;rw[e];exact sQ λhz=>h (hE _ hz)
theorem sR:∀{E:U gV}{rows:U (ce×U V)}{i:ft}{n:gV}{r:ce×U V},E.Pairwise (· < ·)->E[i]?=O n->rows[i]?=O r->aP (bZ E rows) (.inl (O n))=O (.ref r.1)
 |[],_,i,_,_,_,h,_=>by cases h
 |_::_,[],i,_,_,_,_,h=>by cases h
 |m::l,r::d,0,n,j,_,c,f=>by
  cases c;cases f;exact eV Y
 |m::l,r::d,i+1,n,j,p,c,f=>by
  obtain⟨a,b⟩:=Dr.mp p;have q:=a n (eT c);have g:¬ (pw (O m):Key)=pw (O n):=λe=>by
   grind
  have e:aP (bZ (m::l) (r::d)) (.inl (O n))=aP (bZ l d) (.inl (O n)):=dN g;rw[e];exact sR b c f
theorem QT(h:rows.length=E.length)(n:gV)(r:ce×U V):bZ (E++[n]) (rows++[r])=bZ E rows++[(.inl (O n),.ref r.1)]:=by
 delta bZ
 rw[dn,JS (by simp_all),dn];rfl
theorem RO{k:Key}(h:aP kvs k=cx):fm kvs k=kvs:=by
 delta fm
 rw[List.filter_eq_self];intro b a;refine fo λe=>?_;exact RE h (nk.mpr ⟨b,a,e⟩)
theorem zK:∀{E:U gV}{rows:U (ce×U V)}{i:ft}{n:gV},E.Pairwise (· < ·)->rows.length=E.length->E[i]?=O n->fm (bZ E rows) (.inl (O n))=bZ (E.eraseIdx i) (rows.eraseIdx i)
 |[],_,i,_,_,_,h=>by cases h
 |_::_,[],i,_,_,h,_=>by cases h
 |m::l,r::c,0,n,f,g,d=>by
  have d:m=n:=kn d;subst d;obtain⟨a,b⟩:=Dr.mp f;have j:m∉l:=λz=>by have:=a m z;lia
  have e:fm (bZ (m::l) (r::c)) (.inl (O m))=fm (bZ l c) (.inl (O m)):=by
   show Ir _ ((pw (O m),V.ref r.1)::bZ l c)=_;rw[List.filter_cons_of_neg (by simp)];rfl
  simp only[e,RO (sQ j)];rfl
 |m::l,r::c,i+1,n,f,g,d=>by
  obtain⟨a,b⟩:=Dr.mp f;have p:=a n (eT d);have e:fm (bZ (m::l) (r::c)) (.inl (O n))=(pw (O m),V.ref r.1)::fm (bZ l c) (.inl (O n)):=by
   show Ir _ ((pw (O m),V.ref r.1)::bZ l c)=_;have q:(pw (O m):Key)≠pw (O n):=λz=>by
    grind
   rw[List.filter_cons_of_pos (by grind)];rfl
  simp only[e,zK b (GH g) d];rfl
theorem Pq{p:PM}(e:p.isW=decide (h.2 = "word"))(x:V):p.takes x=ij h x:=by
 simp only[ij];cases p with
 |num _=>rw[ks (of_decide_eq_false e.symm)];rfl
 |wrd _ _=>rw[mu (t9 e.symm)];rfl
theorem ye:∀{I:U aW}{fs:U (PM->PM)}{i:ft}{q:aW}{f:PM->PM},I[i]?=O q->fs[i]?=O f->(cI I.length I fs)[i]?=O (q.1,q.2.1,f q.2.2)
 |[],_,_,_,_,h,_=>by cases h
 |q::r,[],i,_,_,_,h=>by cases h
 |q::r,f::s,0,_,_,a,b=>by cases a;cases b;rfl
 |q::r,f::s,i+1,c,d,a,b=>ye (i:=i) a b
theorem yf{fs:U (PM->PM)}(h:fs.length=I.length){q:aW}(e:(cI I.length I fs)[i]?=O q):∃a f,I[i]?=O a/\fs[i]?=O f/\q=(a.1,a.2.1,f a.2.2):=by
 have d:i<I.length:=by
  have:=(cs.mp e).1
  rwa[nL]at this
 have b:=a_ d;have c:=a_ (show i<fs.length by simp_all);rw[ye b c]at e;exact⟨_,_,b,c,(kn e).symm⟩
structure Jk(hs:U E9)(ps:U aW)(living:U gV)(g:ft)(rows:U (ce×U V)):Prop where
 len:ps.length=hs.length
 kin:∀(i:ft) h q,hs[i]?=O h->ps[i]?=O q->q.2.2.isW=decide (h.2 = "word")
 ok:∀q∈ps,q.2.2.okN g/\q.2.2.col.length=living.length
 ris:living.Pairwise (· < ·)
 bel:∀n∈living,n<(g:gV)
 few:living.length<=g
 rlen:rows.length=living.length
 fit:∀r∈rows,kO hs r.2
 cells:∀(i j:ft) r q,rows[i]?=O r->ps[j]?=O q->r.2[j]?=q.2.2.cells[i]?
theorem Jk.drop{hs:U E9}{I:U aW}{E:U gV}{Ao k:ft}{rows:U (ce×U V)}(h:Jk hs I E Ao rows)(u:k<E.length):Jk hs (cI I.length I (nc I.length (PM.drop k))) (E.eraseIdx k) Ao (rows.eraseIdx k):=by
 have part:∀{j:ft}{q:aW},(cI I.length I (nc I.length (PM.drop k)))[j]?=O q->∃g,I[j]?=O g/\q=(g.1,g.2.1,g.2.2.drop k):=λe=>by
  obtain⟨g,f,m,l,p⟩:=yf B1 e;rw[Hr (eT l)]at p;exact⟨g,m,p⟩
 refine⟨by rw[nL];exact h.len,λi v q l p=>?_,λq w=>?_,h.ris.sublist (Ii _ _),λn x=>h.bel n (BO x),jE (Mt (Ii _ _)) h.few,by rw[Cy,Cy,h.rlen],λr y=>h.fit r (BO y),λi j r q l p=>?_⟩
 ·obtain⟨g,m,rfl⟩:=part p;simp only[←h.kin i v g l m];cases g.2.2 <;> rfl
 ·obtain⟨j,z⟩:=oT w;obtain⟨g,m,rfl⟩:=part z;obtain⟨a,b⟩:=h.ok g (eT m);obtain⟨c,d⟩:=PM.drop_ok a (by exact b ▸ u);exact⟨c,by rw[Cy,mu u,←b];exact d⟩
 ·obtain⟨g,m,rfl⟩:=part p;rw[PM.drop_cells,HK];rw[HK]at l;by_cases s:i<k
  ·rw[mu s]at l ⊢;exact h.cells i j r g l m
  ·rw[ks s]at l ⊢;exact h.cells (i+1) j r g l m
theorem Jk.put{hs:U E9}{I:U aW}{E:U gV}{Ao:ft}{rows:U (ce×U V)}{lr:ce}{g:U V}(h:Jk hs I E Ao rows)(P:Ao<=7)(z:kO hs g):Jk hs (cI I.length I (g.map PM.put)) (E++[(Ao:gV)]) (Ao+1) (rows++[(lr,g)]):=by
 have A:=h.few;have part:∀{j:ft}{q:aW},(cI I.length I (g.map PM.put))[j]?=O q->∃l x B,I[j]?=O l/\g[j]?=O x/\hs[j]?=O B/\l.2.2.takes x=c0/\q=(l.1,l.2.1,l.2.2.put x):=λ{j q} e=>by
  obtain⟨l,f,n,p,u⟩:=yf (by simp only[bd,z.1,h.len]) e;rw[cc]at p;obtain⟨x,ex,rfl⟩:=rk.mp p;have s:=a_ (show j<hs.length by exact h.len ▸ (cs.mp n).1);exact⟨l,x,_,n,ex,s,by rw[Pq (h.kin j _ l s n)];exact z.2.2 j _ _ s ex,u⟩
 refine⟨by rw[nL];exact h.len,λi B q p u=>?_,λq G=>?_,List.pairwise_append.mpr ⟨h.ris,List.pairwise_singleton _ _,λa H b J=>by rw[ku.mp J];exact h.bel a H⟩,λm K=>?_,by exact gT ▸ (Gb A),by simp only[gT,gT,h.rlen];rfl,λr L=>?_,λi j r q p u=>?_⟩
 ·obtain⟨l,x,h0,n,ex,s,w,rfl⟩:=part u;simp only[←h.kin i B l p n];cases l.2.2 <;> rfl
 ·obtain⟨j,M⟩:=oT G;obtain⟨l,x,h0,n,ex,s,w,rfl⟩:=part M;obtain⟨a,b⟩:=h.ok l (eT n);obtain⟨c,d⟩:=PM.put_ok a w (by lia) (by lia);exact⟨c,by simp only[gT,←b];exact d⟩
 ·rcases pA.mp K with y |y
  ·have:=h.bel m y
   lia
  ·rw[ku.mp y];exact Int.le_refl _
 ·rcases pA.mp L with y |y
  ·exact h.fit r y
  ·exact (ku.mp y) ▸ z
 ·obtain⟨l,x,h0,n,ex,s,w,rfl⟩:=part u;obtain⟨a,b⟩:=h.ok l (eT n);rw[PM.put_cells a w];have C:=wz l.2.2;by_cases D:i<rows.length
  ·rw[kI D]at p;rw[kI (by simp only[C,b,←h.rlen];exact D)];exact h.cells i j r l p n
  ·have v:i=rows.length:=by
    have:=(cs.mp p).1;simp only[gT,so]at this
    lia
   have N:l.2.2.cells.length=rows.length:=by simp only[C,b,h.rlen]
   simp only[v,na (dv _),DG]at p;simp only[v,na (by exact Cc ‹_›),N,DG];cases p;exact ex
structure LT where
 l:ce
 tb:ce
 dr:ce
 pd:ce
 ll:ce
 o:z_
 as:U ce
 hs:U E9
 ps:U aW
 living:U gV
 g:ft
 rows:U (ce×U V)
variable{S:LT}
structure dh(t:Ad)(H:Hp)(S:LT):Prop where
 cols:H S.l=O (.lst (S.as.map V.ref))
 heads:fj H S.as S.hs
 lh:LH S.hs
 tab:bS t H S.tb S.pd S.ll S.o (S.hs.map (·.1)) S.ps S.living S.g
 dic:H S.dr=O (.dK (bZ S.living S.rows))
 rows:∀r∈S.rows,H r.1=O (.lst r.2)/\r.1≠S.ll
 fit:Jk S.hs S.ps S.living S.g S.rows
 nl:S.l≠S.ll
 nd:S.dr∉S.pd::FP S.tb S.ll S.ps
theorem dh.mono(h:dh A H S)(k:∀b o,(∀I,o≠.tbl I)->H b=O o->C b=O o):dh A C S:=
 ⟨k _ _ nofun h.cols,⟨h.heads.1,λi a x d f=>k _ _ nofun (h.heads.2 i a x d f)⟩,h.lh,h.tab.via λb o _ p e=>k b o (λ_ z=>by rw[z]at p;exact p) e,k _ _ nofun h.dic,λr c=>⟨k _ _ nofun (h.rows r c).1,(h.rows r c).2⟩,h.fit,h.nl,h.nd⟩
theorem dh.same(h:dh A H S)(s:ad H C):dh A C S:=h.mono λb o _ e=>s b o e
theorem pX{o:z_}(h:bS A H Al pd ll o J I E coming)(a:b∈FP Al ll I):b=ll\/(∃Aj X fs,H b=O (.ins Aj X fs))\/∃kvs,H b=O (.dK kvs):=by
 rcases f_.mp a with rfl |a
 ·obtain⟨X,e⟩:=h.tab;exact .inr (.inl ⟨_,_,_,e⟩)
 rcases f_.mp a with rfl |a
 ·exact .inl Y
 obtain⟨Ap,c,a⟩:=vg.mp a;obtain⟨q,d,rfl⟩:=nk.mp c;rcases PM.kind (h.par.1 q d) a with⟨Aj,X,fs,e,_⟩ |⟨_,e⟩
 ·exact .inr (.inl ⟨Aj,X,fs,e⟩)
 ·exact .inr (.inr ⟨_,e⟩)
theorem dh.step(h:dh A H S)(k:DK (FP S.tb S.ll S.ps) H Ai)(d:FP S.tb S.ll I=FP S.tb S.ll S.ps)(T1:bS A Ai S.tb S.pd S.ll S.o (S.hs.map (·.1)) I E Ao)(f:Jk S.hs I E Ao rows)(c:∀r∈rows,H r.1=O (.lst r.2)/\r.1≠S.ll):dh A (upd Ai S.dr (.dK (bZ E rows))) { S with ps:=I,living:=E,g:=Ao,rows:=rows }:=by
 have lst:∀{b:ce}{g:U V},H b=O (.lst g)->b≠S.ll->Ai b=O (.lst g):=λe n=>k _ _ (λz=>by rcases pX h.tab z with y |⟨_,_,_,y⟩ |⟨_,y⟩ <;> first |exact n y | (rw[e]at y;cases y)) e;have tup:∀{b:ce}{g:U V},H b=O (.tup g)->Ai b=O (.tup g):=λe=>k _ _ (λz=>by rcases pX h.tab z with y |⟨_,_,_,y⟩ |⟨_,y⟩ <;> first | (rw[y,h.tab.liv]at e;cases e) | (rw[e]at y;cases y)) e;have ne:∀{b:ce}{o:HO},Ai b=O o->(∀kvs,o≠.dK kvs)->upd Ai S.dr (.dK (bZ E rows)) b=O o:=λ{b o} e n=>by
  rw[ag (λz=>by rw[z,(k _ _ (λz=>h.nd (.tail _ z)) h.dic)]at e;exact n _ (kn e).symm)];exact e
 exact⟨ne (lst h.cols h.nl) nofun,⟨h.heads.1,λi a x j l=>ne (tup (h.heads.2 i a x j l)) nofun⟩,h.lh,T1.via λb o p _ e=>by
  rw[ag (show b≠S.dr from λz=>h.nd (by simp_all))];exact e,af,λr m=>⟨ne (lst (c r m).1 (c r m).2) nofun,(c r m).2⟩,f,h.nl,by exact d ▸ h.nd⟩
theorem mo(Al ll:ce)(i:ft)(I:U aW)(fs:U (PM->PM)):FP Al ll (cI i I fs)=FP Al ll I:=by
 delta FP
 rw[xr (nK i I fs)]
theorem Jk.good{g:U V}(h:Jk hs I E Ao rows)(a:kO hs g):gc I g=c0:=by
 delta gc
 rw[fo (by simp only[a.1,h.len]),KD,i_];rintro⟨q,x⟩ d;obtain⟨i,e⟩:=oT d;obtain⟨b,f⟩:=BE.mp e;have c:=a_ (show i<hs.length by exact h.len ▸ (cs.mp b).1);rw[Pq (h.kin i _ q c b)];exact a.2.2 i _ x c f
theorem Jk.okp(h:Jk hs I E Ao rows)(b:Ao<=60):∀q∈I,q.2.2.ok/\q.2.2.col.length=E.length:=λq a=>⟨PM.okN_ok (h.ok q a).1 (by lia),(h.ok q a).2⟩
theorem DK.sameOf(s:ad H Ai)(k:DK L Ai Am)(a:∀b∈L,H b=cx):ad H Am:=λb o e=>k b o (λz=>by grind) (s b o e)
inductive OD(K:fy)(A:Ad)(a:U V)(H:Hp)(Q:VK)(_E:XK):Prop
 |i(p l:ce)(J:U gV)(k:gV)(as:U ce)(hs:U E9)(_:a=[.ref p,.int k,.ref l,.int 6])(_:n7 K H p (J.map V.int))(_:H l=O (.lst (as.map V.ref)))(_:fj H as hs)(_:LH hs)(_:∀pr C S,ad H C->C pr=O (.tup [.ref S.tb,.ref S.dr])->dh A C S->S.l=l->S.hs=hs->S.g<=6->Q (.ref pr) C)
inductive R9(A:Ad)(H:Hp)(p l Al a:ce)(k:gV)(hs:U E9)(i:ft)(σ:St)(C:Hp):Prop
 |i(S:LT)(c d e:eH V)(_:σ=[O (.ref p),O (.int k),O (.ref l),O (.int 6),O (.ref Al),O (.ref a),c,d,e])(_:ad H C)(_:dh A C S)(_:S.l=l)(_:S.tb=Al)(_:S.dr=a)(_:S.hs=hs)(_:S.g<=i)(_:∀b∈FP S.tb S.ll S.ps,H b=cx)(_:H S.dr=cx)
theorem Y4(T:Txt K G A)(dO:uG P w K G u q_ 3 "_law_mix" ["_law_script","_law_k"] (jr K))(CI:iA P w K G u (yl P w) 14 A.aX ["self","columns"] (Qk K A))(AT:uG P w K G u q_ 5 "_law_row" ["_law_script","_law_k","_law_columns_here"] (PQ K))(CP:aZ P w K G u (yl P w) 14 A.aX "put" ["self","values"] (Qw K A))(CD:aZ P w K G u (yl P w) 14 A.aX "drop" ["self","number"] (Q9 A))(F:vr K "_law_filled" "_law_filled" P1 f Ag):ap P w K G u q_ 16 f Ag ["_law_script","_law_k","_law_columns_here","_law_most"] (OD K A):=by
 obtain⟨Bj,Bk,AU,AV,AW⟩:=CI;obtain⟨Bl,Bm,p9,rM,qv⟩:=CP;obtain⟨Bn,Bo,pZ,rJ,qr⟩:=CD;refine F.o ["_law_script","_law_k","_law_columns_here","_law_most","_law_table","_law_rows","_law_j","_law_row_here","_law_gone"] λnN Bp An AX s H vs Q Ah v h=>?_;obtain⟨p,l,J,k,as,hs,rfl,hS,h3,AA,L,q⟩:=h;have hu:=iM v;refine⟨_,(ao (aK (i:=4) nN Y (gS Y) (oi AV AU (v.mono (by decide)) Y T.zfU AW .nil cf (aa (gL (wu K) (by rfl) T.j6 PyProof.Rows.Boot.«list» (aa (pv 2) ae)) ae)))
  (ao (aK (i:=5) nN Y (gS Y) lE)
  (ao (fg qw Y (fB (by rfl) T.eP (aa (aq b9 (dO.pe v av (aa (pv 0) (aa (pv 1) ae))) (aq aU (pv 3) ah)) ae)) (aH (i:=6) nN Y (gS Y))
   (ao (aK (i:=7) nN Y (gS Y) (AT.pe v av (aa (pv 0) (aa (aq aU (aq aU (pv 1) ah) (aq d7 ah (pv 6))) (aa (pv 2) ae)))))
  (ao (sK hu (pv 5) (bp (pv 4) T.bD rM p9 (v.mono (by decide)) qv .nil cf (aa (gL (wu K) (by rfl) T.j6 PyProof.Rows.Boot.«list» (aa (pv 7) ae)) ae)) (pv 7) Y)
  (aj (aN (aE bh (aq b9 (dO.pe v av (aa (pv 0) (aa (aq aU (aq aU (pv 1) ah) (aq d7 ah (pv 6))) ae))) ah) ah (aC _)) (ao (aK (i:=8) nN Y (gS Y) (aG (bF K) (aL (ww Y) (by rfl) T.yK PyProof.Rows.Boot.«sorted» (aa (pv 5) ae)) (aq b9 (dO.pe v av (aa (pv 0) (aa (aq aU (aq aU (pv 1) ah) (aq d7 ah (pv 6))) ae))) (aL jP (by rfl) T.bu PyProof.Rows.Boot.«len» (aa (pv 5) ae))) (λ_ _=>rfl)))
  (ao (bf (bp (pv 4) T.bD rJ pZ (v.mono (by decide)) qr .nil cf (aa (pv 8) ae)))
  (aj (bf (UB (pv 5) (pv 8) ⟨Y,Y,Y,Y⟩)))))
   aO)))))
  (aj (aA (cz (aa (pv 4) (aa (pv 5) ae)))))))),?_⟩
 have L3:=L.2.1;have AB:∀h∈hs,asc h.1/\h.1.length<=1000:=λh hm=>ZV _ (L.mem hm).1;refine bB λN d=>⟨_,Y,l,_,Y,.inl (n7.of h3),λB m Al X Z AC AY=>?_⟩
 have s4:ad H (upd H B (.lst (as.map V.ref))):=ad.new m;have AD:(upd H B (.lst (as.map V.ref))) B=O (.lst (as.map V.ref)):=af;have h4:=s4 _ _ h3;have AE:=AA.same s4;generalize upd H B (.lst (as.map V.ref))=H4 at s4 AD h4 AE Z AC;have s5:ad H4 (upd (upd H4 X (.own Al)) Al (.ins A.aX X [])):=ay (ad.new AC) (by rw[ag (v_ AY)];exact Z);have AF:(upd (upd H4 X (.own Al)) Al (.ins A.aX X [])) Al=O (.ins A.aX X []):=af;generalize upd (upd H4 X (.own Al)) Al (.ins A.aX X [])=H5 at s5 AF;refine⟨Al,X,B,as,hs,Y,AF,s5 _ _ AD,AE.same s5,by omega,AB,λz=>(by rw[L.good]at z;cases z),λ_ H6 pd ll o I TA AG AZ Ba Bb Bq k6=>⟨Y,d _ _ ?_⟩⟩;clear d N;have Be:ad H4 H6:=λb z e=>k6 b z (λy=>by rw[y,Z]at e;cases e) (s5 _ _ e);have t6:=s4.trans Be;have C:∀b∈pd::FP Al ll I,H4 b=cx:=λb c=>by
  rcases f_.mp c with rfl |c
  ·exact s5.free Bb
  rcases f_.mp c with rfl |c
  ·exact Z
  rcases f_.mp c with rfl |c
  ·exact s5.free Ba
  obtain⟨Ap,Bf,c⟩:=vg.mp c;obtain⟨q',A4,rfl⟩:=nk.mp Bf;exact s5.free (AZ q' A4 b c).1
 refine bB λN d dr A5=>d _ _ ?_;clear d N;have s7:ad H6 (upd H6 dr (.dK [])):=ad.new A5;have AH:(upd H6 dr (.dK [])) dr=O (.dK []):=af;generalize upd H6 dr (.dK [])=H7 at s7 AH;have t7:=t6.trans s7;have A2:∀(i:ft)(h:E9)(q:aW),hs[i]?=O h->I[i]?=O q->q.2.2=ge h:=λi h q' e1 e2=>by
  have:=tS (λl:U PM=>l[i]?) AG;rw[cc,cc,e1,e2]at this;exact kn this
 have AI:I.length=hs.length:=by
  have:=tS Ga AG
  rwa[bd,bd]at this
 have L0:dh A H7 ⟨l,Al,dr,pd,ll,o,as,hs,I,[],0,[]⟩:=by
  refine⟨t7 _ _ h3,AA.same t7,L,TA.same s7,AH,nofun,⟨AI,λi h q' e1 e2=>?_,λq' A4=>?_,EG,nofun,dv _,Y,nofun,λi j r q' e=>(by cases e)⟩,λz=>?_,λz=>?_⟩
  ·rw[A2 i h q' e1 e2,ge];by_cases e:h.2 = "word"
   ·rw[mu e,fo e];rfl
   ·rw[ks e,dV e];rfl
  ·obtain⟨i,hi⟩:=oT A4;rw[A2 i _ q' (a_ (by rw[←AI];exact (cs.mp hi).1)) hi,ge]
   split
   ·exact⟨⟨Y,nofun,dv _,Kj⟩,Y⟩
   ·exact⟨Y,Y⟩
  ·have:=C ll (.tail _ (.tail _ (.head _)));rw[←show l=ll from z,h4]at this;cases this
  ·have:H6 dr≠cx:=by
    rcases f_.mp z with y |z
    ·rw[show dr=pd from y,TA.dic];nofun
    rcases pX TA z with y |⟨_,_,_,y⟩ |⟨_,y⟩
    ·rw[show dr=ll from y,TA.liv];nofun
    ·rw[y];nofun
    ·rw[y];nofun
   exact this A5
 have m0:=qc (mix J k) (b:=7) (by decide);have m1:=pU (mix J k) (b:=7) (by decide);refine⟨_,Y,_,Y,p,J,k,Y,t7.seq hS,_,Y,_,_,Y,Y,_,_,Y,Y,by decide,_,Y,?_,?_,?_⟩
 ·omega
 ·omega
 obtain⟨n,hn,Br⟩:∃n:ft,mix J k % (6+1)=n/\n<=6:=⟨(mix J k % 7).toNat,by omega,by omega⟩
 rw[hn,nI];refine⟨jW (R9 A H p l Al dr k hs) ⟨_,cx,cx,cx,Y,t7,L0,Y,Y,Y,Y,dv _,λb c=>s4.free (C b (.tail _ c)),t6.free A5⟩ ?_ ?_⟩
 ·rintro i σ H8 hi ⟨S,v6,v7,v8,rfl,sH,M,rfl,rfl,rfl,rfl,hg,fH,dH⟩;have l3:=M.lh.2.1;have AJ:=M.fit.few;refine bB λN d=>?_;refine⟨_,Y,_,Y,_,_,Y,Y,_,Y,_,_,Y,Y,.inl ⟨by decide,by decide⟩,_,_,Y,Y,_,Y,p,S.l,J,_,S.as,S.hs,Y,sH.seq hS,M.cols,M.heads,M.lh.2.1,λlr g H9 s9 A6 h9 RF=>d _ _ ?_⟩;clear d N;have LB:=M.same s9;have Bg:=sH.trans s9;obtain⟨X,h1⟩:=LB.tab.tab;refine bB λN d=>⟨_,Y,_,Y,_,Y,S.tb,X,_,Y,h1,Y,_,Y,lr,_,Y,.inl (n7.of h9),λB m=>?_⟩
  have D:ad H9 (upd H9 B (.lst g)):=ad.new m;have A7:(upd H9 B (.lst g)) B=O (.lst g):=af;generalize upd H9 B (.lst g)=Bt at D A7;have x:=LB.same D;refine⟨S.tb,S.pd,S.ll,S.o,_,S.ps,S.living,S.g,B,g,Y,x.tab,A7,(λz=>by rw[z,LB.tab.liv]at m;cases m),RF.2.1,by rw[RF.1];omega,by rw[x.fit.len];omega,by omega,x.fit.okp (by omega),λ_ A8 A0 AK=>?_,λz=>(by rw[x.fit.good RF]at z;cases z)⟩;have AL:A8 S.dr=_:=A0 _ _ (λz=>x.nd (.tail _ z)) x.dic;have Bh:lr≠S.ll:=λz=>by rw[z,M.tab.liv]at A6;cases A6
  have AM:(S.g:gV)∉S.living:=λz=>by have:=x.fit.bel _ z;omega
  have R:=x.step A0 (mo ..) AK (x.fit.put (lr:=lr) (by omega) RF) λr v=>by
   rcases pA.mp v with y |y
   ·exact x.rows r y
   ·rw[ku.mp y];exact⟨D _ _ h9,Bh⟩
  have sD:ad H (upd A8 S.dr (.dK (bZ (S.living++[(S.g:gV)]) (S.rows++[(lr,g)])))):=λb o e=>by
   rw[ag (show b≠S.dr from λz=>by rw[z,dH]at e;cases e)];exact DK.sameOf (Bg.trans D) A0 fH b o e
  rw[QT x.fit.rlen]at R sD;refine⟨S.dr,_,Y,.inl ⟨_,.inl (O (S.g:gV)),AL,Y,?_,Y⟩,d _ _ ?_⟩
  ·have:(bZ S.living S.rows).length<=S.living.length:=by
    rw[bZ,bd,Ci];exact Dt ..
   exact aV (by omega)
  rw[oy _ (sQ AM)];clear d N AL AK A0 x A7 D m h1 LB A6 M AM;generalize upd A8 S.dr (.dK (bZ S.living S.rows++[(.inl (O (S.g:gV)),.ref lr)]))=E at R sD;obtain⟨a,eS⟩:∃a:LT,a={ S with ps:=cI S.ps.length S.ps (g.map PM.put),living:=S.living++[(S.g:gV)],g:=S.g+1,rows:=S.rows++[(lr,g)] }:=⟨_,Y⟩
  rw[←eS]at R;have fP:∀b∈FP a.tb a.ll a.ps,H b=cx:=by rw[eS];intro b c;exact fH b (by have c:=c;rwa[mo]at c)
  have e1:a.tb=S.tb/\a.dr=S.dr/\a.l=S.l/\a.hs=S.hs/\a.g=S.g+1/\0<a.living.length:=by rw[eS];exact⟨Y,Y,Y,Y,Y,by simp⟩
  obtain⟨e1,e2,e3,e4,e5,e6⟩:=e1;rw[←e1,←e2,←e3,←e4];rw[←e2]at dH;have g6:a.g<=6:=by omega
  have hg:a.g<=i+1:=by omega
  clear eS e1 e2 e3 e4 e5 fH AJ l3;refine⟨_,Y,_,Y,_,_,Y,Y,_,Y,_,_,Y,Y,.inl ⟨by decide,by decide⟩,_,_,Y,Y,p,J,_,Y,sD.seq hS,_,_,Y,Y,(by decide),Y,_,Y,?_⟩;generalize decide (V.int (mix J (k+4+4 * (0+(i:gV))) % 5)=V.int 0)=b5;cases b5 with
  |false=>exact ak ⟨a,_,_,_,Y,sD,R,Y,Y,Y,Y,hg,fP,dH⟩
  |true=>
  have AJ:=R.fit.few;have l3:=R.lh.2.1;have rl:=R.fit.rlen;refine aw (bB λN d=>⟨_,Y,a.dr,a.living,a.rows.map (λr:ce×U V=>V.ref r.1),Y,R.dic,by rw[bd,rl],R.fit.ris.imp EF,by omega,λls Bi=>?_⟩);have A1:ad E (upd E ls (.lst (a.living.map V.int))):=ad.new Bi;have AN:(upd E ls (.lst (a.living.map V.int))) ls=O (.lst (a.living.map V.int)):=af;show Jn _ _ _ _ (upd E ls (.lst (a.living.map V.int))) _;generalize upd E ls (.lst (a.living.map V.int))=Bu at A1 AN;have LE:=R.same A1;have kl:(bZ a.living a.rows).length=a.living.length:=by rw[bZ,bd,Ci,bd,rl,Nat.min_self]
  obtain⟨j,hj,ej⟩:∃j:ft,j<a.living.length/\mix J (k+3+4 * (0+(i:gV))) % ((bZ a.living a.rows).length:ft)=j:=by
   rw[kl];have h1:=qc (mix J (k+3+4 * (0+(i:gV)))) (b:=(a.living.length:gV)) (by omega);have h2:=pU (mix J (k+3+4 * (0+(i:gV)))) (b:=(a.living.length:gV)) (by omega);exact⟨(mix J (k+3+4 * (0+(i:gV))) % (a.living.length:gV)).toNat,by omega,by omega⟩
  refine⟨_,Y,_,Y,_,_,Y,Y,_,Y,_,_,Y,Y,.inl ⟨by decide,by decide⟩,_,_,Y,Y,p,J,_,Y,(sD.trans A1).seq hS,_,Y,a.dr,_,Y,LE.dic,_,_,Y,Y,?_,ls,_,_,.int a.living[j],Y,Y,n7.of AN,?_,d _ _ ?_⟩
  ·show (0:gV)<((bZ a.living a.rows).length:ft);rw[kl];omega
  ·rw[ej];exact dX (by rw[cc,a_ hj];rfl)
  clear d N;have eg:=a_ hj;have hm:=j' hj;have ej:a.living.idxOf a.living[j]=j:=by
   have h2:=o_ hm;exact (Jo (h₀:=h2) (h₁:=hj) (LE.fit.ris.imp Int.ne_of_lt)).mp (Ef h2)
  generalize a.living[j]=A3 at eg hm ej;obtain⟨X,h1⟩:=LE.tab.tab;refine bB λN d=>⟨_,Y,a.tb,X,_,Y,h1,Y,_,Y,a.tb,a.pd,a.ll,a.o,_,a.ps,a.living,a.g,A3,Y,LE.tab,by rw[LE.fit.len];omega,by omega,LE.fit.okp (by omega),λz=>hQ hm z,λ_ AO A9 AQ=>d _ _ ?_⟩
  clear d N;rw[ej]at AQ;have AR:AO a.dr=_:=A9 _ _ (λz=>LE.nd (.tail _ z)) LE.dic;have LF:=LE.step A9 (mo ..) AQ (LE.fit.drop hj) λr v=>LE.rows r (BO v);have sF:ad H (upd AO a.dr (.dK (bZ (a.living.eraseIdx j) (a.rows.eraseIdx j)))):=λb o e=>by
   rw[ag (show b≠a.dr from λz=>by rw[z,dH]at e;cases e)];exact DK.sameOf (sD.trans A1) A9 fP b o e
  refine⟨_,Y,a.dr,Y,.inl ⟨_,.inl AR⟩,_,Y,_,.inl (O A3),_,AR,Y,sR LE.fit.ris eg (a_ (show j<a.rows.length by omega)),?_⟩;rw[zK LE.fit.ris rl eg];exact⟨_,_,_,_,Y,sF,LF,Y,Y,Y,Y,hg,λb c=>fP b (by have c:=c;rwa[mo]at c),dH⟩
 ·rintro σ H8 ⟨S,v6,v7,v8,rfl,sH,M,rfl,rfl,rfl,rfl,hg,fH,dH⟩;exact⟨_,Y,_,Y,bI Y,λpr AS=>q pr _ S (ay sH AS) af (M.same (ad.new AS)) Y Y (by omega)⟩
theorem dh.tbo(h:dh A H S)(f:S.g<=6):J6 A H S.tb (S.hs.map (·.1)) S.ps S.living (Iw S.hs):=by
 have b:=h.fit.few;refine⟨⟨_,_,_,_,h.tab⟩,h.lh.nodup,h.fit.okp (by lia),by lia,λi z q a c=>?_⟩;rw[cc]at a;obtain⟨d,e,rfl⟩:=rk.mp a;simp only[rC h.lh.nodup (eT e),h.fit.kin i d q e c]
theorem dh.pm(h:dh A H S){z:hO}:(z∈S.hs.map (·.1)->(aS (S.hs.map (·.1)) S.ps z).isSome=c0)/\(z∉S.hs.map (·.1)->aS (S.hs.map (·.1)) S.ps z=cx):=by
 have b:=h.fit.len;refine⟨λhz=>?_,λhz=>?_⟩
 ·have a:=o_ hz;simp only[bd]at a;rw[aS,a_ (by simp_all)];rfl
 ·rw[aS,B3 (by simp only[Iu hz,bd];exact Cc ‹_›)];rfl
theorem dh.holds(h:dh A H S){r:ce×U V}(a:S.rows[i]?=O r)(q:Tr Wh):q.holds (hW (aS (S.hs.map (·.1)) S.ps)) i=q.holds (hR S.hs r.2) ():=by
 refine lq (λx=>?_) q;cases x with
 |any=>rfl
 |bad w b=>rfl
 |isin z q=>
  simp only[hW,hR,aS];generalize (S.hs.map (·.1)).idxOf z=j;cases e:S.ps[j]? with
  |none=>
   have:=Em.mp e;rw[nn (l:=r.2),B3 (by rw[((h.fit.fit r (eT a)).1),←h.fit.len];exact this)];rfl
  |some p=>
   rw[nn (l:=r.2),h.fit.cells i j r p a e]
   simp_all
def KI(b:n_)(q:Tr Wh):ft->Tr Wh
 |0=>q
 |n+1=>if b=c0 then .neg (KI b q n) else .two c0 (.lf .any) (KI b q n)
theorem wA{A:Ad}{pm:hO->eH PM}{x:Wh}(c:cW A pm x=cx){z:ce}{b:n_}:∀n d,DB (cW A pm) z d (KI b (.lf x) n)=if 6<d+n then O z else cx
 |0,d=>by rw[KI,DB,c];rfl
 |n+1,d=>by
  have a:=wA c (z:=z) (b:=b) n (d+1);rw[show d+1+n=d+(n+1) by exact Cf _ _ _]at a;cases b with
  |true=>
   show (if 6<d then O z else DB (cW A pm) z (d+1) (KI c0 (.lf x) n))=_;rw[a];by_cases h:6<d
   ·rw[mu h,mu (by exact JT _ ‹_›)]
   ·rw[ks h]
  |false=>
   show (if 6<d then O z else (if 6<d+1 then O z else cx).or (DB (cW A pm) z (d+1) (KI d_ (.lf x) n)))=_;rw[a];by_cases h:6<d
   ·rw[mu h,mu (by exact JT _ ‹_›)]
   ·rw[ks h];by_cases e:6<d+1
    ·rw[mu e,mu (by lia)];rfl
    ·rw[ks e];rfl
def kH(A:Ad)(pm:hO->eH PM)(kd:hO->n_)(H:Hp)(x:ce×Tr Wh×hO):Prop:=bc (LW kd) H x.1 x.2.1/\∃Aj,DB (cW A pm) A.aI 1 x.2.1=O Aj/\((Aj=A.aI/\x.2.2 = "question")\/(Aj=A.ci/\x.2.2 = "column"))
theorem kH.same{pm:hO->eH PM}{x:ce×Tr Wh×hO}(h:kH A pm kd H x)(s:ad H C):kH A pm kd C x:=⟨h.1.kt (cA s),h.2⟩
theorem wC{pm:hO->eH PM}{q:Tr Sm}(h:pm x=cx)(hd:d<=6):DB (cW A pm) z d (.lf (.isin x q))=O A.ci:=by rw[DB,ks (by exact DN ‹_›),cW,h];rfl
theorem zeY{pm:hO->eH PM}{q:Tr Sm}(h:(pm x).isSome=c0)(hd:d<=6):DB (cW A pm) z d (.lf (.isin x q))=db A q:=by rw[DB,ks (by exact DN ‹_›),cW,mu h]
structure Bd(t:Ad)(S:LT)(a0:ce)(h0:E9)(H:Hp)(ws:U (ce×Tr Wh×hO)):Prop where
 fil:dh t H S
 tbs:Ec t H
 hd:H a0=O (.tup [.str h0.1,.str h0.2])
 bad:∀x∈ws,kH t (aS (S.hs.map (·.1)) S.ps) (Iw S.hs) H x
theorem Bd.same{A:Ad}{S:LT}{a0:ce}{h0:E9}{H C:Hp}{N:U (ce×Tr Wh×hO)}(h:Bd A S a0 h0 H N)(s:ad H C):Bd A S a0 h0 C N:=⟨h.fil.same s,h.tbs.same s,s _ _ h.hd,λx a=>(h.bad x a).same s⟩
theorem Bd.add{N:U (ce×Tr Wh×hO)}(h:Bd A S a0 h0 H N)(s:ad H C)(y:ce×Tr Wh×hO)(a:kH A (aS (S.hs.map (·.1)) S.ps) (Iw S.hs) C y):Bd A S a0 h0 C (N++[y]):=
 let Ao:=h.same s;⟨Ao.fil,Ao.tbs,Ao.hd,λx b=>(pA.mp b).elim (Ao.bad x) λe=>ku.mp e ▸ a⟩
theorem RT.seq{g:U V}(r:RT A H C)(b:Ec A H)(h:n7 K H a g):n7 K C a g:=by
 rcases h with (h |⟨o,h⟩) |h
 ·exact .inl (.inl (r.keep b h nofun))
 ·exact .inl (.inr ⟨o,r.keep b h nofun⟩)
 ·exact .inr h
theorem yF:("nocolumn" : hO)∉HP/\("q" : hO)∉HP:=by decide +kernel
inductive oH(K:fy)(b:U ce)(c:U V)(H:Hp)(Q:VK)(_E:XK):Prop
 |i(a:ce)(J:U gV)(_:c=[.ref a])(_:n7 K H a (J.map V.int))(_:J.length<=63)(_:qd H b)(_:∀C,Q (.bl c0) C)
theorem ZT:(["_law_number","_law_where_here","_law_columns_here","_law_rows"]:U hO).Nodup:=by decide +kernel
theorem R0:(["_law_one","_law_table"]:U hO).Nodup:=by decide +kernel
theorem Zt(T:Txt K G A)(AY:uG P w K G u q_ 4 "_law_columns" ["_law_script","_law_k"] (Pb K))(AZ:uG P w K G u q_ 16 "_law_filled" ["_law_script","_law_k","_law_columns_here","_law_most"] (OD K A))(me:uG P w K G u q_ 10 "_law_where" ["_law_script","_law_k","_law_columns_here","_law_deep"] (uA K A 4))(dO:uG P w K G u q_ 3 "_law_mix" ["_law_script","_law_k"] (jr K))(md:uG P w K G u q_ 13 "_law_found" ["_law_where_here","_law_columns_here","_law_row_here"] (oI A 6))(o9:uG P w K G u q_ 29 "_law_told" ["_law_table","_law_where_here"] (P4 A))(F:vr K "law" "law" kj f Ag):ap P w K G u q_ 30 f Ag ["_law_script"] (oH K (gp A)):=by
 refine F.o ["_law_script","_law_columns_here","_law_table","_law_rows","_law_k","_law_where_here","_law_due","_law_many","_law_bad"] λE Bj An Ba s H vs Q Ah hr h=>?_;obtain⟨p,J,rfl,hS,hl,hZ,q⟩:=h;have hu:=iM hr;refine gb ⟨_,(bY (aK (i:=1) E Y (zs Y) (AY.pe hr av (aa (pv 0) (aa ah ae))))
  (bY (zi (AZ.pe hr av (aa (pv 0) (aa ah (aa (pv 1) (aa ah ae))))) (eA K (n:=2) Y (bP (aH (i:=2) E Y (zs Y)) (bP (aH (i:=3) E Y (zs Y)) eB))))
  (bY (fg qw Y (fB (by rfl) T.eP (aa ah ae)) (aH (i:=4) E Y (gS Y))
   (ao (aK (i:=5) E Y (zs Y) (me.pe hr av (aa (pv 0) (aa (aq aU ah (pv 4)) (aa (pv 1) (aa (aq aU ah (aq b9 (dO.pe hr av (aa (pv 0) (aa (aq aU ah (pv 4)) ae))) ah)) ae))))))
  (ao (gN (i:=6) E Y (gS Y) (Ac:=["_law_number","_law_where_here","_law_columns_here","_law_rows"]) (fr:=[cx,O 5,O 1,O 3]) ⟨Y,Y,Y,Y,Y,Y⟩ Y (bV (aL (ww Y) (by rfl) T.yK PyProof.Rows.Boot.«sorted» (aa (pv 3) ae)))
    (λAj Ap s H=>⟨aH (i:=0) ZT Y (gS Y),(kg (cR (md.pe hr av (aa (pv 1) (aa (pv 2) (aa (og hu (pv 3) (pv 0) (λ_ _=>rfl)) ae)))))),(pv 0)⟩))
  (aj (aN (aE (Ue K hu) (o9.pe hr av (aa (pv 2) (aa (pv 5) ae))) (pv 6) (aC _)) (aj (aA fc))
   aO)))))
  (bY (aK (i:=5) E Y (zs Y) (cz (aa au (aa (aG (aT K) (aG (bF K) (pv 1) ah (λ_ _=>rfl)) ah (λ_ _=>rfl)) (aa (cz (aa au ae)) ae)))))
  (bY (aK (i:=7) E Y (gS Y) (aq aU ah (aq b9 (dO.pe hr av (aa (pv 0) (aa ah ae))) ah)))
  (bY (fg qw Y (fB (by rfl) T.eP (aa (pv 7) ae)) (aH (i:=4) E Y (gS Y))
   (aj (aK (i:=5) E Y (zs Y) (dA (aE bh (aq b9 (dO.pe hr av (aa (pv 0) (aa ah ae))) ah) ah (aC _)) (cz (aa au (aa (pv 5) ae))) (cz (aa au (aa (cz (aa au ae)) (aa (pv 5) ae))))))))
  (bY (aN (aE fR (c8 (DI.alt (Xy K hu) bh) (o9.pe hr av (aa (pv 2) (aa (pv 5) ae))) au (aC _)) (c8 e9 (pv 7) ah (aC _)) (aC _)) (aj (aA fc))
   aO)
  (jq (i:=8) E Y (gS Y) (fS (d9 (eR (aM au (aM au (d9 (eR (aM au cj)) cj)))) (d9 (eR (aM au (aM (aG (aT K) (aG (bF K) (pv 1) ah (λ_ _=>rfl)) ah (λ_ _=>rfl)) (d9 (eR (aM au cj)) cj)))) (d9 (eR (aM au cj)) (d9 (eR (aM au (aM ah cj))) (d9 (eR (aM au cj)) cj))))))
  (jq (i:=8) E Y (gS Y) (j8 jp (LG (pv 8)) (fS (d9 (eR (aM au (d9 (eR (aM au cj)) cj))) (d9 (eR (aM au (aM (aG (aT K) (aG (bF K) (pv 1) ah (λ_ _=>rfl)) ah (λ_ _=>rfl)) cj))) (d9 (eR (aM au (d9 (eR (aM au cj)) (d9 (eR (aM au (aM au (d9 (eR (aM au cj)) cj)))) cj)))) cj)))))
  (bY (aK (i:=6) E Y (gS Y) (aq jp (aq jp (cP (aa au ae)) (aq SE (cP (aa au ae)) ah)) (cP (aa au ae))))
  (ox (aA (c8 (YB K hu) (bK (Ac:=["_law_one","_law_table"]) (fr:=[cx,O 2]) ⟨Y,Y,Y,Y,Y,Y⟩ Y (bV (pv 8))
    (λAj Ap s H=>⟨aH (i:=0) R0 Y (gS Y),bn,(o9.pe hr av (aa (pv 1) (aa (pv 0) ae)))⟩)) (pv 6) (aC _)))))))))))))),?_⟩
 have Bi:Ec A H:=by
  have z:∀p∈gp A,∀Av q,cB H p Av q:=λp hp Av q=>⟨#[],hZ p hp,trivial,.inl Y⟩
  exact⟨z _ (.head _) _ _,z _ (.tail _ (.head _)) _ _,z _ (.tail _ (.tail _ (.head _))) _ _,z _ (.tail _ (.tail _ (.head _))) _ _⟩
 refine bB λj c=>⟨_,Y,p,J,0,Y,hS,λl as hs Ai s1 A5 h1 hA L=>c _ _ ?_⟩
 clear c j;refine bB λj c=>⟨_,Y,_,Y,p,l,J,10,as,hs,Y,s1.seq hS,h1,hA,L,λpr Am S s2 AL LA e1 e2 hg=>?_⟩
 subst e1 e2;refine⟨pr,_,Y,th.of AL,Y,_,_,Y,_,_,Y,Y,c _ _ ?_⟩;clear c j;have U2:=Bi.same (s1.trans s2);have S2:=(s1.trans s2).seq hS;clear h1 hA A5 s1 s2 Bi AL hZ hS;have A7:∀h∈S.hs,(aS (S.hs.map (·.1)) S.ps h.1).isSome=c0:=λh hm=>LA.pm.1 (CY hm);have Bk:=LA.fit.few;refine bB λj c=>⟨3,Y,by decide,by decide,⟨jW (n:=3) (λi σ C=>∃v4 v5 v6:eH V,σ=[O (.ref p),O (.ref S.l),O (.ref S.tb),O (.ref S.dr),v4,v5,v6,cx,cx]/\RT A Am C) ⟨cx,cx,cx,Y,RT.refl _ _⟩ ?_ ?_⟩⟩
 ·rintro i σ H3 hi ⟨v4,v5,v6,rfl,r3⟩;have U3:=r3.2 U2;have R:=LA.mono λb o n e=>r3.keep U2 e n;have S3:=r3.seq U2 S2;have m0:=qc (mix J (50+(0+(i:gV)))) (b:=4) (by decide);have m1:=pU (mix J (50+(0+(i:gV)))) (b:=4) (by decide);refine bB λj c=>⟨_,Y,_,Y,_,_,Y,Y,_,Y,_,Y,_,Y,_,_,Y,Y,p,J,_,Y,S3,_,_,Y,Y,(by show (0:gV)<4;decide),_,_,Y,Y,p,S.l,J,60+(0+(i:gV)),(1+mix J (50+(0+(i:gV))) % 4).toNat,S.as,S.hs,?_,S3,R.cols,R.heads,R.lh,by omega,show (1+mix J (50+(0+(i:gV))) % 4).toNat<=3+1 by omega,λa y H4 s4 W4=>c _ _ ?_⟩
  ·rw[show (((1+mix J (50+(0+(i:gV))) % 4).toNat:ft):gV)=1+mix J (50+(0+(i:gV))) % 4 by omega];rfl
  clear c j;obtain⟨AM,f4⟩:=W4;have c4:DB (cW A (aS (S.hs.map (·.1)) S.ps)) A.aI 1 y=cx:=f4 _ A7 1 (by omega);have cH:DB (cW A (KL S.hs)) A.aI 1 y=cx:=f4 _ (λh hm=>by rw[KL,mu (CY hm)];rfl) 1 (by omega);have LC:=R.same s4;have U4:=U3.same s4;refine bB λj c=>⟨_,Y,S.dr,S.living,S.rows.map (λr:ce×U V=>V.ref r.1),Y,LC.dic,by rw[bd,LC.fit.rlen],LC.fit.ris.imp EF,by omega,λls Bb=>⟨ls,Y,⟨_,n7.of af⟩,?_⟩⟩
  have D:ad H4 (upd H4 ls (.lst (S.living.map V.int))):=ad.new Bb;have h5:(upd H4 ls (.lst (S.living.map V.int))) ls=O (.lst (S.living.map V.int)):=af;generalize upd H4 ls (.lst (S.living.map V.int))=H5 at D h5;refine⟨cE (E:=S.living.map V.int) (λi acc C=>ad H5 C/\acc=(eU (y.holds (hW (aS (S.hs.map (·.1)) S.ps))) i).map λi=>.int (S.living.getD i 0)) ⟨ad.refl _,Y⟩ ?_ ?_ ?_ ?_⟩
  ·rintro i acc C hi ⟨s6,rfl⟩;exact⟨n7.of (s6 _ _ h5),by rw[bd];exact sv _ i⟩
  ·rw[bd];exact f' (aV (by omega))
  ·rintro i x acc C hx v ⟨s6,rfl⟩;have hi:i<S.living.length:=by rw[bd]at v;exact v
   have ei:=a_ hi;rw[cc,ei]at hx;cases hx;obtain⟨ro,er⟩:∃ro,S.rows[i]?=O ro:=⟨_,a_ (show i<S.rows.length by rw[LC.fit.rlen];exact hi)⟩
   have I:=LC.same (D.trans s6);have dg:=fh.k (k:=.inl (O S.living[i])) I.dic;rw[sR LC.fit.ris ei er]at dg;have Be:=(I.rows _ (eT er)).1;refine⟨Wk.set Y,_,Y,_,Y,_,Y,_,Y,S.dr,_,Y,dg,a,S.l,ro.1,S.as,S.hs,ro.2,y,1,Y,AM.kt (cA (D.trans s6)),cH,by decide,I.cols,I.heads,I.lh,Be,LC.fit.fit _ (eT er),λH7 s7=>⟨_,Y,?_⟩⟩;have et:=ze (y.holds (hW (aS (S.hs.map (·.1)) S.ps))) i;rw[LA.holds er y]at et;have eg:S.living.getD i 0=S.living[i]:=by rw[nn,ei];rfl
   cases e:y.holds (hR S.hs ro.2) () with
   |false=>
    rw[e]at et;exact ak (cw v ⟨s6.trans s7,by rw[et];simp⟩)
   |true=>
    rw[e]at et;exact aw ⟨_,Y,cw v ⟨s6.trans s7,by rw[et,dn,mu Y,F1,eg]⟩⟩
  ·rintro acc C ⟨s6,rfl⟩ pd Bf;rw[bd];have s7:=D.trans (ay (o:=.lst ((eU (y.holds (hW (aS (S.hs.map (·.1)) S.ps))) S.living.length).map λi=>.int (S.living.getD i 0))) s6 Bf);have h7:(upd C pd (.lst ((eU (y.holds (hW (aS (S.hs.map (·.1)) S.ps))) S.living.length).map λi=>.int (S.living.getD i 0)))) pd=_:=af;refine c _ _ ?_;generalize upd C pd (.lst ((eU (y.holds (hW (aS (S.hs.map (·.1)) S.ps))) S.living.length).map λi=>.int (S.living.getD i 0)))=H7 at s7 h7;have LE:=LC.same s7;have U7:=U4.same s7;have fl:((eU (y.holds (hW (aS (S.hs.map (·.1)) S.ps))) S.living.length).map λi=>V.int (S.living.getD i 0)).all bN=c0:=by
    rw[Dz,i_];intro _ _;rfl
   refine⟨_,Y,_,Y,S.tb,a,_,S.ps,S.living,Iw S.hs,y,"",Y,LE.tbo hg,AM.kt (cA s7),U7,λAj z=>hQ (c4.symm.trans z) nofun,λ_ lr H8 r8 h8=>⟨_,Y,lr,pd,_,_,Y,Y,n7.of h8,n7.of (r8.keep U7 h7 nofun),fl,fl,_,Y,?_⟩,λAj z=>hQ (c4.symm.trans z) nofun⟩;rw[w6 fl];exact ak ⟨_,_,_,Y,r3.trans ((RT.of (s4.trans s7)).trans r8)⟩
 ·rintro σ H3 ⟨v4,v5,v6,rfl,r3⟩;refine c _ _ ?_;clear c j;have U3:=r3.2 U2;have R:=LA.mono λb o n e=>r3.keep U2 e n;have S3:=r3.seq U2 S2;clear LA U2 S2 r3;have AN:=λ{C} (h:dh A C S)=>h.tbo hg;obtain⟨h0,e0⟩:∃h0,S.hs[0]?=O h0:=⟨_,a_ R.lh.1⟩
  obtain⟨a0,ea⟩:∃a0,S.as[0]?=O a0:=⟨_,a_ (show 0<S.as.length by rw[R.heads.1];exact R.lh.1)⟩
  have AO:=eT e0;have A8:=R.heads.2 0 a0 h0 ea e0;have A9:FY (S.as.map V.ref) 0=O (.ref a0):=cS (by decide) (by rw[show (0:gV).toNat=0 from Y,cc,ea];rfl);have hx:cW A (aS (S.hs.map (·.1)) S.ps) (.isin h0.1 (.lf (.zero c0)))=cx:=(mu (A7 h0 AO)).trans Y;refine bB λj c=>⟨_,Y,S.l,_,_,_,Y,Y,n7.of R.cols,A9,a0,_,_,_,Y,Y,th.of A8,Y,bI Y,λp1 AQ=>⟨bI Y,λp2 AA=>c _ _ ?_⟩⟩
  clear c j;have s4:ad H3 (upd (upd H3 p1 (.tup [.str "all"])) p2 (.tup [.str "in", .str h0.1,.ref p1])):=ay (ad.new AQ) AA;have y:bc (LW (Iw S.hs)) (upd (upd H3 p1 (.tup [.str "all"])) p2 (.tup [.str "in", .str h0.1,.ref p1])) p2 (.lf (.isin h0.1 (.lf (.zero c0)))):=⟨p1,af,ad.new AA _ _ af,nofun⟩
  generalize upd (upd H3 p1 (.tup [.str "all"])) p2 (.tup [.str "in", .str h0.1,.ref p1])=H4 at s4 y;have LC:=R.same s4;have U4:=U3.same s4;have S4:=s4.seq S3;have AR:=s4 _ _ A8;clear R U3 S3 s4 A8 AQ AA;refine bB λj c=>⟨_,Y,p,J,54,Y,S4,_,_,Y,Y,(by show (0:gV)<2;decide),_,_,Y,Y,c _ _ ?_⟩
  clear c j;obtain⟨m,em,hm⟩:∃m:ft,5+mix J 54 % 2=m/\(m=5\/m=6):=by
   have m0:=qc (mix J 54) (b:=2) (by decide);have m1:=pU (mix J 54) (b:=2) (by decide);exact⟨(5+mix J 54 % 2).toNat,by omega,by omega⟩
  dsimp only;rw[em];refine bB λj c=>⟨_,Y,_,Y,by omega,by omega,?_⟩
  rw[nI];refine⟨jW (n:=m) (λi σ C=>∃(v4:eH V)(a:ce),σ=[O (.ref p),O (.ref S.l),O (.ref S.tb),O (.ref S.dr),v4,O (.ref a),v6,O (.int m),cx]/\ad H4 C/\bc (LW (Iw S.hs)) C a (KI (decide (V.int (mix J 55 % 2)=V.int 0)) (.lf (.isin h0.1 (.lf (.zero c0)))) i)) ⟨v4,p2,Y,ad.refl _,y⟩ ?_ ?_⟩
  ·rintro i σ H5 hi ⟨v4,a,rfl,D,q5⟩;refine⟨_,Y,p,J,55,Y,D.seq S4,_,_,Y,Y,(by show (0:gV)<2;decide),Y,_,Y,?_⟩;show if decide (V.int (mix J 55 % 2)=V.int 0)=c0 then _ else _
   generalize decide (V.int (mix J 55 % 2)=V.int 0)=b at q5 ⊢;cases b with
   |true=>exact aw ⟨_,Y,bI Y,λp3 A0=>⟨_,p3,Y,ay D A0,a,af,q5.kt (cA (ad.new A0))⟩⟩
   |false=>exact ak ⟨bI Y,λp3 A0=>⟨_,Y,bI Y,λp4 AB=>⟨_,p4,Y,ay (ay D A0) AB,p3,a,af,ad.new AB _ _ af,q5.kt (cA (ay (ad.new A0) AB))⟩⟩⟩
  ·rintro σ H5 ⟨v4,a,rfl,D,q5⟩;refine c _ _ ?_;clear c j;have ck:=wA hx (z:=A.aI) (b:=decide (V.int (mix J 55 % 2)=V.int 0)) m 1;generalize KI (decide (V.int (mix J 55 % 2)=V.int 0)) (.lf (.isin h0.1 (.lf (.zero c0)))) m=q6 at q5 ck;have I:=LC.same D;have U5:=U4.same D;have S5:=D.seq S4;have AS:=D _ _ AR;clear LC U4 S4 AR y D;have n1:aS (S.hs.map (·.1)) S.ps "nocolumn" =cx:=I.pm.2 λz=>by obtain⟨h,hh,e⟩:=nk.mp z;exact yF.1 (e ▸ (I.lh.mem hh).1)
   have n2:aS (S.hs.map (·.1)) S.ps "q" =cx:=I.pm.2 λz=>by obtain⟨h,hh,e⟩:=nk.mp z;exact yF.2 (e ▸ (I.lh.mem hh).1)
   have i0:=A7 h0 AO;refine bB λj c=>?_;have fin:∀H6,RT A H5 H6->j [O (.ref p),O (.ref S.l),O (.ref S.tb),O (.ref S.dr),v4,O (.ref a),v6,O (.int m),cx] H6:=λH6 r6=>c _ _ <| by
    have B:Bd A S a0 h0 H6 []:=⟨I.mono λb o n e=>r6.keep U5 e n,r6.2 U5,r6.keep U5 AS nofun,nofun⟩
    clear c j r6 I U5 AS ck q5 S5;refine bB λj c=>⟨bI Y,λt1 k1=>⟨bI Y,λX k2=>?_⟩⟩
    have B:=B.add (ay (o:=.tup [.str "in", .str "nocolumn", .ref t1]) (ad.new (o:=.tup [.str "all"]) k1) k2) (X,.lf (.isin "nocolumn" (.lf (.zero c0))),"column") ⟨⟨t1,af,ad.new k2 _ _ af,nofun⟩,A.ci,wC n1 (by decide),.inr ⟨Y,Y⟩⟩;generalize upd (upd H6 t1 (.tup [.str "all"])) X (.tup [.str "in", .str "nocolumn", .ref t1])=H7 at B;refine⟨_,Y,S.l,_,_,_,Y,Y,n7.of B.fil.cols,A9,a0,_,_,_,Y,Y,th.of B.hd,Y,bI Y,λt3 k3=>⟨bI Y,λZ k4=>?_⟩⟩;have B:=B.add (ay (o:=.tup [.str "in", .str h0.1,.ref t3]) (ad.new (o:=.tup [.str "alls"]) k3) k4) (Z,.lf (.isin h0.1 (.lf (.bad "alls" []))),"question") ⟨⟨t3,af,⟨ad.new k4 _ _ af,ot _,Y,nofun⟩,nofun⟩,A.aI,zeY i0 (by decide),.inl ⟨Y,Y⟩⟩;generalize upd (upd H7 t3 (.tup [.str "alls"])) Z (.tup [.str "in", .str h0.1,.ref t3])=H8 at B;refine⟨bI Y,λt5 k5=>?_⟩;have B:=B.add (ad.new (o:=.tup [.str "anys"]) k5) (t5,.lf (.bad "anys" []),"question") ⟨⟨af,ot _,Y,nofun⟩,A.aI,Y,.inl ⟨Y,Y⟩⟩;generalize upd H8 t5 (.tup [.str "anys"])=H9 at B;refine⟨bI Y,λt6 k6=>?_⟩;have B:=B.add (ad.new (o:=.tup [.str "any", .int 1]) k6) (t6,.lf (.bad "any" [.int 1]),"question") ⟨⟨af,bI Y,Y,λe=>hQ (V.int.inj (kn e)) (by decide)⟩,A.aI,Y,.inl ⟨Y,Y⟩⟩;generalize upd H9 t6 (.tup [.str "any", .int 1])=Bg at B;refine⟨bI Y,λt7 k7=>?_⟩;have B:=B.add (ad.new (o:=.tup [.str "not"]) k7) (t7,.bad "not" [],"question") ⟨⟨af,ot _,2,Y,by decide⟩,A.aI,Y,.inl ⟨Y,Y⟩⟩;generalize upd Bg t7 (.tup [.str "not"])=AT at B;refine⟨bI Y,λl1 A5=>c _ _ ?_⟩;clear c j;have B:=B.same (ad.new (o:=.lst [.ref X,.ref Z,.ref t5,.ref t6,.ref t7]) A5);have g1:(upd AT l1 (.lst [.ref X,.ref Z,.ref t5,.ref t6,.ref t7])) l1=O (.lst [.ref X,.ref Z,.ref t5,.ref t6,.ref t7]):=af;generalize upd AT l1 (.lst [.ref X,.ref Z,.ref t5,.ref t6,.ref t7])=AC at B g1;refine bB λj c=>⟨_,Y,bI Y,λt8 k8=>⟨bI Y,λM k9=>?_⟩⟩
    have s9:ad AC (upd (upd AC t8 (.tup [.str "any"])) M (.tup [.str "both", .ref t8])):=ay (ad.new k8) k9;have B:=B.add s9 (M,.bad "both" [.ref t8],"question") ⟨⟨af,bI Y,3,Y,by show 3≠2;decide⟩,A.aI,Y,.inl ⟨Y,Y⟩⟩;have g1:=s9 _ _ g1;generalize upd (upd AC t8 (.tup [.str "any"])) M (.tup [.str "both", .ref t8])=AD at B g1;refine⟨_,Y,S.l,_,_,_,Y,Y,n7.of B.fil.cols,A9,a0,_,_,_,Y,Y,th.of B.hd,Y,bI Y,λd AU=>?_⟩;have AE:ad AD (upd AD d (.tup [.str "in", .str h0.1])):=ad.new AU;have B:=B.add AE (d,.lf (.bad "in" [.str h0.1]),"question") ⟨⟨af,bI Y,Y,λe=>hQ (V.int.inj (kn e)) (by show ¬ (3:gV)=2;decide)⟩,A.aI,Y,.inl ⟨Y,Y⟩⟩;have g1:=AE _ _ g1;generalize upd AD d (.tup [.str "in", .str h0.1])=AF at B g1;refine⟨bI Y,λA1 AV=>⟨bI Y,λA2 AG=>⟨bI Y,λA3 A6=>⟨bI Y,λg A4=>?_⟩⟩⟩⟩;have AH:ad AF (upd (upd (upd (upd AF A1 (.tup [.str "any"])) A2 (.tup [.str "x"])) A3 (.tup [.str "in", .str "q", .ref A2])) g (.tup [.str "either", .ref A1,.ref A3])):=ay (ay (ay (ad.new AV) AG) A6) A4;have B:=B.add AH (g,.two c0 (.lf .any) (.lf (.isin "q" (.lf (.bad "x" [])))),"column") ⟨⟨A1,A3,af,ay (ay (ad.new AG) A6) A4 _ _ af,A2,ad.new A4 _ _ af,⟨ay (ad.new A6) A4 _ _ af,ot _,Y,nofun⟩,nofun⟩,A.ci,wC (z:=A.aI) (d:=2) n2 (by decide),.inr ⟨Y,Y⟩⟩;have g1:=AH _ _ g1;generalize upd (upd (upd (upd AF A1 (.tup [.str "any"])) A2 (.tup [.str "x"])) A3 (.tup [.str "in", .str "q", .ref A2])) g (.tup [.str "either", .ref A1,.ref A3])=AI at B g1;refine⟨bI Y,λl2 AJ=>⟨l1,l2,_,_,Y,Y,ad.new AJ _ _ g1,af,bI Y,λl3 AW=>c _ _ ?_⟩⟩;clear c j;have B:=B.same (ay (o:=.lst [.ref X,.ref Z,.ref t5,.ref t6,.ref t7,.ref M,.ref d,.ref g]) (ad.new (o:=.lst [.ref M,.ref d,.ref g]) AJ) AW);have g3:(upd (upd AI l2 (.lst [.ref M,.ref d,.ref g])) l3 (.lst [.ref X,.ref Z,.ref t5,.ref t6,.ref t7,.ref M,.ref d,.ref g])) l3=O (.lst [.ref X,.ref Z,.ref t5,.ref t6,.ref t7,.ref M,.ref d,.ref g]):=af;show gP _ _ _ _ (upd (upd AI l2 (.lst [.ref M,.ref d,.ref g])) l3 (.lst [.ref X,.ref Z,.ref t5,.ref t6,.ref t7,.ref M,.ref d,.ref g]));generalize upd (upd AI l2 (.lst [.ref M,.ref d,.ref g])) l3 (.lst [.ref X,.ref Z,.ref t5,.ref t6,.ref t7,.ref M,.ref d,.ref g])=Bl at B g3;clear g1 k1 k2 k3 k4 k5 k6 k7 k8 k9 AU AV AG A6 A4 s9 AE AH A5 AJ AW;refine bB λj c=>⟨bI Y,λd1 e1=>⟨bI Y,λd2 e2=>⟨d2,6,_,Y,Y,af,by decide,by decide,bI Y,λd3 e3=>⟨d1,d3,_,_,Y,Y,ay (ad.new e2) e3 _ _ af,af,bI Y,λd4 e4=>⟨bI Y,λd5 e5=>⟨d4,d5,_,_,Y,Y,ad.new e5 _ _ af,af,bI Y,λd6 e6=>c _ _ ?_⟩⟩⟩⟩⟩⟩
    clear c j;refine xA (P:=λAk=>uW _ _ _ Ak) (ay (ay (ay (ay (ad.new e1) e2) e3) e4) e5) e6 λAX AK g6=>?_;have B:=B.same AK;have g3:=AK _ _ g3;clear e1 e2 e3 e4 e5 e6 AK;obtain⟨N,ew,eb,el,B⟩:∃N:U (ce×Tr Wh×hO),N.map (λx=>V.ref x.1)=[.ref X,.ref Z,.ref t5,.ref t6,.ref t7,.ref M,.ref d,.ref g]/\N.map (λx=>V.str x.2.2)=[.str "column", .str "question", .str "question", .str "question", .str "question", .str "question", .str "question", .str "column"]/\N.length=8/\Bd A S a0 h0 AX N:=⟨_,Y,Y,Y,B⟩
    rw[←ew]at g3;refine⟨_,Y,l3,Y,⟨_,n7.of g3⟩,⟨cE (E:=N.map (λx=>V.ref x.1)) (λi acc C=>RT A AX C/\acc=(N.take i).map (λx=>V.str x.2.2)) ⟨RT.refl _ _,Y⟩ ?_ ?_ ?_ ?_⟩⟩
    ·rintro i acc C hi ⟨r,rfl⟩;exact⟨n7.of (r.keep B.tbs g3 nofun),by rw[bd,gv];exact Dt ..⟩
    ·rw[bd,el];decide
    ·rintro i x acc C hx v ⟨r,rfl⟩;have hi:i<N.length:=by rw[bd]at v;exact v
     have ei:=a_ hi;rw[cc,ei]at hx;cases hx;have LF:=B.fil.mono λb o n e=>r.keep B.tbs e n;obtain⟨tr,C0,c1,c2⟩:=B.bad _ (j' hi);refine⟨Wk.set Y,tT ⟨_,Y,_,Y,S.tb,N[i].1,_,S.ps,S.living,Iw S.hs,N[i].2.1,N[i].2.2,Y,AN LF,tr.kt (r.kt B.tbs),r.2 B.tbs,λAj z=>by cases c1.symm.trans z;exact c2,λz=>hQ (c1.symm.trans z) nofun,λAj z H8 r8=>cw v ⟨r.trans r8,?_⟩⟩⟩;rw[ke,ei,dn];rfl
    ·rintro acc C ⟨r,rfl⟩ pl Bh;rw[bd,gl,eb];exact⟨_,Y,pl,d6,_,_,Y,Y,n7.of af,n7.of (ad.new Bh _ _ (r.keep B.tbs g6 nofun)),Y,Y,q _⟩
   refine⟨_,Y,_,Y,S.tb,a,_,S.ps,S.living,Iw S.hs,q6,"question",Y,AN I,q5,U5,λAj z=>?_,λz l H6 r6 h6=>?_,λAj z H6 r6=>?_⟩
   ·rw[ck]at z
    split at z <;> cases z
    exact .inl ⟨Y,Y⟩
   ·rcases hm with rfl |rfl
    ·exact .inl ⟨l,_,"question",Y,Y,n7.of h6,_,Y,_,_,Y,Y,Y,_,Y,ak (fin H6 r6)⟩
    ·cases ck.symm.trans z
   ·rcases hm with rfl |rfl
    ·cases ck.symm.trans z
    ·exact .inr ⟨Y,_,Y,_,_,Y,Y,Y,_,Y,ak (fin H6 r6)⟩
theorem zhk{b:ft}{k0 c d e f:J_}(l:K.lookup a=O ⟨.type "tuple",cx,.seq #[.str "plain" k0,.str "runs" c,.str "book" d,.str "base" e,.str "steps" f] b,ksl⟩)(H:Hp):th K H a dG:=
 .inr ⟨_,_,b,l,Y,Y,bI Y,.cons ⟨k0,Y⟩ (.cons ⟨c,Y⟩ (.cons ⟨d,Y⟩ (.cons ⟨e,Y⟩ (.cons ⟨f,Y⟩ .nil))))⟩
theorem zhj{d:Data}(l:K.lookup a=O ⟨.type "tuple",cx,d,ksl⟩):∃o,K.lookup a=O o/\o.cls = .type "tuple" /\ o.dict=cx:=⟨_,l,Y,Y⟩
structure Ds(K:fy)(mg:hO->eH cv)(a8 az aY bJ aX jc p_check_question_of jd p_marked_values jb p_Table_places_where:ce):Prop where
 D0:DD K mg "needed" tK ["number"]
 D1:DD K mg "is_whole" oB ["thing"]
 D2:DD K mg "is_value" oA ["value"]
 D3:DD K mg "are_values" tq ["values"]
 D4:DD K mg "is_block" tF ["values"]
 D5:DD K mg "check_block" tw ["values"]
 D6:DD K mg "check_kind" tz ["kind"]
 D7:DD K mg "folded" tE ["step"]
 D8:II K az "Tally.__init__" sY ["self"]
 D9:MM K az "add_number" "Tally.add_number" sV ["self","number"]
 D10:MM K az "add" "Tally.add" sU ["self","value"]
 D11:MM K az "book_room" "Tally.book_room" sX ["self"]
 D12:MM K az "base_room" "Tally.base_room" sW ["self"]
 D13:MM K az "steps_room" "Tally.steps_room" tm ["self"]
 D14:MM K az "rooms" "Tally.rooms" tf ["self"]
 D15:MM K az "least_room" "Tally.least_room" sZ ["self"]
 D16:DD K mg "tally_of" tM ["values"]
 D17:DD K mg "room" tL ["kind","values"]
 D18:DD K mg "best_kind" tu ["values"]
 D19:DD K mg "in_bits" O9 ["number","width"]
 D20:DD K mg "value_bits" Q0 ["value"]
 D21:DD K mg "plain_bits" O2 ["values"]
 D22:DD K mg "book_bits" Ql ["values"]
 D23:DD K mg "even_bits" OW ["numbers"]
 D24:DD K mg "base_bits" NW ["values"]
 D25:DD K mg "steps_bits" Qp ["values"]
 D26:DD K mg "packed" Oi ["kind","values"]
 D27:MM K a8 "take" "Reader.take" zX ["self","width"]
 D28:MM K a8 "has_more" "Reader.has_more" zV ["self"]
 D29:MM K a8 "taken_since" "Reader.taken_since" zY ["self","place"]
 D30:II K a8 "Reader.__init__" zW ["self","text"]
 D31:DD K mg "read_value" QC ["reader"]
 D32:DD K mg "read_plain" Qo ["reader","length"]
 D33:DD K mg "read_book" Pm ["reader","length"]
 D34:DD K mg "read_base" Po ["reader","length"]
 D35:DD K mg "unfolded" Op ["number"]
 D36:DD K mg "read_steps" Ob ["reader","length"]
 D37:DD K mg "read_block" PD ["reader"]
 D38:DD K mg "unpacked" Ps ["bits"]
 D39:DD K mg "check_column" Qi ["values"]
 D40:DD K mg "rooms_from" Q2 ["values","begin"]
 D41:DD K mg "block_rooms" Oy ["values"]
 D42:DD K mg "room_between" NQ ["rooms","begin","end"]
 D43:DD K mg "least_prices" Qs ["rooms"]
 D44:DD K mg "longest_begin" Qa ["rooms","found","end"]
 D45:DD K mg "cuts" PX ["values"]
 D46:DD K mg "blocks_between" OR ["values","ends"]
 D47:DD K mg "tight" O5 ["values"]
 D48:DD K mg "check_row" Qq ["row","size"]
 D49:DD K mg "values_in" Pl ["bits"]
 D50:II K aY "Column.__init__" zR ["self","values"]
 D51:MM K aY "told" "Column.told" zU ["self"]
 D52:MM K aY "put" "Column.put" zS ["self","row","value"]
 D53:MM K aY "drop" "Column.drop" zQ ["self","row"]
 D54:DD K mg "are_small_letters" Q1 ["text"]
 D55:DD K mg "is_small" O6 ["text","most"]
 D56:DD K mg "is_written" tG ["word"]
 D57:DD K mg "is_word" OH ["word"]
 D58:DD K mg "takes" OZ ["part","value"]
 D59:II K bJ "WordColumn.__init__" Q5 ["self"]
 D60:MM K bJ "number_of" "WordColumn.number_of" OX ["self","word"]
 D61:MM K bJ "put" "WordColumn.put" Ou ["self","row","word"]
 D62:MM K bJ "drop" "WordColumn.drop" Pz ["self","row"]
 D63:DD K mg "is_head" Od ["head"]
 D64:DD K mg "check_heads" Qv ["heads"]
 D65:II K aX "Table.__init__" z8 ["self","columns"]
 D66:MM K aX "part" "Table.part" NY ["self","name"]
 D67:MM K aX "place_of" "Table.place_of" Of ["self","number"]
 D68:MM K aX "check_put" "Table.check_put" zZ ["self","values"]
 D69:MM K aX "put" "Table.put" Qd ["self","values"]
 D70:MM K aX "drop" "Table.drop" z7 ["self","number"]
 D71:DD K mg "is_joined" PP ["asked"]
 D72:DD K mg "check_joined" O_ ["asked","check_simple"]
 D73:DD K mg "check_within" ON ["asked","depth","check_simple"]
 D74:DD K mg "things_named" Qj ["simple"]
 D75:DC K mg "check_question_of" tD ["question","is_good"] jc p_check_question_of
 D76:DD K mg "check_simple_of" O0 ["simple","is_good"]
 D77:DD K mg "check_question" NR ["question"]
 D78:DD K mg "check_question_of_words" Pn ["question"]
 D79:DD K mg "answers" Qc ["simple","value"]
 D80:DD K mg "marked" PK ["asked","marks_of"]
 D81:DC K mg "marked_values" tI ["question","values"] jd p_marked_values
 D82:MM K aY "answering" "Column.answering" zP ["self","question"]
 D83:MM K aY "rows" "Column.rows" zT ["self","question"]
 D84:MM K bJ "in_numbers" "WordColumn.in_numbers" OJ ["self","question"]
 D85:MM K bJ "rows" "WordColumn.rows" OY ["self","question"]
 D86:DD K mg "check_asked_of" Pj ["part","question"]
 D87:MM K aX "check_simple" "Table.check_simple" z6 ["self","simple"]
 D88:MM K aX "marks_of" "Table.marks_of" z9 ["self","simple"]
 D89:MC K aX "places_where" "Table.places_where" sT ["self","where"] jb p_Table_places_where
 D90:MM K aX "where" "Table.where" Og ["self","where"]
 D91:DD K mg "_law_cell" OQ ["_law_script","_law_k"]
 D92:DD K mg "_law_mix" QA ["_law_script","_law_k"]
 D93:DD K mg "_law_columns" OV ["_law_script","_law_k"]
 D94:DD K mg "_law_cell_of" Oe ["_law_script","_law_k","_law_kind"]
 D95:DD K mg "_law_row" P8 ["_law_script","_law_k","_law_columns_here"]
 D96:DD K mg "_law_column_question" Pd ["_law_script","_law_k","_law_kind","_law_deep"]
 D97:DD K mg "_law_where" Pr ["_law_script","_law_k","_law_columns_here","_law_deep"]
 D98:DD K mg "_law_answers" Q8 ["_law_question","_law_value"]
 D99:DD K mg "_law_found" NX ["_law_where_here","_law_columns_here","_law_row_here"]
 D100:DD K mg "_law_refusal" tH ["_law_kept"]
 D101:DD K mg "_law_told" Qb ["_law_table","_law_where_here"]
 D102:DD K mg "_law_filled" P1 ["_law_script","_law_k","_law_columns_here","_law_most"]
 D103:DD K mg "law" kj ["_law_script"]
theorem zdW{l:KA}{fa:ce}{y C E H I jS dS fN gC fu aI ci gD gE fL J g M i N d:ce}(P:G "law" =O (.ref fa))(T:Txt K G ⟨y,C,E,H,I,jS,dS,fN,gC,fu,aI,ci,gD,gE,fL,J,g,M,i,N,d⟩)(D:Ds K G y C E H I J g M i N d)(jy:IF w K G "JOINING" JL)(Q:IF w K G "SIMPLE_asking" SL)(l9:IF w K G "SIMPLE_tables" TL)(ne:g≠i/\g≠d/\i≠d)(hz:∀p∈[g,i,d],K.lookup p=cx)(uX:(∃a Aw n,G "WRITERS" =O (.ref a)/\K.lookup a=O ⟨.type "dict",cx,.dict Aw n,#[]⟩/\EM w.params Aw.toList/\(∃f,Dp K a "plain" =O (O (.ref f))/\G "plain_bits" =O (.ref f))/\(∃f,Dp K a "book" =O (O (.ref f))/\G "book_bits" =O (.ref f))/\(∃f,Dp K a "base" =O (O (.ref f))/\G "base_bits" =O (.ref f))/\(∃f,Dp K a "steps" =O (O (.ref f))/\G "steps_bits" =O (.ref f))))(uV:(∃a Aw n,G "READERS" =O (.ref a)/\K.lookup a=O ⟨.type "dict",cx,.dict Aw n,#[]⟩/\EM w.params Aw.toList/\(∃f,Dp K a "plain" =O (O (.ref f))/\G "read_plain" =O (.ref f))/\(∃f,Dp K a "book" =O (O (.ref f))/\G "read_book" =O (.ref f))/\(∃f,Dp K a "base" =O (O (.ref f))/\G "read_base" =O (.ref f))/\(∃f,Dp K a "steps" =O (O (.ref f))/\G "read_steps" =O (.ref f))))
  : (∀p∈[g,i,d],K.lookup p=cx/\∃c,Dv K c p=c0)/\∃Ag:B',(∀(s:f0)(v:cv),HC s Ag ⟨[v],[]⟩ [("_law_script",v)])/\∀u:sG,K.In u->u.Ns B9 G->gr u G->ap l.prog w K G u q_ 30 fa Ag ["_law_script"] (oH K [g,i,d]):=by
 let A:Ad:=⟨y,C,E,H,I,jS,dS,fN,gC,fu,aI,ci,gD,gE,fL,J,g,M,i,N,d⟩
 have T:Txt K G A:=T;obtain⟨B5,B6,_,R,S,X,⟨_,Z,A0⟩,⟨_,A1,A2⟩,⟨_,A3,A4⟩,⟨_,A5,A6⟩⟩:=uX;obtain⟨B7,B8,_,A7,A8,A9,⟨_,AA,AB⟩,⟨_,AC,AD⟩,⟨_,AE,AF⟩,⟨_,AG,AH⟩⟩:=uV;obtain⟨_,e,_,⟨⟨_,_,kV,dc,pm,an,cd,ct,_,rfl,l_,c_⟩,k_⟩,_⟩:=D.D103;cases P.symm.trans e;have F:=m8 (st:=kj) l_ c_ k_;refine⟨λp j=>⟨hz p j,?_⟩,CG "law" "law" (dR kj) (cF kj) (aR kj) .none kV dc pm an cd ct,λs v=>.of_eq Y,λu _ _ B=>?_⟩
 ·rcases f_.mp j with rfl |j
  ·exact⟨_,D.D75.hd⟩
  rcases f_.mp j with rfl |j
  ·exact⟨_,D.D81.hd⟩
  ·rw[ku.mp j];exact⟨_,D.D89.hd⟩
 have b:Bs l.prog w u:=trivial;have m:=D.D0.cal b λ_ _=>Sx;have jD:=D.D1.cal b λ_ _=>yT T;have pG:=D.D2.cal b λ_ _=>yS T jD;have mf:=D.D3.cal b λ_ _=>ZR T pG;have mi:=D.D4.cal b λ_ _=>Z_ T mf;have vv:=D.D5.cal b λ_ _=>VR T mi;have AI:=D.D6.cal b λ_ _=>S1 T;have mh:=D.D7.cal b λ_ _=>X8;have vq:=D.D8.cal b λ_ _=>Zh T;have AJ:=D.D9.cal b λ_ _=>Yr T mh;have vp:=D.D10.cal b λ_ _=>Tt T AJ;have AK:=D.D11.cal b λ_ _=>YD T m;have AL:=D.D12.cal b λ_ _=>WR T m;have AM:=D.D13.cal b λ_ _=>zk5 T m;have o7:=D.D14.cal b λ_ _=>Sf T AK AL AM;have vt:=D.D15.cal b λ_ _=>Xg T o7;have vx:=D.D16.cal b λ_ _=>Yd T vq vp;have pO:=D.D17.cal b λ_ _=>Zg T vv AI vx o7;have ph:=D.D18.cal b λ_ _=>Si T vv vx o7 vt;have x:=D.D19.cal b λ_ _=>UQ T;have gY:=D.D20.cal b λ_ _=>zlh T x;have mj:=D.D21.cal b λ_ _=>TY T gY;have AN:=D.D22.cal b λ_ _=>zjZ T m x mj;have jC:=D.D23.cal b λ_ _=>Yb T m x;have AO:=D.D24.cal b λ_ _=>U0 T gY jC;have AQ:=D.D25.cal b λ_ _=>RJ T mh gY jC;have o8:iB l.prog w K G u q_ 5 "WRITERS" ["values"] iN (N6 K):=Yk R S X Z A1 A3 A5 A0 A2 A4 A6 mj AN AO AQ;have jF:=D.D26.cal b λ_ _=>Wc T pO x o8;have r:=D.D27.cal b λ_ _=>Xv T;have AR:=D.D28.cal b λ_ _=>SN T;have AS:=D.D29.cal b λ_ _=>Sq T;have AT:=D.D30.cal b λ_ _=>S_ T;have pN:=D.D31.cal b λ_ _=>Vv T r;have ml:=D.D32.cal b λ_ _=>Yt T pN;have AU:=D.D33.cal b λ_ _=>Rx T r ml m;have AV:=D.D34.cal b λ_ _=>Zf T r;have pR:=D.D35.cal b λ_ _=>Yf;have AW:=D.D36.cal b λ_ _=>Te T r pR;have o6:iB l.prog w K G u q_ 5 "READERS" ["reader","length"] iN (Nx A):=zmL A7 A8 A9 AA AC AE AG AB AD AF AH ml AU AV AW;have pM:=D.D37.cal b λ_ _=>Yv T r AS o6 mi jF;have jH:=D.D38.cal b λ_ _=>UT T AT AR pM;have pq:=D.D39.cal b λ_ _=>Y9 T mf;have pP:=D.D40.cal b λ_ _=>Zb T vq vp vt;have pi:=D.D41.cal b λ_ _=>QS T pP;have jG:=D.D42.cal b λ_ _=>Sr;have pJ:=D.D43.cal b λ_ _=>zkz T jG;have pK:=D.D44.cal b λ_ _=>Yc T jG;have pD:=D.D45.cal b λ_ _=>Wn T pq pi pJ pK;have pj:=D.D46.cal b λ_ _=>WU T;have gX:=D.D47.cal b λ_ _=>UU T pj pD jF ph;have jB:=D.D48.cal b λ_ _=>WT T;have pS:=D.D49.cal b λ_ _=>QX T jH;have vi:=D.D50.cal b λ_ _=>UK T gX;have vm:=D.D51.cal b λ_ _=>S6 T pS;have vj:=D.D52.cal b λ_ _=>WK T vm jB gX;have vh:=D.D53.cal b λ_ _=>ZX T vm jB gX;have pf:=D.D54.cal b λ_ _=>Ul T;have gW:=D.D55.cal b λ_ _=>T9 T pf;have pI:=D.D56.cal b λ_ _=>yU T gW;have pH:=D.D57.cal b λ_ _=>YO T pI;have AX:=D.D1.cal b λ_ _=>Zn T;have AY:=D.D2.cal b λ_ _=>Th T jD AX;have pQ:=D.D58.cal b λ_ _=>Zl T pH AY;have AZ:=D.D59.cal b λ_ _=>Rv T vi;have Ba:=D.D60.cal b λ_ _=>RY T;have Bb:=D.D61.cal b λ_ _=>Tg T vj Ba;have Be:=D.D62.cal b λ_ _=>Vb T vh;have pE:=D.D63.cal b λ_ _=>RM T gW;have px:=D.D64.cal b λ_ _=>R6 T pE;have Bf:=D.D65.cal b λ_ _=>zjJ T px AZ vi;have vo:=D.D66.cal b λ_ _=>Vw T;have Bg:=D.D67.cal b λ_ _=>Ym T;have Bh:=D.D68.cal b λ_ _=>TD T pQ;have Bi:=D.D69.cal b λ_ _=>zjK T Bh vj Bb;have Bj:=D.D70.cal b λ_ _=>VG T Bg vh Be;have gU:=D.D71.cal b λ_ _=>Td T jy;have CJ:=λ(L:Lf)(c:L.α->eH ce)(k0:ft)(h:1<=k0)=>D.D72.cal (mg:=G) b λ_ _=>Sb (L:=L) (c:=c) T (D.D73.rec (k:=k0) b (λ_ _ _ _ z=>z) (λ_ _ _=>Vl T h jy gU) 7);have mm:=D.D74.cal b λ_ _=>zlb T;have CQ:=λAq=>D.D75.cal (mg:=G) b λ_ _=>Us (Aq:=Aq) T ne B (CJ (LQ Aq) (cQ A.aI) 5 (by decide)) (D.D76.cal b λ_ _=>Sa T Q mm);have jz:=D.D77.cal b λ_ _=>VV T D.D1 (CQ GI);have jA:=D.D78.cal b λ_ _=>ZJ T D.D56 gW (CQ GW);have CA:=λAq (h:Cm Aq)=>D.D79.cal (Aa:=l.prog) (w:=w) (mg:=G) (base:=u) b λ_ _=>X3 h T;have CM:=λ(L:Lf)(c:L.α->eH ce){β:Type}(hv:L.α->β->n_)(k0:ft)(h:1<=k0)=>D.D80.rec (k:=k0) b (λ_ _ _ _ z=>z) (λ_ _ _=>YE (c:=c) (D:=hv) T h gU) 6;have pL:=D.D81.cal b λ_ _=>YY T ne B (CM (LQ GI) (cQ A.aI) Fp 2 (by decide)) (CA GI wF);have Bk:=D.D82.cal b λ_ _=>UJ T jz jH pL;have vk:=D.D83.cal b λ_ _=>Zd T Bk;have Bl:=D.D84.rec (k:=1) b (λ_ _ _ _ z=>z) (λ_ _ _=>Uv T gU (CA GS WX)) 6;have Bm:=D.D85.cal b λ_ _=>Sv T jA Bl vk;have pk:=D.D86.cal b λ_ _=>zj1 T jA jz;have Bn:=D.D87.cal b λ_ _=>R8 T l9 pk vo;have Bo:=D.D88.cal b λ_ _=>Wt T vo vk Bm;have Bp:=D.D89.cal b λ_ _=>QV T ne B (λkd pm=>CJ (LW kd) (cW A pm) 18 (by decide)) (λkd pm=>CM (LW kd) (cW A pm) (hW pm) 20 (by decide)) Bn Bo;have Bq:=D.D90.cal b λ_ _=>Y5 T Bp;have Br:=D.D91.cal b λ_ _=>zkq T;have q:=D.D92.cal b λ_ _=>VJ T Br;have Bt:=D.D93.cal b λ_ _=>Tk T q;have Bu:=D.D94.cal b λ_ _=>Rm T q;have Bv:=D.D95.cal b λ_ _=>Vo T Bu;have Bw:=D.D96.rec (k:=3) b (λ_ _ _ _ z=>z) (λ_ _ _=>Xz T q) 3;have Bx:=D.D97.rec (k:=6) b (λ_ _ _ _ z=>z) (λ_ _ _=>zkG T q Bw) 4;have CL:=λb'=>D.D98.rec (Aa:=l.prog) (w:=w) (mg:=G) (base:=u) (k:=1) b (λ_ _ _ _ z=>z) (λ_ _ _=>Sz (A:=A) (show Cm (GK b') by cases b';exact wF;exact Uw) T) 6;have By:=D.D99.rec (k:=7) b (λ_ _ _ _ z=>z) (λ_ _ _=>Z8 T CL) 6;have Bz:=D.D100.cal b λ_ _=>Z' T;have B0:=D.D101.cal b λ_ _=>XG T Bq Bz;have B4:=D.D102.cal b λ_ _=>Y4 T q Bf Bv Bi Bj;exact Zt T Bt B4 Bx q By B0 F
theorem zoE{l:KA}{q:sJ}{b:U hO}{m:(hO->eH cv)->sG->Prop}{e:uF->sG->Prop}{d:DefRec}{K:MF->fy}{g:U ce}(n:l.most=O 63)(i:d.params.defaults=[])(r:∀(w:uF)(h:sG),e w h->(K w.params).In h)(v:∀(w:uF)(h:sG),e w h->∀p∈g,h.get? p=O (L6 #[]))(F:∀(w:uF)(G:hO->eH cv)(j:ce)(h:sG),(K w.params).In h->h.Ns B9 G->G d.name=O (.ref j)->
   (∀p∈g,(K w.params).lookup p=cx/\∃c,Dv (K w.params) c p=c0)/\∃Ag:B',(∀(s:f0)(Au:cv),HC s Ag ⟨[Au],[]⟩ [("_law_script",Au)])/\∀u:sG,(K w.params).In u->u.Ns B9 G->gr u G->ap l.prog w (K w.params) G u q_ 30 j Ag ["_law_script"] (oH (K w.params) g)):
  W.WalkO q b m e l.row.toRowW d [] (λf x=>IA f x):=
 L2.YC (n:=63) (k:=30) (x := "_law_script") (CX:=q_) (sp:=oH) n (by decide) i ⟨Y,by decide,by decide⟩ r v F (λ_ _ a J y A B=>⟨a,J,Y,B,y,A,λ_=>rfl⟩) λ_ _ _ _ z=>z
end T1
end
open PySem PySem.W PyProof.Rows
set_option maxRecDepth 100000 in
set_option maxHeartbeats 0 in
theorem PySem.Challenge.cw_tightrows_k31_whole_where_holds : PySem.Challenge.rw_tightrows_k31_whole_where.Holds :=
 hdk (by
  k_fill
  refine T1.zoE (l:=PySem.Challenge.rw_tightrows_k31_whole_where) (g:=[466,492,883]) rfl rfl (fun w h Y=>PySem.W.km_in_of Y) ?Z ?F
  case Z=>
    intro w h Y p hp;exact PySem.W.km_tabs_of Y p ((by decide:∀ p∈([466,492,883]:List Nat),p∈([883,492,466]:List Nat)) p hp)
  case F=>
    intro w mg fa h KX G hmg;refine' T1.zdW (g:=466) (i:=492) (d:=883) hmg ?T ?D ?CJOINING ?CSIMPLE_asking ?CSIMPLE_tables ?ne ?hz ?uX ?uV
    case ne=>decide
    case hz=>
      intro p hp;simp only [List.mem_cons,List.not_mem_nil,or_false] at hp;rcases hp with rfl | rfl | rfl <;> first | k_is | kernel_rfl
    case CJOINING=>exact L2.qL (mg_of KX G (by k_is)) (by decide) (by k_is) (by (repeat (first | exact trivial | refine ⟨⟨_,_,rfl,rfl⟩,?_⟩))) (by (repeat (first | exact trivial | refine ⟨⟨_,rfl⟩,⟨_,rfl⟩,?_⟩)))
    case CSIMPLE_asking=>exact L2.qL (mg_of KX G (by k_is)) (by decide) (by k_is) (by (repeat (first | exact trivial | refine ⟨⟨_,_,rfl,rfl⟩,?_⟩))) (by (repeat (first | exact trivial | refine ⟨⟨_,rfl⟩,⟨_,rfl⟩,?_⟩)))
    case CSIMPLE_tables=>exact L2.qL (mg_of KX G (by k_is)) (by decide) (by k_is) (by (repeat (first | exact trivial | refine ⟨⟨_,_,rfl,rfl⟩,?_⟩))) (by (repeat (first | exact trivial | refine ⟨⟨_,rfl⟩,⟨_,rfl⟩,?_⟩)))
    case T=>
      constructor
      all_goals (try dsimp only)
      all_goals (try exact mg_of KX G (by k_is))
      all_goals first | exact mg_none_of KX G (by k_is) | exact ⟨_,mg_of KX G (by k_is)⟩ | (show kitOne _ _ _=_;kit_is) | (show exmOne _ _ _=_;kts_exm) | (show findIn _ _ _=_;k_is) | exact ⟨by k_is,by k_is,by k_is,by k_is⟩ | exact ⟨by k_exc⟩ | exact ⟨(show isClsIn _ _=true by k_is),by k_is,by k_is,by k_is,by k_is,by k_is,by k_is,by k_is⟩ | exact ⟨by k_is,by k_is⟩ | exact T1.zhk (by k_is) | exact T1.zhj (by k_is)
    case D=>
      constructor
      all_goals first | refine ⟨_,mg_of KX G (by k_is),?_⟩ | refine ⟨_,⟨by k_is,by k_is,by k_is⟩,?_⟩ | refine ⟨_,⟨by k_is,by k_is,by k_is,by k_is⟩,?_⟩
      all_goals first | exact L2.fb2 (by k_is) (by k_is) (by k_is) fun _ _ _ _ _ _ _ _=>rfl | exact L2.fb1 (by k_is) (by k_is) (by k_is) fun _ _ _ _ _ _ _=>rfl | exact L2.fb3 (by k_is) (by k_is) (by k_is) fun _ _ _ _ _ _ _ _ _=>rfl | exact L2.fb4 (by k_is) (by k_is) (by k_is) fun _ _ _ _ _ _ _ _ _ _=>rfl | exact L2.fb0 (by k_is) (by k_is) (by k_is) fun _ _ _ _ _ _=>rfl | exact L2.fb5 (by k_is) (by k_is) (by k_is) fun _ _ _ _ _ _ _ _ _ _ _=>rfl | exact L2.fc2 (by k_is) (by k_is) (by first | k_is | kernel_rfl) (by k_is) fun _ _ _ _ _ _ _ _=>rfl
    case uX=>exact ⟨_,_,_,mg_of KX G (by k_is),by k_is,by (repeat (first | exact trivial | refine ⟨⟨_,_,rfl,rfl⟩,?_⟩)),⟨_,by k_is,mg_of KX G (by k_is)⟩,⟨_,by k_is,mg_of KX G (by k_is)⟩,⟨_,by k_is,mg_of KX G (by k_is)⟩,⟨_,by k_is,mg_of KX G (by k_is)⟩⟩
    case uV=>exact ⟨_,_,_,mg_of KX G (by k_is),by k_is,by (repeat (first | exact trivial | refine ⟨⟨_,_,rfl,rfl⟩,?_⟩)),⟨_,by k_is,mg_of KX G (by k_is)⟩,⟨_,by k_is,mg_of KX G (by k_is)⟩,⟨_,by k_is,mg_of KX G (by k_is)⟩,⟨_,by k_is,mg_of KX G (by k_is)⟩⟩
  )
#print axioms PySem.Challenge.cw_tightrows_k31_whole_where_holds
