import PyProof.Rows.All
import Wide.All
import OpenK.AllK
import Wide.FinOn
import HandS.ForMost
import HandS.Star
import HandS.Zip
import HandS.IsInst
import HandS.Flow
import HandS.SetBool
import HandS.SortInts
import HandS.Deep
import HandS.Conv
import HandS.TupLe
import HandS.Exc
import HandS.ExcOwn
import HandS.WordsExc
import HandS.Evl
import HandS.TupAny
import HandS.Lambda
import KE.KDflt
import HandS.Walk
import KE.GoesEnum
import KE.GoesMore
import HandS.Comp
import HandS.Strs
import HandS.SetFor
import HandS.Small
import HandS.Style
import HandS.ExcField
import HandS.ExcIs
import HandS.RaiseMore
import HandS.CallSlots
import KE.KExcIs
import HandS.ExcInit
import HandS.FStr
import KE.KExcSuper
import HandS.EndTab
import PyProof.Rows.MatchSeqLen
import KE.DatumOrd
import PyProof.SumAny
import PyProof.Rows.RowBridgeK
import HandS.DictComp
import KE.KUnpack
import PyProof.CollectIter
import HandS.Text
import HandS.StrMore
import HandS.TupMul
import PyProof.AutoSeq1
import HandS.NoneIn
import KE.KDictMeth
import HandS.SuiteRaise
import HandS.RaiseFrom
import PySem.Challenge.RW_slideboxes_k04_codes_refused
set_option Elab.async false
set_option linter.all false
set_option maxRecDepth 100000
set_option maxHeartbeats 4000000
section
open PySem PySem.W PyProof.Rows
def PySem.W.Fast.tw9796564346219866840 : Nat := 0
def PySem.W.Fast.tw4096221787609464999 : Nat := 0
def PySem.W.Fast.tw2692750590507578028 : Nat := 0
def PySem.W.Fast.tw643336161829623379 : Nat := 0
def PySem.W.Fast.tw2492000799826889573 : Nat := 0
def PySem.W.Fast.tw4077048163395320219 : Nat := 0
def PySem.W.Fast.tw14782755387869428366 : Nat := 0
def PySem.W.Fast.tw3419001889969749887 : Nat := 0
def PySem.W.Fast.tw8060666987683057360 : Nat := 0
def PySem.W.Fast.tw523537741815420091 : Nat := 0
def PySem.W.Fast.tw16053306600634468012 : Nat := 0
def PySem.W.Fast.tw3985964047577975286 : Nat := 0
def PySem.W.Fast.tw7217548393331319763 : Nat := 0
def PySem.W.Fast.tw17214186515701724070 : Nat := 0
def PySem.W.Fast.tw17062427158221528723 : Nat := 0
def PySem.W.Fast.tw10792498714594961201 : Nat := 0
def PySem.W.Fast.tw2400638427578300857 : Nat := 0
def PySem.W.Fast.tw5217270863462422736 : Nat := 0
def PySem.W.Fast.tw8480184845173159842 : Nat := 0
def PySem.W.Fast.tw5449601097390414333 : Nat := 0
def PySem.W.Fast.tw14842496431369740429 : Nat := 0
def PySem.W.Fast.tw9919008367099125623 : Nat := 0
def PySem.W.Fast.tw10016166984437732892 : Nat := 0
def PySem.W.Fast.tw6549852094080907030 : Nat := 0
def PySem.W.Fast.tw2646887283097553488 : Nat := 0
def PySem.W.Fast.tw7476452910721959123 : Nat := 0
def PySem.W.Fast.tw14226173905949225808 : Nat := 0
def PySem.W.Fast.tw14703100239697439463 : Nat := 0
def PySem.W.Fast.tw14424681132571578402 : Nat := 0
def PySem.W.Fast.tw2353497105660221152 : Nat := 0
def PySem.W.Fast.tw3641951560692057861 : Nat := 0
def PySem.W.Fast.tw2483420100392427323 : Nat := 0
def PySem.W.Fast.tw2950685276103557050 : Nat := 0
def PySem.W.Fast.tw17963105932079019327 : Nat := 0
def PySem.W.Fast.tw13810262117814702294 : Nat := 0
def PySem.W.Fast.tw16409965706819354750 : Nat := 0
def PySem.W.Fast.tw2295934692909999376 : Nat := 0
def PySem.W.Fast.tw2789304352393801511 : Nat := 0
def PySem.W.Fast.tw17187875760726034783 : Nat := 0
def PySem.W.Fast.tw1725486776273817318 : Nat := 0
def PySem.W.Fast.tw11898673842065290130 : Nat := 0
def PySem.W.Fast.tw3042748168174471775 : Nat := 0
def PySem.W.Fast.tw16279288168775177219 : Nat := 0
def PySem.W.Fast.tw13769103115541136327 : Nat := 0
def PySem.W.Fast.tw4635989785427082552 : Nat := 0
def PySem.W.Fast.tw15127105006835628225 : Nat := 0
def PySem.W.Fast.tw6229817132586351632 : Nat := 0
def PySem.W.Fast.tw9860861378791804195 : Nat := 0
def PySem.W.Fast.tw9495317472360511255 : Nat := 0
def PySem.W.Fast.tw12727641955093265886 : Nat := 0
def PySem.W.Fast.tw8159993647027272844 : Nat := 0
def PySem.W.Fast.tw5362036446546632119 : Nat := 0
def PySem.W.Fast.tw4075453323654395381 : Nat := 0
def PySem.W.Fast.tw9977182230042388008 : Nat := 0
def PySem.W.Fast.tw11401859456886640639 : Nat := 0
def PySem.W.Fast.tw6356304189028158447 : Nat := 0
def PySem.W.Fast.tw14243238205550065757 : Nat := 0
def PySem.W.Fast.tw8912161614967838395 : Nat := 0
def PySem.W.Fast.tw18157406047293677543 : Nat := 0
def PySem.W.Fast.tw11421057715548341654 : Nat := 0
def PySem.W.Fast.tw10294118229990073760 : Nat := 0
def PySem.W.Fast.tw5101696844757716304 : Nat := 0
def PySem.W.Fast.tw16670775579421159206 : Nat := 0
def PySem.W.Fast.tw7424060955962978353 : Nat := 0
def PySem.W.Fast.tw3300454383303005205 : Nat := 0
def PySem.W.Fast.tw6522051377940421278 : Nat := 0
def PySem.W.Fast.tw16140922888777852060 : Nat := 0
def PySem.W.Fast.tw8972062959192195235 : Nat := 0
def PySem.W.Fast.tw896239598344801917 : Nat := 0
def PySem.W.Fast.tw6469784823511061222 : Nat := 0
def PySem.W.Fast.tw3382625519597670723 : Nat := 0
def PySem.W.Fast.tw14935467056822913822 : Nat := 0
def PySem.W.Fast.tw16955839230299176341 : Nat := 0
def PySem.W.Fast.tw8949853181751564097 : Nat := 0
def PySem.W.Fast.tw8739830900816887780 : Nat := 0
def PySem.W.Fast.tw17351735930882485243 : Nat := 0
def PySem.W.Fast.tw446995266069924076 : Nat := 0
def PySem.W.Fast.tw12330612334027959195 : Nat := 0
def PySem.W.Fast.tw13622603851894308203 : Nat := 0
def PySem.W.Fast.tw13135312941875745310 : Nat := 0
def PySem.W.Fast.tw2941924889016668590 : Nat := 0
def PySem.W.Fast.tw7086961617601330827 : Nat := 0
def PySem.W.Fast.tw8899516883271353254 : Nat := 0
def PySem.W.Fast.tw2135409205425526673 : Nat := 0
def PySem.W.Fast.tw11161164713144168021 : Nat := 0
def PySem.W.Fast.tw2107523057676978006 : Nat := 0
def PySem.W.Fast.tw3235425350174046738 : Nat := 0
def PySem.W.Fast.tw8219003486749837733 : Nat := 0
def PySem.W.Fast.tw10510056951384868246 : Nat := 0
def PySem.W.Fast.tw1495895850433845275 : Nat := 0
def PySem.W.Fast.tw7164969610272591079 : Nat := 0
def PySem.W.Fast.tw4953865588907285216 : Nat := 0
def PySem.W.Fast.tw14904681115217272601 : Nat := 0
def PySem.W.Fast.tw8733291241859026926 : Nat := 0
def PySem.W.Fast.tw17292613610259460706 : Nat := 0
def PySem.W.Fast.tw8760152093665844161 : Nat := 0
def PySem.W.Fast.tw140001813534094272 : Nat := 0
def PySem.W.Fast.tw16723463757517087524 : Nat := 0
def PySem.W.Fast.tw12459912946257978736 : Nat := 0
def PySem.W.Fast.tw6128106870883400570 : Nat := 0
def PySem.W.Fast.tw9116068151291705539 : Nat := 0
def PySem.W.Fast.tw12772213712371865176 : Nat := 0
def PySem.W.Fast.tw1383625962624193546 : Nat := 0
def PySem.W.Fast.tw2261719852989239553 : Nat := 0
def PySem.W.Fast.tw87601786513091389 : Nat := 0
def PySem.W.Fast.tw2144661209622563809 : Nat := 0
def PySem.W.Fast.tw4562827626845409882 : Nat := 0
def PySem.W.Fast.tw14172470266813156586 : Nat := 0
def PySem.W.Fast.tw15539815450414544023 : Nat := 0
def PySem.W.Fast.tw4547051000311932777 : Nat := 0
def PySem.W.Fast.tw3919386906821981792 : Nat := 0
def PySem.W.Fast.tw5994696166404524948 : Nat := 0
def PySem.W.Fast.tw10876078143196172821 : Nat := 0
def PySem.W.Fast.tw10519837036962490867 : Nat := 0
def PySem.W.Fast.tw12903330217458380548 : Nat := 0
def PySem.W.Fast.tw17464319187374939960 : Nat := 0
def PySem.W.Fast.tw15621415185263527259 : Nat := 0
def PySem.W.Fast.tw9848817304349107530 : Nat := 0
def PySem.W.Fast.tw11266997524610791606 : Nat := 0
def PySem.W.Fast.tw11962351593759143498 : Nat := 0
def PySem.W.Fast.tw14760874974797668852 : Nat := 0
def PySem.W.Fast.tw2570914705882880060 : Nat := 0
def PySem.W.Fast.tw447263597446747957 : Nat := 0
def PySem.W.Fast.tw15401437161963490237 : Nat := 0
def PySem.W.Fast.tw4849480874435393781 : Nat := 0
def PySem.W.Fast.tw3721919958574915784 : Nat := 0
def PySem.W.Fast.tw4906484309439969231 : Nat := 0
def PySem.W.Fast.tw16902440903046159558 : Nat := 0
def PySem.W.Fast.tw16919654943277366748 : Nat := 0
def PySem.W.Fast.tw11066385474520676512 : Nat := 0
def PySem.W.Fast.tw4734895289157585001 : Nat := 0
def PySem.W.Fast.tw14689541978594310382 : Nat := 0
def PySem.W.Fast.tw13953587524928339648 : Nat := 0
def PySem.W.Fast.tw3215387988796971590 : Nat := 0
def PySem.W.Fast.tw7480016910919988345 : Nat := 0
def PySem.W.Fast.tw140236481695663071 : Nat := 0
def PySem.W.Fast.tw2080317491765294665 : Nat := 0
def PySem.W.Fast.tw4683681711962371626 : Nat := 0
def PySem.W.Fast.tw12917704675397863716 : Nat := 0
def PySem.W.Fast.tw4804111812005502284 : Nat := 0
def PySem.W.Fast.tw15925456577456769635 : Nat := 0
def PySem.W.Fast.tw15173544498738437827 : Nat := 0
def PySem.W.Fast.tw11738243743197964597 : Nat := 0
def PySem.W.Fast.tw1000662321505670351 : Nat := 0
def PySem.W.Fast.tw4548300405975405348 : Nat := 0
def PySem.W.Fast.tw6822071536725586909 : Nat := 0
def PySem.W.Fast.tw6148498323302512570 : Nat := 0
def PySem.W.Fast.tw18418582437962087742 : Nat := 0
def PySem.W.Fast.tw896878414759379649 : Nat := 0
def PySem.W.Fast.tw13946496683202179788 : Nat := 0
def PySem.W.Fast.tw740290905518256060 : Nat := 0
def PySem.W.Fast.tw16298917771340976007 : Nat := 0
def PySem.W.Fast.tw12269216009862288129 : Nat := 0
def PySem.W.Fast.tw14827714588952709054 : Nat := 0
def PySem.W.Fast.tw10698057553749749337 : Nat := 0
def PySem.W.Fast.tw16682895059504647277 : Nat := 0
def PySem.W.Fast.tw15685335758407661847 : Nat := 0
def PySem.W.Fast.tw14564479935002850509 : Nat := 0
def PySem.W.Fast.tw9972681490609642005 : Nat := 0
def PySem.W.Fast.tw12297992134047619483 : Nat := 0
def PySem.W.Fast.tw1950803216711332702 : Nat := 0
def PySem.W.Fast.tw3300257896294614128 : Nat := 0
def PySem.W.Fast.tw14387916025512776202 : Nat := 0
def PySem.W.Fast.tw1840220198017710270 : Nat := 0
def PySem.W.Fast.tw5344687154915797982 : Nat := 0
def PySem.W.Fast.tw9879335643197240621 : Nat := 0
def PySem.W.Fast.tw1825952489489211193 : Nat := 0
def PySem.W.Fast.tw14958820412457663293 : Nat := 0
def PySem.W.Fast.tw17483705464198625004 : Nat := 0
def PySem.W.Fast.tw9592521066531166775 : Nat := 0
def PySem.W.Fast.tw1972164579936704799 : Nat := 0
def PySem.W.Fast.tw17338325484393633139 : Nat := 0
def PySem.W.Fast.tw4321966507151631593 : Nat := 0
def PySem.W.Fast.tw2827255003249426055 : Nat := 0
def PySem.W.Fast.tw13055953723892786844 : Nat := 0
def PySem.W.Fast.tw6968137755033780318 : Nat := 0
def PySem.W.Fast.tw1708089923452030704 : Nat := 0
def PySem.W.Fast.tw5459702643516471331 : Nat := 0
def PySem.W.Fast.tw4480162626587320490 : Nat := 0
def PySem.W.Fast.tw13034982811429478159 : Nat := 0
def PySem.W.Fast.tw13674586047789940208 : Nat := 0
def PySem.W.Fast.tw7322748291113730364 : Nat := 0
def PySem.W.Fast.tw17435391645217708394 : Nat := 0
def PySem.W.Fast.tw9615563845995560447 : Nat := 0
def PySem.W.Fast.tw4171853373547519906 : Nat := 0
def PySem.W.Fast.tw11907897558876765624 : Nat := 0
def PySem.W.Fast.tw1915925776726481438 : Nat := 0
def PySem.W.Fast.tw10624116801336726872 : Nat := 0
def PySem.W.Fast.tw4699756791338806529 : Nat := 0
def PySem.W.Fast.tw18146532975450069615 : Nat := 0
def PySem.W.Fast.tw5072417060200589145 : Nat := 0
def PySem.W.Fast.tw13462424878891718212 : Nat := 0
def PySem.W.Fast.tw15438627641174518403 : Nat := 0
def PySem.W.Fast.tw13913613514976480042 : Nat := 0
def PySem.W.Fast.tw5622701340561072331 : Nat := 0
def PySem.W.Fast.tw13855379610559885079 : Nat := 0
def PySem.W.Fast.tw4096438862311573950 : Nat := 0
def PySem.W.Fast.tw11373181179767321252 : Nat := 0
def PySem.W.Fast.tw14664691819916384248 : Nat := 0
def PySem.W.Fast.tw15433366417846715934 : Nat := 0
def PySem.W.Fast.tw5667099127317398114 : Nat := 0
def PySem.W.Fast.tw9461873434466728008 : Nat := 0
def PySem.W.Fast.tw1532491051758110099 : Nat := 0
def PySem.W.Fast.tw12431713363859531893 : Nat := 0
def PySem.W.Fast.tw17817366049700826239 : Nat := 0
def PySem.W.Fast.tw1979317910248211280 : Nat := 0
def PySem.W.Fast.tw16756451883985382160 : Nat := 0
def PySem.W.Fast.tw726351398001015727 : Nat := 0
def PySem.W.Fast.tw8422229294311615681 : Nat := 0
def PySem.W.Fast.tw13053770412826190925 : Nat := 0
def PySem.W.Fast.tw12770481643036789091 : Nat := 0
def PySem.W.Fast.tw16248296213531012650 : Nat := 0
def PySem.W.Fast.tw10879749546641988924 : Nat := 0
def PySem.W.Fast.tw1070438729232803039 : Nat := 0
def PySem.W.Fast.tw7867829370405329436 : Nat := 0
def PySem.W.Fast.tw6472337539984862722 : Nat := 0
def PySem.W.Fast.tw2244103112122482387 : Nat := 0
def PySem.W.Fast.tw8431482922422412695 : Nat := 0
def PySem.W.Fast.tw12768989823518198380 : Nat := 0
def PySem.W.Fast.tw384561282630992784 : Nat := 0
def PySem.W.Fast.tw3681537716864247207 : Nat := 0
def PySem.W.Fast.tw10826640976665885199 : Nat := 0
def PySem.W.Fast.tw13956191218907399338 : Nat := 0
def PySem.W.Fast.tw16636501806038632012 : Nat := 0
def PySem.W.Fast.tw539538531456391632 : Nat := 0
def PySem.W.Fast.tw12843764043397292189 : Nat := 0
def PySem.W.Fast.tw14391293386007564604 : Nat := 0
def PySem.W.Fast.tw4015202173357781934 : Nat := 0
def PySem.W.Fast.tw4493901809537577575 : Nat := 0
def PySem.W.Fast.tw9806118890596472461 : Nat := 0
def PySem.W.Fast.tw6170744672141170255 : Nat := 0
def PySem.W.Fast.tw2399617604181995578 : Nat := 0
def PySem.W.Fast.tw12670982853097334264 : Nat := 0
def PySem.W.Fast.tw6056707288978253535 : Nat := 0
def PySem.W.Fast.tw18367749455379333440 : Nat := 0
def PySem.W.Fast.tw12099505692703838030 : Nat := 0
def PySem.W.Fast.tw9404705873571188630 : Nat := 0
def PySem.W.Fast.tw15805137534098808535 : Nat := 0
def PySem.W.Fast.tw10551173667578312727 : Nat := 0
def PySem.W.Fast.tw16226643914720891334 : Nat := 0
def PySem.W.Fast.tw2931988195819169919 : Nat := 0
def PySem.W.Fast.tw15590096980072825465 : Nat := 0
def PySem.W.Fast.tw14903569129155370506 : Nat := 0
def PySem.W.Fast.tw6420159726195949164 : Nat := 0
def PySem.W.Fast.tw9950792792127014553 : Nat := 0
def PySem.W.Fast.tw14404928986312190071 : Nat := 0
def PySem.W.Fast.tw17613222154834848340 : Nat := 0
def PySem.W.Fast.tw3671519592330383864 : Nat := 0
def PySem.W.Fast.tw2228412568605170491 : Nat := 0
def PySem.W.Fast.tw1599053048872161195 : Nat := 0
def PySem.W.Fast.tw3374319085511977134 : Nat := 0
def PySem.W.Fast.tw11024694936033576346 : Nat := 0
def PySem.W.Fast.tw9387514328989991554 : Nat := 0
def PySem.W.Fast.tw13437419889732721216 : Nat := 0
def PySem.W.Fast.tw12147665669636231765 : Nat := 0
def PySem.W.Fast.tw10341888390210383824 : Nat := 0
def PySem.W.Fast.tw8535803893964050539 : Nat := 0
def PySem.W.Fast.tw2474200967059427378 : Nat := 0
def PySem.W.Fast.tw6162269159774324313 : Nat := 0
def PySem.W.Fast.tw2595585439558603231 : Nat := 0
def PySem.W.Fast.tw17170472223608059050 : Nat := 0
def PySem.W.Fast.tw13861969467909019144 : Nat := 0
def PySem.W.Fast.tw1467881925912835984 : Nat := 0
def PySem.W.Fast.tw14611616552423853409 : Nat := 0
def PySem.W.Fast.tw10842938092177581297 : Nat := 0
def PySem.W.Fast.tw258204147387103276 : Nat := 0
def PySem.W.Fast.tw11853640710764476214 : Nat := 0
def PySem.W.Fast.tw2259672571474061568 : Nat := 0
def PySem.W.Fast.tw6030501089693204938 : Nat := 0
def PySem.W.Fast.tw5323657890516693427 : Nat := 0
def PySem.W.Fast.tw14537775516033599862 : Nat := 0
def PySem.W.Fast.tw15752536640612570366 : Nat := 0
def PySem.W.Fast.tw17678831435119133177 : Nat := 0
def PySem.W.Fast.tw6128145076113358165 : Nat := 0
def PySem.W.Fast.tw2358075552688931204 : Nat := 0
def PySem.W.Fast.tw547895379624588593 : Nat := 0
def PySem.W.Fast.tw2694234056635809718 : Nat := 0
def PySem.W.Fast.tw4859391219904099992 : Nat := 0
def PySem.W.Fast.tw12408111787983249662 : Nat := 0
def PySem.W.Fast.tw7046044490832178742 : Nat := 0
def PySem.W.Fast.tw977512076041815475 : Nat := 0
def PySem.W.Fast.tw9331231397406362311 : Nat := 0
def PySem.W.Fast.tw1142673529048489019 : Nat := 0
def PySem.W.Fast.tw14963028359598502718 : Nat := 0
def PySem.W.Fast.tw9757595895972200118 : Nat := 0
def PySem.W.Fast.tw991626836265849350 : Nat := 0
def PySem.W.Fast.tw16654469307462801742 : Nat := 0
def PySem.W.Fast.tw6557801498797044033 : Nat := 0
def PySem.W.Fast.tw11662115353561507501 : Nat := 0
def PySem.W.Fast.tw16728255500844073214 : Nat := 0
def PySem.W.Fast.tw16203965252921439515 : Nat := 0
def PySem.W.Fast.tw3953844824629472508 : Nat := 0
def PySem.W.Fast.tw9947508896943372755 : Nat := 0
def PySem.W.Fast.tw1956775160557780875 : Nat := 0
def PySem.W.Fast.tw12960429369202013873 : Nat := 0
def PySem.W.Fast.tw3778530596728393105 : Nat := 0
def PySem.W.Fast.tw14170518179582410385 : Nat := 0
def PySem.W.Fast.tw15235614512728720 : Nat := 0
def PySem.W.Fast.tw14219159868682941630 : Nat := 0
def PySem.W.Fast.tw6278996535519779258 : Nat := 0
def PySem.W.Fast.tw12488014758255163090 : Nat := 0
def PySem.W.Fast.tw2466311954974566718 : Nat := 0
def PySem.W.Fast.tw3049343062529576306 : Nat := 0
def PySem.W.Fast.tw7485256538410118956 : Nat := 0
def PySem.W.Fast.tw1207101557538958131 : Nat := 0
def PySem.W.Fast.tw11502921971960690029 : Nat := 0
def PySem.W.Fast.tw5000232492035539693 : Nat := 0
def PySem.W.Fast.tw8171798328758944481 : Nat := 0
def PySem.W.Fast.tw18073898193381586223 : Nat := 0
def PySem.W.Fast.tw13160504802963445071 : Nat := 0
def PySem.W.Fast.tw2741014181512449073 : Nat := 0
def PySem.W.Fast.tw8186657734068701312 : Nat := 0
def PySem.W.Fast.tw14261769069557060686 : Nat := 0
def PySem.W.Fast.tw15240619367488684849 : Nat := 0
def PySem.W.Fast.tw1342123614928995077 : Nat := 0
def PySem.W.Fast.tw1719895430356276633 : Nat := 0
def PySem.W.Fast.tw10741264400317747893 : Nat := 0
def PySem.W.Fast.tw561727478393794602 : Nat := 0
def PySem.W.Fast.tw18293242582946804979 : Nat := 0
def PySem.W.Fast.tw10988312798546598065 : Nat := 0
def PySem.W.Fast.tw14993981098963755598 : Nat := 0
def PySem.W.Fast.tw4189273013823423559 : Nat := 0
def PySem.W.Fast.tw14746253646979254834 : Nat := 0
def PySem.W.Fast.tw1293241653719404408 : Nat := 0
def PySem.W.Fast.tw1956260828630720203 : Nat := 0
def PySem.W.Fast.tw16873086082458093902 : Nat := 0
def PySem.W.Fast.tw15554417296805563061 : Nat := 0
def PySem.W.Fast.tw14961746396406840608 : Nat := 0
def PySem.W.Fast.tw6575520176995025181 : Nat := 0
def PySem.W.Fast.tw14847308668706973960 : Nat := 0
def PySem.W.Fast.tw3303267245142563540 : Nat := 0
def PySem.W.Fast.tw7943549864190904611 : Nat := 0
def PySem.W.Fast.tw8498532028676091811 : Nat := 0
def PySem.W.Fast.tw11408881796089955267 : Nat := 0
def PySem.W.Fast.tw18183970276198133131 : Nat := 0
def PySem.W.Fast.tw9646623106273453227 : Nat := 0
def PySem.W.Fast.tw15166322114958858414 : Nat := 0
def PySem.W.Fast.tw17339309145561079191 : Nat := 0
def PySem.W.Fast.tw1607123104830579860 : Nat := 0
def PySem.W.Fast.tw1937721966566455358 : Nat := 0
def PySem.W.Fast.tw5725222548895626118 : Nat := 0
def PySem.W.Fast.tw12740759652641322565 : Nat := 0
def PySem.W.Fast.tw7374399212775623666 : Nat := 0
def PySem.W.Fast.tw17659185236578331656 : Nat := 0
def PySem.W.Fast.tw3099597729799864441 : Nat := 0
def PySem.W.Fast.tw8565224436197482051 : Nat := 0
def PySem.W.Fast.tw6702445572142316249 : Nat := 0
def PySem.W.Fast.tw3238445694619138142 : Nat := 0
def PySem.W.Fast.tw256976265262469064 : Nat := 0
def PySem.W.Fast.tw15577281813014381367 : Nat := 0
def PySem.W.Fast.tw8865387616306378214 : Nat := 0
def PySem.W.Fast.tw9630203353718772412 : Nat := 0
def PySem.W.Fast.tw5872530126848033075 : Nat := 0
def PySem.W.Fast.tw11481637867367846703 : Nat := 0
def PySem.W.Fast.tw6782663255696616371 : Nat := 0
def PySem.W.Fast.tw1922157984580058403 : Nat := 0
def PySem.W.Fast.tw11513857634932158529 : Nat := 0
def PySem.W.Fast.tw16721508838639397229 : Nat := 0
def PySem.W.Fast.tw4483904966330829159 : Nat := 0
def PySem.W.Fast.tw12188032599808994241 : Nat := 0
def PySem.W.Fast.tw1158361714356455011 : Nat := 0
def PySem.W.Fast.tw14074196154385387334 : Nat := 0
def PySem.W.Fast.tw599730875272715187 : Nat := 0
def PySem.W.Fast.tw15541240446876304647 : Nat := 0
def PySem.W.Fast.tw819570635367399668 : Nat := 0
def PySem.W.Fast.tw5467331546851215429 : Nat := 0
def PySem.W.Fast.tw3365755272349913518 : Nat := 0
def PySem.W.Fast.tw12138319994727072339 : Nat := 0
def PySem.W.Fast.tw6542358382571353910 : Nat := 0
def PySem.W.Fast.tw13669536469129627823 : Nat := 0
def PySem.W.Fast.tw15831126876759372255 : Nat := 0
def PySem.W.Fast.tw4046790133079468173 : Nat := 0
def PySem.W.Fast.tw8222940686941784037 : Nat := 0
def PySem.W.Fast.tw15895094517606616290 : Nat := 0
def PySem.W.Fast.tw8318101203651539667 : Nat := 0
def PySem.W.Fast.tw15214748959534726111 : Nat := 0
def PySem.W.Fast.tw10297410513487048360 : Nat := 0
def PySem.W.Fast.tw3520257249291928256 : Nat := 0
def PySem.W.Fast.tw6607644564249050058 : Nat := 0
def PySem.W.Fast.tw890339118813698166 : Nat := 0
def PySem.W.Fast.tw16607193741793207195 : Nat := 0
def PySem.W.Fast.tw3110587219445414310 : Nat := 0
def PySem.W.Fast.tw14592624751514493413 : Nat := 0
def PySem.W.Fast.tw2084650752826471497 : Nat := 0
def PySem.W.Fast.tw13385558918117058561 : Nat := 0
def PySem.W.Fast.tw7933485763601977624 : Nat := 0
def PySem.W.Fast.tw7212858340449540239 : Nat := 0
def PySem.W.Fast.tw514280064592716601 : Nat := 0
def PySem.W.Fast.tw1401067106901849026 : Nat := 0
def PySem.W.Fast.tw17691633702590694504 : Nat := 0
def PySem.W.Fast.tw8432719020341155521 : Nat := 0
def PySem.W.Fast.tw1835071406663858368 : Nat := 0
def PySem.W.Fast.tw17267597263503486738 : Nat := 0
def PySem.W.Fast.tw16217903435359918192 : Nat := 0
def PySem.W.Fast.tw6216382948874008006 : Nat := 0
def PySem.W.Fast.tw7001957589650049515 : Nat := 0
def PySem.W.Fast.tw17260811203177919210 : Nat := 0
def PySem.W.Fast.tw14196522196718054806 : Nat := 0
def PySem.W.Fast.tw6690350156832105676 : Nat := 0
def PySem.W.Fast.tw6248682570935725439 : Nat := 0
def PySem.W.Fast.tw18031968618487185184 : Nat := 0
def PySem.W.Fast.tw10888863842102328177 : Nat := 0
def PySem.W.Fast.tw12314708539913122752 : Nat := 0
def PySem.W.Fast.tw11153475782318119604 : Nat := 0
def PySem.W.Fast.tw16753820520455620202 : Nat := 0
def PySem.W.Fast.tw7921390202802761869 : Nat := 0
def PySem.W.Fast.tw2576523973992343609 : Nat := 0
def PySem.W.Fast.tw247591363613054380 : Nat := 0
def PySem.W.Fast.tw16493865465440409018 : Nat := 0
def PySem.W.Fast.tw3713540243193553862 : Nat := 0
def PySem.W.Fast.tw5289818103960998278 : Nat := 0
def PySem.W.Fast.tw14577027041581768965 : Nat := 0
def PySem.W.Fast.tw16860917588515726111 : Nat := 0
def PySem.W.Fast.tw5285915839522022235 : Nat := 0
def PySem.W.Fast.tw10510019762269167821 : Nat := 0
def PySem.W.Fast.tw9197174079833555027 : Nat := 0
def PySem.W.Fast.tw9510108024173832781 : Nat := 0
def PySem.W.Fast.tw8995945545434573385 : Nat := 0
def PySem.W.Fast.tw6408400580700104982 : Nat := 0
def PySem.W.Fast.tw4334401890000744311 : Nat := 0
def PySem.W.Fast.tw6060609690816243450 : Nat := 0
def PySem.W.Fast.tw1205604411410820431 : Nat := 0
def PySem.W.Fast.tw9113380124883318265 : Nat := 0
def PySem.W.Fast.tw12747814925858328940 : Nat := 0
def PySem.W.Fast.tw13831308528885131752 : Nat := 0
def PySem.W.Fast.tw14560624547652848805 : Nat := 0
def PySem.W.Fast.tw17348111734160510231 : Nat := 0
def PySem.W.Fast.tw866652123128751154 : Nat := 0
def PySem.W.Fast.tw18383651708701053236 : Nat := 0
def PySem.W.Fast.tw4561898282857576226 : Nat := 0
def PySem.W.Fast.tw3897268976836264337 : Nat := 0
def PySem.W.Fast.tw4607425872040536859 : Nat := 0
def PySem.W.Fast.tw542563422162235373 : Nat := 0
def PySem.W.Fast.tw12798174099139212305 : Nat := 0
def PySem.W.Fast.tw3992765435912101610 : Nat := 0
def PySem.W.Fast.tw354308444213283272 : Nat := 0
def PySem.W.Fast.tw4903002758410956813 : Nat := 0
def PySem.W.Fast.tw17852080271459398996 : Nat := 0
def PySem.W.Fast.tw14782954611325821827 : Nat := 0
def PySem.W.Fast.tw12528533614272120300 : Nat := 0
def PySem.W.Fast.tw13343918040275786880 : Nat := 0
def PySem.W.Fast.tw16773468814595293053 : Nat := 0
def PySem.W.Fast.tw13307065042914920193 : Nat := 0
def PySem.W.Fast.tw7220529860990300233 : Nat := 0
def PySem.W.Fast.tw8752102160057688731 : Nat := 0
def PySem.W.Fast.tw5274481202262711730 : Nat := 0
def PySem.W.Fast.tw1998347030407657756 : Nat := 0
def PySem.W.Fast.tw16003985067176294414 : Nat := 0
def PySem.W.Fast.tw1378205811072252300 : Nat := 0
def PySem.W.Fast.tw14154597600763967237 : Nat := 0
def PySem.W.Fast.tw17883462748017686043 : Nat := 0
def PySem.W.Fast.tw13567515925198824819 : Nat := 0
def PySem.W.Fast.tw13394580363473044415 : Nat := 0
def PySem.W.Fast.tw7007286002206832825 : Nat := 0
def PySem.W.Fast.tw9320515035125037321 : Nat := 0
def PySem.W.Fast.tw9304451534382375720 : Nat := 0
def PySem.W.Fast.tw3592811809046731828 : Nat := 0
def PySem.W.Fast.tw8924819469995637033 : Nat := 0
def PySem.W.Fast.tw11033627544408312984 : Nat := 0
def PySem.W.Fast.tw2629151800749243262 : Nat := 0
def PySem.W.Fast.tw14859695947638507448 : Nat := 0
def PySem.W.Fast.tw6084841979344569690 : Nat := 0
def PySem.W.Fast.tw14341141199694864594 : Nat := 0
def PySem.W.Fast.tw8115137120850386438 : Nat := 0
def PySem.W.Fast.tw11076892268299887525 : Nat := 0
def PySem.W.Fast.tw12003660372656728261 : Nat := 0
def PySem.W.Fast.tw5010956058597451964 : Nat := 0
def PySem.W.Fast.tw6851275008772768644 : Nat := 0
def PySem.W.Fast.tw694261584828832409 : Nat := 0
def PySem.W.Fast.tw16378183091871739711 : Nat := 0
def PySem.W.Fast.tw15702583709834301711 : Nat := 0
def PySem.W.Fast.tw18095796173783872564 : Nat := 0
def PySem.W.Fast.tw3075201292733833056 : Nat := 0
def PySem.W.Fast.tw13367274342830030513 : Nat := 0
def PySem.W.Fast.tw11489344026974618541 : Nat := 0
def PySem.W.Fast.tw12717557048674177747 : Nat := 0
def PySem.W.Fast.tw14647417624928369756 : Nat := 0
def PySem.W.Fast.tw12773500944031208451 : Nat := 0
def PySem.W.Fast.tw14849461344987154502 : Nat := 0
def PySem.W.Fast.tw17658959251048325594 : Nat := 0
def PySem.W.Fast.tw9104974531708491489 : Nat := 0
def PySem.W.Fast.tw14833712730911297017 : Nat := 0
def PySem.W.Fast.tw6945566481307383155 : Nat := 0
def PySem.W.Fast.tw14061609134260724683 : Nat := 0
def PySem.W.Fast.tw10611411778653204182 : Nat := 0
def PySem.W.Fast.tw6125853113672642322 : Nat := 0
def PySem.W.Fast.tw14538725608371270373 : Nat := 0
def PySem.W.Fast.tw14284835775768690865 : Nat := 0
def PySem.W.Fast.tw14454166528178196959 : Nat := 0
def PySem.W.Fast.tw463774138113389760 : Nat := 0
def PySem.W.Fast.tw8212203176049278890 : Nat := 0
def PySem.W.Fast.tw9317495090193701157 : Nat := 0
def PySem.W.Fast.tw5960047855520388891 : Nat := 0
def PySem.W.Fast.tw17410218998227585676 : Nat := 0
def PySem.W.Fast.tw4946147512530127568 : Nat := 0
def PySem.W.Fast.tw12669407529647801677 : Nat := 0
def PySem.W.Fast.tw6046103115902281144 : Nat := 0
def PySem.W.Fast.tw7538781388859322016 : Nat := 0
def PySem.W.Fast.tw17592209452093105858 : Nat := 0
def PySem.W.Fast.tw13215348057498601715 : Nat := 0
def PySem.W.Fast.tw8919978131948313185 : Nat := 0
def PySem.W.Fast.tw5404398260228975080 : Nat := 0
def PySem.W.Fast.tw17916429707943930468 : Nat := 0
def PySem.W.Fast.tw6327569006664949090 : Nat := 0
def PySem.W.Fast.tw18105302477358141223 : Nat := 0
def PySem.W.Fast.tw6124413428159637790 : Nat := 0
def PySem.W.Fast.tw17397653436517662659 : Nat := 0
def PySem.W.Fast.tw18310463660012746435 : Nat := 0
def PySem.W.Fast.tw16766484511958638138 : Nat := 0
def PySem.W.Fast.tw17980500129456985241 : Nat := 0
def PySem.W.Fast.tw11317637306720784765 : Nat := 0
def PySem.W.Fast.tw11212356425047092601 : Nat := 0
def PySem.W.Fast.tw15565715512253457277 : Nat := 0
def PySem.W.Fast.tw2595618661548880785 : Nat := 0
def PySem.W.Fast.tw18094105663378112561 : Nat := 0
def PySem.W.Fast.tw7091221385724896812 : Nat := 0
def PySem.W.Fast.tw16925712312323332580 : Nat := 0
def PySem.W.Fast.tw7050804516273991350 : Nat := 0
def PySem.W.Fast.tw12549542988036985293 : Nat := 0
def PySem.W.Fast.tw7592715696027808041 : Nat := 0
def PySem.W.Fast.tw12550775161083096063 : Nat := 0
def PySem.W.Fast.tw9592300441314626372 : Nat := 0
def PySem.W.Fast.tw3328118118096588273 : Nat := 0
def PySem.W.Fast.tw4313010194945074917 : Nat := 0
def PySem.W.Fast.tw17155049476370652306 : Nat := 0
def PySem.W.Fast.tw8319933024895762948 : Nat := 0
def PySem.W.Fast.tw9433028549170029634 : Nat := 0
def PySem.W.Fast.tw6828597562223498359 : Nat := 0
def PySem.W.Fast.tw4290864757253303354 : Nat := 0
def PySem.W.Fast.tw3726453103677007866 : Nat := 0
def PySem.W.Fast.tw8356303796347215682 : Nat := 0
def PySem.W.Fast.tw2869065659524454656 : Nat := 0
def PySem.W.Fast.tw6631347999910079877 : Nat := 0
def PySem.W.Fast.tw13813618637161013713 : Nat := 0
def PySem.W.Fast.tw10539347186207431242 : Nat := 0
def PySem.W.Fast.tw5037459499596335280 : Nat := 0
def PySem.W.Fast.tw10958628066121416707 : Nat := 0
def PySem.W.Fast.tw16132249320637822498 : Nat := 0
def PySem.W.Fast.tw16309811473084048462 : Nat := 0
def PySem.W.Fast.tw18003772858949239459 : Nat := 0
def PySem.W.Fast.tw12020253756985099128 : Nat := 0
def PySem.W.Fast.tw13631397514672939371 : Nat := 0
def PySem.W.Fast.tw14553807712399142462 : Nat := 0
def PySem.W.Fast.tw15499940227032437249 : Nat := 0
def PySem.W.Fast.tw8122695690928665766 : Nat := 0
def PySem.W.Fast.tw4512776594637900181 : Nat := 0
def PySem.W.Fast.tw13557862171009465336 : Nat := 0
def PySem.W.Fast.tw14329579894275425762 : Nat := 0
def PySem.W.Fast.tw172746767574481773 : Nat := 0
def PySem.W.Fast.tw12884060626414724322 : Nat := 0
def PySem.W.Fast.tw12461081396071149458 : Nat := 0
def PySem.W.Fast.tw16859961878692490766 : Nat := 0
def PySem.W.Fast.tw14441679199631801671 : Nat := 0
def PySem.W.Fast.tw9201617497623189827 : Nat := 0
def PySem.W.Fast.tw16412085850373738351 : Nat := 0
def PySem.W.Fast.tw15593559885672580101 : Nat := 0
def PySem.W.Fast.tw10282777137419654623 : Nat := 0
def PySem.W.Fast.tw8428246938381088814 : Nat := 0
def PySem.W.Fast.tw11151835277377553703 : Nat := 0
def PySem.W.Fast.tw14334995849660946996 : Nat := 0
def PySem.W.Fast.tw628631919661052299 : Nat := 0
def PySem.W.Fast.tw14736888041290939073 : Nat := 0
def PySem.W.Fast.tw13348088958985639553 : Nat := 0
def PySem.W.Fast.tw5395340147747708899 : Nat := 0
def PySem.W.Fast.tw10576836333797772347 : Nat := 0
def PySem.W.Fast.tw13484562703626004877 : Nat := 0
def PySem.W.Fast.tw17137270108147033825 : Nat := 0
def PySem.W.Fast.tw11205608169257636508 : Nat := 0
def PySem.W.Fast.tw9381626543082597023 : Nat := 0
def PySem.W.Fast.tw17590876675597686902 : Nat := 0
def PySem.W.Fast.tw17680797132471856694 : Nat := 0
def PySem.W.Fast.tw5694767641087392711 : Nat := 0
def PySem.W.Fast.tw8392358500681263680 : Nat := 0
def PySem.W.Fast.tw9003107776662980439 : Nat := 0
def PySem.W.Fast.tw17986951261819808105 : Nat := 0
def PySem.W.Fast.tw12468840222048715292 : Nat := 0
def PySem.W.Fast.tw6880980288501444468 : Nat := 0
def PySem.W.Fast.tw12901003280762261817 : Nat := 0
def PySem.W.Fast.tw14819390147424179368 : Nat := 0
def PySem.W.Fast.tw2527701527901579348 : Nat := 0
def PySem.W.Fast.tw11525993766095887173 : Nat := 0
def PySem.W.Fast.tw10470340158578859262 : Nat := 0
def PySem.W.Fast.tw10161179621583223854 : Nat := 0
def PySem.W.Fast.tw18400553757987027518 : Nat := 0
def PySem.W.Fast.tw8908233856664302321 : Nat := 0
def PySem.W.Fast.tw2768188642542392010 : Nat := 0
def PySem.W.Fast.tw1891733041441978011 : Nat := 0
def PySem.W.Fast.tw2078950565319712143 : Nat := 0
def PySem.W.Fast.tw16101134707931498060 : Nat := 0
def PySem.W.Fast.tw12681666616541194006 : Nat := 0
def PySem.W.Fast.tw4026147355466621588 : Nat := 0
def PySem.W.Fast.tw3801850119919557013 : Nat := 0
def PySem.W.Fast.tw2480015634913765671 : Nat := 0
def PySem.W.Fast.tw1630143524128594353 : Nat := 0
def PySem.W.Fast.tw3433779192033484610 : Nat := 0
def PySem.W.Fast.tw5522115075389312692 : Nat := 0
def PySem.W.Fast.tw13366278800048369731 : Nat := 0
def PySem.W.Fast.tw4860023922305330110 : Nat := 0
def PySem.W.Fast.tw7181997581385953548 : Nat := 0
def PySem.W.Fast.tw8278001386518606062 : Nat := 0
def PySem.W.Fast.tw3676754643040562684 : Nat := 0
def PySem.W.Fast.tw5874822333441161849 : Nat := 0
def PySem.W.Fast.tw12715800853834201459 : Nat := 0
def PySem.W.Fast.tw2386784164831690217 : Nat := 0
def PySem.W.Fast.tw11095110211248682772 : Nat := 0
def PySem.W.Fast.tw14607143338591219252 : Nat := 0
def PySem.W.Fast.tw16086907953836968628 : Nat := 0
def PySem.W.Fast.tw5233118043267047457 : Nat := 0
def PySem.W.Fast.tw14801369171006070438 : Nat := 0
def PySem.W.Fast.tw506581581156960101 : Nat := 0
def PySem.W.Fast.tw6208910965292489261 : Nat := 0
def PySem.W.Fast.tw16109456028575089023 : Nat := 0
def PySem.W.Fast.tw14617222483516278133 : Nat := 0
def PySem.W.Fast.tw15771247859494662083 : Nat := 0
def PySem.W.Fast.tw9969077435446430640 : Nat := 0
def PySem.W.Fast.tw16746677531222629524 : Nat := 0
def PySem.W.Fast.tw8185220541750880888 : Nat := 0
def PySem.W.Fast.tw6331431999304432861 : Nat := 0
def PySem.W.Fast.tw12738610918357793766 : Nat := 0
def PySem.W.Fast.tw11180800956215176064 : Nat := 0
def PySem.W.Fast.tw4545961482378311905 : Nat := 0
def PySem.W.Fast.tw17577329170770402720 : Nat := 0
def PySem.W.Fast.tw13298828918039433023 : Nat := 0
def PySem.W.Fast.tw5920806927976990809 : Nat := 0
def PySem.W.Fast.tw622995879521568732 : Nat := 0
def PySem.W.Fast.tw4772062507164038959 : Nat := 0
def PySem.W.Fast.tw4341293187932698999 : Nat := 0
def PySem.W.Fast.tw18248855084332350957 : Nat := 0
def PySem.W.Fast.tw2956708394376553000 : Nat := 0
def PySem.W.Fast.tw2015444344454546412 : Nat := 0
def PySem.W.Fast.tw17890440400047909864 : Nat := 0
def PySem.W.Fast.tw8232614014015475128 : Nat := 0
def PySem.W.Fast.tw6194202620331982285 : Nat := 0
def PySem.W.Fast.tw10149570385669482864 : Nat := 0
def PySem.W.Fast.tw4382473104129494423 : Nat := 0
def PySem.W.Fast.tw9388066449989048879 : Nat := 0
def PySem.W.Fast.tw7501186508268903616 : Nat := 0
def PySem.W.Fast.tw17163426234232328066 : Nat := 0
def PySem.W.Fast.tw12542895121996172375 : Nat := 0
def PySem.W.Fast.tw7873786274422454737 : Nat := 0
def PySem.W.Fast.tw4063829332388037331 : Nat := 0
def PySem.W.Fast.tw14202271707224943307 : Nat := 0
def PySem.W.Fast.tw13996866031312336078 : Nat := 0
def PySem.W.Fast.tw17937168697417666835 : Nat := 0
def PySem.W.Fast.tw6651725471809605288 : Nat := 0
def PySem.W.Fast.tw10911716485165742097 : Nat := 0
def PySem.W.Fast.tw15733337929971156237 : Nat := 0
def PySem.W.Fast.tw4186743451310774866 : Nat := 0
def PySem.W.Fast.tw10236332898609347644 : Nat := 0
def PySem.W.Fast.tw9045458381397004210 : Nat := 0
def PySem.W.Fast.tw727553628536289456 : Nat := 0
def PySem.W.Fast.tw2392593158011319353 : Nat := 0
def PySem.W.Fast.tw9530734954097333506 : Nat := 0
def PySem.W.Fast.tw15326580083554890809 : Nat := 0
def PySem.W.Fast.tw3581434408401558974 : Nat := 0
def PySem.W.Fast.tw14479964200598819128 : Nat := 0
def PySem.W.Fast.tw13710940844802916613 : Nat := 0
def PySem.W.Fast.tw14935156969734317764 : Nat := 0
def PySem.W.Fast.tw7837367980739423823 : Nat := 0
def PySem.W.Fast.tw2424988045566436242 : Nat := 0
def PySem.W.Fast.tw14332157829676619468 : Nat := 0
def PySem.W.Fast.tw1198783387198779033 : Nat := 0
def PySem.W.Fast.tw5610444585433571239 : Nat := 0
def PySem.W.Fast.tw8909772338491405060 : Nat := 0
def PySem.W.Fast.tw14398111036562950334 : Nat := 0
def PySem.W.Fast.tw2172276787581067923 : Nat := 0
def PySem.W.Fast.tw7151132215420815488 : Nat := 0
def PySem.W.Fast.tw12091130801917272685 : Nat := 0
def PySem.W.Fast.tw15675013803050531044 : Nat := 0
def PySem.W.Fast.tw17823556299335049440 : Nat := 0
def PySem.W.Fast.tw15475723433398761304 : Nat := 0
def PySem.W.Fast.tw2046362190076281809 : Nat := 0
def PySem.W.Fast.tw908480701973217441 : Nat := 0
def PySem.W.Fast.tw1932759071263863916 : Nat := 0
def PySem.W.Fast.tw5221592684559293012 : Nat := 0
def PySem.W.Fast.tw15978794797337165890 : Nat := 0
def PySem.W.Fast.tw17360015989920007124 : Nat := 0
def PySem.W.Fast.tw12921946191010883867 : Nat := 0
def PySem.W.Fast.tw16005714805435085966 : Nat := 0
def PySem.W.Fast.tw16839002366802243188 : Nat := 0
def PySem.W.Fast.tw2925816871977632210 : Nat := 0
def PySem.W.Fast.tw15764947353670896545 : Nat := 0
def PySem.W.Fast.tw18361725300881549022 : Nat := 0
def PySem.W.Fast.tw2868442198168577507 : Nat := 0
def PySem.W.Fast.tw11524815483048965402 : Nat := 0
def PySem.W.Fast.tw12125097214300078407 : Nat := 0
def PySem.W.Fast.tw5342471268416680606 : Nat := 0
def PySem.W.Fast.tw15495752065017430504 : Nat := 0
def PySem.W.Fast.tw13073492499399858440 : Nat := 0
def PySem.W.Fast.tw4051853165826885262 : Nat := 0
def PySem.W.Fast.tw5832146486336120021 : Nat := 0
def PySem.W.Fast.tw9744259246892133002 : Nat := 0
def PySem.W.Fast.tw8274446707539698164 : Nat := 0
def PySem.W.Fast.tw14594842627406614536 : Nat := 0
def PySem.W.Fast.tw15621116118777243554 : Nat := 0
def PySem.W.Fast.tw13303234937177203706 : Nat := 0
def PySem.W.Fast.tw15870398105094248349 : Nat := 0
def PySem.W.Fast.tw10988764466652934233 : Nat := 0
def PySem.W.Fast.tw18004296560267143027 : Nat := 0
def PySem.W.Fast.tw12369848792361866835 : Nat := 0
def PySem.W.Fast.tw5992840812097835891 : Nat := 0
def PySem.W.Fast.tw4704452742865826424 : Nat := 0
def PySem.W.Fast.tw11063759124802658401 : Nat := 0
def PySem.W.Fast.tw13705283562680751584 : Nat := 0
def PySem.W.Fast.tw206757683497733573 : Nat := 0
def PySem.W.Fast.tw18407495941553956032 : Nat := 0
def PySem.W.Fast.tw2810200551564342888 : Nat := 0
def PySem.W.Fast.tw9768418358887946270 : Nat := 0
def PySem.W.Fast.tw13142635158332540280 : Nat := 0
def PySem.W.Fast.tw15763482434359817770 : Nat := 0
def PySem.W.Fast.tw1835201335921387983 : Nat := 0
def PySem.W.Fast.tw699815216081779126 : Nat := 0
def PySem.W.Fast.tw296083027919845158 : Nat := 0
def PySem.W.Fast.tw3436067635600285980 : Nat := 0
def PySem.W.Fast.tw12826555694032677247 : Nat := 0
def PySem.W.Fast.tw17862349074038704544 : Nat := 0
def PySem.W.Fast.tw7053471978191194526 : Nat := 0
def PySem.W.Fast.tw8833860146974802555 : Nat := 0
def PySem.W.Fast.tw12250869413391326473 : Nat := 0
def PySem.W.Fast.tw6508132753307246276 : Nat := 0
def PySem.W.Fast.tw15012102849882553082 : Nat := 0
def PySem.W.Fast.tw3335794202401238526 : Nat := 0
def PySem.W.Fast.tw17016834523296244275 : Nat := 0
def PySem.W.Fast.tw4449297822257671152 : Nat := 0
def PySem.W.Fast.tw14785633479632635281 : Nat := 0
def PySem.W.Fast.tw11434409910335936926 : Nat := 0
def PySem.W.Fast.tw13465540834166320765 : Nat := 0
def PySem.W.Fast.tw14995258362815363992 : Nat := 0
def PySem.W.Fast.tw12132732476715806282 : Nat := 0
def PySem.W.Fast.tw14036186469904095446 : Nat := 0
def PySem.W.Fast.tw9584292182412213727 : Nat := 0
def PySem.W.Fast.tw18384110700954362821 : Nat := 0
def PySem.W.Fast.tw987426779421491659 : Nat := 0
def PySem.W.Fast.tw9215358943560890414 : Nat := 0
def PySem.W.Fast.tw5662061979359257339 : Nat := 0
def PySem.W.Fast.tw8996207646774452837 : Nat := 0
def PySem.W.Fast.tw12132596417379514657 : Nat := 0
def PySem.W.Fast.tw13439652990877377571 : Nat := 0
def PySem.W.Fast.tw11308061921803828041 : Nat := 0
def PySem.W.Fast.tw4408816720484365081 : Nat := 0
def PySem.W.Fast.tw4565167180653195659 : Nat := 0
def PySem.W.Fast.tw13069393092227542028 : Nat := 0
def PySem.W.Fast.tw8166255043249204926 : Nat := 0
def PySem.W.Fast.tw6714880395473160397 : Nat := 0
def PySem.W.Fast.tw6329614223026926184 : Nat := 0
def PySem.W.Fast.tw14135006944967825841 : Nat := 0
def PySem.W.Fast.tw1986786360949550309 : Nat := 0
def PySem.W.Fast.tw10026605065719503897 : Nat := 0
def PySem.W.Fast.tw2997480634906808460 : Nat := 0
def PySem.W.Fast.tw7231845647793152400 : Nat := 0
def PySem.W.Fast.tw6526287140368922620 : Nat := 0
def PySem.W.Fast.tw14938211915633500526 : Nat := 0
def PySem.W.Fast.tw5008593111378822452 : Nat := 0
def PySem.W.Fast.tw13851971633180934007 : Nat := 0
def PySem.W.Fast.tw4267111383703672358 : Nat := 0
def PySem.W.Fast.tw13313058339493701161 : Nat := 0
def PySem.W.Fast.tw18124618509676941091 : Nat := 0
def PySem.W.Fast.tw16145670418848962200 : Nat := 0
def PySem.W.Fast.tw11267315532378154396 : Nat := 0
def PySem.W.Fast.tw7249310025045793396 : Nat := 0
def PySem.W.Fast.tw11368310244458860372 : Nat := 0
def PySem.W.Fast.tw12627051441459223148 : Nat := 0
def PySem.W.Fast.tw7350462372000428638 : Nat := 0
def PySem.W.Fast.tw11402884983299125971 : Nat := 0
def PySem.W.Fast.tw15052318979288761249 : Nat := 0
def PySem.W.Fast.tw609457278022895560 : Nat := 0
def PySem.W.Fast.tw6145912378217320015 : Nat := 0
def PySem.W.Fast.tw3198059409981156222 : Nat := 0
def PySem.W.Fast.tw4211115844707057057 : Nat := 0
def PySem.W.Fast.tw4993863958327201973 : Nat := 0
def PySem.W.Fast.tw2132029292895624192 : Nat := 0
def PySem.W.Fast.tw7900394595670775223 : Nat := 0
def PySem.W.Fast.tw6188973233030003785 : Nat := 0
def PySem.W.Fast.tw12930229547647579594 : Nat := 0
def PySem.W.Fast.tw5665240888008139550 : Nat := 0
def PySem.W.Fast.tw13257283266767686631 : Nat := 0
def PySem.W.Fast.tw9358312197846296583 : Nat := 0
def PySem.W.Fast.tw5649666937502919571 : Nat := 0
def PySem.W.Fast.tw16531682779099013679 : Nat := 0
def PySem.W.Fast.tw651700358538967526 : Nat := 0
def PySem.W.Fast.tw13459084325293418506 : Nat := 0
def PySem.W.Fast.tw17510684818845775701 : Nat := 0
def PySem.W.Fast.tw10387345722656961088 : Nat := 0
def PySem.W.Fast.tw5137589814051832496 : Nat := 0
def PySem.W.Fast.tw15910123707662034135 : Nat := 0
def PySem.W.Fast.tw16060203290454839817 : Nat := 0
def PySem.W.Fast.tw13861322856664149509 : Nat := 0
def PySem.W.Fast.tw18335596039185421423 : Nat := 0
def PySem.W.Fast.tw4413860948169739490 : Nat := 0
def PySem.W.Fast.tw14845619989558847073 : Nat := 0
def PySem.W.Fast.tw13601115934706021691 : Nat := 0
def PySem.W.Fast.tw306047672372848657 : Nat := 0
def PySem.W.Fast.tw8757050672659960515 : Nat := 0
def PySem.W.Fast.tw8006371003960147343 : Nat := 0
def PySem.W.Fast.tw360634875079729221 : Nat := 0
def PySem.W.Fast.tw4938610541543285704 : Nat := 0
def PySem.W.Fast.tw10550934584343373414 : Nat := 0
def PySem.W.Fast.tw15504105790966721872 : Nat := 0
def PySem.W.Fast.tw17312402878845073609 : Nat := 0
def PySem.W.Fast.tw5341297951324810720 : Nat := 0
def PySem.W.Fast.tw13931877327420345601 : Nat := 0
def PySem.W.Fast.tw16035376269474964883 : Nat := 0
def PySem.W.Fast.tw16902085369446701243 : Nat := 0
def PySem.W.Fast.tw4538635040379822027 : Nat := 0
set_option maxHeartbeats 0 in
open_top hd for PySem.Challenge.rw_slideboxes_k04_codes_refused
end
namespace LamV
open PySem PySem.Spec PyProof.Rows L2 LamX
def yesO : HO := .ext fun _ => True
def frost (cs : List (Addr × Obj)) (H : Hp) : Hp := fun b => match cs.lookup b with
  | some o => some (.frz o yesO)
  | none => H b
def thaw (cs : List (Addr × Obj)) (H : Hp) : Hp := fun b => match cs.lookup b with
  | some _ => none
  | none => H b
section
variable {cs : List (Addr × Obj)} {H H' : Hp} {b : Addr} {o : Obj} {P : Program} {w : World} {h h' B : Heap} {fs : List Addr}
theorem frost_in (e : cs.lookup b = some o) : frost cs H b = some (.frz o yesO) := by unfold frost; rw [e]
theorem frost_out (e : cs.lookup b = none) : frost cs H b = H b := by unfold frost; rw [e]
theorem thaw_in (e : cs.lookup b = some o) : thaw cs H b = none := by unfold thaw; rw [e]
theorem thaw_out (e : cs.lookup b = none) : thaw cs H b = H b := by unfold thaw; rw [e]
/-- the cells stand in the heap and nothing is known of them -/
def Cold (cs : List (Addr × Obj)) (H : Hp) (h : Heap) : Prop := ∀ b o, cs.lookup b = some o → h.get? b = some o ∧ H b = none
/-- they are known -/
def Icy (cs : List (Addr × Obj)) (H : Hp) : Prop := ∀ b o, cs.lookup b = some o → H b = some (.frz o yesO)
theorem icy_frost : Icy cs (frost cs H) := fun b o e => frost_in e
theorem Cold.out (c : Cold cs H h) {u : HO} (e : H b = some u) : cs.lookup b = none := by
  cases q : cs.lookup b with
  | none => rfl
  | some o => have := (c b o q).2; rw [this] at e; cases e
theorem Icy.out (c : Icy cs H) {u : HO} (e : H b = some u) (n : ∀ o, u ≠ .frz o yesO) : cs.lookup b = none := by
  cases q : cs.lookup b with
  | none => rfl
  | some o => have := c b o q; rw [this] at e; cases e; exact absurd rfl (n o)
theorem Icy.out0 (c : Icy cs H) (e : H b = none) : cs.lookup b = none := by
  cases q : cs.lookup b with
  | none => rfl
  | some o => have := c b o q; rw [this] at e; cases e
theorem hok_frost (k : HOk P w H h) (c : Cold cs H h) : HOk P w (frost cs H) h := fun b u e => by
  cases q : cs.lookup b with
  | some o =>
    rw [frost_in q] at e
    cases e
    exact ⟨(c b o q).1, trivial, ⟨o, (c b o q).1⟩, fun _ _ _ _ => trivial⟩
  | none =>
    rw [frost_out q] at e
    exact (k b u e).stay (fun _ _ _ z => z) (fun d z => by rw [frost_out (c.out z)]; exact z) fun d xs z => by rw [frost_out (c.out z)]; exact z
theorem hok_thaw (k : HOk P w H h) (c : Icy cs H) : HOk P w (thaw cs H) h := fun b u e => by
  cases q : cs.lookup b with
  | some o => rw [thaw_in q] at e; cases e
  | none =>
    rw [thaw_out q] at e
    exact (k b u e).stay (fun _ _ _ z => z) (fun d z => by rw [thaw_out (c.out z fun o x => by cases x)]; exact z) fun d xs z => by rw [thaw_out (c.out z fun o x => by cases x)]; exact z
theorem Icy.get (c : Icy cs H) (k : HOk P w H h) (e : cs.lookup b = some o) : h.get? b = some o := (k b _ (c b o e)).1
/-- behind a call that ran with the cells kept -/
theorem un_thawed (u : Un fs [] (frost cs H) H' h h') (c : Cold cs H h) (k : HOk P w H' h') : Un fs [] H (thaw cs H') h h' := by
  have ic : Icy cs H' := fun b o e => u.frzs b o yesO (frost_in e)
  refine ⟨fun b o e n f x => ?_, fun b o e n f x => ?_, fun b o e n x => ?_, u.there, fun b xs e => ?_, fun b o v e => ?_, fun b ps e => ?_⟩
  · cases q : cs.lookup b with
    | some o' =>
      have := (c b o' q).1
      rw [this] at e
      cases e
      exact ic.get k q
    | none => exact u.keep b o e (by rw [frost_out q]; exact n) f x
  · cases q : cs.lookup b with
    | some o' =>
      have := (c b o' q).1
      rw [this] at e
      cases e
      exact ⟨_, ic.get k q⟩
    | none => exact u.slot b o e (by rw [frost_out q]; exact n) f x
  · cases q : cs.lookup b with
    | some o' => exact thaw_in q
    | none => rw [thaw_out q]; exact u.free b o e (by rw [frost_out q]; exact n) x
  · rw [thaw_out (c.out e)]
    exact u.tups b xs (by rw [frost_out (c.out e)]; exact e)
  · rw [thaw_out (c.out e)]
    exact u.frzs b o v (by rw [frost_out (c.out e)]; exact e)
  · rw [thaw_out (c.out e)]
    exact u.tbls b ps (by rw [frost_out (c.out e)]; exact e)
theorem cold_of (u : Un fs [] (thaw cs H) H' h h') (c : Icy cs H) (k : HOk P w H h) (hf : ∀ b o, cs.lookup b = some o → b ∉ fs) : Cold cs H' h' := fun b o q =>
  ⟨u.keep b o (c.get k q) (thaw_in q) (hf b o q) (by simp), u.free b o (c.get k q) (thaw_in q) (by simp)⟩
/-- behind a call that ran without them -/
theorem un_frozen (u : Un fs [] (thaw cs H) H' h h') (c : Icy cs H) : Un fs [] H (frost cs H') h h' := by
  refine ⟨fun b o e n f x => ?_, fun b o e n f x => ?_, fun b o e n x => ?_, u.there, fun b xs e => ?_, fun b o v e => ?_, fun b ps e => ?_⟩
  · exact u.keep b o e (by rw [thaw_out (c.out0 n)]; exact n) f x
  · exact u.slot b o e (by rw [thaw_out (c.out0 n)]; exact n) f x
  · rw [frost_out (c.out0 n)]
    exact u.free b o e (by rw [thaw_out (c.out0 n)]; exact n) x
  · have q := c.out e fun o x => by cases x
    rw [frost_out q]
    exact u.tups b xs (by rw [thaw_out q]; exact e)
  · cases q : cs.lookup b with
    | some o' =>
      rw [frost_in q, ← c b o' q]
      exact e
    | none =>
      rw [frost_out q]
      exact u.frzs b o v (by rw [thaw_out q]; exact e)
  · have q := c.out e fun o x => by cases x
    rw [frost_out q]
    exact u.tbls b ps (by rw [thaw_out q]; exact e)
theorem coldB_of (u : UB fs (thaw cs H) H' h B h') (c : Icy cs H) (k : HOk P w H h) (hf : ∀ b o, cs.lookup b = some o → b ∉ fs) : Cold cs H' B := fun b o q =>
  ⟨u.keep b o (c.get k q) (thaw_in q) (hf b o q), u.free b o (c.get k q) (thaw_in q)⟩
theorem ub_frozen (u : UB fs (thaw cs H) H' h B h') (c : Icy cs H) : UB fs H (frost cs H') h B h' := by
  refine ⟨fun b o e n f => ?_, u.slot, fun b o e n => ?_, u.there, fun b xs e => ?_, fun b o v e => ?_, fun b ps e => ?_⟩
  · exact u.keep b o e (by rw [thaw_out (c.out0 n)]; exact n) f
  · rw [frost_out (c.out0 n)]
    exact u.free b o e (by rw [thaw_out (c.out0 n)]; exact n)
  · have q := c.out e fun o x => by cases x
    rw [frost_out q]
    exact u.tups b xs (by rw [thaw_out q]; exact e)
  · cases q : cs.lookup b with
    | some o' =>
      rw [frost_in q, ← c b o' q]
      exact e
    | none =>
      rw [frost_out q]
      exact u.frzs b o v (by rw [thaw_out q]; exact e)
  · have q := c.out e fun o x => by cases x
    rw [frost_out q]
    exact u.tbls b ps (by rw [thaw_out q]; exact e)
end
end LamV
namespace LamV
open PySem PySem.Spec PyProof.Rows L2 LamX
section
variable {cs : List (Addr × Obj)} {H : Hp} {P : Program} {w : World} {outer : List Env} {s s' : Shared} {Q Qf : VK} {u : Value} {E Ef : XK}
/-- nothing is known of the cells -/
def Out (cs : List (Addr × Obj)) (H : Hp) : Prop := ∀ b o, cs.lookup b = some o → H b = none
theorem ce_thawed (c : Cold cs H s.heap) (h : CE outer P w (frost cs H) s Qf u s') (q : ∀ v H', Icy cs H' → Qf v H' → Q v (thaw cs H')) : CE outer P w H s Q u s' := by
  obtain ⟨v, H', os, bare, un, hok, r, hq⟩ := h
  have ic : Icy cs H' := fun b o e => un.frzs b o yesO (frost_in e)
  exact ⟨v, thaw cs H', os, bare, un_thawed un c hok, hok_thaw hok ic, r, q v H' ic hq⟩
theorem ce_frozen (ic : Icy cs H) (k : HOk P w H s.heap) (hf : ∀ b o, cs.lookup b = some o → b ∉ frs outer) (h : CE outer P w (thaw cs H) s Qf u s') (q : ∀ v H', Out cs H' → Qf v H' → Q v (frost cs H')) : CE outer P w H s Q u s' := by
  obtain ⟨v, H', os, bare, un, hok, r, hq⟩ := h
  have co := cold_of un ic k hf
  exact ⟨v, frost cs H', os, bare, un_frozen un ic, hok_frost hok co, r, q v H' (fun b o e => (co b o e).2) hq⟩
theorem cx_frozen (ic : Icy cs H) (k : HOk P w H s.heap) (hf : ∀ b o, cs.lookup b = some o → b ∉ frs outer) (h : L2.CX P w outer (thaw cs H) s Ef u s') (q : ∀ cls d H', Out cs H' → Ef cls d H' → E cls d (frost cs H')) : L2.CX P w outer H s E u s' := by
  obtain ⟨a, B, H', cls, d, e, fl, hok, ub, na, os, bare, hq⟩ := h
  have co := coldB_of ub ic k hf
  have nl : cs.lookup a = none := by
    cases z : cs.lookup a with
    | none => rfl
    | some o => have := (co a o z).1; rw [fl.2.1] at this; cases this
  exact ⟨a, B, frost cs H', cls, d, e, fl, hok_frost hok co, ub_frozen ub ic, by rw [frost_out nl]; exact na, os, bare, q cls d H' (fun b o e => (co b o e).2) hq⟩
end
/-- a lambda's names: captured ones, globals, own ones that the def does not have -/
structure LamS3 (N : List Str) (sc scope : Scope) : Prop where
  kind : scope.kind = .function
  co : scope.isCoroutine = false
  gen : scope.isGenerator = false
  own : ∀ y ∈ scope.names, y.2 ≠ .cell ∧ (y.2 = .local → y.1 ∉ N)
  free : ∀ y ∈ scope.names, y.2 = .free → sc.names.lookup y.1 = some .cell ∨ sc.names.lookup y.1 = some .free
def lamSB3 (N : List Str) (sc scope : Scope) : Bool :=
  decide (scope.kind = .function) && !scope.isCoroutine && !scope.isGenerator && scope.names.all fun y => !decide (y.2 = .cell) && (!decide (y.2 = .local) || decide (y.1 ∉ N)) && (!decide (y.2 = .free) || decide (sc.names.lookup y.1 = some .cell) || decide (sc.names.lookup y.1 = some .free))
theorem lamS3_by {N : List Str} {sc scope : Scope} (h : lamSB3 N sc scope = true) : LamS3 N sc scope := by
  unfold lamSB3 at h
  simp only [Bool.and_eq_true, Bool.or_eq_true, Bool.not_eq_true', decide_eq_true_eq, decide_eq_false_iff_not, List.all_eq_true] at h
  obtain ⟨⟨⟨h1, h2⟩, h3⟩, h4⟩ := h
  refine ⟨h1, h2, h3, fun y hy => ⟨(h4 y hy).1.1, fun e => ?_⟩, fun y hy e => ?_⟩
  · rcases (h4 y hy).1.2 with z | z
    · exact absurd e z
    · exact z
  · rcases (h4 y hy).2 with (z | z) | z
    · exact absurd e z
    · exact .inl z
    · exact .inr z
section
variable {X : Cx} {σ : L2.St} {HT : Hp} {s1 : Shared}
theorem LamS3.has {scope : Scope} (L : LamS3 X.N X.env.scope scope) (ok : X.Ok) : ∀ y ∈ scope.names, y.2 = .free → ∃ c, X.env.cells.lookup y.1 = some c := fun y hy e => by
  rcases L.free y hy e with k | k
  · exact ok.has _ (.inl k)
  · exact ok.has _ (.inr k)
/-- the captured cells -/
theorem clo_in {scope : Scope} (L : LamS3 X.N X.env.scope scope) (ok : X.Ok) {y : Str} {c : Addr} (e : (cloFrom X.env.cells scope.names []).lookup y = some c) : (y, NameKind.free) ∈ scope.names ∧ X.env.cells.lookup y = some c := by
  rcases cloFrom_mem (PySem.mem_of_lookup e) with hm | ⟨h1, h2⟩
  · cases hm
  · obtain ⟨c1, hc⟩ := L.has ok _ h1 rfl
    have hc : X.env.cells.lookup y = some c1 := hc
    refine ⟨h1, ?_⟩
    have e2 : c = c1 := by
      rw [h2, hc] <;> rfl
    rw [e2]
    exact hc
theorem lam_start3 {A : Around} {outer : List Env} {E : XK} {scope : Scope} {f c' : Addr} {h₁ : Heap} {tk : Nat} {m : Str → Option Value} (ok : X.Ok) (hlen : σ.length = X.N.length) (L : LamS3 X.N X.env.scope scope) (e0 : Env0 X.prog X.w X.K X.mg X.base A outer s1 HT) (hd : A.handled = none)
    (hns : h₁.Ns s1.heap.objs.size m) (kp : ∀ b o, s1.heap.get? b = some o → h₁.get? b = some o)
    (hcell : ∀ y c, (y, NameKind.free) ∈ scope.names → X.env.cells.lookup y = some c → HT c = none ∧ ∃ v, s1.heap.IsCell c v ∧ ∀ (i : Nat) x, X.N[i]? = some y → σ[i]? = some (some x) → ∃ u, RelV x u ∧ v = some u) :
    Inv (lamCx X A outer s1 HT E scope f c') [] σ HT { s1 with heap := h₁, toks := tk } := by
  have ci := fun {y c} (e : (cloFrom X.env.cells scope.names []).lookup y = some c) => clo_in L ok e
  have look : ∀ {y}, (y, NameKind.free) ∈ scope.names → ∃ c, (cloFrom X.env.cells scope.names []).lookup y = some c := fun {y} hy => mem_lookup (cloFrom_has (cells := X.env.cells) (acc := []) hy)
  have cellK : ∀ {c : Addr} {v : Option Value}, s1.heap.IsCell c v → h₁.IsCell c v := fun {c v} ⟨o, ho, hd⟩ => ⟨_, kp _ _ ho, hd⟩
  have noA : ∀ b : Addr, b ∉ (lamCx X A outer s1 HT E scope f c').ex := fun b z => absurd (show b ∈ ([] : List Addr) from z) (by simp)
  have fr : ∀ {y}, Vis scope y → (∃ i, X.N[i]? = some y) → (y, NameKind.free) ∈ scope.names := fun {y} v hN => by
    rcases v with k | k | k
    · obtain ⟨i, hi⟩ := hN
      exact absurd (List.mem_of_getElem? hi) ((L.own _ (PySem.mem_of_lookup k)).2 rfl)
    · exact absurd rfl (L.own _ (PySem.mem_of_lookup k)).1
    · exact PySem.mem_of_lookup k
  exact
    { ok := { mod := e0.mod, kind := L.kind, glob := rfl, blt := rfl, above := Nat.le_refl _, inj := fun y z c e1 e2 => ok.inj y z c (ci e1).2 (ci e2).2,
              has := fun y hy => by
                have hy : scope.names.lookup y = some .cell ∨ scope.names.lookup y = some .free := hy
                rcases hy with hy | hy
                · exact absurd rfl (L.own _ (PySem.mem_of_lookup hy)).1
                · exact look (PySem.mem_of_lookup hy)
              cab := fun y c z _ => absurd (show false = true from z) Bool.false_ne_true
              hd := fun _ => hd, frames := Around.frames_deeper e0.frames, stk := .inr ⟨rfl, rfl⟩, exf := fun b z => absurd z (noA b), bs := e0.bs, bsz := e0.bsz, noex := fun b _ _ => noA b, exfs := fun b z => absurd z (noA b), funs := e0.funs, frf := e0.frf }
      os := rfl, bare := e0.bare, base := Un.kept kp,
      loc := ⟨m, hns, fun i y v e1 e2 e3 => by
        have hy := fr e3 ⟨i, e1⟩
        obtain ⟨c2, h2⟩ := look hy
        obtain ⟨_, v', hc, hv⟩ := hcell y c2 hy (ci h2).2
        obtain ⟨u, r, rfl⟩ := hv i v e1 e2
        have e3 : Vis scope y := e3
        refine ⟨u, r, .inr ⟨?_, c2, h2, cellK hc⟩⟩
        rcases e3 with k | k | k
        · exact absurd (List.mem_of_getElem? e1) ((L.own _ (PySem.mem_of_lookup k)).2 rfl)
        · exact .inl k
        · exact .inr k⟩
      cell := fun y c e => by
        obtain ⟨h1, h2⟩ := ci e
        obtain ⟨_, v', hc, _⟩ := hcell y c h1 h2
        exact ⟨v', cellK hc⟩
      free := e0.hok.fresh (Nat.le_refl _),
      freeC := fun y c e => (hcell y c (ci e).1 (ci e).2).1,
      pin := fun q hq => absurd (show q ∈ ([] : List (Addr × Obj)) ++ [] from hq) (by simp), hok := e0.hok.kept kp, len := hlen }
end
end LamV
namespace LamV
open PySem PySem.Spec PyProof.Rows L2 LamX
/-- an object that is known and never written -/
def FunO (f : Addr) (o : Obj) : HO := .ext fun h => h.get? f = some o
abbrev lamObj (q : Str) (params : Arguments) (body : Expr) (scope : Scope) (cl : List (Str × Addr)) (dV doc pm : Value) (c' : Addr) (ctv : Value) : Obj := PySem.W.kdv_obj "<lambda>" q params (.expr body) scope cl dV doc pm c' ctv
abbrev lamFn (q : Str) (params : Arguments) (body : Expr) (scope : Scope) (cl : List (Str × Addr)) (dV doc pm : Value) (c' : Addr) (ctv : Value) : FuncData := PySem.W.kdv_fn "<lambda>" q params (.expr body) scope cl dV doc pm (.ref c') ctv
section
variable {X : Cx} {σ : L2.St} {cs : List (Addr × Obj)} {P : Program} {w : World} {K : PySem.W.Frag} {mg : Str → Option Value} {base : Heap} {A : Around} {outer : List Env} {s1 : Shared} {H1 : Hp}
theorem env0_thaw (e0 : Env0 P w K mg base A outer s1 H1) (ic : Icy cs H1) : Env0 P w K mg base A outer s1 (thaw cs H1) := by
  have no : ∀ {b}, H1 b = none → thaw cs H1 b = none := fun {b} n => by rw [thaw_out (ic.out0 n)]; exact n
  exact { frames := e0.frames, mod := e0.mod, bs := fun b o e => ⟨(e0.bs b o e).1, no (e0.bs b o e).2⟩, bsz := e0.bsz, funs := e0.funs, frf := fun b hb => no (e0.frf b hb), hok := hok_thaw e0.hok ic, bare := e0.bare }
/-- what the lambda captured is in the kept cells -/
def Kept (X : Cx) (σ : L2.St) (scope : Scope) (cs : List (Addr × Obj)) : Prop := ∀ y c, (y, NameKind.free) ∈ scope.names → X.env.cells.lookup y = some c →
  ∃ o v, cs.lookup c = some o ∧ o.data = .cell v ∧ ∀ (i : Nat) x, X.N[i]? = some y → σ[i]? = some (some x) → ∃ u, RelV x u ∧ v = some u
theorem call_lam {k : Nat} {q : Str} {params : Arguments} {body : Expr} {scope : Scope} {dV doc pm ctv : Value} {f c' : Addr} {binds : List (Str × Value)} {E Et : XK} {Q Qt : VK} {tb : TE}
    (ok : X.Ok) (hlen : σ.length = X.N.length) (L : LamS3 X.N X.env.scope scope) (hq : q = X.env.qual ++ "<lambda>") (kc : Kept X σ scope cs) (e0 : Env0 X.prog X.w X.K X.mg X.base A outer s1 H1) (ic : Icy cs H1) (hfr : ∀ b o, cs.lookup b = some o → b ∉ frs outer) (hr : Room (k + 1) A)
    (hf : H1 f = some (FunO f (lamObj q params body scope (cloFrom X.env.cells scope.names []) dV doc pm c' ctv))) (hc : H1 c' = some (CodeO c' q))
    (hb : BindsTo s1 (lamFn q params body scope (cloFrom X.env.cells scope.names []) dV doc pm c' ctv) ⟨[], []⟩ binds) (hl : ∀ y ∈ binds, scope.names.lookup y.1 = some .local)
    (hbody : Room k (A.deeper (lamEnv X scope s1.heap.objs.size f c')) → PE (lamCx X A outer s1 (thaw cs H1) Et scope f c') body tb) (ht : tb σ (thaw cs H1) Qt) (hQ : ∀ v H', Out cs H' → Qt v H' → Q v (frost cs H')) (hE : ∀ cls d H', Out cs H' → Et cls d H' → E cls d (frost cs H')) :
    codeAny (model X.prog X.w) A (.call (.ref f) ⟨[], []⟩) (CR (L2.CX X.prog X.w) outer X.prog X.w H1 s1 Q E) s1 := by
  subst hq
  have of1 : s1.heap.get? f = some _ := (e0.hok f _ hf).1
  obtain ⟨⟨oc, vs, t, hoc, hdc, hvc⟩, _, _⟩ := e0.hok c' _ hc
  have lim : s1.heap.NoLimit := e0.mod.nolimit.keeps fun b o e => (e0.bs b o e).1
  refine PySem.W.kla_callFunE hr.depth of1 rfl L.co L.gen rfl ⟨c', oc, vs, t, rfl, hoc, hdc, hvc⟩ (hb _ _ _ _ ?_)
  refine wpAny_newFunctionEnv (fun y hy => (L.own y hy).1) hl (fun h₁ hns hsb => ⟨lim.fresh _ hsb, ?_⟩) L.kind
  show codeAny _ _ (.expr body (lamEnv X scope s1.heap.objs.size f c')) _ _
  have kp : ∀ b o, s1.heap.get? b = some o → h₁.get? b = some o := fun b o e => hsb.extBut b o (Nat.ne_of_lt (Heap.lt_size e)) (Heap.get?_push_of_some _ e)
  have J : Inv (lamCx X A outer s1 (thaw cs H1) Et scope f c') [] σ (thaw cs H1) { s1 with heap := h₁, toks := s1.toks + binds.length } :=
    lam_start3 ok hlen L (env0_thaw e0 ic) hr.hd hns kp fun y c h1 h2 => by
      obtain ⟨o, v, e, hd, hv⟩ := kc y c h1 h2
      exact ⟨thaw_in e, v, ⟨o, ic.get e0.hok e, hd⟩, hv⟩
  refine PySem.W.kla_codeExpr (wpAny_mono ((hbody (hr.deeper _)).run [] _ σ (thaw cs H1) Qt J ht) (fun v s' hq => ?_) fun e s' hq => ?_)
  · obtain ⟨w', H', J', rv, q⟩ := hq
    exact ce_frozen ic e0.hok hfr ⟨w', H', J'.os, J'.bare, J'.base, J'.hok, rv, q⟩ hQ
  · have conv : ∀ e s'', L2.CX X.prog X.w outer (thaw cs H1) s1 Et e s'' → L2.CX X.prog X.w outer H1 s1 E e s'' := fun e s'' h => cx_frozen ic e0.hok hfr h hE
    exact wpAny_mono hq (fun _ s'' h => conv _ s'' h) fun e' s'' h => conv _ s'' h
end
end LamV
namespace LamV
open PySem PySem.Spec PyProof.Rows L2 LamX
section
variable {X : Cx} {pins : List (Addr × Obj)} {σ : L2.St} {H : Hp} {s : Shared}
/-- the function's object, new -/
theorem lay_fun {H1 : Hp} {h' : Heap} {tk : Nat} {o : Obj} (ho : o.isFreed = false) (I1 : Inv X pins σ H1 { s with heap := h', toks := tk }) : Inv X pins σ (upd H1 h'.objs.size (FunO h'.objs.size o)) { s with heap := h'.push o, toks := tk } :=
  I1.laid (t' := tk) (fun b ob e => Heap.get?_push_of_some _ e) (Nat.le_refl _) ⟨Heap.get?_push_size _ ho, ⟨_, Heap.get?_push_size _ ho⟩, fun _ _ a k => k _ a⟩
theorem lam_make3 {T : List (Addr × Str)} {c P : Addr} {q : Str} {params : Arguments} {body : Expr} {scope : Scope} {pos : Pos} {dV : Value} {E : Value → Shared → Prop} {Q : Value → Shared → Prop} (I : Inv X pins σ H s) (TB : TabB X.base X.mg c P) (hcode : X.env.code = .ref c)
    (hm : (P, q) ∈ T) (hu : ∀ p ∈ T, p.1 = P → p.2 = q) (hT : Tabs T H) (hfree : ∀ y ∈ scope.names, y.2 = .free → ∃ c, X.env.cells.lookup y.1 = some c)
    (h : ∀ (f c' : Addr) (doc pm ctv : Value) (H1 : Hp) (s' : Shared), Inv X pins σ H1 s' → ExtN H H1 → Tabs T H1 → H f = none →
      H1 f = some (FunO f (lamObj q params body scope (cloFrom X.env.cells scope.names []) dV doc pm c' ctv)) → H1 c' = some (CodeO c' q) → Q (.ref f) s') :
    wpAny (model X.prog X.w) X.A (makeTail "<lambda>" q params (.expr body) scope X.env dV .none none pos pos.line) Q E s := by
  obtain ⟨ps, hP, ht, ha⟩ := hT _ hm
  have bP : s.heap.BuiltinsAt X.mg P := TB.bm.keeps I.bk
  have hP' : s.heap.get? P = some { cls := .none, data := .fields ps } := I.hok P _ hP
  have plain : ∀ {H1 : Hp} {f : Addr} {u : HO}, ExtN H H1 → Tabs T H1 → H f = none → (∀ p ∈ T, p.1 ≠ f) → (∀ c2 q2, H1 c2 = some (CodeO c2 q2) → c2 ≠ f) → ExtN H (upd H1 f u) ∧ Tabs T (upd H1 f u) := fun {H1 f u} e t n np nc => by
    refine ⟨fun b o z m => by rw [upd_ne (ne_of_none z n)]; exact e b o z m, fun p hp => ?_⟩
    obtain ⟨ps', a1, a2, a3⟩ := t p hp
    refine ⟨ps', by rw [upd_ne (np p hp)]; exact a1, a2, fun p' cv hcv => ?_⟩
    obtain ⟨c0, e1, e2⟩ := a3 p' cv hcv
    exact ⟨c0, e1, by rw [upd_ne (nc c0 _ e2)]; exact e2⟩
  have old : ∀ {H1 : Hp} {s' : Shared}, Inv X pins σ H1 s' → ∀ {f : Addr}, s'.heap.objs.size ≤ f → H1 f = none := fun {H1 s'} J {f} hf => J.hok.fresh hf
  cases hc : codeAmong pos ps.toList with
  | none =>
    refine PySem.W.kdv_makeTail (mg := X.mg) (c := c) (P := P) (ps := ps) (closure_ok hfree) I.ok.glob (I.mod.glob.keeps I.bk) hcode (TB.code.keeps I.bk) hP' ht hc TB.gP bP fun c' ctv doc h' tk hx hge hlt hrec htb => ?_
    obtain ⟨c2, oc, vs, t, e2, hoc, hd, hv⟩ := hrec
    cases e2
    have nC : H c' = none := I.hok.fresh hge
    have I1 := inv_table (t' := tk) (more := #[rawInt pos.line, rawInt pos.col, .ref c']) (h' := h') I hP (fun b o hb e => hx b o hb e) htb hge ⟨oc, vs, t, hoc, hd, hv⟩
    have hE : ExtN H (upd (upd H P (.tbl (ps ++ #[rawInt pos.line, rawInt pos.col, .ref c']))) c' (CodeO c' q)) := fun b o e n => by
      rw [upd_ne (ne_of_none e nC), upd_ne (fun z => n ps (Option.some.inj (e.symm.trans (by rw [z]; exact hP))))]
      exact e
    have eL : (ps ++ #[rawInt pos.line, rawInt pos.col, .ref c']).toList = ps.toList ++ [rawInt pos.line, rawInt pos.col, .ref c'] := by simp
    have tb1 : Tabs T (upd (upd H P (.tbl (ps ++ #[rawInt pos.line, rawInt pos.col, .ref c']))) c' (CodeO c' q)) := fun p hp => by
      by_cases hb : p.1 = P
      · rw [hu p hp hb, hb]
        refine ⟨_, by rw [upd_ne (ne_of_none hP nC), upd_same], by rw [eL]; exact PySem.TriplesOk_snoc _ _ _ _ ht, fun p' cv hcv => ?_⟩
        rw [eL] at hcv
        rcases among_app _ ht hcv with z | z
        · obtain ⟨c0, e1, e2⟩ := ha p' cv z
          exact ⟨c0, e1, hE _ _ e2 codeO_ne⟩
        · exact ⟨c', z, upd_same⟩
      · obtain ⟨ps', a1, a2, a3⟩ := hT p hp
        refine ⟨ps', by rw [upd_ne (ne_of_none a1 nC), upd_ne hb]; exact a1, a2, fun p' cv hcv => ?_⟩
        obtain ⟨c0, e1, e2⟩ := a3 p' cv hcv
        exact ⟨c0, e1, hE _ _ e2 codeO_ne⟩
    have nf := old I1 (f := h'.objs.size) (Nat.le_refl _)
    have nf0 : H h'.objs.size = none := I.hok.fresh (Nat.le_trans hge (Nat.le_of_lt hlt))
    obtain ⟨e3, t3⟩ := plain (u := FunO h'.objs.size (lamObj q params body scope (cloFrom X.env.cells scope.names []) dV doc ((X.mg "__name__").getD .none) c' ctv)) hE tb1 nf0
      (fun p hp z => by obtain ⟨ps', a1, _⟩ := tb1 p hp; rw [z, nf] at a1; cases a1) (fun c2 q2 z y => by rw [y, nf] at z; cases z)
    exact h h'.objs.size c' doc _ ctv _ _ (lay_fun rfl I1) e3 t3 nf0 upd_same (by rw [upd_ne (Nat.ne_of_lt hlt), upd_same])
  | some cv =>
    obtain ⟨c', e, hco⟩ := ha pos cv hc
    subst e
    refine PySem.W.kdv_makeTailHit (mg := X.mg) (c := c) (P := P) (ps := ps) (closure_ok hfree) I.ok.glob (I.mod.glob.keeps I.bk) hcode (TB.code.keeps I.bk) hP' ht hc bP fun ctv doc h' tk hx hsz => ?_
    have I1 : Inv X pins σ H { s with heap := h', toks := tk } := I.kept fun b o e => hx b o e
    have nf := old I1 (f := h'.objs.size) (Nat.le_refl _)
    obtain ⟨e3, t3⟩ := plain (u := FunO h'.objs.size (lamObj q params body scope (cloFrom X.env.cells scope.names []) dV doc ((X.mg "__name__").getD .none) c' ctv)) (ExtN.refl H) hT nf
      (fun p hp z => by obtain ⟨ps', a1, _⟩ := hT p hp; rw [z, nf] at a1; cases a1) (fun c2 q2 z y => by rw [y, nf] at z; cases z)
    exact h h'.objs.size c' doc _ ctv _ _ (lay_fun rfl I1) e3 t3 nf upd_same (by rw [upd_ne (ne_of_none hco nf)]; exact hco)
/-- lambda: e -/
theorem lam_eval0 {T : List (Addr × Str)} {c P : Addr} {params : Arguments} {body : Expr} {scope : Scope} {pos : Pos} {E : Value → Shared → Prop} {Q : Value → Shared → Prop} (I : Inv X pins σ H s) (TB : TabB X.base X.mg c P) (hcode : X.env.code = .ref c)
    (hm : (P, X.env.qual ++ "<lambda>") ∈ T) (hu : ∀ p ∈ T, p.1 = P → p.2 = X.env.qual ++ "<lambda>") (hT : Tabs T H) (hfree : ∀ y ∈ scope.names, y.2 = .free → ∃ c, X.env.cells.lookup y.1 = some c) (hdef : defaultsOf params X.env = ([], []))
    (h : ∀ (f c' : Addr) (doc pm ctv : Value) (H1 : Hp) (s' : Shared), Inv X pins σ H1 s' → ExtN H H1 → Tabs T H1 → H f = none →
      H1 f = some (FunO f (lamObj (X.env.qual ++ "<lambda>") params body scope (cloFrom X.env.cells scope.names []) .none doc pm c' ctv)) → H1 c' = some (CodeO c' (X.env.qual ++ "<lambda>")) → Q (.ref f) s') :
    wpAny (model X.prog X.w) X.A (eval (.Lambda params body scope pos) X.env) Q E s := by
  refine PySem.W.kla_eval hdef ?_
  rw [makeFunction_eq]
  simp only [List.zip_nil_right, List.filterMap_nil, List.isEmpty_nil, if_true, pure_bind]
  exact lam_make3 I TB hcode hm hu hT hfree h
/-- lambda x=0: e -/
theorem lam_eval1 {T : List (Addr × Str)} {c P : Addr} {params : Arguments} {body : Expr} {scope : Scope} {pos p0 : Pos} {k0 : Nat} {E : Value → Shared → Prop} {Q : Value → Shared → Prop} (I : Inv X pins σ H s) (TB : TabB X.base X.mg c P) (hcode : X.env.code = .ref c)
    (hm : (P, X.env.qual ++ "<lambda>") ∈ T) (hu : ∀ p ∈ T, p.1 = P → p.2 = X.env.qual ++ "<lambda>") (hT : Tabs T H) (hfree : ∀ y ∈ scope.names, y.2 = .free → ∃ c, X.env.cells.lookup y.1 = some c) (hd : params.defaults = [.Constant (.int 0) k0 p0]) (hk : params.kw_defaults = [])
    (h : ∀ (f c' t : Addr) (doc pm ctv : Value) (H1 : Hp) (s' : Shared), Inv X pins σ H1 s' → ExtN H H1 → Tabs T H1 → H f = none → H t = none → f ≠ t → H1 t = some (.tup [.int 0]) →
      H1 f = some (FunO f (lamObj (X.env.qual ++ "<lambda>") params body scope (cloFrom X.env.cells scope.names []) (.ref t) doc pm c' ctv)) → H1 c' = some (CodeO c' (X.env.qual ++ "<lambda>")) → Q (.ref f) s') :
    wpAny (model X.prog X.w) X.A (eval (.Lambda params body scope pos) X.env) Q E s := by
  refine PySem.W.kdv_lam (by rw [hd]; rfl) hk ?_
  rw [hd]
  refine PySem.W.kdv_all1 (wpAny_Constant_int (PySem.W.kdv_all0 ?_))
  rw [makeFunction_eq]
  simp only [List.zip_nil_right, List.filterMap_nil, List.isEmpty_nil, List.isEmpty_cons, if_true, pure_bind, Bool.false_eq_true, if_false]
  refine wpAny_bind (wpAny_newTextTuple ?_)
  have I0 : Inv X pins σ H { s with toks := s.toks + 1 } := I.tok _
  have nt : H s.heap.objs.size = none := I.hok.fresh (Nat.le_refl _)
  have I1 : Inv X pins σ (upd H s.heap.objs.size (.tup [.int 0])) { s with heap := s.heap.push { cls := .type "tuple", data := .seq ([.int 0 s.toks] : List Value).toArray }, toks := s.toks + 1 } :=
    I0.laid (t' := s.toks + 1) (fun b ob e => Heap.get?_push_of_some _ e) (Nat.le_refl _) ⟨by show 1 ≤ sizeLine; rw [sizeLine_eq]; omega, [.int 0 s.toks], .cons ⟨_, rfl⟩ .nil, IsTup.new _ _⟩
  have e1 : ExtN H (upd H s.heap.objs.size (.tup [.int 0])) := fun b o z m => by rw [upd_ne (ne_of_none z nt)]; exact z
  have t1 : Tabs T (upd H s.heap.objs.size (.tup [.int 0])) := hT.ext fun b o z => by rw [upd_ne (ne_of_none z nt)]; exact z
  refine lam_make3 I1 TB hcode hm hu t1 hfree fun f c' doc pm ctv H1 s' J eN T1 nf hf hco => ?_
  have ft : f ≠ s.heap.objs.size := fun z => by rw [z, upd_same] at nf; cases nf
  refine h f c' s.heap.objs.size doc pm ctv H1 s' J (e1.trans eN) T1 (by rw [upd_ne ft] at nf; exact nf) nt ft (eN _ _ upd_same fun ps z => by cases z) hf hco
end
/-- a lambda, as data -/
structure FnD where
  q : Str
  params : Arguments
  body : Expr
  scope : Scope
  cl : List (Str × Addr)
  dflt : Bool
/-- f is such a function, as B knows -/
def FnR (B : Hp) (f : Addr) (l : FnD) : Prop := ∃ (dV doc pm : Value) (c' : Addr) (ctv : Value), B f = some (FunO f (lamObj l.q l.params l.body l.scope l.cl dV doc pm c' ctv)) ∧ B c' = some (CodeO c' l.q) ∧
  (if l.dflt = true then ∃ t, dV = .ref t ∧ B t = some (.tup [.int 0]) else dV = .none)
theorem FnR.mono {B B' : Hp} {f : Addr} {l : FnD} (e : ∀ b o, B b = some o → B' b = some o) (r : FnR B f l) : FnR B' f l := by
  obtain ⟨dV, doc, pm, c', ctv, h1, h2, h3⟩ := r
  refine ⟨dV, doc, pm, c', ctv, e _ _ h1, e _ _ h2, ?_⟩
  split
  · rename_i z
    rw [if_pos z] at h3
    obtain ⟨t, e1, e2⟩ := h3
    exact ⟨t, e1, e _ _ e2⟩
  · rename_i z
    rw [if_neg z] at h3
    exact h3
/-- its names are bound so -/
structure BindOk (params : Arguments) (body : Expr) (scope : Scope) (dflt : Bool) : Prop where
  no : dflt = false → ∀ (q : Str) (cl : List (Str × Addr)) (doc pm : Value) (c' : Addr) (ctv : Value), bindArgs (lamFn q params body scope cl .none doc pm c' ctv) ⟨[], []⟩ = pure []
  yes : dflt = true → ∃ x, scope.names.lookup x = some .local ∧ ∀ (q : Str) (cl : List (Str × Addr)) (doc pm : Value) (t c' : Addr) (ctv : Value) (tk : Tok), ∃ k : Option (Array Value) → Sem (List (Str × Value)),
    bindArgs (lamFn q params body scope cl (.ref t) doc pm c' ctv) ⟨[], []⟩ = seqItems? (.ref t) >>= k ∧ k (some #[.int 0 tk]) = pure [(x, .int 0 tk)]
theorem FnR.binds {P : Program} {w : World} {H : Hp} {s : Shared} {f : Addr} {l : FnD} (r : FnR H f l) (hok : HOk P w H s.heap) (b : BindOk l.params l.body l.scope l.dflt) :
    ∃ (dV doc pm : Value) (c' : Addr) (ctv : Value) (binds : List (Str × Value)), H f = some (FunO f (lamObj l.q l.params l.body l.scope l.cl dV doc pm c' ctv)) ∧ H c' = some (CodeO c' l.q) ∧
      BindsTo s (lamFn l.q l.params l.body l.scope l.cl dV doc pm c' ctv) ⟨[], []⟩ binds ∧ ∀ y ∈ binds, l.scope.names.lookup y.1 = some .local := by
  obtain ⟨dV, doc, pm, c', ctv, h1, h2, h3⟩ := r
  cases hd : l.dflt with
  | false =>
    rw [if_neg (by rw [hd]; decide)] at h3
    subst h3
    exact ⟨_, doc, pm, c', ctv, [], h1, h2, BindsTo.of_eq (b.no hd ..), fun y hy => by cases hy⟩
  | true =>
    rw [if_pos hd] at h3
    obtain ⟨t, rfl, ht⟩ := h3
    obtain ⟨_, its, vals, ob, ho, hcls, hn, hdat⟩ := hok t _ ht
    obtain ⟨x, hx, hb⟩ := b.yes hd
    cases vals with
    | cons r1 r2 =>
      cases r2
      obtain ⟨tk, rfl⟩ := r1
      obtain ⟨k, e1, e2⟩ := hb l.q l.cl doc pm t c' ctv tk
      exact ⟨_, doc, pm, c', ctv, [(x, .int 0 tk)], h1, h2, BindsTo.of_defaults rfl ho hdat e1 e2, fun y hy => by rw [List.mem_singleton.mp hy]; exact hx⟩
end LamV
namespace DL
/-- a step of a walk: what is to be shown, and what is left to show -/
class Wk (A : Prop) (B : outParam Prop) : Prop where
  go : B → A
open PySem PySem.Spec PyProof.Rows L2
inductive D where
  | non | bl (b : Bool) | int (i : Int) | str (x : Str) | tup (xs : List D) | lst (xs : List D) | ref (i : Nat) | dct (ks : List Key) (xs : List D) | ty (n : String) | scr (ns : List Int) | adr (a : Addr) | fn (l : LamV.FnD)
inductive O where
  | dead | lst (xs : List D) | ins (C : Addr) (fs : List (Str × D)) | dct (ks : List Key) (xs : List D) | any (ho : Addr → HO) | tab (p : Addr) (q : Str)
abbrev Sto := List O
abbrev Ev := List (Option D)
structure Wd where
  m : List Addr
  B : Hp
structure Wd.le (W W' : Wd) : Prop where
  pre : ∀ (i : Nat) a, W.m[i]? = some a → W'.m[i]? = some a
  same : Same W.B W'.B
theorem Wd.le.refl (W : Wd) : W.le W := ⟨fun _ _ h => h, Same.refl _⟩
theorem Wd.le.trans {W W1 W2 : Wd} (a : W.le W1) (b : W1.le W2) : W.le W2 := ⟨fun i x h => b.pre i x (a.pre i x h), a.same.trans b.same⟩
theorem same_rd {H H' : Hp} {a : Addr} {u : HO} (e : Same H H') (h : Rd H a u) : Rd H' a u := Evl.ex_rd e h
theorem same_sql {K : PySem.W.Frag} {H H' : Hp} {a : Addr} {xs : List V} (e : Same H H') (h : SqL K H a xs) : SqL K H' a xs := Evl.ex_l e h
theorem same_sqt {K : PySem.W.Frag} {H H' : Hp} {a : Addr} {xs : List V} (e : Same H H') (h : SqT K H a xs) : SqT K H' a xs := Evl.ex_t e h
mutual
inductive Rep (K : PySem.W.Frag) (W : Wd) : V → D → Prop where
  | non : Rep K W .non .non
  | bl (b : Bool) : Rep K W (.bl b) (.bl b)
  | int (i : Int) : Rep K W (.int i) (.int i)
  | str (x : Str) : Rep K W (.str x) (.str x)
  | ty (n : String) : Rep K W (.ty n) (.ty n)
  | tup {a : Addr} {vs : List V} {ds : List D} : SqT K W.B a vs → Reps K W vs ds → Rep K W (.ref a) (.tup ds)
  | lst {a : Addr} {vs : List V} {ds : List D} : W.B a = some (.lst vs) → Reps K W vs ds → Rep K W (.ref a) (.lst ds)
  | scr {a : Addr} {ns : List Int} : SqL K W.B a (ns.map V.int) → Rep K W (.ref a) (.scr ns)
  | dct {a : Addr} {ks : List Key} {vs : List V} {ds : List D} : Rd W.B a (.dK (ks.zip vs)) → ks.length = vs.length → Reps K W vs ds → Rep K W (.ref a) (.dct ks ds)
  | ref {i : Nat} {a : Addr} : W.m[i]? = some a → Rep K W (.ref a) (.ref i)
  | adr (a : Addr) : Rep K W (.ref a) (.adr a)
  | fn {f : Addr} {l : LamV.FnD} : LamV.FnR W.B f l → Rep K W (.ref f) (.fn l)
inductive Reps (K : PySem.W.Frag) (W : Wd) : List V → List D → Prop where
  | nil : Reps K W [] []
  | cons {v : V} {d : D} {vs : List V} {ds : List D} : Rep K W v d → Reps K W vs ds → Reps K W (v :: vs) (d :: ds)
end
section
variable {K : PySem.W.Frag} {W W' : Wd}
mutual
theorem Rep.mono (l : W.le W') : ∀ {v : V} {d : D}, Rep K W v d → Rep K W' v d
  | _, _, .non => .non
  | _, _, .bl b => .bl b
  | _, _, .int i => .int i
  | _, _, .str x => .str x
  | _, _, .ty x => .ty x
  | _, _, .tup h r => .tup (same_sqt l.same h) (Reps.mono l r)
  | _, _, .lst h r => .lst (l.same _ _ h) (Reps.mono l r)
  | _, _, .scr h => .scr (same_sql l.same h)
  | _, _, .dct h e r => .dct (same_rd l.same h) e (Reps.mono l r)
  | _, _, .ref h => .ref (l.pre _ _ h)
  | _, _, .adr a => .adr a
  | _, _, .fn h => .fn (h.mono l.same)
theorem Reps.mono (l : W.le W') : ∀ {vs : List V} {ds : List D}, Reps K W vs ds → Reps K W' vs ds
  | _, _, .nil => .nil
  | _, _, .cons h r => .cons (Rep.mono l h) (Reps.mono l r)
end
theorem Reps.length : ∀ {vs : List V} {ds : List D}, Reps K W vs ds → vs.length = ds.length
  | _, _, .nil => rfl
  | _, _, .cons _ r => congrArg (· + 1) (Reps.length r)
theorem Reps.app : ∀ {vs ws : List V} {ds es : List D}, Reps K W vs ds → Reps K W ws es → Reps K W (vs ++ ws) (ds ++ es)
  | _, _, _, _, .nil, s => s
  | _, _, _, _, .cons h r, s => .cons h (Reps.app r s)
theorem Reps.get : ∀ {vs : List V} {ds : List D} {i : Nat} {d : D}, Reps K W vs ds → ds[i]? = some d → ∃ v, vs[i]? = some v ∧ Rep K W v d
  | _, _, _, _, .nil, e => by simp at e
  | _, _, 0, _, .cons h r, e => ⟨_, rfl, by simp at e; rw [← e]; exact h⟩
  | _, _, i + 1, _, .cons _ r, e => by
    obtain ⟨v, h1, h2⟩ := Reps.get (i := i) r (by simpa using e)
    exact ⟨v, by simpa using h1, h2⟩
theorem Reps.set {v : V} {d : D} (h : Rep K W v d) : ∀ {vs : List V} {ds : List D} (i : Nat), Reps K W vs ds → Reps K W (vs.set i v) (ds.set i d)
  | _, _, _, .nil => .nil
  | _, _, 0, .cons _ r => .cons h r
  | _, _, i + 1, .cons q r => .cons q (Reps.set h i r)
theorem Reps.take : ∀ {vs : List V} {ds : List D} (n : Nat), Reps K W vs ds → Reps K W (vs.take n) (ds.take n)
  | _, _, 0, _ => .nil
  | _, _, _ + 1, .nil => .nil
  | _, _, n + 1, .cons h r => .cons h (Reps.take n r)
theorem Reps.drop : ∀ {vs : List V} {ds : List D} (n : Nat), Reps K W vs ds → Reps K W (vs.drop n) (ds.drop n)
  | _, _, 0, r => r
  | _, _, _ + 1, .nil => .nil
  | _, _, n + 1, .cons _ r => Reps.drop n r
theorem Reps.dropLast : ∀ {vs : List V} {ds : List D}, Reps K W vs ds → Reps K W vs.dropLast ds.dropLast
  | _, _, .nil => .nil
  | _, _, .cons h .nil => .nil
  | _, _, .cons h (.cons h2 r) => .cons h (Reps.dropLast (.cons h2 r))
end
theorem one_place : ∀ (N : List Addr), N.Nodup → ∀ (i j : Nat) (x : Addr), N[i]? = some x → N[j]? = some x → i = j
  | [], _, _, _, _, h, _ => by simp at h
  | _ :: _, _, 0, 0, _, _, _ => rfl
  | y :: N, nd, 0, j + 1, x, h, k => by
    simp at h k
    exact absurd (List.mem_of_getElem? k) (h ▸ (List.nodup_cons.mp nd).1)
  | y :: N, nd, i + 1, 0, x, h, k => by
    simp at h k
    exact absurd (List.mem_of_getElem? h) (k ▸ (List.nodup_cons.mp nd).1)
  | y :: N, nd, i + 1, j + 1, x, h, k => congrArg (· + 1) (one_place N (List.nodup_cons.mp nd).2 i j x (by simpa using h) (by simpa using k))
/-- a table of code objects of the name q, at a; B: what is known and stays -/
def TabR (B H : Hp) (a : Addr) (q : Str) : Prop := ∃ ps : Array Value, H a = some (.tbl ps) ∧ TriplesOk ps.toList ∧ ∀ (pos : Pos) (cv : Value), codeAmong pos ps.toList = some cv → ∃ c, cv = .ref c ∧ B c = some (LamX.CodeO c q)
def OR (K : PySem.W.Frag) (W : Wd) (H : Hp) (a : Addr) : O → Prop
  | .dead => ∃ vs, W.B a = some (.lst vs)
  | .lst ds => W.B a = none ∧ ∃ vs, H a = some (.lst vs) ∧ Reps K W vs ds
  | .ins C fs => W.B a = none ∧ ∃ dx vs, H a = some (.ins C dx ((fs.map (·.1)).zip vs)) ∧ Reps K W vs (fs.map (·.2))
  | .dct ks ds => W.B a = none ∧ ∃ vs, H a = some (.dK (ks.zip vs)) ∧ ks.length = vs.length ∧ Reps K W vs ds
  | .any ho => W.B a = none ∧ H a = some (ho a)
  | .tab p q => W.B a = none ∧ a = p ∧ TabR W.B H a q
structure Sim (K : PySem.W.Frag) (W : Wd) (S : Sto) (H : Hp) : Prop where
  same : Same W.B H
  len : W.m.length = S.length
  nd : W.m.Nodup
  dom : ∀ a ∈ W.m, H a ≠ none
  obj : ∀ (i : Nat) a o, W.m[i]? = some a → S[i]? = some o → OR K W H a o
  ntb : ∀ b ps, W.B b ≠ some (.tbl ps)
/-- what is known of names -/
structure EnvR (K : PySem.W.Frag) (W : Wd) (env : Ev) (σ : L2.St) : Prop where
  len : σ.length = env.length
  get : ∀ (i : Nat) d, env[i]? = some (some d) → ∃ v, σ[i]? = some (some v) ∧ Rep K W v d
section
variable {K : PySem.W.Frag} {W W' : Wd} {S : Sto} {H : Hp} {env : Ev} {σ : L2.St}
theorem EnvR.mono (l : W.le W') (e : EnvR K W env σ) : EnvR K W' env σ := ⟨e.len, fun i d h => let ⟨v, a, b⟩ := e.get i d h; ⟨v, a, b.mono l⟩⟩
theorem EnvR.set {i : Nat} {v : V} {d : D} (e : EnvR K W env σ) (r : Rep K W v d) : EnvR K W (env.set i (some d)) (σ.set i (some v)) := by
  refine ⟨by simp [e.len], fun j d' h => ?_⟩
  by_cases hj : j = i
  · subst hj
    by_cases hl : j < env.length
    · rw [List.getElem?_set_self hl] at h
      cases h
      exact ⟨v, List.getElem?_set_self (by rw [e.len]; exact hl), r⟩
    · rw [List.getElem?_eq_none (by rw [List.length_set]; omega)] at h
      cases h
  · rw [List.getElem?_set_ne (Ne.symm hj)] at h
    obtain ⟨w, h1, h2⟩ := e.get j d' h
    exact ⟨w, by rw [List.getElem?_set_ne (Ne.symm hj)]; exact h1, h2⟩
theorem EnvR.unset {i : Nat} {o : Option V} (e : EnvR K W env σ) : EnvR K W (env.set i none) (σ.set i o) := by
  refine ⟨by simp [e.len], fun j d' h => ?_⟩
  by_cases hj : j = i
  · subst hj
    by_cases hl : j < env.length
    · rw [List.getElem?_set_self hl] at h
      cases h
    · rw [List.getElem?_eq_none (by rw [List.length_set]; omega)] at h
      cases h
  · rw [List.getElem?_set_ne (Ne.symm hj)] at h
    obtain ⟨w, h1, h2⟩ := e.get j d' h
    exact ⟨w, by rw [List.getElem?_set_ne (Ne.symm hj)]; exact h1, h2⟩
/-- a store object's address is none of the pure heap's, and in the heap -/
theorem OR.mono {a : Addr} {o : O} (l : W.le W') (hB : W'.B a = none ∨ W.B a ≠ none) (h : OR K W H a o) {H' : Hp} (hH : H' a = H a) : OR K W' H' a o := by
  cases o with
  | dead =>
    obtain ⟨vs, e⟩ := h
    exact ⟨vs, l.same _ _ e⟩
  | lst ds =>
    obtain ⟨b, vs, e, r⟩ := h
    rcases hB with hB | hB
    · exact ⟨hB, vs, by rw [hH]; exact e, r.mono l⟩
    · exact absurd b hB
  | ins C fs =>
    obtain ⟨b, dx, vs, e, r⟩ := h
    rcases hB with hB | hB
    · exact ⟨hB, dx, vs, by rw [hH]; exact e, r.mono l⟩
    · exact absurd b hB
  | dct ks ds =>
    obtain ⟨b, vs, e, q, r⟩ := h
    rcases hB with hB | hB
    · exact ⟨hB, vs, by rw [hH]; exact e, q, r.mono l⟩
    · exact absurd b hB
  | any ho =>
    obtain ⟨b, e⟩ := h
    rcases hB with hB | hB
    · exact ⟨hB, by rw [hH]; exact e⟩
    · exact absurd b hB
  | tab p q =>
    obtain ⟨b, ea, ps, e, t, r⟩ := h
    rcases hB with hB | hB
    · exact ⟨hB, ea, ps, by rw [hH]; exact e, t, fun p c z => let ⟨c', e1, e2⟩ := r p c z; ⟨c', e1, l.same _ _ e2⟩⟩
    · exact absurd b hB
/-- a new pure object -/
def Wd.put (W : Wd) (p : Addr) (o : HO) : Wd := ⟨W.m, upd W.B p o⟩
def Wd.new (W : Wd) (p : Addr) : Wd := ⟨W.m ++ [p], W.B⟩
theorem Wd.put_ntb {W : Wd} {p : Addr} {o : HO} (h : ∀ b ps, W.B b ≠ some (.tbl ps)) (hn : ∀ ps, o ≠ .tbl ps) : ∀ b ps, (W.put p o).B b ≠ some (.tbl ps) := fun b ps z => by
  have z : upd W.B p o b = some (.tbl ps) := z
  by_cases e : b = p
  · rw [e, upd_same] at z
    exact hn ps (Option.some.inj z)
  · rw [upd_ne e] at z
    exact h b ps z
theorem Sim.free {p : Addr} (s : Sim K W S H) (hp : H p = none) : W.B p = none := s.same.free hp
theorem Wd.le_put {p : Addr} {o : HO} (h : W.B p = none) : W.le (W.put p o) := ⟨fun _ _ h => h, Evl.Ex.new h⟩
theorem Wd.le_new {p : Addr} : W.le (W.new p) := ⟨fun i a h => by
  show (W.m ++ [p])[i]? = some a
  rw [List.getElem?_append_left (List.getElem?_eq_some_iff.mp h).1]
  exact h, Same.refl _⟩
theorem Sim.put {p : Addr} {o : HO} (s : Sim K W S H) (hp : H p = none) (hn : ∀ ps, o ≠ .tbl ps := by intro _ z; cases z) : Sim K (W.put p o) S (upd H p o) := by
  have hB := s.free hp
  refine ⟨fun b u e => ?_, s.len, s.nd, fun a ha => ?_, fun i a ob h1 h2 => ?_, Wd.put_ntb s.ntb hn⟩
  · by_cases hb : b = p
    · subst hb
      have e : upd W.B b o b = some u := e
      rw [upd_same] at e ⊢
      exact e
    · have e : upd W.B p o b = some u := e
      rw [upd_ne hb] at e ⊢
      exact s.same b u e
  · have hne : a ≠ p := fun z => s.dom a ha (by rw [z]; exact hp)
    rw [upd_ne hne]
    exact s.dom a ha
  · have hne : a ≠ p := fun z => s.dom a (List.mem_of_getElem? h1) (by rw [z]; exact hp)
    refine (s.obj i a ob h1 h2).mono (Wd.le_put hB) ?_ (upd_ne hne)
    by_cases hb : W.B a = none
    · exact .inl (by show upd W.B p o a = none; rw [upd_ne hne]; exact hb)
    · exact .inr hb
/-- a new store object -/
theorem Sim.newO {p : Addr} {o : O} {ho : HO} (s : Sim K W S H) (hp : H p = none) (h : OR K (W.new p) (upd H p ho) p o) : Sim K (W.new p) (S ++ [o]) (upd H p ho) := by
  have hB := s.free hp
  have hnp : p ∉ W.m := fun z => s.dom p z hp
  refine ⟨fun b u e => ?_, by show (W.m ++ [p]).length = _; simp [s.len], ?_, fun a ha => ?_, fun i a ob h1 h2 => ?_, s.ntb⟩
  · rw [upd_ne (ne_of_none (show W.B b = some u from e) hB)]
    exact s.same b u e
  · show (W.m ++ [p]).Nodup
    exact List.nodup_append.mpr ⟨s.nd, List.nodup_cons.mpr ⟨List.not_mem_nil, List.nodup_nil⟩, fun a ha b hb => by
      rw [List.mem_singleton] at hb
      subst hb
      exact fun z => hnp (z ▸ ha)⟩
  · rcases List.mem_append.mp (show a ∈ W.m ++ [p] from ha) with ha | ha
    · have hne : a ≠ p := fun z => hnp (z ▸ ha)
      rw [upd_ne hne]
      exact s.dom a ha
    · rw [List.mem_singleton.mp ha, upd_same]
      exact fun z => nomatch z
  · have h1 : (W.m ++ [p])[i]? = some a := h1
    by_cases hi : i < W.m.length
    · rw [List.getElem?_append_left hi] at h1
      rw [List.getElem?_append_left (by rw [← s.len]; exact hi)] at h2
      have hne : a ≠ p := fun z => hnp (z ▸ List.mem_of_getElem? h1)
      refine (s.obj i a ob h1 h2).mono Wd.le_new ?_ (upd_ne hne)
      by_cases hb : W.B a = none
      · exact .inl hb
      · exact .inr hb
    · have hi2 : i = W.m.length := by
        have := (List.getElem?_eq_some_iff.mp h1).1
        rw [List.length_append, List.length_singleton] at this
        omega
      subst hi2
      rw [List.getElem?_append_right (Nat.le_refl _), Nat.sub_self] at h1
      rw [s.len, List.getElem?_append_right (Nat.le_refl _), Nat.sub_self] at h2
      cases h1
      cases h2
      exact h
/-- a store object changes -/
theorem Sim.setO {i : Nat} {a : Addr} {o o' : O} {ho : HO} (s : Sim K W S H) (hi : W.m[i]? = some a) (ho1 : S[i]? = some o) (hb : W.B a = none) (h : OR K W (upd H a ho) a o') : Sim K W (S.set i o') (upd H a ho) := by
  refine ⟨fun b u e => ?_, by rw [List.length_set]; exact s.len, s.nd, fun b hbm => ?_, fun j b ob h1 h2 => ?_, s.ntb⟩
  · rw [upd_ne (ne_of_none e hb)]
    exact s.same b u e
  · by_cases z : b = a
    · rw [z, upd_same]
      exact fun z => nomatch z
    · rw [upd_ne z]
      exact s.dom b hbm
  · by_cases hj : j = i
    · subst hj
      rw [hi] at h1
      cases h1
      rw [List.getElem?_set_self (by rw [← s.len]; exact (List.getElem?_eq_some_iff.mp hi).1)] at h2
      cases h2
      exact h
    · rw [List.getElem?_set_ne (Ne.symm hj)] at h2
      have hne : b ≠ a := fun z => by
        subst z
        exact hj (one_place _ s.nd _ _ _ h1 hi)
      refine (s.obj j b ob h1 h2).mono (Wd.le.refl W) ?_ (upd_ne hne)
      by_cases hb : W.B b = none
      · exact .inl hb
      · exact .inr hb
theorem Sim.at {i : Nat} {o : O} (s : Sim K W S H) (h : S[i]? = some o) : ∃ a, W.m[i]? = some a ∧ OR K W H a o := by
  have hi := (List.getElem?_eq_some_iff.mp h).1
  rw [← s.len] at hi
  exact ⟨_, List.getElem?_eq_getElem hi, s.obj i _ o (List.getElem?_eq_getElem hi) h⟩
end
/-- nothing is known at p, but a table of code objects perhaps -/
def Fre (H : Hp) (p : Addr) : Prop := ∀ o, H p = some o → ∃ ps, o = .tbl ps
theorem Fre.of {H : Hp} {p : Addr} (h : H p = none) : Fre H p := fun o e => by rw [h] at e; cases e
theorem Fre.not {H : Hp} {p : Addr} {o : HO} (h : Fre H p) (e : H p = some o) (n : ∀ ps, o ≠ .tbl ps) : False := let ⟨ps, z⟩ := h o e; n ps z
theorem Fre.two {H : Hp} {p : Addr} : Fre H p ∨ ∃ o, H p = some o ∧ ∀ ps, o ≠ .tbl ps := by
  cases e : H p with
  | none => exact .inl (.of e)
  | some o =>
    cases o with
    | tbl ps => exact .inl fun o z => by rw [e] at z; cases z; exact ⟨ps, rfl⟩
    | _ => exact .inr ⟨_, rfl, fun ps z => by cases z⟩
structure Stp (W : Wd) (H : Hp) (W' : Wd) (H' : Hp) : Prop where
  le : W.le W'
  keep : ∀ p o, H p = some o → p ∉ W.m → (∀ ps, o ≠ .tbl ps) → H' p = some o
  dom : ∀ p, Fre H' p → Fre H p
  newm : ∀ p, p ∈ W'.m → p ∈ W.m ∨ Fre H p
  newB : ∀ p o, W'.B p = some o → W.B p = some o ∨ Fre H p ∨ p ∈ W.m ∨ ∃ φ, H p = some (.ext φ)
theorem Stp.refl {W : Wd} {H : Hp} : Stp W H W H := ⟨.refl W, fun _ _ h _ _ => h, fun _ h => h, fun _ h => .inl h, fun _ _ h => .inl h⟩
theorem Stp.free {W W' : Wd} {H H' : Hp} {p : Addr} (s : Stp W H W' H') (h : Fre H' p) : Fre H p := s.dom p h
theorem Stp.trans {W W1 W2 : Wd} {H H1 H2 : Hp} (a : Stp W H W1 H1) (b : Stp W1 H1 W2 H2) : Stp W H W2 H2 where
  le := a.le.trans b.le
  keep := fun p o h n t => b.keep p o (a.keep p o h n t) (fun z => (a.newm p z).elim n fun q => q.not h t) t
  dom := fun p h => a.dom p (b.dom p h)
  newm := fun p h => (b.newm p h).elim (a.newm p) fun q => .inr (a.free q)
  newB := fun p o h => by
    rcases b.newB p o h with q | q | q | ⟨φ, q⟩
    · exact a.newB p o q
    · exact .inr (.inl (a.free q))
    · rcases a.newm p q with q | q
      · exact .inr (.inr (.inl q))
      · exact .inr (.inl q)
    · rcases Fre.two (H := H) (p := p) with z | ⟨u, e, n⟩
      · exact .inr (.inl z)
      · by_cases hm : p ∈ W.m
        · exact .inr (.inr (.inl hm))
        · rw [a.keep p u e hm n] at q
          cases q
          exact .inr (.inr (.inr ⟨φ, e⟩))
section
variable {K : PySem.W.Frag} {W : Wd} {S : Sto} {H : Hp}
theorem upd_dom {p : Addr} {o : HO} (q : Addr) (h : H q ≠ none) : upd H p o q ≠ none := by
  by_cases z : q = p
  · rw [z, upd_same]
    exact fun z => nomatch z
  · rw [upd_ne z]
    exact h
theorem upd_keep {p : Addr} {o u : HO} {q : Addr} (hp : H p = none) (h : H q = some u) : upd H p o q = some u := by
  rw [upd_ne (ne_of_none h hp)]
  exact h
theorem fre_upd {p : Addr} {o : HO} (hp : H p = none) (q : Addr) (h : Fre (upd H p o) q) : Fre H q := fun u e => h u (upd_keep hp e)
theorem fre_set {p : Addr} {o : HO} (hn : ∀ ps, o ≠ .tbl ps) (q : Addr) (h : Fre (upd H p o) q) : Fre H q := fun u e => by
  by_cases z : q = p
  · subst z
    exact (h.not upd_same hn).elim
  · exact h u (by rw [upd_ne z]; exact e)
/-- new, known to nobody | new and pure | new in the store | a store object changed -/
theorem Stp.lay {p : Addr} {o : HO} (hp : H p = none) : Stp W H W (upd H p o) := ⟨.refl W, fun _ _ h _ _ => upd_keep hp h, fre_upd hp, fun _ h => .inl h, fun _ _ h => .inl h⟩
theorem Stp.put {p : Addr} {o : HO} (s : Sim K W S H) (hp : H p = none) : Stp W H (W.put p o) (upd H p o) := ⟨Wd.le_put (s.free hp), fun _ _ h _ _ => upd_keep hp h, fre_upd hp, fun _ h => .inl h, fun q u h => by
  by_cases z : q = p
  · exact .inr (.inl (by rw [z]; exact .of hp))
  · have h : upd W.B p o q = some u := h
    rw [upd_ne z] at h
    exact .inl h⟩
theorem Stp.newO {p : Addr} {ho : HO} (hp : H p = none) : Stp W H (W.new p) (upd H p ho) := ⟨Wd.le_new, fun _ _ h _ _ => upd_keep hp h, fre_upd hp, fun q h => (List.mem_append.mp (show q ∈ W.m ++ [p] from h)).elim .inl fun z => .inr (by rw [List.mem_singleton.mp z]; exact .of hp), fun _ _ h => .inl h⟩
theorem Stp.setO {i : Nat} {a : Addr} {ho : HO} (hi : W.m[i]? = some a) (hn : ∀ ps, ho ≠ .tbl ps := by intro _ z; cases z) : Stp W H W (upd H a ho) := ⟨.refl W, fun q o h n _ => by
  have hm : a ∈ W.m := List.mem_of_getElem? hi
  have hne : q ≠ a := fun z => n (by rw [z]; exact hm)
  rw [upd_ne hne]
  exact h, fre_set hn, fun _ h => .inl h, fun _ _ h => .inl h⟩
/-- .. and what was laid by nobody's hand becomes pure, or the store's -/
theorem Stp.adopt {W' : Wd} {H' : Hp} {p : Addr} {o : HO} (s : Stp W H W' H') (hp : Fre H p) (hB : W'.B p = none) : Stp W H (W'.put p o) H' := ⟨s.le.trans (Wd.le_put hB), s.keep, s.dom, s.newm, fun q u h => by
  by_cases z : q = p
  · exact .inr (.inl (by rw [z]; exact hp))
  · have h : upd W'.B p o q = some u := h
    rw [upd_ne z] at h
    exact s.newB q u h⟩
theorem Stp.adoptO {W' : Wd} {H' : Hp} {p : Addr} (s : Stp W H W' H') (hp : Fre H p) : Stp W H (W'.new p) H' := ⟨s.le.trans Wd.le_new, s.keep, s.dom, fun q h => (List.mem_append.mp (show q ∈ W'.m ++ [p] from h)).elim (s.newm q) fun z => .inr (by rw [List.mem_singleton.mp z]; exact hp), s.newB⟩
end
/-- where a def was entered: what was known then -/
structure Bs where
  W : Wd
  H : Hp
  R : Addr → List (Str × D) → Sto → Prop := fun _ _ _ => False
def Bs.to (b : Bs) (W : Wd) (H : Hp) : Prop := Stp b.W b.H W H
theorem Bs.to.trans {b : Bs} {W W' : Wd} {H H' : Hp} (h : b.to W H) (l : Stp W H W' H') : b.to W' H' := Stp.trans h l
theorem Bs.to.stp {b : Bs} {W : Wd} {H : Hp} (h : b.to W H) : Stp b.W b.H W H := h
abbrev DP := D → Sto → Prop
abbrev DTE := Ev → Sto → DP → Prop
abbrev DTT := Ev → Sto → (Bool → Sto → Prop) → Prop
abbrev DTA := Ev → Sto → (List D → Sto → Prop) → Prop
structure DEnds where
  nx : Ev → Sto → Prop
  rt : DP
  bk : Ev → Sto → Prop := fun _ _ => False
  ct : Ev → Sto → Prop := fun _ _ => False
abbrev DTS := DEnds → Ev → Sto → Prop
abbrev DTG := D → Ev → Sto → (Ev → Sto → Prop) → Prop
abbrev DTGs := List D → Ev → Sto → (Ev → Sto → Prop) → Prop
def Post (K : PySem.W.Frag) (W : Wd) (H : Hp) (P : DP) (Q : VK) : Prop := ∀ d S' W' H' v, P d S' → Sim K W' S' H' → Stp W H W' H' → Rep K W' v d → Q v H'
def PostT (K : PySem.W.Frag) (W : Wd) (H : Hp) (P : Bool → Sto → Prop) (Q : Bool → Hp → Prop) : Prop := ∀ b S' W' H', P b S' → Sim K W' S' H' → Stp W H W' H' → Q b H'
def PostA (K : PySem.W.Frag) (W : Wd) (H : Hp) (P : List D → Sto → Prop) (Q : List V → Hp → Prop) : Prop := ∀ ds S' W' H' vs, P ds S' → Sim K W' S' H' → Stp W H W' H' → Reps K W' vs ds → Q vs H'
def PostN (K : PySem.W.Frag) (W : Wd) (H : Hp) (P : Ev → Sto → Prop) (Q : L2.St → Hp → Prop) : Prop := ∀ env S' W' H' σ, P env S' → Sim K W' S' H' → Stp W H W' H' → EnvR K W' env σ → Q σ H'
structure PostS (K : PySem.W.Frag) (W : Wd) (H : Hp) (E : DEnds) (D : Ends) : Prop where
  nx : PostN K W H E.nx D.nx
  rt : Post K W H E.rt D.rt
  bk : PostN K W H E.bk D.bk
  ct : PostN K W H E.ct D.ct
section
variable {K : PySem.W.Frag} {W W' : Wd} {H H' : Hp}
theorem Post.mono {P : DP} {Q : VK} (h : Post K W H P Q) (l : Stp W H W' H') : Post K W' H' P Q := fun d S' W2 H2 v p s l2 r => h d S' W2 H2 v p s (l.trans l2) r
theorem PostT.mono {P : Bool → Sto → Prop} {Q : Bool → Hp → Prop} (h : PostT K W H P Q) (l : Stp W H W' H') : PostT K W' H' P Q := fun d S' W2 H2 p s l2 => h d S' W2 H2 p s (l.trans l2)
theorem PostA.mono {P : List D → Sto → Prop} {Q : List V → Hp → Prop} (h : PostA K W H P Q) (l : Stp W H W' H') : PostA K W' H' P Q := fun d S' W2 H2 v p s l2 r => h d S' W2 H2 v p s (l.trans l2) r
theorem PostN.mono {P : Ev → Sto → Prop} {Q : L2.St → Hp → Prop} (h : PostN K W H P Q) (l : Stp W H W' H') : PostN K W' H' P Q := fun d S' W2 H2 v p s l2 r => h d S' W2 H2 v p s (l.trans l2) r
theorem PostS.mono {E : DEnds} {D : Ends} (h : PostS K W H E D) (l : Stp W H W' H') : PostS K W' H' E D := ⟨h.nx.mono l, h.rt.mono l, h.bk.mono l, h.ct.mono l⟩
end
def liftE (K : PySem.W.Frag) (W0 : Bs) (T : DTE) : TE := fun σ H Q => ∃ W env S P, W0.to W H ∧ Sim K W S H ∧ EnvR K W env σ ∧ T env S P ∧ Post K W H P Q
def liftT (K : PySem.W.Frag) (W0 : Bs) (T : DTT) : TT := fun σ H Q => ∃ W env S P, W0.to W H ∧ Sim K W S H ∧ EnvR K W env σ ∧ T env S P ∧ PostT K W H P Q
def liftA (K : PySem.W.Frag) (W0 : Bs) (T : DTA) : TA := fun σ H Q => ∃ W env S P, W0.to W H ∧ Sim K W S H ∧ EnvR K W env σ ∧ T env S P ∧ PostA K W H P Q
def liftS (K : PySem.W.Frag) (W0 : Bs) (T : DTS) : TS := fun D σ H => ∃ W env S E, W0.to W H ∧ Sim K W S H ∧ EnvR K W env σ ∧ T E env S ∧ PostS K W H E D
abbrev DE (X : Cx) (W0 : Bs) (e : Expr) (T : DTE) : Prop := PE X e (liftE X.K W0 T)
abbrev DT (X : Cx) (W0 : Bs) (e : Expr) (T : DTT) : Prop := PT X e (liftT X.K W0 T)
abbrev DW (X : Cx) (W0 : Bs) (e : Expr) (T : DTT) : Prop := PW X e (liftT X.K W0 T)
abbrev DA (X : Cx) (W0 : Bs) (es : List Expr) (T : DTA) : Prop := PA X es (liftA X.K W0 T)
abbrev DS (X : Cx) (W0 : Bs) (st : Stmt) (T : DTS) : Prop := PS X st (liftS X.K W0 T)
abbrev DSs (X : Cx) (W0 : Bs) (st : List Stmt) (T : DTS) : Prop := PSs X st (liftS X.K W0 T)
section
variable {X : Cx}
theorem _root_.L2.PE.imp {e : Expr} {t t' : TE} (h : PE X e t) (i : ∀ σ H Q, t' σ H Q → t σ H Q) : PE X e t' := ⟨fun pins s σ H Q I q => h.run pins s σ H Q I (i σ H Q q)⟩
theorem _root_.L2.PT.imp {e : Expr} {t t' : TT} (h : PT X e t) (i : ∀ σ H Q, t' σ H Q → t σ H Q) : PT X e t' := ⟨fun pins s σ H Q I q => h.run pins s σ H Q I (i σ H Q q)⟩
theorem _root_.L2.PW.imp {e : Expr} {t t' : TT} (h : PW X e t) (i : ∀ σ H Q, t' σ H Q → t σ H Q) : PW X e t' := ⟨fun w pins s σ H Q I q => h.run w pins s σ H Q I (i σ H Q q)⟩
theorem _root_.L2.PA.imp {es : List Expr} {t t' : TA} (h : PA X es t) (i : ∀ σ H Q, t' σ H Q → t σ H Q) : PA X es t' := ⟨fun p pins s σ H Q I q => h.run p pins s σ H Q I (i σ H Q q)⟩
theorem _root_.L2.PS.imp {st : Stmt} {t t' : TS} (h : PS X st t) (i : ∀ D σ H, t' D σ H → t D σ H) : PS X st t' := ⟨fun pins s σ H D I q => h.run pins s σ H D I (i D σ H q)⟩
theorem _root_.L2.PSs.imp {st : List Stmt} {t t' : TS} (h : PSs X st t) (i : ∀ D σ H, t' D σ H → t D σ H) : PSs X st t' := ⟨fun pins s σ H D I q => h.run pins s σ H D I (i D σ H q)⟩
theorem _root_.L2.PG.imp {e : Expr} {t t' : TG} (h : PG X e t) (i : ∀ v σ H Q, t' v σ H Q → t v σ H Q) : PG X e t' := ⟨fun pins s σ H v u Q I r q => h.run pins s σ H v u Q I r (i v σ H Q q)⟩
theorem _root_.L2.PGs.imp {es : List Expr} {t t' : TGs} (h : PGs X es t) (i : ∀ v σ H Q, t' v σ H Q → t v σ H Q) : PGs X es t' := ⟨fun pins s σ H v u Q I r q => h.run pins s σ H v u Q I r (i v σ H Q q)⟩
end
end DL
namespace DL
open PySem PySem.Spec PyProof.Rows L2
section
variable {K : PySem.W.Frag} {W : Wd} {S : Sto} {H : Hp}
/-- what stands in the heap, known to nobody, becomes pure -/
theorem Sim.adopt {p : Addr} {o : HO} (s : Sim K W S H) (hB : W.B p = none) (hm : p ∉ W.m) (hH : H p = some o) (hn : ∀ ps, o ≠ .tbl ps := by intro _ z; cases z) : Sim K (W.put p o) S H := by
  refine ⟨fun b u e => ?_, s.len, s.nd, s.dom, fun i a ob h1 h2 => ?_, Wd.put_ntb s.ntb hn⟩
  · by_cases hb : b = p
    · subst hb
      have e : upd W.B b o b = some u := e
      rw [upd_same] at e
      rw [hH]
      exact e
    · have e : upd W.B p o b = some u := e
      rw [upd_ne hb] at e
      exact s.same b u e
  · have hne : a ≠ p := fun z => hm (z ▸ List.mem_of_getElem? h1)
    refine (s.obj i a ob h1 h2).mono (Wd.le_put hB) ?_ rfl
    by_cases hb : W.B a = none
    · exact .inl (by show upd W.B p o a = none; rw [upd_ne hne]; exact hb)
    · exact .inr hb
theorem Sim.adoptO {p : Addr} {o : O} (s : Sim K W S H) (hB : W.B p = none) (hm : p ∉ W.m) (hH : H p ≠ none) (h : OR K (W.new p) H p o) : Sim K (W.new p) (S ++ [o]) H := by
  refine ⟨s.same, by show (W.m ++ [p]).length = _; simp [s.len], ?_, fun a ha => ?_, fun i a ob h1 h2 => ?_, s.ntb⟩
  · show (W.m ++ [p]).Nodup
    exact List.nodup_append.mpr ⟨s.nd, List.nodup_cons.mpr ⟨List.not_mem_nil, List.nodup_nil⟩, fun a ha b hb => by
      rw [List.mem_singleton] at hb
      subst hb
      exact fun z => hm (z ▸ ha)⟩
  · rcases List.mem_append.mp (show a ∈ W.m ++ [p] from ha) with ha | ha
    · exact s.dom a ha
    · rw [List.mem_singleton.mp ha]
      exact hH
  · have h1 : (W.m ++ [p])[i]? = some a := h1
    by_cases hi : i < W.m.length
    · rw [List.getElem?_append_left hi] at h1
      rw [List.getElem?_append_left (by rw [← s.len]; exact hi)] at h2
      refine (s.obj i a ob h1 h2).mono Wd.le_new ?_ rfl
      by_cases hb : W.B a = none
      · exact .inl hb
      · exact .inr hb
    · have hi2 : i = W.m.length := by
        have := (List.getElem?_eq_some_iff.mp h1).1
        rw [List.length_append, List.length_singleton] at this
        omega
      subst hi2
      rw [List.getElem?_append_right (Nat.le_refl _), Nat.sub_self] at h1
      rw [s.len, List.getElem?_append_right (Nat.le_refl _), Nat.sub_self] at h2
      cases h1
      cases h2
      exact h
end
abbrev DTN := Ev → Sto → (List D → Sto → Prop) → Prop
def PostL (K : PySem.W.Frag) (W : Wd) (H : Hp) (P : List D → Sto → Prop) (Q : VK) : Prop := ∀ ds S' W' H' p vs, P ds S' → Sim K W' S' H' → Stp W H W' H' → Fre H p → W'.B p = none → p ∉ W'.m → H' p = some (.lst vs) → Reps K W' vs ds → Q (.ref p) H'
theorem PostL.mono {K : PySem.W.Frag} {W W' : Wd} {H H' : Hp} {P : List D → Sto → Prop} {Q : VK} (h : PostL K W H P Q) (l : Stp W H W' H') : PostL K W' H' P Q := fun ds S' W2 H2 p vs q s l2 hp => h ds S' W2 H2 p vs q s (l.trans l2) (l.free hp)
/-- a list just laid -/
theorem Sim.lay {K : PySem.W.Frag} {W : Wd} {S : Sto} {H : Hp} {p : Addr} {o : HO} (s : Sim K W S H) (hp : H p = none) : Sim K W S (upd H p o) := by
  have hm : p ∉ W.m := fun z => s.dom p z hp
  refine ⟨fun b u e => upd_keep hp (s.same b u e), s.len, s.nd, fun a ha => upd_dom a (s.dom a ha), fun i a ob h1 h2 => ?_, s.ntb⟩
  refine (s.obj i a ob h1 h2).mono (Wd.le.refl _) ?_ (upd_ne fun z => hm (z ▸ List.mem_of_getElem? h1))
  by_cases hb : W.B a = none
  · exact .inl hb
  · exact .inr hb
theorem PostL.laid {K : PySem.W.Frag} {W : Wd} {S : Sto} {H : Hp} {P : List D → Sto → Prop} {Q : VK} {ds : List D} {vs : List V} (h : PostL K W H P Q) (q : P ds S) (s : Sim K W S H) (r : Reps K W vs ds) : ∀ p, H p = none → Q (.ref p) (upd H p (.lst vs)) := fun p hp =>
  h ds S W _ p vs q (s.lay hp) (.lay hp) (.of hp) (s.free hp) (fun z => s.dom p z hp) upd_same r
def liftN (K : PySem.W.Frag) (W0 : Bs) (T : DTN) : TE := fun σ H Q => ∃ W env S P, W0.to W H ∧ Sim K W S H ∧ EnvR K W env σ ∧ T env S P ∧ PostL K W H P Q
abbrev DN (X : Cx) (W0 : Bs) (e : Expr) (T : DTN) : Prop := PE X e (liftN X.K W0 T)
/-- a fresh list as a pure one; as a store object -/
def dPure (T : DTN) : DTE := fun env S P => T env S fun ds S' => P (.lst ds) S'
def dNew (T : DTN) : DTE := fun env S P => T env S fun ds S' => P (.ref S'.length) (S' ++ [.lst ds])
section
variable {X : Cx} {W0 : Bs} {e : Expr}
theorem de_pure {T : DTN} (h : DN X W0 e T) : DE X W0 e (dPure T) := PE.imp h fun σ H Q ⟨W, env, S, P, hW, sim, er, ht, post⟩ =>
  ⟨W, env, S, _, hW, sim, er, ht, fun ds S' W' H' p vs q s l hp hB hm hH r => post _ _ (W'.put p (.lst vs)) H' _ q (s.adopt hB hm hH) (l.adopt hp hB) (.lst upd_same (r.mono (Wd.le_put hB)))⟩
theorem de_new {T : DTN} (h : DN X W0 e T) : DE X W0 e (dNew T) := PE.imp h fun σ H Q ⟨W, env, S, P, hW, sim, er, ht, post⟩ =>
  ⟨W, env, S, _, hW, sim, er, ht, fun ds S' W' H' p vs q s l hp hB hm hH r => post _ _ (W'.new p) H' _ q (s.adoptO hB hm (by rw [hH]; exact fun z => nomatch z) ⟨hB, vs, hH, r.mono Wd.le_new⟩) (l.adoptO hp)
    (.ref (by show (W'.m ++ [p])[S'.length]? = some p; rw [← s.len, List.getElem?_append_right (Nat.le_refl _), Nat.sub_self]; rfl))⟩
end
def lstOf (S : Sto) : D → Option (List D)
  | .lst xs => some xs
  | .ref i => match S[i]? with
    | some (.lst xs) => some xs
    | _ => none
  | _ => none
/-- the items of a list or tuple -/
def seqOf (S : Sto) : D → Option (List D)
  | .tup xs => some xs
  | d => lstOf S d
section
variable {K : PySem.W.Frag} {W : Wd} {S : Sto} {H : Hp}
theorem Rep.lst_of {v : V} {d : D} {ds : List D} (s : Sim K W S H) (r : Rep K W v d) (h : lstOf S d = some ds) : ∃ a vs, v = .ref a ∧ H a = some (.lst vs) ∧ Reps K W vs ds := by
  cases r with
  | lst h1 h2 => cases h; exact ⟨_, _, rfl, s.same _ _ h1, h2⟩
  | @ref i a hi =>
    dsimp only [lstOf] at h
    cases hs : S[i]? with
    | none => rw [hs] at h; cases h
    | some o =>
      rw [hs] at h
      cases o with
      | lst xs =>
        cases h
        obtain ⟨_, vs, e, q⟩ := s.obj i a _ hi hs
        exact ⟨a, vs, rfl, e, q⟩
      | dead => cases h
      | ins C fs => cases h
      | dct ks xs => cases h
      | any ho => cases h
      | tab p q => cases h
  | _ => cases h
theorem Rep.seq_of {v : V} {d : D} {ds : List D} (s : Sim K W S H) (r : Rep K W v d) (h : seqOf S d = some ds) : ∃ a vs, v = .ref a ∧ (SqL K H a vs ∨ SqT K H a vs) ∧ Reps K W vs ds := by
  have go : lstOf S d = some ds → ∃ a vs, v = .ref a ∧ (SqL K H a vs ∨ SqT K H a vs) ∧ Reps K W vs ds := fun h =>
    let ⟨a, vs, e, q, r⟩ := r.lst_of s h
    ⟨a, vs, e, .inl (SqL.of q), r⟩
  cases r with
  | tup h1 h2 => cases h; exact ⟨_, _, rfl, .inr (same_sqt s.same h1), h2⟩
  | _ => exact go h
end
section
variable {X : Cx} {W0 : Bs}
def dVar (i : Nat) : DTE := fun env S P => ∃ d, env[i]? = some (some d) ∧ P d S
def dC (d : D) : DTE := fun _ S P => P d S
theorem de_var {i : Nat} {e : Expr} (h : PE X e (tVar i)) : DE X W0 e (dVar i) :=
  h.imp fun σ H Q ⟨W, env, S, P, hW, sim, er, ⟨d, he, hp⟩, post⟩ => let ⟨v, h1, h2⟩ := er.get i d he; ⟨v, h1, post d S W H v hp sim .refl h2⟩
theorem de_const {e : Expr} {v : V} {d : D} (h : PE X e (tC v)) (r : ∀ W, Rep X.K W v d) : DE X W0 e (dC d) := h.imp fun σ H Q ⟨W, env, S, P, hW, sim, er, hp, post⟩ => post d S W H v hp sim .refl (r W)
theorem de_int {i j pos} : DE X W0 (.Constant (.int i) j pos) (dC (.int i)) := de_const pe_int fun _ => .int i
theorem de_bl {i j pos} : DE X W0 (.Constant (.bool i) j pos) (dC (.bl i)) := de_const pe_bl fun _ => .bl i
theorem de_non {j pos} : DE X W0 (.Constant .none j pos) (dC .non) := de_const pe_non fun _ => .non
theorem de_str {i j pos} : DE X W0 (.Constant (.str i) j pos) (dC (.str i)) := de_const pe_str fun _ => .str i
theorem de_glob {x : Str} {v : V} {u : Value} {d : D} {pos : Pos} (hg : Gl X x) (hm : X.mg x = some u) (r : RelV v u) (q : ∀ W, Rep X.K W v d) (hd : (x == ("__debug__" : Str)) = false := by decide) : DE X W0 (.Name x pos) (dC d) := de_const (pe_glob hg hm r hd) q
theorem de_bltn {x : Str} {n : String} {pos : Pos} (hg : Gl X x) (hm : X.mg x = none) (hv : bootBuiltins x = some (.type n)) (hn : x ≠ "__name__" := by decide) (hd : (x == ("__debug__" : Str)) = false := by decide) : DE X W0 (.Name x pos) (dC (.ty n)) :=
  de_const (pe_bltn hg hm hv (v := .ty n) rfl hn hd) fun _ => .ty n
abbrev D2 := D → D → Sto → DP → Prop
def DOp (K : PySem.W.Frag) (r : R2) (R : D2) : Prop := ∀ W S H x y d1 d2 P Q, Sim K W S H → Rep K W x d1 → Rep K W y d2 → R d1 d2 S P → Post K W H P Q → r x y H Q
def dOp (R : D2) (Ta Tb : DTE) : DTE := fun env S P => Ta env S fun d1 S1 => Tb env S1 fun d2 S2 => R d1 d2 S2 P
theorem lift_op {r : R2} {R : D2} {Ta Tb : DTE} (hr : DOp X.K r R) {σ : L2.St} {H : Hp} {Q : VK} (h : liftE X.K W0 (dOp R Ta Tb) σ H Q) : tOp r (liftE X.K W0 Ta) (liftE X.K W0 Tb) σ H Q := by
  obtain ⟨W, env, S, P, hW, sim, er, ht, post⟩ := h
  exact ⟨W, env, S, _, hW, sim, er, ht, fun d1 S1 W1 H1 v1 p1 sim1 le1 rep1 => ⟨W1, env, S1, _, hW.trans le1, sim1, er.mono le1.le, p1, fun d2 S2 W2 H2 v2 p2 sim2 le2 rep2 =>
    hr W2 S2 H2 v1 v2 d1 d2 P Q sim2 (rep1.mono le2.le) rep2 p2 (post.mono (le1.trans le2))⟩⟩
variable {a b c : Expr} {Ta Tb Tc : DTE} {pos : Pos}
theorem de_op {op : Operator} {r : R2} {R : D2} (ho : OpR X (binaryOp op) r) (hr : DOp X.K r R) (ha : DE X W0 a Ta) (hb : DE X W0 b Tb) : DE X W0 (.BinOp a op b pos) (dOp R Ta Tb) := (pe_op ho ha hb).imp fun _ _ _ h => lift_op hr h
theorem de_cmp {op : CmpOp} {r : R2} {R : D2} (ho : OpR X (compareOp op) r) (hr : DOp X.K r R) (ha : DE X W0 a Ta) (hb : DE X W0 b Tb) (hm : behindInMarks op b = false) : DE X W0 (.Compare a [op] [b] pos) (dOp R Ta Tb) := (pe_cmpR ho ha hb hm).imp fun _ _ _ h => lift_op hr h
/-- a value that is a bool, as a test -/
def dBx (B : Bool → Prop) (d : D) : Prop := ∃ k, d = .bl k ∧ B k
def dB (T : DTE) : DTT := fun env S P => T env S fun d S' => dBx (fun k => P k S') d
theorem Rep.bool {K : PySem.W.Frag} {W : Wd} {v : V} {k : Bool} (r : Rep K W v (.bl k)) : v = .bl k := by cases r; rfl
theorem Rep.intV {K : PySem.W.Frag} {W : Wd} {v : V} {k : Int} (r : Rep K W v (.int k)) : v = .int k := by cases r; rfl
theorem Rep.strV {K : PySem.W.Frag} {W : Wd} {v : V} {k : Str} (r : Rep K W v (.str k)) : v = .str k := by cases r; rfl
theorem Rep.nonV {K : PySem.W.Frag} {W : Wd} {v : V} (r : Rep K W v .non) : v = .non := by cases r; rfl
theorem lift_B {T : DTE} {σ : L2.St} {H : Hp} {Q : Bool → Hp → Prop} (h : liftT X.K W0 (dB T) σ H Q) : liftE X.K W0 T σ H fun x H' => ∃ k, x = .bl k ∧ Q k H' := by
  obtain ⟨W, env, S, P, hW, sim, er, ht, post⟩ := h
  exact ⟨W, env, S, _, hW, sim, er, ht, fun d S' W' H' v ⟨k, e, p⟩ s l r => ⟨k, by subst e; exact r.bool, post k S' W' H' p s l⟩⟩
theorem dt_cmp {op : CmpOp} {r : R2} {R : D2} (ho : OpR X (compareOp op) r) (hr : DOp X.K r R) (ha : DE X W0 a Ta) (hb : DE X W0 b Tb) (hm : behindInMarks op b = false) : DT X W0 (.Compare a [op] [b] pos) (dB (dOp R Ta Tb)) :=
  (pt_cmpR ho ha hb hm).imp fun _ _ _ h => lift_op hr (lift_B h)
theorem dt_val {e : Expr} {T : DTE} (h : DE X W0 e T) (he : ∀ whole, isTrue e X.env whole = (do let v ← whole; standAt e.pos; holding [v] (truthy v)) := by intro _; rfl) : DT X W0 e (dB T) := (pt_val h he).imp fun _ _ _ q => lift_B q
def dI (C : Int → Int → Prop) (g : Int → Int → D) : D2 := fun x y S P => ∃ i j, x = .int i ∧ y = .int j ∧ C i j ∧ P (g i j) S
theorem dop_I {K : PySem.W.Frag} {C : Int → Int → Prop} {g : Int → Int → V} {g' : Int → Int → D} (hg : ∀ W i j, Rep K W (g i j) (g' i j)) : DOp K (rI C g) (dI C g') := by
  intro W S H x y d1 d2 P Q s r1 r2 h post
  obtain ⟨i, j, rfl, rfl, hc, p⟩ := h
  exact ⟨i, j, r1.intV, r2.intV, hc, post _ _ W H _ p s .refl (hg W i j)⟩
def dI0 (g : Int → Int → D) : D2 := fun x y S P => ∃ i j, x = .int i ∧ y = .int j ∧ P (g i j) S
theorem dop_I0 {K : PySem.W.Frag} {g : Int → Int → V} {g' : Int → Int → D} (hg : ∀ W i j, Rep K W (g i j) (g' i j)) : DOp K (rI0 g) (dI0 g') := by
  intro W S H x y d1 d2 P Q s r1 r2 h post
  obtain ⟨i, j, rfl, rfl, p⟩ := h
  exact ⟨i, j, r1.intV, r2.intV, post _ _ W H _ p s .refl (hg W i j)⟩
theorem de_sub (ha : DE X W0 a Ta) (hb : DE X W0 b Tb) : DE X W0 (.BinOp a .Sub b pos) (dOp (dI0 fun i j => .int (i - j)) Ta Tb) := de_op op_sub (dop_I0 fun _ _ _ => .int _) ha hb
theorem de_mod (ha : DE X W0 a Ta) (hb : DE X W0 b Tb) : DE X W0 (.BinOp a .Mod b pos) (dOp (dI (fun _ j => 0 < j) fun i j => .int (i % j)) Ta Tb) := de_op op_mod (dop_I fun _ _ _ => .int _) ha hb
theorem de_fdiv (ha : DE X W0 a Ta) (hb : DE X W0 b Tb) : DE X W0 (.BinOp a .FloorDiv b pos) (dOp (dI CDiv fun i j => .int (i / j)) Ta Tb) := de_op op_fdiv (dop_I fun _ _ _ => .int _) ha hb
theorem de_pow (ha : DE X W0 a Ta) (hb : DE X W0 b Tb) : DE X W0 (.BinOp a .Pow b pos) (dOp (dI CPow fun i j => .int (i ^ j.toNat)) Ta Tb) := de_op op_pow (dop_I fun _ _ _ => .int _) ha hb
abbrev rLt : D2 := dI0 fun i j => .bl (decide (i < j))
abbrev rLe : D2 := dI0 fun i j => .bl (decide (i ≤ j))
abbrev rGe : D2 := dI0 fun i j => .bl (decide (j ≤ i))
theorem do_lt {K : PySem.W.Frag} : DOp K (rI0 fun i j => .bl (decide (i < j))) rLt := dop_I0 fun _ _ _ => .bl _
theorem do_le {K : PySem.W.Frag} : DOp K (rI0 fun i j => .bl (decide (i ≤ j))) rLe := dop_I0 fun _ _ _ => .bl _
theorem do_ge {K : PySem.W.Frag} : DOp K (rI0 fun i j => .bl (decide (j ≤ i))) rGe := dop_I0 fun _ _ _ => .bl _
def dCat : D → D → Sto → (List D → Sto → Prop) → Prop := fun x y S P => ∃ xs ys, lstOf S x = some xs ∧ lstOf S y = some ys ∧ xs.length + ys.length ≤ sizeLine ∧ P (xs ++ ys) S
def dAdd : D2 := fun x y S P => match x, y with
  | .int i, .int j => P (.int (i + j)) S
  | .tup xs, .tup ys => xs.length + ys.length ≤ sizeLine ∧ P (.tup (xs ++ ys)) S
  | _, _ => dCat x y S fun zs S' => P (.lst zs) S'
end
end DL
namespace DL
open PySem PySem.Spec PyProof.Rows L2
section
variable {X : Cx} {W0 : Bs} {a b c e : Expr} {es : List Expr} {Ta Tb Tc T : DTE} {TA TB : DTT} {TR : DTA} {pos p : Pos}
theorem Rep.tupV {K : PySem.W.Frag} {W : Wd} {v : V} {ds : List D} (r : Rep K W v (.tup ds)) : ∃ a vs, v = .ref a ∧ SqT K W.B a vs ∧ Reps K W vs ds := by cases r with | tup h1 h2 => exact ⟨_, _, rfl, h1, h2⟩
theorem Reps.nil_iff {K : PySem.W.Frag} {W : Wd} {vs : List V} {ds : List D} (r : Reps K W vs ds) : vs = [] ↔ ds = [] := by
  cases r with
  | nil => simp
  | cons _ _ => simp
def rAddA (K : PySem.W.Frag) : R2 := fun x y H Q => (∃ i j, x = .int i ∧ y = .int j ∧ Q (.int (i + j)) H) ∨ (rCatA K x y H Q ∨ rCat x y H Q)
theorem op_addA : OpR X (binaryOp .Add) (rAddA X.K) := OpR.or op_add (OpR.or op_catA op_cat)
theorem do_cat {K : PySem.W.Frag} {W : Wd} {S : Sto} {H : Hp} {x y : V} {d1 d2 : D} {P : List D → Sto → Prop} {Q : VK} (s : Sim K W S H) (r1 : Rep K W x d1) (r2 : Rep K W y d2) (h : dCat d1 d2 S P) (post : PostL K W H P Q) : rCat x y H Q := by
  obtain ⟨xs, ys, e1, e2, hl, q⟩ := h
  obtain ⟨p1, v1, rfl, a1, b1⟩ := r1.lst_of s e1
  obtain ⟨p2, v2, rfl, a2, b2⟩ := r2.lst_of s e2
  exact ⟨p1, p2, v1, v2, rfl, rfl, a1, a2, by rw [b1.length, b2.length]; exact hl, post.laid q s (b1.app b2)⟩
theorem PostL.ofPure {K : PySem.W.Frag} {W : Wd} {H : Hp} {P : DP} {Q : VK} (post : Post K W H P Q) : PostL K W H (fun ds S => P (.lst ds) S) Q := fun ds S' W' H' p vs q s l hp hB hm hH r =>
  post _ _ (W'.put p (.lst vs)) H' _ q (s.adopt hB hm hH) (l.adopt hp hB) (.lst upd_same (r.mono (Wd.le_put hB)))
theorem Post.newT {K : PySem.W.Frag} {W : Wd} {S : Sto} {H : Hp} {P : DP} {Q : VK} {vs : List V} {ds : List D} (post : Post K W H P Q) (s : Sim K W S H) (r : Reps K W vs ds) (q : P (.tup ds) S) : ∀ p, H p = none → Q (.ref p) (upd H p (.tup vs)) := fun p hp =>
  post _ _ (W.put p (.tup vs)) _ _ q (s.put hp) (.put s hp) (.tup (.inl (.inl upd_same)) (r.mono (Wd.le_put (s.free hp))))
theorem do_add {K : PySem.W.Frag} : DOp K (rAddA K) dAdd := by
  intro W S H x y d1 d2 P Q s r1 r2 h post
  unfold dAdd at h
  split at h
  · rename_i i j
    exact .inl ⟨i, j, r1.intV, r2.intV, post _ _ W H _ h s .refl (.int _)⟩
  · rename_i xs ys
    obtain ⟨hl, q⟩ := h
    obtain ⟨p1, v1, rfl, a1, b1⟩ := r1.tupV
    obtain ⟨p2, v2, rfl, a2, b2⟩ := r2.tupV
    refine .inr (.inl ⟨p1, p2, v1, v2, rfl, rfl, same_sqt s.same a1, same_sqt s.same a2, by rw [b1.length, b2.length]; exact hl, fun z => ?_, fun _ z => ?_, fun _ _ => post.newT s (b1.app b2) q⟩)
    · have e : xs = [] := b1.nil_iff.mp z
      subst e
      exact post _ _ W H _ q s .refl (.tup a2 b2)
    · have e : ys = [] := b2.nil_iff.mp z
      subst e
      rw [List.append_nil] at q
      exact post _ _ W H _ q s .refl (.tup a1 b1)
  · exact .inr (.inr (do_cat s r1 r2 h (PostL.ofPure post)))
theorem de_add (ha : DE X W0 a Ta) (hb : DE X W0 b Tb) : DE X W0 (.BinOp a .Add b pos) (dOp dAdd Ta Tb) := de_op op_addA do_add ha hb
abbrev D2N := D → D → Sto → (List D → Sto → Prop) → Prop
def dOpN (R : D2N) (Ta Tb : DTE) : DTN := fun env S P => Ta env S fun d1 S1 => Tb env S1 fun d2 S2 => R d1 d2 S2 P
def DOpN (K : PySem.W.Frag) (r : R2) (R : D2N) : Prop := ∀ W S H x y d1 d2 P Q, Sim K W S H → Rep K W x d1 → Rep K W y d2 → R d1 d2 S P → PostL K W H P Q → r x y H Q
theorem lift_opN {r : R2} {R : D2N} {Ta Tb : DTE} (hr : DOpN X.K r R) {σ : L2.St} {H : Hp} {Q : VK} (h : liftN X.K W0 (dOpN R Ta Tb) σ H Q) : tOp r (liftE X.K W0 Ta) (liftE X.K W0 Tb) σ H Q := by
  obtain ⟨W, env, S, P, hW, sim, er, ht, post⟩ := h
  exact ⟨W, env, S, _, hW, sim, er, ht, fun d1 S1 W1 H1 v1 p1 sim1 le1 rep1 => ⟨W1, env, S1, _, hW.trans le1, sim1, er.mono le1.le, p1, fun d2 S2 W2 H2 v2 p2 sim2 le2 rep2 =>
    hr W2 S2 H2 v1 v2 d1 d2 P Q sim2 (rep1.mono le2.le) rep2 p2 (post.mono (le1.trans le2))⟩⟩
theorem dn_add (ha : DE X W0 a Ta) (hb : DE X W0 b Tb) : DN X W0 (.BinOp a .Add b pos) (dOpN dCat Ta Tb) := (pe_op op_cat ha hb).imp fun _ _ _ h => lift_opN (fun W S H x y d1 d2 P Q s r1 r2 h post => do_cat s r1 r2 h post) h
def dRep : D2N := fun x y S P => ∃ xs k, lstOf S x = some xs ∧ y = .int k ∧ -(2 ^ 63) ≤ k ∧ k < 2 ^ 63 ∧ xs.length * k.toNat ≤ sizeLine ∧ P (List.replicate k.toNat xs).flatten S
theorem Reps.rep {K : PySem.W.Frag} {W : Wd} {vs : List V} {ds : List D} (r : Reps K W vs ds) : ∀ n : Nat, Reps K W (List.replicate n vs).flatten (List.replicate n ds).flatten
  | 0 => .nil
  | n + 1 => by
    rw [List.replicate_succ, List.replicate_succ, List.flatten_cons, List.flatten_cons]
    exact r.app (Reps.rep r n)
theorem dn_rep (ha : DE X W0 a Ta) (hb : DE X W0 b Tb) : DN X W0 (.BinOp a .Mult b pos) (dOpN dRep Ta Tb) := (pe_op op_rep ha hb).imp fun _ _ _ h => lift_opN (fun W S H x y d1 d2 P Q s r1 r2 h post => by
  obtain ⟨xs, k, e1, rfl, h1, h2, hz, q⟩ := h
  obtain ⟨p1, v1, rfl, a1, b1⟩ := r1.lst_of s e1
  exact ⟨p1, k, v1, rfl, r2.intV, a1, h1, h2, by rw [b1.length]; exact hz, post.laid q s (b1.rep k.toNat)⟩) h
end
end DL
namespace DL
open PySem PySem.Spec PyProof.Rows L2
section
variable {X : Cx} {W0 : Bs} {a b c e : Expr} {es : List Expr} {Ta Tb Tc T : DTE} {TA TB : DTT} {TR : DTA} {pos p : Pos}
def allOf (f : D → Option PyData) : List D → Option (List PyData)
  | [] => some []
  | x :: xs => match f x, allOf f xs with
    | some p, some ps => some (p :: ps)
    | _, _ => none
def pyOf (S : Sto) : Nat → D → Option PyData
  | 0, _ => none
  | _ + 1, .non => some .none
  | _ + 1, .bl b => some (.bool b)
  | _ + 1, .int i => some (.int i)
  | _ + 1, .str x => some (.str x)
  | n + 1, .tup xs => (allOf (pyOf S n) xs).map .tuple
  | n + 1, .lst xs => (allOf (pyOf S n) xs).map .list
  | n + 1, .ref i => match S[i]? with
    | some (.lst xs) => (allOf (pyOf S n) xs).map .list
    | _ => none
  | _ + 1, _ => none
theorem Reps.dp {K : PySem.W.Frag} {W : Wd} {H : Hp} {f : D → Option PyData} (hf : ∀ v d q, Rep K W v d → f d = some q → Dp K H v q) : ∀ {vs : List V} {ds : List D} {qs : List PyData}, Reps K W vs ds → allOf f ds = some qs → DpAll K H vs qs
  | _, _, _, .nil, e => by cases e; exact .nil
  | _, _, _, .cons (d := d) (ds := ds) h r, e => by
    unfold allOf at e
    cases h1 : f d with
    | none => rw [h1] at e; cases e
    | some q =>
      cases h2 : allOf f ds with
      | none => rw [h1, h2] at e; cases e
      | some qs =>
        rw [h1, h2] at e
        cases e
        exact .cons (hf _ _ _ h h1) (Reps.dp hf r h2)
theorem Rep.dp {K : PySem.W.Frag} {W : Wd} {S : Sto} {H : Hp} (s : Sim K W S H) : ∀ (n : Nat) (v : V) (d : D) (q : PyData), Rep K W v d → pyOf S n d = some q → Dp K H v q
  | 0, _, _, _, _, e => by cases e
  | n + 1, v, d, q, r, e => by
    have ih := Rep.dp s n
    cases r with
    | non => cases e; exact .non
    | bl b => cases e; exact .bl b
    | int i => cases e; exact .int i
    | str x => cases e; exact .str x
    | tup h1 h2 =>
      obtain ⟨qs, e1, rfl⟩ := Option.map_eq_some_iff.mp e
      exact .tup (same_sqt s.same h1) (h2.dp ih e1)
    | lst h1 h2 =>
      obtain ⟨qs, e1, rfl⟩ := Option.map_eq_some_iff.mp e
      exact .lst (SqL.of (s.same _ _ h1)) (h2.dp ih e1)
    | @ref i a hi =>
      dsimp only [pyOf] at e
      cases hs : S[i]? with
      | none => rw [hs] at e; cases e
      | some o =>
        rw [hs] at e
        cases o with
        | lst xs =>
          obtain ⟨qs, e1, rfl⟩ := Option.map_eq_some_iff.mp e
          obtain ⟨_, vs, e2, r2⟩ := s.obj i a _ hi hs
          exact .lst (SqL.of e2) (r2.dp ih e1)
        | dead => cases e
        | ins C fs => cases e
        | dct ks xs => cases e
        | any ho => cases e
        | tab p q => cases e
    | dct _ _ _ => cases e
    | ty _ => cases e
    | scr _ => cases e
    | adr _ => cases e
    | fn _ => cases e
/-- == of any data; g: the answer made of the comparison's -/
def dEqG (g : Bool → Bool) : D2 := fun x y S P => match x, y with
  | .int i, .int j => P (.bl (g (decide (i = j)))) S
  | .str i, .str j => P (.bl (g (decide (i = j)))) S
  | .bl i, .bl j => P (.bl (g (decide (i = j)))) S
  | _, _ => ∃ n q r, pyOf S n x = some q ∧ pyOf S n y = some r ∧ SeqAt.shaped q = true ∧ SeqAt.shaped r = true ∧ P (.bl (g (PyData.eqv q r))) S
abbrev dEq : D2 := dEqG id
abbrev dNe : D2 := dEqG not
def rEqA (K : PySem.W.Frag) : R2 := fun x y H Q => rEq x y H Q ∨ rEqD K x y H Q
def rNeA (K : PySem.W.Frag) : R2 := fun x y H Q => rNe x y H Q ∨ rNeD K x y H Q
theorem do_eq {K : PySem.W.Frag} : DOp K (rEqA K) dEq := by
  intro W S H x y d1 d2 P Q s r1 r2 h post
  unfold dEq dEqG at h
  split at h
  · rw [r1.intV, r2.intV]
    refine .inl ⟨rfl, ?_⟩
    simp only [V.int.injEq]
    exact post _ _ W H _ h s .refl (.bl _)
  · rw [r1.strV, r2.strV]
    refine .inl ⟨rfl, ?_⟩
    simp only [V.str.injEq]
    exact post _ _ W H _ h s .refl (.bl _)
  · rw [r1.bool, r2.bool]
    refine .inl ⟨rfl, ?_⟩
    simp only [V.bl.injEq]
    exact post _ _ W H _ h s .refl (.bl _)
  · obtain ⟨n, q, r, e1, e2, h1, h2, p⟩ := h
    exact .inr ⟨q, r, Rep.dp s n _ _ _ r1 e1, Rep.dp s n _ _ _ r2 e2, h1, h2, post _ _ W H _ p s .refl (.bl _)⟩
theorem do_ne {K : PySem.W.Frag} : DOp K (rNeA K) dNe := by
  intro W S H x y d1 d2 P Q s r1 r2 h post
  unfold dNe dEqG at h
  split at h
  · rw [r1.intV, r2.intV]
    refine .inl ⟨rfl, ?_⟩
    simp only [V.int.injEq]
    exact post _ _ W H _ h s .refl (.bl _)
  · rw [r1.strV, r2.strV]
    refine .inl ⟨rfl, ?_⟩
    simp only [V.str.injEq]
    exact post _ _ W H _ h s .refl (.bl _)
  · rw [r1.bool, r2.bool]
    refine .inl ⟨rfl, ?_⟩
    simp only [V.bl.injEq]
    exact post _ _ W H _ h s .refl (.bl _)
  · obtain ⟨n, q, r, e1, e2, h1, h2, p⟩ := h
    exact .inr ⟨q, r, Rep.dp s n _ _ _ r1 e1, Rep.dp s n _ _ _ r2 e2, h1, h2, post _ _ W H _ p s .refl (.bl _)⟩
theorem op_eqA (hu : X.A.units + 64 < cLine) : OpR X (compareOp .Eq) (rEqA X.K) := OpR.or op_eq (op_eqD hu)
theorem op_neA (hu : X.A.units + 64 < cLine) : OpR X (compareOp .NotEq) (rNeA X.K) := OpR.or op_ne (op_neD hu)
def isNon : D → Bool
  | .non => true
  | _ => false
theorem Rep.isN {K : PySem.W.Frag} {W : Wd} {v : V} {d : D} (r : Rep K W v d) : decide (v = .non) = isNon d := by
  cases r <;> first | rfl | exact decide_eq_false fun z => nomatch z
def dIs (g : Bool → Bool) : D2 := fun x y S P => y = .non ∧ P (.bl (g (isNon x))) S
theorem do_isN {K : PySem.W.Frag} : DOp K (fun x y H Q => y = .non ∧ Q (.bl (decide (x = .non))) H) (dIs id) := by
  intro W S H x y d1 d2 P Q s r1 r2 ⟨e, h⟩ post
  subst e
  exact ⟨r2.nonV, post _ _ W H _ h s .refl (by rw [r1.isN]; exact .bl _)⟩
theorem do_notN {K : PySem.W.Frag} : DOp K (fun x y H Q => y = .non ∧ Q (.bl (!decide (x = .non))) H) (dIs not) := by
  intro W S H x y d1 d2 P Q s r1 r2 ⟨e, h⟩ post
  subst e
  exact ⟨r2.nonV, post _ _ W H _ h s .refl (by rw [r1.isN]; exact .bl _)⟩
def flatD : D → Option V
  | .non => some .non
  | .bl b => some (.bl b)
  | .int i => some (.int i)
  | .str x => some (.str x)
  | _ => none
def flatsD : List D → Option (List V)
  | [] => some []
  | x :: xs => match flatD x, flatsD xs with
    | some v, some vs => some (v :: vs)
    | _, _ => none
theorem Rep.flat {K : PySem.W.Frag} {W : Wd} {v v' : V} {d : D} (r : Rep K W v d) (h : flatD d = some v') : v = v' ∧ flatV v = true := by
  cases r <;> first | (cases h; exact ⟨rfl, rfl⟩) | cases h
theorem Reps.flat {K : PySem.W.Frag} {W : Wd} : ∀ {vs vs' : List V} {ds : List D}, Reps K W vs ds → flatsD ds = some vs' → vs = vs' ∧ vs.all flatV = true
  | _, _, _, .nil, h => by cases h; exact ⟨rfl, rfl⟩
  | _, _, _, .cons (d := d) (ds := ds) r rs, h => by
    unfold flatsD at h
    cases h1 : flatD d with
    | none => rw [h1] at h; cases h
    | some u =>
      cases h2 : flatsD ds with
      | none => rw [h1, h2] at h; cases h
      | some us =>
        rw [h1, h2] at h
        cases h
        obtain ⟨e1, f1⟩ := r.flat h1
        obtain ⟨e2, f2⟩ := rs.flat h2
        subst e1 e2
        exact ⟨rfl, by rw [List.all_cons, f1, f2]; rfl⟩
def dIn (neg : Bool) : D2 := fun x y S P => ∃ ys v vs, seqOf S y = some ys ∧ flatD x = some v ∧ flatsD ys = some vs ∧ P (.bl (if neg then !inV v vs else inV v vs)) S
theorem do_in {K : PySem.W.Frag} {neg : Bool} : DOp K (rIn K neg) (dIn neg) := by
  intro W S H x y d1 d2 P Q s r1 r2 ⟨ys, v, vs, e1, e2, e3, h⟩ post
  obtain ⟨p, ws, rfl, hq, rr⟩ := r2.seq_of s e1
  obtain ⟨rfl, f1⟩ := r1.flat e2
  obtain ⟨rfl, f2⟩ := rr.flat e3
  exact ⟨p, ws, rfl, hq, f1, f2, post _ _ W H _ h s .refl (.bl _)⟩
def dChain (R R' : D2) (Ta Tb Tc : DTE) : DTE := fun env S P => Ta env S fun x S1 => Tb env S1 fun y S2 => R x y S2 fun z S3 => dBx (fun k => if k = true then Tc env S3 fun w S4 => R' y w S4 P else P (.bl false) S3) z
theorem lift_chain {r r' : R2} {R R' : D2} (hr : DOp X.K r R) (hr' : DOp X.K r' R') {σ : L2.St} {H : Hp} {Q : VK} (h : liftE X.K W0 (dChain R R' Ta Tb Tc) σ H Q) : tChain r r' (liftE X.K W0 Ta) (liftE X.K W0 Tb) (liftE X.K W0 Tc) σ H Q := by
  obtain ⟨W, env, S, P, hW, sim, er, ht, post⟩ := h
  refine ⟨W, env, S, _, hW, sim, er, ht, fun d1 S1 W1 H1 v1 p1 sim1 le1 rep1 => ⟨W1, env, S1, _, hW.trans le1, sim1, er.mono le1.le, p1, fun d2 S2 W2 H2 v2 p2 sim2 le2 rep2 => ?_⟩⟩
  refine hr W2 S2 H2 v1 v2 d1 d2 _ _ sim2 (rep1.mono le2.le) rep2 p2 fun z S3 W3 H3 v3 ⟨k, e, q⟩ sim3 le3 rep3 => ?_
  subst e
  refine ⟨k, rep3.bool, ?_⟩
  cases k with
  | true => exact ⟨W3, env, S3, _, hW.trans (le1.trans (le2.trans le3)), sim3, er.mono (le1.trans (le2.trans le3)).le, q, fun d4 S4 W4 H4 v4 p4 sim4 le4 rep4 =>
      hr' W4 S4 H4 v2 v4 d2 d4 P Q sim4 (rep2.mono (le3.trans le4).le) rep4 p4 (post.mono (le1.trans (le2.trans (le3.trans le4))))⟩
  | false => exact post _ _ W3 H3 _ q sim3 (le1.trans (le2.trans le3)) (.bl false)
theorem de_chain {op op' : CmpOp} {r r' : R2} {R R' : D2} (ho : OpR X (compareOp op) r) (ho' : OpR X (compareOp op') r') (hr : DOp X.K r R) (hr' : DOp X.K r' R') (ha : DE X W0 a Ta) (hb : DE X W0 b Tb) (hc : DE X W0 c Tc)
    (hm : lastMarks [op, op'] [b, c] = false := by with_unfolding_all rfl) : DE X W0 (.Compare a [op, op'] [b, c] pos) (dChain R R' Ta Tb Tc) := (pe_chain ho ho' ha hb hc hm).imp fun _ _ _ h => lift_chain hr hr' h
def dAnd (TA TB : DTT) : DTT := fun env S P => TA env S fun k S1 => if k = true then TB env S1 P else P false S1
def dOr (TA TB : DTT) : DTT := fun env S P => TA env S fun k S1 => if k = true then P true S1 else TB env S1 P
def dNot (TA : DTT) : DTT := fun env S P => TA env S fun k S1 => P (!k) S1
variable {rest : List Expr}
theorem lift_if {TA : DTT} {σ : L2.St} {H : Hp} {W : Wd} {env : Ev} {S : Sto} {F : Bool → Hp → Prop} {G : Bool → Sto → Prop} (hW : W0.to W H) (sim : Sim X.K W S H) (er : EnvR X.K W env σ) (ht : TA env S G)
    (h : ∀ k S1 W1 H1, G k S1 → Sim X.K W1 S1 H1 → Stp W H W1 H1 → F k H1) : liftT X.K W0 TA σ H F := ⟨W, env, S, G, hW, sim, er, ht, fun k S1 W1 H1 q s l => h k S1 W1 H1 q s l⟩
theorem dw_or (ha : DT X W0 a TA) (hb : DW X W0 (.BoolOp .Or (b :: rest) pos) TB) : DW X W0 (.BoolOp .Or (a :: b :: rest) pos) (dOr TA TB) := (pw_or ha hb).imp fun σ H Q ⟨W, env, S, P, hW, sim, er, ht, post⟩ =>
  lift_if hW sim er ht fun k S1 W1 H1 q s l => by
    cases k with
    | false => exact ⟨W1, env, S1, P, hW.trans l, s, er.mono l.le, q, post.mono l⟩
    | true => exact post _ _ W1 H1 q s l
theorem dw_or1 (ha : DT X W0 a TA) : DW X W0 (.BoolOp .Or [a] pos) TA := pw_or1 ha
theorem dt_w (h : DW X W0 e TA) : DT X W0 e TA := h.pt
theorem dt_not (ha : DT X W0 a TA) : DT X W0 (.UnaryOp .Not a pos) (dNot TA) := (pt_not ha).imp fun σ H Q ⟨W, env, S, P, hW, sim, er, ht, post⟩ => lift_if hW sim er ht fun k S1 W1 H1 q s l => post _ _ W1 H1 q s l
def dIf (TA : DTT) (Ta Tb : DTE) : DTE := fun env S P => TA env S fun k S1 => if k = true then Ta env S1 P else Tb env S1 P
theorem de_if (hc : DT X W0 c TA) (ha : DE X W0 a Ta) (hb : DE X W0 b Tb) : DE X W0 (.IfExp c a b pos) (dIf TA Ta Tb) := (pe_ifExp hc ha hb).imp fun σ H Q ⟨W, env, S, P, hW, sim, er, ht, post⟩ =>
  lift_if hW sim er ht fun k S1 W1 H1 q s l => by
    cases k with
    | true => exact ⟨W1, env, S1, P, hW.trans l, s, er.mono l.le, q, post.mono l⟩
    | false => exact ⟨W1, env, S1, P, hW.trans l, s, er.mono l.le, q, post.mono l⟩
/-- and, or, not as values, of bools -/
def dAndV (Ta Tb : DTE) : DTE := fun env S P => Ta env S fun x S1 => dBx (fun k => if k = true then Tb env S1 P else P (.bl false) S1) x
def dOrV (Ta Tb : DTE) : DTE := fun env S P => Ta env S fun x S1 => dBx (fun k => if k = true then P (.bl true) S1 else Tb env S1 P) x
def dNotV (Ta : DTE) : DTE := fun env S P => Ta env S fun x S1 => dBx (fun k => P (.bl (!k)) S1) x
theorem de_one {op} (h : DE X W0 a Ta) : DE X W0 (.BoolOp op [a] pos) Ta := pe_one h
theorem de_and (ha : DE X W0 a Ta) (hb : DE X W0 (.BoolOp .And (b :: rest) pos) Tb) : DE X W0 (.BoolOp .And (a :: b :: rest) pos) (dAndV Ta Tb) := (pe_and ha hb).imp fun σ H Q ⟨W, env, S, P, hW, sim, er, ht, post⟩ =>
  ⟨W, env, S, _, hW, sim, er, ht, fun x S1 W1 H1 v ⟨k, e, q⟩ s l r => by
    subst e
    refine ⟨k, r.bool, ?_⟩
    cases k with
    | true => exact ⟨W1, env, S1, P, hW.trans l, s, er.mono l.le, q, post.mono l⟩
    | false => exact post _ _ W1 H1 _ q s l (.bl false)⟩
theorem de_not (ha : DE X W0 a Ta) : DE X W0 (.UnaryOp .Not a pos) (dNotV Ta) := (pe_not ha).imp fun σ H Q ⟨W, env, S, P, hW, sim, er, ht, post⟩ =>
  ⟨W, env, S, _, hW, sim, er, ht, fun x S1 W1 H1 v ⟨k, e, q⟩ s l r => by
    subst e
    exact ⟨k, r.bool, post _ _ W1 H1 _ q s l (.bl _)⟩⟩
def dNil : DTA := fun _ S P => P [] S
def dCons (Ta : DTE) (TR : DTA) : DTA := fun env S P => Ta env S fun x S1 => TR env S1 fun xs S2 => P (x :: xs) S2
def xStar (F : List D → Prop) (x : D) (S : Sto) : Prop := ∃ xs, seqOf S x = some xs ∧ F xs
def dStar (Ta : DTE) (TR : DTA) : DTA := fun env S P => Ta env S fun x S1 => xStar (fun xs => TR env S1 fun ys S2 => P (xs ++ ys) S2) x S1
theorem da_nil : DA X W0 [] dNil := pa_nil.imp fun σ H Q ⟨W, env, S, P, hW, sim, er, ht, post⟩ => post [] S W H [] ht sim .refl .nil
theorem da_cons (ha : DE X W0 a Ta) (hr : DA X W0 es TR) (hs : starEach (a :: es) X.env = (false, eval a X.env) :: starEach es X.env := by rfl) : DA X W0 (a :: es) (dCons Ta TR) :=
  (pa_cons ha hr hs).imp fun σ H Q ⟨W, env, S, P, hW, sim, er, ht, post⟩ => ⟨W, env, S, _, hW, sim, er, ht, fun x S1 W1 H1 v q s l r =>
    ⟨W1, env, S1, _, hW.trans l, s, er.mono l.le, q, fun xs S2 W2 H2 vs q2 s2 l2 r2 => post _ _ W2 H2 _ q2 s2 (l.trans l2) (.cons (r.mono l2.le) r2)⟩⟩
def dTup (TR : DTA) : DTE := fun env S P => TR env S fun xs S1 => xs.length ≤ sizeLine ∧ P (.tup xs) S1
def dLst (TR : DTA) : DTN := fun env S P => TR env S fun xs S1 => xs.length ≤ sizeLine ∧ P xs S1
theorem de_tup {x1} (h : DA X W0 es TR) : DE X W0 (.Tuple es x1 pos) (dTup TR) := (pe_tup h).imp fun σ H Q ⟨W, env, S, P, hW, sim, er, ht, post⟩ =>
  ⟨W, env, S, _, hW, sim, er, ht, fun xs S1 W1 H1 vs ⟨hl, q⟩ s l r => ⟨by rw [r.length]; exact hl, (post.mono l).newT s r q⟩⟩
theorem dn_lst (h : DA X W0 es TR) : DN X W0 (.List es pos) (dLst TR) := (pe_lst h).imp fun σ H Q ⟨W, env, S, P, hW, sim, er, ht, post⟩ =>
  ⟨W, env, S, _, hW, sim, er, ht, fun xs S1 W1 H1 vs ⟨hl, q⟩ s l r => ⟨by rw [r.length]; exact hl, (post.mono l).laid q s r⟩⟩
theorem Reps.atI {K : PySem.W.Frag} {W : Wd} {vs : List V} {ds : List D} {i : Int} {d : D} (r : Reps K W vs ds) (h : L2.atI ds i = some d) : ∃ v, L2.atI vs i = some v ∧ Rep K W v d := by
  unfold L2.atI at h ⊢
  rw [r.length]
  cases hx : ixN ds.length i with
  | none => rw [hx] at h; cases h
  | some j =>
    rw [hx] at h
    exact r.get h
def dIx : D2 := fun x y S P => ∃ xs i d, seqOf S x = some xs ∧ y = .int i ∧ L2.atI xs i = some d ∧ P d S
def rIxS2 (K : PySem.W.Frag) : R2 := fun x y H Q => rIxL K x y H Q ∨ rIxT K x y H Q
theorem do_ix {K : PySem.W.Frag} : DOp K (rIxS2 K) dIx := by
  intro W S H x y d1 d2 P Q s r1 r2 ⟨xs, i, d, e1, e2, e3, h⟩ post
  subst e2
  obtain ⟨q, vs, rfl, hq, rr⟩ := r1.seq_of s e1
  obtain ⟨v, h1, h2⟩ := rr.atI e3
  rcases hq with hq | hq
  · exact .inl ⟨q, vs, i, v, rfl, r2.intV, hq, h1, post _ _ W H _ h s .refl h2⟩
  · exact .inr ⟨q, vs, i, v, rfl, r2.intV, hq, h1, post _ _ W H _ h s .refl h2⟩
theorem de_ix (ha : DE X W0 a Ta) (hb : DE X W0 b Tb) (hs : PlainIx b) : DE X W0 (.Subscript a b pos) (dOp dIx Ta Tb) := (pe_ix (IxR.or ix_list ix_tup) ha hb hs).imp fun _ _ _ h => lift_op do_ix h
abbrev DTO := Ev → Sto → (Option Int → Sto → Prop) → Prop
def liftO (K : PySem.W.Frag) (W0 : Bs) (T : DTO) : TO := fun σ H Q => ∃ W env S P, W0.to W H ∧ Sim K W S H ∧ EnvR K W env σ ∧ T env S P ∧ ∀ o S' W' H', P o S' → Sim K W' S' H' → Stp W H W' H' → Q o H'
abbrev DO (X : Cx) (W0 : Bs) (o : Option Expr) (T : DTO) : Prop := PO X o (liftO X.K W0 T)
theorem _root_.L2.PO.imp {o : Option Expr} {t t' : TO} (h : PO X o t) (i : ∀ σ H Q, t' σ H Q → t σ H Q) : PO X o t' := ⟨fun pins s σ H Q I q => h.run pins s σ H Q I (i σ H Q q)⟩
def dNoPart : DTO := fun _ S P => P none S
def xInt (F : Int → Prop) (x : D) : Prop := ∃ i, x = .int i ∧ F i
def dPart (Ta : DTE) : DTO := fun env S P => Ta env S fun x S1 => xInt (fun i => P (some i) S1) x
theorem do_none : DO X W0 none dNoPart := po_none.imp fun σ H Q ⟨W, env, S, P, hW, sim, er, ht, post⟩ => post none S W H ht sim .refl
theorem do_some (h : DE X W0 a Ta) : DO X W0 (some a) (dPart Ta) := (po_some h).imp fun σ H Q ⟨W, env, S, P, hW, sim, er, ht, post⟩ => ⟨W, env, S, _, hW, sim, er, ht, fun x S1 W1 H1 v ⟨i, e, q⟩ s l r => by
  subst e
  exact ⟨i, r.intV, post _ _ W1 H1 q s l⟩⟩
def cutD {α : Type} (xs : List α) (lo hi : Option Int) : List α := (xs.drop (HT.sIx xs.length 0 lo)).take (HT.sIx xs.length xs.length hi - HT.sIx xs.length 0 lo)
theorem Reps.cut {K : PySem.W.Frag} {W : Wd} {vs : List V} {ds : List D} (r : Reps K W vs ds) (lo hi : Option Int) : Reps K W (cutV vs lo hi) (cutD ds lo hi) := by
  unfold cutV cutD
  rw [r.length]
  exact (r.drop _).take _
variable {lo hi : Option Expr} {Tl Th : DTO} {p2 : Pos}
def xSlL : D → Option Int → Option Int → Sto → (List D → Sto → Prop) → Prop := fun x l u S P => ∃ xs, lstOf S x = some xs ∧ P (cutD xs l u) S
def dSl (R : D → Option Int → Option Int → Sto → (List D → Sto → Prop) → Prop) (Ta : DTE) (Tl Th : DTO) : DTN := fun env S P => Ta env S fun x S1 => Tl env S1 fun l S2 => Th env S2 fun u S3 => R x l u S3 P
theorem dn_slice (ha : DE X W0 a Ta) (hl : DO X W0 lo Tl) (hh : DO X W0 hi Th) : DN X W0 (.Subscript a (.Slice lo hi none p2) pos) (dSl xSlL Ta Tl Th) :=
  (pe_slice sl_list ha hl hh).imp fun σ H Q ⟨W, env, S, P, hW, sim, er, ht, post⟩ => ⟨W, env, S, _, hW, sim, er, ht, fun x S1 W1 H1 v q s1 l1 r1 => ⟨W1, env, S1, _, hW.trans l1, s1, er.mono l1.le, q, fun l S2 W2 H2 q2 s2 l2 =>
    ⟨W2, env, S2, _, hW.trans (l1.trans l2), s2, er.mono (l1.trans l2).le, q2, fun u S3 W3 H3 ⟨xs, e, q3⟩ s3 l3 => by
      obtain ⟨a1, vs, rfl, hq, rr⟩ := (r1.mono (l2.trans l3).le).lst_of s3 e
      exact ⟨a1, vs, rfl, SqL.of hq, (post.mono (l1.trans (l2.trans l3))).laid q3 s3 (rr.cut l u)⟩⟩⟩⟩
/-- a tuple's slice (the whole of it is the tuple itself) -/
def xSlT : D → Option Int → Option Int → Sto → DP → Prop := fun x l u S P => ∃ xs, x = .tup xs ∧ P (.tup (cutD xs l u)) S
def dSlT (Ta : DTE) (Tl Th : DTO) : DTE := fun env S P => Ta env S fun x S1 => Tl env S1 fun l S2 => Th env S2 fun u S3 => xSlT x l u S3 P
theorem de_sliceT (ha : DE X W0 a Ta) (hl : DO X W0 lo Tl) (hh : DO X W0 hi Th) : DE X W0 (.Subscript a (.Slice lo hi none p2) pos) (dSlT Ta Tl Th) :=
  (pe_slice sl_tupA ha hl hh).imp fun σ H Q ⟨W, env, S, P, hW, sim, er, ht, post⟩ => ⟨W, env, S, _, hW, sim, er, ht, fun x S1 W1 H1 v q s1 l1 r1 => ⟨W1, env, S1, _, hW.trans l1, s1, er.mono l1.le, q, fun l S2 W2 H2 q2 s2 l2 =>
    ⟨W2, env, S2, _, hW.trans (l1.trans l2), s2, er.mono (l1.trans l2).le, q2, fun u S3 W3 H3 ⟨xs, e, q3⟩ s3 l3 => by
      subst e
      obtain ⟨a1, vs, rfl, hq, rr⟩ := (r1.mono (l2.trans l3).le).tupV
      have pm := post.mono (l1.trans (l2.trans l3))
      refine ⟨a1, vs, rfl, same_sqt s3.same hq, fun hw => ?_, fun _ => pm.newT s3 (rr.cut l u) q3⟩
      rw [rr.length] at hw
      have e : cutD xs l u = xs := by
        unfold cutD
        rw [hw.1, hw.2, List.drop_zero, Nat.sub_zero, List.take_length]
      rw [e] at q3
      exact pm _ _ W3 H3 _ q3 s3 .refl (.tup hq rr)⟩⟩⟩
end
end DL
namespace DL
open PySem PySem.Spec PyProof.Rows L2
structure AgO (ss : List Nat) (σ σ' : L2.St) : Prop where
  len : σ'.length = σ.length
  out : ∀ j, j ∉ ss → σ'[j]? = σ[j]?
theorem AgO.refl {ss : List Nat} {σ : L2.St} : AgO ss σ σ := ⟨rfl, fun _ _ => rfl⟩
theorem AgO.trans {s1 s2 : List Nat} {σ σ1 σ2 : L2.St} (a : AgO s1 σ σ1) (b : AgO s2 σ1 σ2) : AgO (s1 ++ s2) σ σ2 :=
  ⟨b.len.trans a.len, fun j h => (b.out j fun z => h (List.mem_append_right _ z)).trans (a.out j fun z => h (List.mem_append_left _ z))⟩
theorem wipe_len (σ : L2.St) : ∀ vs : List Nat, (wipe σ vs).length = σ.length
  | [] => rfl
  | v :: vs => by
    show ((wipe σ vs).set v none).length = _
    rw [List.length_set]
    exact wipe_len σ vs
theorem wipe_get (σ : L2.St) : ∀ (vs : List Nat) (j : Nat), (wipe σ vs)[j]? = if j ∈ vs then (if j < σ.length then some none else none) else σ[j]?
  | [], j => by simp [wipe]
  | v :: vs, j => by
    show ((wipe σ vs).set v none)[j]? = _
    by_cases hj : j = v
    · subst hj
      by_cases hl : j < σ.length
      · rw [List.getElem?_set_self (by rw [wipe_len]; exact hl)]
        simp [hl]
      · rw [List.getElem?_eq_none (by rw [List.length_set, wipe_len]; omega)]
        simp [hl]
    · rw [List.getElem?_set_ne (Ne.symm hj), wipe_get σ vs j]
      simp [hj]
theorem AgO.wipe {ss vs : List Nat} {σ σ' : L2.St} (h : AgO ss σ σ') (hs : ∀ i ∈ ss, i ∈ vs) : L2.wipe σ' vs = L2.wipe σ vs := by
  refine List.ext_getElem? fun j => ?_
  rw [wipe_get, wipe_get, h.len]
  by_cases hj : j ∈ vs
  · rw [if_pos hj, if_pos hj]
  · rw [if_neg hj, if_neg hj, h.out j fun z => hj (hs j z)]
theorem wipe_wipe (σ : L2.St) (vs : List Nat) : L2.wipe (L2.wipe σ vs) vs = L2.wipe σ vs := by
  refine List.ext_getElem? fun j => ?_
  rw [wipe_get, wipe_get, wipe_len]
  by_cases hj : j ∈ vs
  · rw [if_pos hj, if_pos hj]
  · rw [if_neg hj, if_neg hj]
def wipeE (env : Ev) : List Nat → Ev
  | [] => env
  | v :: vs => (wipeE env vs).set v none
theorem EnvR.wipe {K : PySem.W.Frag} {W : Wd} {env : Ev} {σ : L2.St} (e : EnvR K W env σ) : ∀ vs : List Nat, EnvR K W (wipeE env vs) (L2.wipe σ vs)
  | [] => e
  | v :: vs => (EnvR.wipe e vs).unset
def PostG (K : PySem.W.Frag) (W : Wd) (H : Hp) (ss : List Nat) (σ : L2.St) (P : Ev → Sto → Prop) (Q : L2.St → Hp → Prop) : Prop := ∀ env S' W' H' σ', P env S' → Sim K W' S' H' → Stp W H W' H' → EnvR K W' env σ' → AgO ss σ σ' → Q σ' H'
def liftG (K : PySem.W.Frag) (W0 : Bs) (ss : List Nat) (T : DTG) : TG := fun v σ H Q => ∃ W env S P d, W0.to W H ∧ Sim K W S H ∧ EnvR K W env σ ∧ Rep K W v d ∧ T d env S P ∧ PostG K W H ss σ P Q
def liftGs (K : PySem.W.Frag) (W0 : Bs) (ss : List Nat) (T : DTGs) : TGs := fun vs σ H Q => ∃ W env S P ds, W0.to W H ∧ Sim K W S H ∧ EnvR K W env σ ∧ Reps K W vs ds ∧ T ds env S P ∧ PostG K W H ss σ P Q
abbrev DG (X : Cx) (W0 : Bs) (ss : List Nat) (e : Expr) (T : DTG) : Prop := PG X e (liftG X.K W0 ss T)
abbrev DGs (X : Cx) (W0 : Bs) (ss : List Nat) (es : List Expr) (T : DTGs) : Prop := PGs X es (liftGs X.K W0 ss T)
section
variable {X : Cx} {W0 : Bs} {a b c e tg : Expr} {es : List Expr} {Ta Tb Tc T : DTE} {TA TB : DTT} {TR : DTA} {pos p : Pos} {st : Stmt} {sts : List Stmt} {TS TU : DTS} {ss s1 s2 : List Nat} {G : DTG} {Gs : DTGs}
def gNm (i : Nat) : DTG := fun d env S P => P (env.set i (some d)) S
theorem dg_name {i : Nat} {x : Str} (h : PG X (.Name x pos) (gName i)) : DG X W0 [i] (.Name x pos) (gNm i) := h.imp fun v σ H Q ⟨W, env, S, P, d, hW, sim, er, r, ht, post⟩ =>
  post _ S W H _ ht sim .refl (er.set r) ⟨List.length_set, fun j hj => List.getElem?_set_ne fun z => hj (by rw [z]; exact List.mem_singleton.mpr rfl)⟩
def gNl : DTGs := fun ds env S P => ds = [] ∧ P env S
def gCs (G : DTG) (Gs : DTGs) : DTGs := fun ds env S P => ∃ d r, ds = d :: r ∧ G d env S fun env' S' => Gs r env' S' P
theorem dgs_nil : DGs X W0 [] [] gNl := pgs_nil.imp fun vs σ H Q ⟨W, env, S, P, ds, hW, sim, er, r, ⟨e, ht⟩, post⟩ => by
  subst e
  cases r
  exact ⟨rfl, post _ S W H _ ht sim .refl er .refl⟩
theorem dgs_cons (h1 : DG X W0 s1 e G) (h2 : DGs X W0 s2 es Gs) (hs : (assignEach (e :: es) X.env).map (·.2) = assign e X.env :: (assignEach es X.env).map (·.2) := by rfl) : DGs X W0 (s1 ++ s2) (e :: es) (gCs G Gs) :=
  (pgs_cons h1 h2 hs).imp fun vs σ H Q ⟨W, env, S, P, ds, hW, sim, er, r, ⟨d, rr, e, ht⟩, post⟩ => by
    subst e
    cases r with
    | cons r1 r2 => exact ⟨_, _, rfl, W, env, S, _, d, hW, sim, er, r1, ht, fun env1 S1 W1 H1 σ1 q1 sm l1 er1 ag1 => ⟨W1, env1, S1, P, rr, hW.trans l1, sm, er1, r2.mono l1.le, q1, fun env2 S2 W2 H2 σ2 q2 sm2 l2 er2 ag2 =>
        post env2 S2 W2 H2 σ2 q2 sm2 (l1.trans l2) er2 (ag1.trans ag2)⟩⟩
def gTp (n : Nat) (Gs : DTGs) : DTG := fun d env S P => ∃ ds, d = .tup ds ∧ ds.length = n ∧ Gs ds env S P
theorem dg_tup {k n : Nat} (hc : X.calm = true) (h : DGs X W0 ss es Gs) (hn : (assignEach es X.env).length = n := by rfl) (hst : (assignEach es X.env).findIdx? (·.1) = none := by rfl) : DG X W0 ss (.Tuple es k pos) (gTp n Gs) :=
  (pg_tup hc h hn hst).imp fun v σ H Q ⟨W, env, S, P, d, hW, sim, er, r, ⟨ds, e, hl, ht⟩, post⟩ => by
    subst e
    obtain ⟨a1, vs, rfl, hq, rr⟩ := r.tupV
    exact ⟨a1, vs, rfl, same_sqt sim.same hq, by rw [rr.length]; exact hl, W, env, S, P, ds, hW, sim, er, rr, ht, post⟩
def setAt (x y d : D) (S : Sto) (P : Sto → Prop) : Prop := ∃ i xs k j, x = .ref i ∧ S[i]? = some (.lst xs) ∧ y = .int k ∧ ixN xs.length k = some j ∧ P (S.set i (.lst (xs.set j d)))
def gSb (Ta Tb : DTE) : DTG := fun d env S P => Ta env S fun x S1 => Tb env S1 fun y S2 => setAt x y d S2 fun S3 => P env S3
theorem dg_sub (ha : DE X W0 a Ta) (hb : DE X W0 b Tb) (h : ∀ {to ti : TE}, PE X a to → PE X b ti → PG X (.Subscript a b pos) (gSub to ti rSetL)) : DG X W0 [] (.Subscript a b pos) (gSb Ta Tb) :=
  (h ha hb).imp fun v σ H Q ⟨W, env, S, P, d, hW, sim, er, r, ht, post⟩ => ⟨W, env, S, _, hW, sim, er, ht, fun x S1 W1 H1 v1 q1 sm1 l1 r1 => ⟨W1, env, S1, _, hW.trans l1, sm1, er.mono l1.le, q1, fun y S2 W2 H2 v2 q2 sm2 l2 r2 => by
    obtain ⟨i, xs, k, j, rfl, hS, rfl, hj, q⟩ := q2
    have r1' := r1.mono l2.le
    cases r1' with
    | ref hi =>
      obtain ⟨hB, vs, hH, rr⟩ := sm2.obj i _ _ hi hS
      refine ⟨_, vs, k, j, rfl, r2.intV, hH, by rw [rr.length]; exact hj, ?_⟩
      exact post env _ W2 _ σ q (sm2.setO hi hS hB ⟨hB, _, upd_same, rr.set (r.mono (l1.trans l2).le) j⟩) ((l1.trans l2).trans (.setO hi)) (er.mono (l1.trans l2).le) .refl⟩⟩
def dDrop (T : DTE) : DTS := fun E env S => T env S fun _ S1 => E.nx env S1
theorem ds_expr (he : DE X W0 e T) (hs : swapsWith e none pos.line X.env = pure false := by rfl) : DS X W0 (.Expr e pos) (dDrop T) := (ps_expr he hs).imp fun D σ H ⟨W, env, S, E, hW, sim, er, ht, post⟩ =>
  ⟨W, env, S, _, hW, sim, er, ht, fun d S1 W1 H1 v q s l r => post.nx env S1 W1 H1 σ q s l (er.mono l.le)⟩
def dRet (T : DTE) : DTS := fun E env S => T env S E.rt
theorem ds_ret (he : DE X W0 e T) : DS X W0 (.Return (some e) pos) (dRet T) := (ps_ret he).imp fun D σ H ⟨W, env, S, E, hW, sim, er, ht, post⟩ => ⟨W, env, S, _, hW, sim, er, ht, post.rt⟩
def dNext : DTS := fun E env S => E.nx env S
theorem dss_nil : DSs X W0 [] dNext := pss_nil.imp fun D σ H ⟨W, env, S, E, hW, sim, er, ht, post⟩ => post.nx env S W H σ ht sim .refl er
def dSeq (T U : DTS) : DTS := fun E env S => T { E with nx := U E } env S
theorem dss_cons (h1 : DS X W0 st TS) (h2 : DSs X W0 sts TU) : DSs X W0 (st :: sts) (dSeq TS TU) := (pss_cons h1 h2).imp fun D σ H ⟨W, env, S, E, hW, sim, er, ht, post⟩ =>
  ⟨W, env, S, _, hW, sim, er, ht, ⟨fun env1 S1 W1 H1 σ1 q s l er1 => ⟨W1, env1, S1, E, hW.trans l, s, er1, q, post.mono l⟩, post.rt, post.bk, post.ct⟩⟩
theorem dss_one (h1 : DS X W0 st TS) : DSs X W0 [st] TS := pss_one h1
def dNever : DTS := fun _ _ _ => False
theorem ds_never : DS X W0 st dNever := ps_never.imp fun _ _ _ ⟨_, _, _, _, _, _, _, h, _⟩ => h.elim
theorem dss_never : DSs X W0 sts dNever := pss_never.imp fun _ _ _ ⟨_, _, _, _, _, _, _, h, _⟩ => h.elim
def dIfS (TA : DTT) (T U : DTS) : DTS := fun E env S => TA env S fun k S1 => if k = true then T E env S1 else U E env S1
theorem ds_if {s1 s2 : List Stmt} (hc : DT X W0 c TA) (ha : DSs X W0 s1 TS) (hb : DSs X W0 s2 TU) : DS X W0 (.If c s1 s2 pos) (dIfS TA TS TU) := (ps_if hc ha hb).imp fun D σ H ⟨W, env, S, E, hW, sim, er, ht, post⟩ =>
  lift_if hW sim er ht fun k S1 W1 H1 q s l => by
    cases k with
    | true => exact ⟨W1, env, S1, E, hW.trans l, s, er.mono l.le, q, post.mono l⟩
    | false => exact ⟨W1, env, S1, E, hW.trans l, s, er.mono l.le, q, post.mono l⟩
def dAsg (T : DTE) (G : DTG) : DTS := fun E env S => T env S fun d S1 => G d env S1 E.nx
theorem lift_asg {D : Ends} {σ : L2.St} {H : Hp} (h : liftS X.K W0 (dAsg T G) D σ H) : tAsg (liftE X.K W0 T) (liftG X.K W0 ss G) D σ H := by
  obtain ⟨W, env, S, E, hW, sim, er, ht, post⟩ := h
  exact ⟨W, env, S, _, hW, sim, er, ht, fun d S1 W1 H1 v q s l r => ⟨W1, env, S1, _, d, hW.trans l, s, er.mono l.le, r, q, fun env2 S2 W2 H2 σ2 q2 sm2 l2 er2 _ => post.nx env2 S2 W2 H2 σ2 q2 sm2 (l.trans l2) er2⟩⟩
theorem ds_asg (he : DE X W0 e T) (hg : DG X W0 ss tg G) (h : ∀ {te : TE} {g : TG}, PE X e te → PG X tg g → PS X (.Assign [tg] e pos) (tAsg te g)) : DS X W0 (.Assign [tg] e pos) (dAsg T G) := (h he hg).imp fun _ _ _ q => lift_asg q
/-- name = e -/
theorem ds_set {i : Nat} {x : Str} {pos' : Pos} (he : DE X W0 e T) (h : ∀ {te : TE}, PE X e te → PS X (.Assign [.Name x pos'] e pos) (tAsg te (gName i))) : DS X W0 (.Assign [.Name x pos'] e pos) (dAsg T (gNm i)) :=
  (h he).imp fun D σ H ⟨W, env, S, E, hW, sim, er, ht, post⟩ => ⟨W, env, S, _, hW, sim, er, ht, fun d S1 W1 H1 v q s l r => post.nx _ S1 W1 H1 _ q s l ((er.mono l.le).set r)⟩
def dAug (i : Nat) (T : DTE) (f : Int → Int → Int) : DTS := fun E env S => ∃ a, env[i]? = some (some (.int a)) ∧ T env S fun y S1 => xInt (fun b => E.nx (env.set i (some (.int (f a b)))) S1) y
structure Gives (K : PySem.W.Frag) (W : Wd) (H : Hp) (ok : Sto → Prop) (ds : List D) (J : It) : Prop where
  ex : ∃ (Gd : Hp → Prop) (Y : Nat → Hp → V → Hp → Prop), Walk J ds.length Gd Y ∧ (∀ W' S' H', Stp W H W' H' → Sim K W' S' H' → ok S' → Gd H') ∧
    ∀ i d W' S' H' x H'', ds[i]? = some d → Stp W H W' H' → Sim K W' S' H' → ok S' → Y i H' x H'' → ∃ W'', Sim K W'' S' H'' ∧ Stp W' H' W'' H'' ∧ Rep K W'' x d
abbrev DTI := Ev → Sto → (List D → (Sto → Prop) → Sto → Prop) → Prop
def liftI (K : PySem.W.Frag) (W0 : Bs) (T : DTI) : TI := fun σ H R => ∃ W env S P, W0.to W H ∧ Sim K W S H ∧ EnvR K W env σ ∧ T env S P ∧ ∀ ds ok S' W' H' J, P ds ok S' → Sim K W' S' H' → Stp W H W' H' → Gives K W' H' ok ds J → R J H'
abbrev DI (X : Cx) (W0 : Bs) (tg iter : Expr) (T : DTI) : Prop := PI X tg iter (liftI X.K W0 T)
theorem _root_.L2.PI.imp {iter : Expr} {t t' : TI} (h : PI X tg iter t) (i : ∀ σ H R, t' σ H R → t σ H R) : PI X tg iter t' := ⟨fun pins s σ H R I q => h.run pins s σ H R I (i σ H R q)⟩
abbrev IP := List D → (Sto → Prop) → Sto → Prop
def xTp (P : IP) (d : D) (S : Sto) : Prop := ∃ ds, d = .tup ds ∧ P ds (fun _ => True) S
def iTp (T : DTE) : DTI := fun env S P => T env S (xTp P)
theorem di_tup (h : DE X W0 e T) : DI X W0 tg e (iTp T) := (pi_tup h).imp fun σ H R ⟨W, env, S, P, hW, sim, er, ht, post⟩ => ⟨W, env, S, _, hW, sim, er, ht, fun d S1 W1 H1 v ⟨ds, e, q⟩ s l r => by
  subst e
  obtain ⟨a1, vs, rfl, hq, rr⟩ := r.tupV
  refine ⟨a1, rfl, ⟨vs, same_sqt s.same hq⟩, post ds _ S1 W1 H1 _ q s l ⟨_, _, by rw [← rr.length]; exact walk_tup (xs := vs), fun W' S' H' l' s' _ => same_sqt s'.same (same_sqt l'.le.same hq), ?_⟩⟩
  rintro i d W' S' H' x H'' hd l' s' _ ⟨rfl, hx⟩
  obtain ⟨v, h1, h2⟩ := rr.get hd
  rw [hx] at h1
  cases h1
  exact ⟨W', s', .refl, h2.mono l'.le⟩⟩
/-- a list: a pure one, the script, or one of the store's that stays as it is -/
def lstAny (S : Sto) (d : D) (ds : List D) (ok : Sto → Prop) : Prop := match d with
  | .lst xs => ds = xs ∧ ok = fun _ => True
  | .scr ns => ds = ns.map .int ∧ ok = fun _ => True
  | .ref i => S[i]? = some (.lst ds) ∧ ok = fun S' => S'[i]? = some (.lst ds)
  | _ => False
theorem reps_ints {K : PySem.W.Frag} {W : Wd} : ∀ ns : List Int, Reps K W (ns.map V.int) (ns.map D.int)
  | [] => .nil
  | n :: ns => .cons (.int n) (reps_ints ns)
def xLs (P : IP) (d : D) (S : Sto) : Prop := ∃ ds ok, lstAny S d ds ok ∧ P ds ok S
def iLs (T : DTE) : DTI := fun env S P => T env S (xLs P)
theorem di_list (h : DE X W0 e T) : DI X W0 tg e (iLs T) := (pi_list h).imp fun σ H R ⟨W, env, S, P, hW, sim, er, ht, post⟩ => ⟨W, env, S, _, hW, sim, er, ht, fun d S1 W1 H1 v ⟨ds, ok, e, q⟩ s l r => by
  have at_ : ∀ {a1 : Addr} {ds' : List D}, (∀ W' S' H', Stp W1 H1 W' H' → Sim X.K W' S' H' → ok S' → ∃ vs, SqL X.K H' a1 vs ∧ Reps X.K W' vs ds') → ok S1 → P ds' ok S1 → ∃ a, V.ref a1 = .ref a ∧ (∃ xs, SqL X.K H1 a xs) ∧ R (Itl X.K a) H1 := fun {a1 ds'} h2 h3 q => by
    obtain ⟨vs, h1, _⟩ := h2 W1 S1 H1 .refl s h3
    refine ⟨a1, rfl, ⟨vs, h1⟩, post ds' _ S1 W1 H1 _ q s l ⟨fun H' => ∃ us, SqL X.K H' a1 us ∧ us.length = ds'.length, fun i H' x H'' => H'' = H' ∧ ∀ us, SqL X.K H' a1 us → us[i]? = some x,
      ⟨fun i H' hi ⟨us, hu, he⟩ => ⟨us, us[i]'(by omega), hu, List.getElem?_eq_getElem _⟩, fun H' ⟨us, hu, he⟩ => ⟨us, hu, by omega⟩, fun _ _ _ _ _ _ y => y⟩, fun W' S' H' l' s' o' => ?_, ?_⟩⟩
    · obtain ⟨us, hu, ru⟩ := h2 W' S' H' l' s' o'
      exact ⟨us, hu, ru.length⟩
    · rintro i d W' S' H' x H'' hd l' s' o' ⟨rfl, hx⟩
      obtain ⟨us, hu, ru⟩ := h2 W' S' H'' l' s' o'
      obtain ⟨v, g1, g2⟩ := ru.get hd
      rw [hx us hu] at g1
      cases g1
      exact ⟨W', s', .refl, g2⟩
  cases r with
  | lst h1 rr =>
    obtain ⟨rfl, rfl⟩ := e
    exact at_ (fun W' S' H' l' s' _ => ⟨_, SqL.of (s'.same _ _ (l'.le.same _ _ h1)), rr.mono l'.le⟩) trivial q
  | @scr a1 ns h1 =>
    obtain ⟨rfl, rfl⟩ := e
    exact at_ (fun W' S' H' l' s' _ => ⟨_, same_sql s'.same (same_sql l'.le.same h1), reps_ints ns⟩) trivial q
  | @ref i a1 hi =>
    obtain ⟨hS, rfl⟩ := e
    refine at_ (fun W' S' H' l' s' o' => ?_) hS q
    obtain ⟨hB, vs, hH, rr⟩ := s'.obj i a1 _ (l'.le.pre i a1 hi) o'
    exact ⟨vs, SqL.of hH, rr⟩
  | _ => exact e.elim⟩
end
end DL
namespace DL
open PySem PySem.Spec PyProof.Rows L2
section
variable {X : Cx} {W0 : Bs} {a b c e tg : Expr} {es : List Expr} {Ta Tb Tc T : DTE} {TA TB : DTT} {TR : DTA} {pos p : Pos} {st : Stmt} {sts : List Stmt} {TS TU : DTS} {ss s1 s2 : List Nat} {G : DTG} {Gs : DTGs} {TI : DTI} {TN : DTN}
def rangeD (lo : Int) (n : Nat) : List D := (List.range n).map fun (k : Nat) => D.int (lo + (k : Int))
theorem rangeD_get {lo : Int} {n i : Nat} {d : D} (h : (rangeD lo n)[i]? = some d) : i < n ∧ d = .int (lo + i) := by
  unfold rangeD at h
  rw [List.getElem?_map] at h
  by_cases hi : i < n
  · rw [List.getElem?_range hi] at h
    cases h
    exact ⟨hi, rfl⟩
  · rw [List.getElem?_eq_none (by rw [List.length_range]; omega)] at h
    cases h
theorem rangeD_len {lo : Int} {n : Nat} : (rangeD lo n).length = n := by unfold rangeD; rw [List.length_map, List.length_range]
theorem gives_range {K : PySem.W.Frag} {W : Wd} {H : Hp} {lo : Int} {n : Nat} : Gives K W H (fun _ => True) (rangeD lo n) (Itr lo n) := by
  refine ⟨_, _, by rw [rangeD_len]; exact walk_range, fun _ _ _ _ _ _ => trivial, ?_⟩
  rintro i d W' S' H' x H'' hd l' s' _ ⟨rfl, rfl⟩
  obtain ⟨_, rfl⟩ := rangeD_get hd
  exact ⟨W', s', .refl, .int _⟩
def xRg1 (P : IP) (ds : List D) (S : Sto) : Prop := ∃ j, ds = [.int j] ∧ -(2 ^ 62) ≤ j ∧ j < 2 ^ 62 ∧ P (rangeD 0 j.toNat) (fun _ => True) S
def iRg1 (TR : DTA) : DTI := fun env S P => TR env S (xRg1 P)
theorem Reps.one {K : PySem.W.Frag} {W : Wd} {vs : List V} {d : D} (r : Reps K W vs [d]) : ∃ v, vs = [v] ∧ Rep K W v d := by
  cases r with
  | cons h t => cases t; exact ⟨_, rfl, h⟩
theorem Reps.two {K : PySem.W.Frag} {W : Wd} {vs : List V} {d d2 : D} (r : Reps K W vs [d, d2]) : ∃ v w, vs = [v, w] ∧ Rep K W v d ∧ Rep K W w d2 := by
  cases r with
  | cons h t =>
    obtain ⟨w, rfl, h2⟩ := t.one
    exact ⟨_, _, rfl, h, h2⟩
theorem di_range1 (hg : Gl X "range") (hm : X.mg "range" = none) (ha : DA X W0 [a] TR) (hs : starEach [a] X.env = [(false, eval a X.env)] := by rfl) : DI X W0 tg (.Call (.Name "range" p) [a] [] pos) (iRg1 TR) :=
  (pi_range1 hg hm ha hs).imp fun σ H R ⟨W, env, S, P, hW, sim, er, ht, post⟩ => ⟨W, env, S, _, hW, sim, er, ht, fun ds S1 W1 H1 vs ⟨j, e, h1, h2, q⟩ s l r => by
    subst e
    obtain ⟨v, rfl, rv⟩ := r.one
    exact ⟨j, by rw [rv.intV], h1, h2, post _ _ S1 W1 H1 _ q s l gives_range⟩⟩
def xRg2 (P : IP) (ds : List D) (S : Sto) : Prop := ∃ i j, ds = [.int i, .int j] ∧ (-(2 ^ 62) ≤ i ∧ i < 2 ^ 62 ∧ -(2 ^ 62) ≤ j ∧ j < 2 ^ 62) ∧ P (rangeD i (j - i).toNat) (fun _ => True) S
def iRg2 (TR : DTA) : DTI := fun env S P => TR env S (xRg2 P)
def enumD : Nat → List D → List D
  | _, [] => []
  | n, x :: xs => .tup [.int n, x] :: enumD (n + 1) xs
theorem enumD_len : ∀ (n : Nat) (xs : List D), (enumD n xs).length = xs.length
  | _, [] => rfl
  | n, _ :: xs => congrArg (· + 1) (enumD_len (n + 1) xs)
theorem enumD_get : ∀ (n : Nat) (xs : List D) (i : Nat) (d : D), (enumD n xs)[i]? = some d → ∃ x, xs[i]? = some x ∧ d = .tup [.int ((n + i : Nat) : Int), x]
  | _, [], i, d, h => by simp [enumD] at h
  | n, x :: xs, 0, d, h => by
    simp [enumD] at h
    exact ⟨x, rfl, h.symm⟩
  | n, x :: xs, i + 1, d, h => by
    obtain ⟨y, h1, h2⟩ := enumD_get (n + 1) xs i d (by simpa [enumD] using h)
    refine ⟨y, by simpa using h1, ?_⟩
    rw [h2]
    congr 4
    omega
def zipD : List D → List D → List D
  | x :: xs, y :: ys => .tup [x, y] :: zipD xs ys
  | _, _ => []
theorem zipD_len : ∀ xs ys : List D, (zipD xs ys).length = min xs.length ys.length
  | [], _ => by simp [zipD]
  | _ :: _, [] => by simp [zipD]
  | _ :: xs, _ :: ys => by
    show (zipD xs ys).length + 1 = min (xs.length + 1) (ys.length + 1)
    rw [zipD_len xs ys]
    omega
theorem zipD_get : ∀ (xs ys : List D) (i : Nat) (d : D), (zipD xs ys)[i]? = some d → ∃ x y, xs[i]? = some x ∧ ys[i]? = some y ∧ d = .tup [x, y]
  | [], _, i, d, h => by simp [zipD] at h
  | _ :: _, [], i, d, h => by simp [zipD] at h
  | x :: xs, y :: ys, 0, d, h => by
    simp [zipD] at h
    exact ⟨x, y, rfl, rfl, h.symm⟩
  | x :: xs, y :: ys, i + 1, d, h => by
    obtain ⟨u, v, h1, h2, h3⟩ := zipD_get xs ys i d (by simpa [zipD] using h)
    exact ⟨u, v, by simpa using h1, by simpa using h2, h3⟩
/-- a new pair -/
theorem pair_new {K : PySem.W.Frag} {W : Wd} {S : Sto} {H : Hp} {T : Addr} {x y : V} {d1 d2 : D} (s : Sim K W S H) (hT : H T = none) (r1 : Rep K W x d1) (r2 : Rep K W y d2) :
    ∃ W'', Sim K W'' S (upd H T (.tup [x, y])) ∧ Stp W H W'' (upd H T (.tup [x, y])) ∧ Rep K W'' (.ref T) (.tup [d1, d2]) :=
  ⟨W.put T (.tup [x, y]), s.put hT, .put s hT, .tup (SqT.of upd_same) (.cons (r1.mono (Wd.le_put (s.free hT))) (.cons (r2.mono (Wd.le_put (s.free hT))) .nil))⟩
/-- a pure list's place stays -/
theorem pure_lst {K : PySem.W.Frag} {W W' : Wd} {S : Sto} {H H' : Hp} {a : Addr} {vs : List V} (h : W.B a = some (.lst vs)) (l : Stp W H W' H') (s : Sim K W' S H') : SqL K H' a vs := SqL.of (s.same _ _ (l.le.same _ _ h))
theorem Rep.lstV {K : PySem.W.Frag} {W : Wd} {v : V} {ds : List D} (r : Rep K W v (.lst ds)) : ∃ a vs, v = .ref a ∧ W.B a = some (.lst vs) ∧ Reps K W vs ds := by cases r with | lst h1 h2 => exact ⟨_, _, rfl, h1, h2⟩
def xEn (P : IP) (ds : List D) (S : Sto) : Prop := ∃ xs, ds = [.lst xs] ∧ P (enumD 0 xs) (fun _ => True) S
def iEn (TR : DTA) : DTI := fun env S P => TR env S (xEn P)
theorem di_enum {elts : List Expr} {kk : Nat} {tpos : Pos} (hg : Gl X "enumerate") (hm : X.mg "enumerate" = none) (ha : DA X W0 [a] TR) (hs : starEach [a] X.env = [(false, eval a X.env)] := by rfl) : DI X W0 (.Tuple elts kk tpos) (.Call (.Name "enumerate" p) [a] [] pos) (iEn TR) :=
  (pi_enum hg hm ha hs).imp fun σ H R ⟨W, env, S, P, hW, sim, er, ht, post⟩ => ⟨W, env, S, _, hW, sim, er, ht, fun ds S1 W1 H1 vs ⟨xs, e, q⟩ s l r => by
    subst e
    obtain ⟨v, rfl, rv⟩ := r.one
    obtain ⟨a1, vs, rfl, hB, rr⟩ := rv.lstV
    refine ⟨a1, vs, rfl, pure_lst hB .refl s, post _ _ S1 W1 H1 _ q s l ⟨_, _, by rw [enumD_len, ← rr.length]; exact walk_enum (xs := vs), fun W' S' H' l' s' _ => pure_lst hB l' s', ?_⟩⟩
    rintro i d W' S' H' x H'' hd l' s' _ ⟨T, x1, x2, rfl, hT, rfl, e1, e2⟩
    obtain ⟨y, h1, rfl⟩ := enumD_get 0 xs i d hd
    obtain ⟨u, g1, g2⟩ := rr.get h1
    have e2 : vs[i]? = some x2 := e2
    rw [g1] at e2
    cases e2
    cases e1
    rw [Nat.zero_add]
    exact pair_new s' hT (.int _) (g2.mono l'.le)⟩
def xZp (P : IP) (ds : List D) (S : Sto) : Prop := (∃ xs ys, ds = [.lst xs, .lst ys] ∧ P (zipD xs ys) (fun _ => True) S) ∨ ∃ xs ys, ds = [.tup xs, .tup ys] ∧ P (zipD xs ys) (fun _ => True) S
def iZp (TR : DTA) : DTI := fun env S P => TR env S (xZp P)
theorem walk_zipT {K : PySem.W.Frag} {a b : Addr} {xs ys : List V} : Walk (RZ.ItzT K a b) (min xs.length ys.length) (fun H => SqT K H a xs ∧ SqT K H b ys) (YPair (fun i => xs[i]?) (fun i => ys[i]?)) :=
  ⟨fun i H hi ⟨q1, q2⟩ => ⟨xs, ys, xs[i]'(by omega), ys[i]'(by omega), q1, q2, List.getElem?_eq_getElem _, List.getElem?_eq_getElem _⟩, fun H ⟨q1, q2⟩ => ⟨xs, ys, q1, q2, by omega⟩,
    fun i H v H' _ ⟨q1, q2⟩ ⟨T, x, y, h1, h2, h3, h4, h5⟩ => ⟨T, x, y, h1, h2, h3, h4 xs q1, h5 ys q2⟩⟩
theorem di_zip {elts : List Expr} {kk : Nat} {tpos : Pos} (ha : DA X W0 [a, b] TR) (h : ∀ {ta : L2.TA}, PA X [a, b] ta → PI X (.Tuple elts kk tpos) (.Call (.Name "zip" p) [a, b] [] pos) (RZ.iZipA X.K ta)) : DI X W0 (.Tuple elts kk tpos) (.Call (.Name "zip" p) [a, b] [] pos) (iZp TR) :=
  (h ha).imp fun σ H R ⟨W, env, S, P, hW, sim, er, ht, post⟩ => ⟨W, env, S, _, hW, sim, er, ht, fun ds S1 W1 H1 vs q s l r => by
    rcases q with ⟨xs, ys, e, q⟩ | ⟨xs, ys, e, q⟩
    · subst e
      obtain ⟨v, w, rfl, rv, rw'⟩ := r.two
      obtain ⟨a1, vs, rfl, hB, rr⟩ := rv.lstV
      obtain ⟨a2, ws, rfl, hB2, rr2⟩ := rw'.lstV
      refine ⟨a1, a2, vs, ws, rfl, .inl ⟨pure_lst hB .refl s, pure_lst hB2 .refl s, post _ _ S1 W1 H1 _ q s l ⟨fun H' => SqL X.K H' a1 vs ∧ SqL X.K H' a2 ws, _, by rw [zipD_len, ← rr.length, ← rr2.length]; exact walk_zip (xs := vs) (ys := ws) rfl, fun W' S' H' l' s' _ => ⟨pure_lst hB l' s', pure_lst hB2 l' s'⟩, ?_⟩⟩⟩
      rintro i d W' S' H' x H'' hd l' s' _ ⟨T, x1, x2, rfl, hT, rfl, e1, e2⟩
      obtain ⟨y, z, h1, h2, rfl⟩ := zipD_get xs ys i d hd
      obtain ⟨u, g1, g2⟩ := rr.get h1
      obtain ⟨u2, g3, g4⟩ := rr2.get h2
      have e1 : vs[i]? = some x1 := e1
      have e2 : ws[i]? = some x2 := e2
      rw [g1] at e1
      rw [g3] at e2
      cases e1
      cases e2
      exact pair_new s' hT (g2.mono l'.le) (g4.mono l'.le)
    · subst e
      obtain ⟨v, w, rfl, rv, rw'⟩ := r.two
      obtain ⟨a1, vs, rfl, hB, rr⟩ := rv.tupV
      obtain ⟨a2, ws, rfl, hB2, rr2⟩ := rw'.tupV
      have at_ : ∀ {W' : Wd} {S' : Sto} {H' : Hp} {aa : Addr} {us : List V}, SqT X.K W1.B aa us → Stp W1 H1 W' H' → Sim X.K W' S' H' → SqT X.K H' aa us := fun h l' s' => same_sqt s'.same (same_sqt l'.le.same h)
      refine ⟨a1, a2, vs, ws, rfl, .inr ⟨at_ hB .refl s, at_ hB2 .refl s, post _ _ S1 W1 H1 _ q s l ⟨fun H' => SqT X.K H' a1 vs ∧ SqT X.K H' a2 ws, _, by rw [zipD_len, ← rr.length, ← rr2.length]; exact walk_zipT (xs := vs) (ys := ws), fun W' S' H' l' s' _ => ⟨at_ hB l' s', at_ hB2 l' s'⟩, ?_⟩⟩⟩
      rintro i d W' S' H' x H'' hd l' s' _ ⟨T, x1, x2, rfl, hT, rfl, e1, e2⟩
      obtain ⟨y, z, h1, h2, rfl⟩ := zipD_get xs ys i d hd
      obtain ⟨u, g1, g2⟩ := rr.get h1
      obtain ⟨u2, g3, g4⟩ := rr2.get h2
      have e1 : vs[i]? = some x1 := e1
      have e2 : ws[i]? = some x2 := e2
      rw [g1] at e1
      rw [g3] at e2
      cases e1
      cases e2
      exact pair_new s' hT (g2.mono l'.le) (g4.mono l'.le)⟩
def xFor (ds : List D) (ok : Sto → Prop) (S1 : Sto) (G : DTG) (TB : DTS) (E : DEnds) (env : Ev) : Prop := ∃ I : Nat → Ev → Sto → Prop, I 0 env S1 ∧ (∀ i env' S', i ≤ ds.length → I i env' S' → ok S') ∧
  (∀ i x env' S', ds[i]? = some x → I i env' S' → G x env' S' fun env2 S2 => TB { E with nx := I (i + 1), ct := I (i + 1), bk := E.nx } env2 S2) ∧ ∀ env' S', I ds.length env' S' → E.nx env' S'
def dFor (TI : DTI) (G : DTG) (TB : DTS) : DTS := fun E env S => TI env S fun ds ok S1 => xFor ds ok S1 G TB E env
theorem ds_for {body : List Stmt} (hp : PassesOwn (model X.prog X.w) X.A X.env X.xe) (hc : X.calm = true) (hi : DI X W0 tg e TI) (hg : DG X W0 ss tg G) (hb : DSs X W0 body TS) (hs : ∀ x, foldedSetIterable e X.env x = pure x := by intro _; rfl) :
    DS X W0 (.For tg e body [] pos) (dFor TI G TS) := (ps_for hp hc hi hg hb hs).imp fun D σ H ⟨W, env, S, E, hW, sim, er, ht, post⟩ => ⟨W, env, S, _, hW, sim, er, ht, fun ds ok S1 W1 H1 J ⟨I, i0, iok, turn, fin⟩ s l ⟨Gd, Y, wk, wok, wy⟩ => by
  refine for_it wk (fun i σ' H' => ∃ W' env' S', Stp W1 H1 W' H' ∧ Sim X.K W' S' H' ∧ EnvR X.K W' env' σ' ∧ I i env' S') ⟨W1, env, S1, .refl, s, er.mono l.le, i0⟩ ?_ ?_ ?_
  · rintro i σ' H' hi ⟨W', env', S', l', s', er', ii⟩
    exact wok W' S' H' l' s' (iok i env' S' hi ii)
  · rintro i x σ' H' H'' hi ⟨W', env', S', l', s', er', ii⟩ y
    have hd : ds[i]? = some ds[i] := List.getElem?_eq_getElem hi
    obtain ⟨W2, s2, l2, r2⟩ := wy i _ W' S' H' x H'' hd l' s' (iok i env' S' (Nat.le_of_lt hi) ii) y
    have lx := l.trans (l'.trans l2)
    refine ⟨W2, env', S', _, _, hW.trans lx, s2, er'.mono l2.le, r2, turn i _ env' S' hd ii, fun env3 S3 W3 H3 σ3 q3 s3 l3 er3 _ => ?_⟩
    have pm := post.mono (lx.trans l3)
    exact ⟨W3, env3, S3, _, hW.trans (lx.trans l3), s3, er3, q3, ⟨fun env4 S4 W4 H4 σ4 q4 s4 l4 er4 => ⟨W4, env4, S4, (l'.trans l2).trans (l3.trans l4), s4, er4, q4⟩, pm.rt, pm.nx, fun env4 S4 W4 H4 σ4 q4 s4 l4 er4 => ⟨W4, env4, S4, (l'.trans l2).trans (l3.trans l4), s4, er4, q4⟩⟩⟩
  · rintro σ' H' ⟨W', env', S', l', s', er', ii⟩
    exact post.nx env' S' W' H' σ' (fin env' S' ii) s' (l.trans l') er'⟩
def xLc (ds : List D) (ok : Sto → Prop) (S1 : Sto) (G : DTG) (TT : DTT) (T : DTE) (vs : List Nat) (env : Ev) (P : List D → Sto → Prop) : Prop := ∃ I : Nat → List D → Sto → Prop, I 0 [] S1 ∧ (∀ i acc S', i ≤ ds.length → I i acc S' → ok S' ∧ acc.length < sizeLine) ∧
  (∀ i x acc S', ds[i]? = some x → I i acc S' → G x (wipeE env vs) S' fun env2 S2 => TT env2 S2 fun k S3 => if k = true then T env2 S3 fun y S4 => I (i + 1) (acc ++ [y]) S4 else I (i + 1) acc S3) ∧ ∀ acc S', I ds.length acc S' → P acc S'
def dLc (TI : DTI) (G : DTG) (TT : DTT) (T : DTE) (vs : List Nat) : DTN := fun env S P => TI env S fun ds ok S1 => xLc ds ok S1 G TT T vs env P
theorem lift_lc {TT : DTT} {vs : List Nat} (hss : ∀ i ∈ ss, i ∈ vs) {σ : L2.St} {H : Hp} {Q : VK} (h : liftN X.K W0 (dLc TI G TT T vs) σ H Q) : tLc (liftI X.K W0 TI) (liftG X.K W0 ss G) (liftT X.K W0 TT) (liftE X.K W0 T) vs σ H Q := by
  obtain ⟨W, env, S, P, hW, sim, er, ht, post⟩ := h
  refine ⟨W, env, S, _, hW, sim, er, ht, fun ds ok S1 W1 H1 J ⟨I, i0, iok, turn, fin⟩ s l ⟨Gd, Y, wk, wok, wy⟩ Dl hD => ?_⟩
  -- the new list stands beside the world
  have key : ∀ {W2 : Wd} {S2 : Sto} {H2 : Hp} {W3 : Wd} {S3 : Sto} {H3 : Hp} {us : List V}, Sim X.K W2 S2 H2 → Stp W2 H2 W3 H3 → W2.B Dl = none → Dl ∉ W2.m → H2 Dl = some (.lst us) → W3.B Dl = none ∧ Dl ∉ W3.m ∧ H3 Dl = some (.lst us) := fun {W2 S2 H2 W3 S3 H3 us} s2 l2 hB hm hH => by
    refine ⟨?_, fun z => ?_, l2.keep _ _ hH hm (fun _ z => by cases z)⟩
    · cases e : W3.B Dl with
      | none => rfl
      | some o =>
        rcases l2.newB Dl o e with q | q | q | ⟨φ, q⟩
        · rw [hB] at q; cases q
        · exact (q.not hH fun _ z => by cases z).elim
        · exact absurd q hm
        · rw [hH] at q; cases q
    · rcases l2.newm Dl z with q | q
      · exact hm q
      · exact (q.not hH fun _ z => by cases z).elim
  refine lc_it wk (fun i H' => ∃ W' S' acc us, Stp W1 H1 W' H' ∧ Sim X.K W' S' H' ∧ W'.B Dl = none ∧ Dl ∉ W'.m ∧ H' Dl = some (.lst us) ∧ Reps X.K W' us acc ∧ I i acc S') ⟨W1, S1, [], [], .lay hD, s.lay hD, s.free hD, fun z => s.dom Dl z hD, upd_same, .nil, i0⟩ ?_ ?_ ?_
  · rintro i H' hi ⟨W', S', acc, us, l', s', _, _, _, _, ii⟩
    exact wok W' S' H' l' s' (iok i acc S' hi ii).1
  · rintro i x H' H'' hi ⟨W', S', acc, us, l', s', hB, hm, hH, rr, ii⟩ y
    have hd : ds[i]? = some ds[i] := List.getElem?_eq_getElem hi
    obtain ⟨W2, s2, l2, r2⟩ := wy i _ W' S' H' x H'' hd l' s' (iok i acc S' (Nat.le_of_lt hi) ii).1 y
    obtain ⟨hB2, hm2, hH2⟩ := key (S3 := S') s' l2 hB hm hH
    have lx := l'.trans l2
    refine ⟨W2, wipeE env vs, S', _, _, hW.trans (l.trans lx), s2, (er.mono (l.trans lx).le).wipe vs, r2, turn i _ acc S' hd ii, fun env3 S3 W3 H3 σ3 q3 s3 l3 er3 ag => ⟨?_, ?_⟩⟩
    · rw [ag.wipe hss, wipe_wipe]
    · obtain ⟨hB3, hm3, hH3⟩ := key (S3 := S3) s2 l3 hB2 hm2 hH2
      refine lift_if (hW.trans (l.trans (lx.trans l3))) s3 er3 q3 fun k S4 W4 H4 q4 s4 l4 => ?_
      obtain ⟨hB4, hm4, hH4⟩ := key (S3 := S4) s3 l4 hB3 hm3 hH3
      have l34 := l2.trans (l3.trans l4)
      cases k with
      | true =>
        refine ⟨W4, env3, S4, _, hW.trans ((l.trans lx).trans (l3.trans l4)), s4, er3.mono l4.le, q4, fun d5 S5 W5 H5 v5 q5 s5 l5 r5 => ?_⟩
        obtain ⟨hB5, hm5, hH5⟩ := key (S3 := S5) s4 l5 hB4 hm4 hH4
        refine ⟨us, hH5, by rw [rr.length]; exact (iok i acc S' (Nat.le_of_lt hi) ii).2, W5, S5, acc ++ [d5], us ++ [v5], ?_, ?_, hB5, hm5, upd_same, (rr.mono (l34.trans l5).le).app (.cons r5 .nil), q5⟩
        · have lz := l'.trans (l34.trans l5)
          refine ⟨lz.le, fun q o hq hn ht => ?_, fun q hq => lz.dom q (fre_set (fun _ z => by cases z) q hq), lz.newm, lz.newB⟩
          have hne : q ≠ Dl := fun z => by rw [z, hD] at hq; cases hq
          rw [upd_ne hne]
          exact lz.keep q o hq hn ht
        · refine ⟨fun b u e => ?_, s5.len, s5.nd, fun b hb => upd_dom b (s5.dom b hb), fun j b ob g1 g2 => ?_, s5.ntb⟩
          · rw [upd_ne (ne_of_none e hB5)]
            exact s5.same b u e
          · refine (s5.obj j b ob g1 g2).mono (Wd.le.refl _) ?_ (upd_ne fun z => hm5 (z ▸ List.mem_of_getElem? g1))
            by_cases hb : W5.B b = none
            · exact .inl hb
            · exact .inr hb
      | false => exact ⟨W4, S4, acc, us, l'.trans l34, s4, hB4, hm4, hH4, rr.mono l34.le, q4⟩
  · rintro H' ⟨W', S', acc, us, l', s', hB, hm, hH, rr, ii⟩
    exact post acc S' W' H' Dl us (fin acc S' ii) s' (l.trans l') (l.free (.of hD)) hB hm hH rr
theorem dn_lc {TT : DTT} {elt iter : Expr} {ifs : List Expr} {scope : Scope} {own : List (Str × Nat)} (hss : ∀ i ∈ ss, i ∈ own.map (·.2)) (hc : X.calm = true) (hN : X.N.Nodup) (hi : DI X W0 tg iter TI) (ok : BlkOk X.N X.env.scope scope own)
    (hg : ∀ (s : Shared) (H : Hp) (C : Addr) (cl : List (Str × Addr)) (fp : List Addr), PG (X.blk s H scope (compEnvC scope cl C X.env) fp) tg (liftG X.K W0 ss G)) (ht : ∀ (s : Shared) (H : Hp) (C : Addr) (cl : List (Str × Addr)) (fp : List Addr), PTs (X.blk s H scope (compEnvC scope cl C X.env) fp) ifs (liftT X.K W0 TT))
    (he : ∀ (s : Shared) (H : Hp) (C : Addr) (cl : List (Str × Addr)) (fp : List Addr), PE (X.blk s H scope (compEnvC scope cl C X.env) fp) elt (liftE X.K W0 T)) (hs : ∀ x, foldedSetIterable iter X.env x = pure x := by intro _; rfl) :
    DN X W0 (.ListComp elt [⟨tg, iter, ifs, 0⟩] scope pos) (dLc TI G TT T (own.map (·.2))) := (pe_lc hc hN hi ok hg ht he hs).imp fun _ _ _ q => lift_lc hss q
def dYes : DTT := fun _ S P => P true S
theorem dts_nil : PTs X [] (liftT X.K W0 dYes) := ⟨fun pins s σ H Q I ⟨W, env, S, P, hW, sim, er, ht, post⟩ => pts_nil.run pins s σ H Q I (post true S W H ht sim .refl)⟩
theorem dts_one (h : DT X W0 c TA) : PTs X [c] (liftT X.K W0 TA) := pts_one h
end
end DL
namespace DL
open PySem PySem.Spec PyProof.Rows L2
abbrev DSp := List D → Sto → DP → Prop
def liftSp (K : PySem.W.Frag) (sp : DSp) : Sp := fun vs H Q _ => ∃ W ds S P, Sim K W S H ∧ Reps K W vs ds ∧ sp ds S P ∧ Post K W H P Q
section
variable {X : Cx} {W0 : Bs} {a b c e tg : Expr} {es : List Expr} {Ta Tb Tc T : DTE} {TA TB : DTT} {TR : DTA} {pos p apos cpos : Pos}
def dCall (R : List D → Sto → DP → Prop) (TR : DTA) : DTE := fun env S P => TR env S fun ds S1 => R ds S1 P
theorem de_call {k : Nat} {f : Addr} {fd : FuncData} {ps : List Str} {sp : DSp} {x : Str} (ha : DA X W0 es TR) (h : ∀ {ta : L2.TA}, PA X es ta → PE X (.Call (.Name x p) es [] pos) (tCall (liftSp X.K sp) [] E0 ta)) : DE X W0 (.Call (.Name x p) es [] pos) (dCall sp TR) :=
  (h ha).imp fun σ H Q ⟨W, env, S, P, hW, sim, er, ht, post⟩ => ⟨W, env, S, _, hW, sim, er, ht, fun ds S1 W1 H1 vs q s l r => by
    show liftSp X.K sp (vs ++ []) H1 Q E0
    rw [List.append_nil]
    exact ⟨W1, ds, S1, P, s, r, q, post.mono l⟩⟩
/-- a built-in, by values -/
def DCl (K : PySem.W.Frag) (r : List V → Hp → VK → Prop) (R : List D → Sto → DP → Prop) : Prop := ∀ W S H vs ds P Q, Sim K W S H → Reps K W vs ds → R ds S P → Post K W H P Q → r vs H Q
theorem de_b {r : List V → Hp → VK → Prop} {R : List D → Sto → DP → Prop} (hr : DCl X.K r R) (ha : DA X W0 es TR) (h : ∀ {ta : L2.TA}, PA X es ta → PE X e (tCB r ta)) : DE X W0 e (dCall R TR) :=
  (h ha).imp fun σ H Q ⟨W, env, S, P, hW, sim, er, ht, post⟩ => ⟨W, env, S, _, hW, sim, er, ht, fun ds S1 W1 H1 vs q s l r => hr W1 S1 H1 vs ds P Q s r q (post.mono l)⟩
def dCallN (R : List D → Sto → (List D → Sto → Prop) → Prop) (TR : DTA) : DTN := fun env S P => TR env S fun ds S1 => R ds S1 P
def DClN (K : PySem.W.Frag) (r : List V → Hp → VK → Prop) (R : List D → Sto → (List D → Sto → Prop) → Prop) : Prop := ∀ W S H vs ds P Q, Sim K W S H → Reps K W vs ds → R ds S P → PostL K W H P Q → r vs H Q
theorem dn_b {r : List V → Hp → VK → Prop} {R : List D → Sto → (List D → Sto → Prop) → Prop} (hr : DClN X.K r R) (ha : DA X W0 es TR) (h : ∀ {ta : L2.TA}, PA X es ta → PE X e (tCB r ta)) : DN X W0 e (dCallN R TR) :=
  (h ha).imp fun σ H Q ⟨W, env, S, P, hW, sim, er, ht, post⟩ => ⟨W, env, S, _, hW, sim, er, ht, fun ds S1 W1 H1 vs q s l r => hr W1 S1 H1 vs ds P Q s r q (post.mono l)⟩
/-- what len, list(), tuple() read -/
def itemsOf (S : Sto) : D → Option (List D)
  | .scr ns => some (ns.map .int)
  | d => seqOf S d
theorem Rep.items {K : PySem.W.Frag} {W : Wd} {S : Sto} {H : Hp} {v : V} {d : D} {ds : List D} (s : Sim K W S H) (r : Rep K W v d) (h : itemsOf S d = some ds) : ∃ a vs, v = .ref a ∧ (SqL K H a vs ∨ SqT K H a vs) ∧ Reps K W vs ds := by
  cases r with
  | scr h1 => cases h; exact ⟨_, _, rfl, .inl (same_sql s.same h1), reps_ints _⟩
  | tup h1 h2 => exact Rep.seq_of s (.tup h1 h2) h
  | lst h1 h2 => exact Rep.seq_of s (.lst h1 h2) h
  | ref h1 => exact Rep.seq_of s (.ref h1) h
  | _ => cases h
def bLen : List D → Sto → DP → Prop := fun ds S P => ∃ d xs, ds = [d] ∧ itemsOf S d = some xs ∧ P (.int xs.length) S
theorem dc_len {K : PySem.W.Frag} : DCl K (fun xs H Q => ∃ p ys, xs = [.ref p] ∧ (SqL K H p ys ∨ SqT K H p ys) ∧ Q (.int ys.length) H) bLen := by
  intro W S H vs ds P Q s r ⟨d, xs, e, h, q⟩ post
  subst e
  obtain ⟨v, rfl, rv⟩ := r.one
  obtain ⟨a, us, rfl, hq, rr⟩ := rv.items s h
  refine ⟨a, us, rfl, hq, ?_⟩
  rw [rr.length]
  exact post _ _ W H _ q s .refl (.int _)
def bMin : List D → Sto → DP → Prop := fun ds S P => ∃ i j, ds = [.int i, .int j] ∧ P (.int (if j < i then j else i)) S
def bMax : List D → Sto → DP → Prop := fun ds S P => ∃ i j, ds = [.int i, .int j] ∧ P (.int (if j > i then j else i)) S
theorem dc_min {K : PySem.W.Frag} : DCl K (fun xs H Q => ∃ i j, xs = [.int i, .int j] ∧ Q (.int (if j < i then j else i)) H) bMin := by
  intro W S H vs ds P Q s r ⟨i, j, e, q⟩ post
  subst e
  obtain ⟨v, w, rfl, rv, rw'⟩ := r.two
  exact ⟨i, j, by rw [rv.intV, rw'.intV], post _ _ W H _ q s .refl (.int _)⟩
theorem dc_max {K : PySem.W.Frag} : DCl K (fun xs H Q => ∃ i j, xs = [.int i, .int j] ∧ Q (.int (if j > i then j else i)) H) bMax := by
  intro W S H vs ds P Q s r ⟨i, j, e, q⟩ post
  subst e
  obtain ⟨v, w, rfl, rv, rw'⟩ := r.two
  exact ⟨i, j, by rw [rv.intV, rw'.intV], post _ _ W H _ q s .refl (.int _)⟩
def bList : List D → Sto → (List D → Sto → Prop) → Prop := fun ds S P => ∃ d xs, ds = [d] ∧ itemsOf S d = some xs ∧ P xs S
theorem dc_list {K : PySem.W.Frag} : DClN K (fun xs H Q => ∃ p ys, xs = [.ref p] ∧ (SqL K H p ys ∨ SqT K H p ys) ∧ ∀ l, H l = none → Q (.ref l) (upd H l (.lst ys))) bList := by
  intro W S H vs ds P Q s r ⟨d, xs, e, h, q⟩ post
  subst e
  obtain ⟨v, rfl, rv⟩ := r.one
  obtain ⟨a, us, rfl, hq, rr⟩ := rv.items s h
  exact ⟨a, us, rfl, hq, post.laid q s rr⟩
def bTuple : List D → Sto → DP → Prop := fun ds S P => ∃ d xs, ds = [d] ∧ seqOf S d = some xs ∧ P (.tup xs) S
theorem dc_tuple {K : PySem.W.Frag} : DCl K (fun xs H Q => ∃ p ys, xs = [.ref p] ∧ ((SqL K H p ys ∧ ∀ l, H l = none → Q (.ref l) (upd H l (.tup ys))) ∨ (SqT K H p ys ∧ Q (.ref p) H))) bTuple := by
  intro W S H vs ds P Q s r ⟨d, xs, e, h, q⟩ post
  subst e
  obtain ⟨v, rfl, rv⟩ := r.one
  cases rv with
  | tup h1 h2 => cases h; exact ⟨_, _, rfl, .inr ⟨same_sqt s.same h1, post _ _ W H _ q s .refl (.tup h1 h2)⟩⟩
  | lst h1 h2 => cases h; exact ⟨_, _, rfl, .inl ⟨SqL.of (s.same _ _ h1), post.newT s h2 q⟩⟩
  | ref h1 =>
    obtain ⟨a, us, e, hq, rr⟩ := Rep.lst_of s (.ref h1) h
    exact ⟨a, us, by rw [e], .inl ⟨SqL.of hq, post.newT s rr q⟩⟩
  | _ => cases h
theorem Reps.ints {K : PySem.W.Frag} {W : Wd} : ∀ {ns : List Int} {vs : List V}, Reps K W vs (ns.map D.int) → vs = ns.map V.int
  | [], _, r => by cases r; rfl
  | n :: ns, _, r => by
    cases r with
    | cons h t => rw [h.intV, Reps.ints t]; rfl
theorem Reps.bools {K : PySem.W.Frag} {W : Wd} : ∀ {ns : List Bool} {vs : List V}, Reps K W vs (ns.map D.bl) → vs = ns.map V.bl
  | [], _, r => by cases r; rfl
  | n :: ns, _, r => by
    cases r with
    | cons h t => rw [h.bool, Reps.bools t]; rfl
def bAll : List D → Sto → DP → Prop := fun ds S P => ∃ (d : D) (bs : List Bool), ds = [d] ∧ lstOf S d = some (bs.map .bl) ∧ P (.bl (bs.all id)) S
theorem dc_all {K : PySem.W.Frag} : DCl K (rAll K) bAll := by
  intro W S H vs ds P Q s r ⟨d, ns, e, h, q⟩ post
  subst e
  obtain ⟨v, rfl, rv⟩ := r.one
  obtain ⟨a, us, rfl, hq, rr⟩ := rv.lst_of s h
  exact ⟨a, ns, rfl, by rw [← rr.bools]; exact SqL.of hq, post _ _ W H _ q s .refl (.bl _)⟩
def tyOf (S : Sto) : D → Option String
  | .non => some "NoneType"
  | .bl _ => some "bool"
  | .int _ => some "int"
  | .str _ => some "str"
  | .tup _ => some "tuple"
  | .lst _ => some "list"
  | .ref i => match S[i]? with
    | some (.lst _) => some "list"
    | _ => none
  | _ => none
theorem Rep.tyx {K : PySem.W.Frag} {W : Wd} {S : Sto} {H : Hp} {v : V} {d : D} {n : String} (s : Sim K W S H) (r : Rep K W v d) (h : tyOf S d = some n) : TyX K H v (.type n) := by
  cases r with
  | non => cases h; exact .base .non
  | bl b => cases h; exact .base (.bl b)
  | int i => cases h; exact .base (.int i)
  | str x => cases h; exact .base (.str x)
  | tup h1 _ =>
    cases h
    rcases same_sqt s.same h1 with (q | ⟨o, q⟩) | ⟨o, its, m, q, c, _⟩
    · exact .base (.tup q)
    · exact .fTuple q
    · exact .kTuple q c
  | lst h1 _ => cases h; exact .base (.lst (s.same _ _ h1))
  | @ref i a hi =>
    dsimp only [tyOf] at h
    cases hs : S[i]? with
    | none => rw [hs] at h; cases h
    | some o =>
      rw [hs] at h
      cases o with
      | lst xs =>
        cases h
        obtain ⟨_, vs, e, _⟩ := s.obj i a _ hi hs
        exact .base (.lst e)
      | _ => cases h
  | _ => cases h
def bIsi : List D → Sto → DP → Prop := fun ds S P => ∃ d n t k, ds = [d, .ty t] ∧ tyOf S d = some n ∧ kitB n t = some k ∧ P (.bl k) S
theorem dc_isi {K : PySem.W.Frag} : DCl K (rIsi K) bIsi := by
  intro W S H vs ds P Q s r ⟨d, n, t, k, e, h, hk, q⟩ post
  subst e
  obtain ⟨v, w, rfl, rv, rw'⟩ := r.two
  cases rw'
  exact ⟨v, _, _, _, k, rfl, .ty t, rv.tyx s h, kit_ty hk, post _ _ W H _ q s .refl (.bl k)⟩
end
section
variable {X : Cx} {W0 : Bs} {a e : Expr} {es : List Expr} {Ta T : DTE} {TR : DTA} {pos p apos cpos : Pos}
def dMt (R : D → List D → Sto → DP → Prop) (Ta : DTE) (TR : DTA) : DTE := fun env S P => Ta env S fun x S1 => (∃ i xs, x = .ref i ∧ S1[i]? = some (.lst xs)) ∧ TR env S1 fun ds S2 => R x ds S2 P
def DMt (K : PySem.W.Frag) (r : V → List V → Hp → VK → Prop) (R : D → List D → Sto → DP → Prop) : Prop := ∀ W S H x vs d ds P Q, Sim K W S H → Rep K W x d → Reps K W vs ds → R d ds S P → Post K W H P Q → r x vs H Q
theorem de_mt {r : V → List V → Hp → VK → Prop} {R : D → List D → Sto → DP → Prop} (hr : DMt X.K r R) (ho : DE X W0 a Ta) (ha : DA X W0 es TR) (h : ∀ {to : TE} {ta : L2.TA}, PE X a to → PA X es ta → PE X e (tBM X.K "list" r to ta)) : DE X W0 e (dMt R Ta TR) :=
  (h ho ha).imp fun σ H Q ⟨W, env, S, P, hW, sim, er, ht, post⟩ => ⟨W, env, S, _, hW, sim, er, ht, fun x S1 W1 H1 v ⟨⟨i, xs, ex, hS⟩, q⟩ s l r => by
    refine ⟨?_, W1, env, S1, _, hW.trans l, s, er.mono l.le, q, fun ds S2 W2 H2 vs q2 s2 l2 r2 => hr W2 S2 H2 _ _ x ds P Q s2 (r.mono l2.le) r2 q2 (post.mono (l.trans l2))⟩
    subst ex
    cases r with
    | ref hi =>
      obtain ⟨_, vs, e, _⟩ := s.obj i _ _ hi hS
      exact .inl ⟨rfl, vs, SqL.of e⟩⟩
def mAppend : D → List D → Sto → DP → Prop := fun x ds S P => ∃ i xs y, x = .ref i ∧ ds = [y] ∧ S[i]? = some (.lst xs) ∧ xs.length < sizeLine ∧ P .non (S.set i (.lst (xs ++ [y])))
theorem dm_append {K : PySem.W.Frag} : DMt K rAppend mAppend := by
  intro W S H x vs d ds P Q s r rs ⟨i, xs, y, e1, e2, hS, hl, q⟩ post
  subst e1 e2
  cases r with
  | ref hi =>
    obtain ⟨v, rfl, rv⟩ := rs.one
    obtain ⟨hB, us, hH, rr⟩ := s.obj i _ _ hi hS
    exact ⟨_, us, v, rfl, rfl, hH, by rw [rr.length]; exact hl, post _ _ W _ _ q (s.setO hi hS hB ⟨hB, _, upd_same, rr.app (.cons rv .nil)⟩) (.setO hi) .non⟩
end
mutual
def D.under (n : Nat) : D → Bool
  | .ref i => decide (i < n)
  | .tup xs => unders n xs
  | .lst xs => unders n xs
  | .dct _ xs => unders n xs
  | _ => true
def unders (n : Nat) : List D → Bool
  | [] => true
  | x :: xs => x.under n && unders n xs
end
def O.under (n : Nat) : O → Bool
  | .lst xs => unders n xs
  | .ins _ fs => unders n (fs.map (·.2))
  | .dct _ xs => unders n xs
  | .dead => true
  | .any _ => true
  | .tab _ _ => true
def Wd.cut (W : Wd) (n : Nat) : Wd := ⟨W.m.take n, W.B⟩
section
variable {K : PySem.W.Frag} {W : Wd} {n : Nat}
mutual
theorem Rep.cut : ∀ {v : V} {d : D}, Rep K W v d → d.under n = true → Rep K (W.cut n) v d
  | _, _, .non, _ => .non
  | _, _, .bl b, _ => .bl b
  | _, _, .int i, _ => .int i
  | _, _, .str x, _ => .str x
  | _, _, .ty x, _ => .ty x
  | _, _, .tup h r, e => .tup h (Reps.cutW r e)
  | _, _, .lst h r, e => .lst h (Reps.cutW r e)
  | _, _, .dct h q r, e => .dct h q (Reps.cutW r e)
  | _, _, .scr h, _ => .scr h
  | _, _, .adr a, _ => .adr a
  | _, _, .fn h, _ => .fn h
  | _, _, .ref h, e => .ref (by
    show (W.m.take n)[_]? = some _
    rw [List.getElem?_take_of_lt (of_decide_eq_true e)]
    exact h)
theorem Reps.cutW : ∀ {vs : List V} {ds : List D}, Reps K W vs ds → unders n ds = true → Reps K (W.cut n) vs ds
  | _, _, .nil, _ => .nil
  | _, _, .cons h r, e => .cons (Rep.cut h (Bool.and_eq_true_iff.mp e).1) (Reps.cutW r (Bool.and_eq_true_iff.mp e).2)
end
mutual
theorem Rep.under : ∀ {v : V} {d : D}, Rep K W v d → d.under W.m.length = true
  | _, _, .non => rfl
  | _, _, .bl b => rfl
  | _, _, .int i => rfl
  | _, _, .str x => rfl
  | _, _, .ty x => rfl
  | _, _, .tup _ r => Reps.under r
  | _, _, .lst _ r => Reps.under r
  | _, _, .dct _ _ r => Reps.under r
  | _, _, .scr _ => rfl
  | _, _, .adr _ => rfl
  | _, _, .fn _ => rfl
  | _, _, .ref h => decide_eq_true (List.getElem?_eq_some_iff.mp h).1
theorem Reps.under : ∀ {vs : List V} {ds : List D}, Reps K W vs ds → unders W.m.length ds = true
  | _, _, .nil => rfl
  | _, _, .cons h r => Bool.and_eq_true_iff.mpr ⟨Rep.under h, Reps.under r⟩
end
theorem Sim.under {S : Sto} {H : Hp} (s : Sim K W S H) : ∀ o ∈ S, o.under S.length = true := fun o ho => by
  obtain ⟨i, hi⟩ := List.getElem?_of_mem ho
  obtain ⟨a, h1, h2⟩ := s.at hi
  cases o with
  | dead => rfl
  | lst xs => obtain ⟨_, _, _, r⟩ := h2; have := r.under; rw [s.len] at this; exact this
  | ins C fs => obtain ⟨_, _, _, _, r⟩ := h2; have := r.under; rw [s.len] at this; exact this
  | dct ks xs => obtain ⟨_, _, _, _, r⟩ := h2; have := r.under; rw [s.len] at this; exact this
  | any ho => rfl
  | tab p q => rfl
theorem Sim.cut {S T : Sto} {H : Hp} (s : Sim K W (S ++ T) H) (h : ∀ o ∈ S, o.under S.length = true) : Sim K (W.cut S.length) S H := by
  have hle : S.length ≤ W.m.length := by rw [s.len, List.length_append]; omega
  refine ⟨s.same, by show (W.m.take S.length).length = _; rw [List.length_take]; omega, s.nd.sublist (List.take_sublist _ _), fun a ha => s.dom a (List.mem_of_mem_take ha), fun i a o h1 h2 => ?_, s.ntb⟩
  have hi : i < S.length := (List.getElem?_eq_some_iff.mp h2).1
  have h1 : (W.m.take S.length)[i]? = some a := h1
  rw [List.getElem?_take_of_lt hi] at h1
  have q := s.obj i a o h1 (by rw [List.getElem?_append_left hi]; exact h2)
  have hb := h o (List.mem_of_getElem? h2)
  cases o with
  | dead => exact q
  | lst xs => obtain ⟨b, vs, e, r⟩ := q; exact ⟨b, vs, e, r.cutW hb⟩
  | ins C fs => obtain ⟨b, dx, vs, e, r⟩ := q; exact ⟨b, dx, vs, e, r.cutW hb⟩
  | dct ks xs => obtain ⟨b, vs, e, z, r⟩ := q; exact ⟨b, vs, e, z, r.cutW hb⟩
  | any ho => exact q
  | tab p' q' => exact q
theorem Stp.cut {W' : Wd} {H H' : Hp} {k : Nat} (s : Stp W H W' H') (hk : W.m.length ≤ k) : Stp W H (W'.cut k) H' :=
  ⟨⟨fun i a h => by
    show (W'.m.take k)[i]? = some a
    rw [List.getElem?_take_of_lt (Nat.lt_of_lt_of_le (List.getElem?_eq_some_iff.mp h).1 hk)]
    exact s.le.pre i a h, s.le.same⟩, s.keep, s.dom, fun q hq => s.newm q (List.mem_of_mem_take hq), s.newB⟩
end
/-- the end of a def: what lies behind the first of the store's is dropped -/
def atExit (S0 : Sto) (P : DP) : DP := fun d S' => ∃ S1 T, S' = S1 ++ T ∧ S1.length = S0.length ∧ (∀ o ∈ S1, o ∈ S0 ∨ o.under S1.length = true) ∧ d.under S1.length = true ∧ P d S1
theorem Post.exit {K : PySem.W.Frag} {W : Wd} {S : Sto} {H : Hp} {P : DP} {Q : VK} (s : Sim K W S H) (post : Post K W H P Q) : Post K W H (atExit S P) Q := fun d S' W' H' v ⟨S1, T, e, hl, ho, hd, q⟩ s' l r => by
  subst e
  have hb : ∀ o ∈ S1, o.under S1.length = true := fun o h => (ho o h).elim (fun z => by rw [hl]; exact s.under o z) id
  exact post d S1 (W'.cut S1.length) H' v q (s'.cut hb) (l.cut (by rw [s.len, hl]; exact Nat.le_refl _)) (r.cut hd)
def startE (N : List Str) (ds : List D) : Ev := ds.map some ++ List.replicate (N.length - ds.length) none
theorem EnvR.start {K : PySem.W.Frag} {W : Wd} {N : List Str} {vs : List V} {ds : List D} (r : Reps K W vs ds) : EnvR K W (startE N ds) (L2.start N vs) := by
  have hl := r.length
  refine ⟨by unfold L2.start startE; simp [hl], fun i d h => ?_⟩
  unfold startE at h
  have hi : i < ds.length := by
    by_cases hi : i < ds.length
    · exact hi
    · rw [List.getElem?_append_right (by simpa using hi), List.getElem?_replicate] at h
      split at h <;> cases h
  rw [List.getElem?_append_left (by simpa using hi), List.getElem?_map] at h
  cases e : ds[i]? with
  | none => rw [e] at h; cases h
  | some d' =>
    rw [e] at h
    cases h
    obtain ⟨v, h1, h2⟩ := r.get e
    refine ⟨v, ?_, h2⟩
    unfold L2.start
    rw [List.getElem?_append_left (by rw [List.length_map, hl]; exact hi), List.getElem?_map, h1]
    rfl
/-- the ends of a def's body -/
def exitE (S0 : Sto) (P : DP) : DEnds := { nx := fun _ S' => atExit S0 P .non S', rt := atExit S0 P }
/-- a def by its body over data -/
theorem fn_d {P : Program} {w : World} {K : PySem.W.Frag} {mg : Str → Option Value} {base : Heap} {x qual : Str} {st : Stmt} {f : Addr} {fd : FuncData} {N ps : List Str} {k : Nat} {sp : DSp} (F : Fun K x qual st f fd) (S : FnScope N ps (defScope st))
    (len : ∀ ds S P, sp ds S P → ds.length = ps.length)
    (body : ∀ (X : Cx) (W0 : Bs) (cdv : Value) (A : Around) (outer : List Env) (s : Shared) (H : Hp) (E : XK), X = (cxOf CX0 P w K mg base N qual (defScope st) f cdv A outer s H E).nox → Room k X.A →
      ∃ T : DTS, DSs X W0 (defBody st) T ∧ ∀ ds S P, sp ds S P → T (exitE S P) (startE N ds) S) : FnOk P w K mg base CX0 (k + 1) f fd ps (liftSp K sp) := by
  refine F.ok S (fun vs H Q E h => ?_) fun cdv A outer s H vs Q E hr h => ?_
  · obtain ⟨W, ds, S, P, _, r, q, _⟩ := h
    rw [r.length]
    exact len ds S P q
  · obtain ⟨W, ds, S, P, sim, r, q, post⟩ := h
    obtain ⟨T, hT, hq⟩ := body _ { W := W, H := H } cdv A outer s H E rfl hr
    exact ⟨_, hT, W, startE N ds, S, _, Stp.refl, sim, EnvR.start r, hq ds S P q, ⟨fun env S' W' H' σ q' s' l _ => post.exit sim _ _ W' H' _ q' s' l .non, post.exit sim, fun _ _ _ _ _ z => z.elim, fun _ _ _ _ _ z => z.elim⟩⟩
end DL
namespace DL
open PySem PySem.Spec PyProof.Rows L2
section
variable {X : Cx} {W0 : Bs} {a b c e tg : Expr} {es : List Expr} {Ta Tb Tc T : DTE} {TA TB : DTT} {TR : DTA} {pos p apos cpos : Pos}
theorem de_mul (ha : DE X W0 a Ta) (hb : DE X W0 b Tb) : DE X W0 (.BinOp a .Mult b pos) (dOp (dI CMul fun i j => .int (i * j)) Ta Tb) := de_op op_mul (dop_I fun _ _ _ => .int _) ha hb
def dNeg (Ta : DTE) : DTE := fun env S P => Ta env S fun x S1 => xInt (fun i => P (.int (-i)) S1) x
theorem de_neg (ha : DE X W0 a Ta) : DE X W0 (.UnaryOp .USub a pos) (dNeg Ta) := (pe_un un_neg ha).imp fun σ H Q ⟨W, env, S, P, hW, sim, er, ht, post⟩ =>
  ⟨W, env, S, _, hW, sim, er, ht, fun x S1 W1 H1 v ⟨i, e, q⟩ s l r => by
    subst e
    exact ⟨i, r.intV, post _ _ W1 H1 _ q s l (.int _)⟩⟩
/-- name = [..], the name a local on the same line -/
theorem ds_setLc {st : Stmt} {i : Nat} {TI : DTI} {G : DTG} {TT : DTT} {ss vs : List Nat} (hss : ∀ i ∈ ss, i ∈ vs) (h : PS X st (tAsg (tLc (liftI X.K W0 TI) (liftG X.K W0 ss G) (liftT X.K W0 TT) (liftE X.K W0 T) vs) (gName i))) : DS X W0 st (dAsg (dPure (dLc TI G TT T vs)) (gNm i)) :=
  h.imp fun D σ H ⟨W, env, S, E, hW, sim, er, ht, post⟩ => lift_lc hss ⟨W, env, S, _, hW, sim, er, ht, fun ds S' W' H' p us q s l hp hB hm hH r =>
    post.nx _ S' (W'.put p (.lst us)) H' _ q (s.adopt hB hm hH) (l.adopt hp hB) ((er.mono (l.adopt hp hB).le).set (.lst upd_same (r.mono (Wd.le_put hB))))⟩
/-- a, b = x, y -/
def xPar (F : D → D → Prop) (ds : List D) : Prop := ∃ d1 d2, ds = [d1, d2] ∧ F d1 d2
def dPar (i j : Nat) (TR : DTA) : DTS := fun E env S => TR env S fun ds S1 => xPar (fun d1 d2 => E.nx ((env.set i (some d1)).set j (some d2)) S1) ds
theorem ds_par {st : Stmt} {i j : Nat} (ha : DA X W0 es TR) (h : ∀ {ta : L2.TA}, PA X es ta → PS X st (tPar i j ta)) : DS X W0 st (dPar i j TR) := (h ha).imp fun D σ H ⟨W, env, S, E, hW, sim, er, ht, post⟩ =>
  ⟨W, env, S, _, hW, sim, er, ht, fun ds S1 W1 H1 vs ⟨d1, d2, e, q⟩ s l r => by
    subst e
    obtain ⟨v, w, rfl, rv, rw'⟩ := r.two
    exact ⟨v, w, rfl, post.nx _ S1 W1 H1 _ q s l (((er.mono l.le).set rv).set rw')⟩⟩
end
end DL
namespace DL
open PySem PySem.Spec PyProof.Rows L2
section
variable {env : Ev} {S S' : Sto} {P : DP} {Q : List D → Sto → Prop} {B : Bool → Sto → Prop} {E : DEnds} {Ta Tb Tc T : DTE} {TA TB : DTT} {TR : DTA} {TN : DTN} {TS TU : DTS} {G : DTG} {Gs : DTGs} {R R' : D2} {x y d d1 d2 : D} {xs ys ds : List D} {i j k : Int} {n : Nat} {b : Bool} {N : Ev → Sto → Prop} {TO Th : DTO} {O' : Option Int → Sto → Prop}
theorem i_var (h : env[n]? = some (some d)) (q : P d S) : dVar n env S P := ⟨d, h, q⟩
theorem i_c (q : P d S) : dC d env S P := q
instance  : Wk (dC d env S P) (P d S) := ⟨fun q => i_c q⟩
theorem i_op (q : Ta env S fun d1 S1 => Tb env S1 fun d2 S2 => R d1 d2 S2 P) : dOp R Ta Tb env S P := q
instance  : Wk (dOp R Ta Tb env S P) (Ta env S fun d1 S1 => Tb env S1 fun d2 S2 => R d1 d2 S2 P) := ⟨fun q => i_op q⟩
theorem i_opN {RN : D2N} (q : Ta env S fun d1 S1 => Tb env S1 fun d2 S2 => RN d1 d2 S2 Q) : dOpN RN Ta Tb env S Q := q
instance {RN : D2N} : Wk (dOpN RN Ta Tb env S Q) (Ta env S fun d1 S1 => Tb env S1 fun d2 S2 => RN d1 d2 S2 Q) := ⟨fun q => i_opN q⟩
theorem i_pure (q : TN env S fun ds S' => P (.lst ds) S') : dPure TN env S P := q
instance  : Wk (dPure TN env S P) (TN env S fun ds S' => P (.lst ds) S') := ⟨fun q => i_pure q⟩
theorem i_new (q : TN env S fun ds S' => P (.ref S'.length) (S' ++ [.lst ds])) : dNew TN env S P := q
instance  : Wk (dNew TN env S P) (TN env S fun ds S' => P (.ref S'.length) (S' ++ [.lst ds])) := ⟨fun q => i_new q⟩
theorem i_I {C : Int → Int → Prop} {g : Int → Int → D} (h : C i j) (q : P (g i j) S) : dI C g (.int i) (.int j) S P := ⟨i, j, rfl, rfl, h, q⟩
theorem i_I0 {g : Int → Int → D} (q : P (g i j) S) : dI0 g (.int i) (.int j) S P := ⟨i, j, rfl, rfl, q⟩
instance {g : Int → Int → D} : Wk (dI0 g (.int i) (.int j) S P) (P (g i j) S) := ⟨fun q => i_I0 q⟩
theorem i_addI (q : P (.int (i + j)) S) : dAdd (.int i) (.int j) S P := q
instance  : Wk (dAdd (.int i) (.int j) S P) (P (.int (i + j)) S) := ⟨fun q => i_addI q⟩
theorem i_addT (hl : xs.length + ys.length ≤ sizeLine) (q : P (.tup (xs ++ ys)) S) : dAdd (.tup xs) (.tup ys) S P := ⟨hl, q⟩
theorem i_cat (h1 : lstOf S x = some xs) (h2 : lstOf S y = some ys) (hl : xs.length + ys.length ≤ sizeLine) (q : Q (xs ++ ys) S) : dCat x y S Q := ⟨xs, ys, h1, h2, hl, q⟩
theorem i_addL (q : dCat (.lst xs) y S fun zs S' => P (.lst zs) S') : dAdd (.lst xs) y S P := by cases y <;> exact q
instance  : Wk (dAdd (.lst xs) y S P) (dCat (.lst xs) y S fun zs S' => P (.lst zs) S') := ⟨fun q => i_addL q⟩
theorem i_addR {m : Nat} (q : dCat (.ref m) y S fun zs S' => P (.lst zs) S') : dAdd (.ref m) y S P := by cases y <;> exact q
instance {m : Nat} : Wk (dAdd (.ref m) y S P) (dCat (.ref m) y S fun zs S' => P (.lst zs) S') := ⟨fun q => i_addR q⟩
theorem i_rep (h1 : lstOf S x = some xs) (h2 : -(2 ^ 63) ≤ k) (h3 : k < 2 ^ 63) (hl : xs.length * k.toNat ≤ sizeLine) (q : Q (List.replicate k.toNat xs).flatten S) : dRep x (.int k) S Q := ⟨xs, k, h1, rfl, h2, h3, hl, q⟩
theorem i_ix (h1 : seqOf S x = some xs) (h2 : L2.atI xs i = some d) (q : P d S) : dIx x (.int i) S P := ⟨xs, i, d, h1, rfl, h2, q⟩
theorem i_eqI {g : Bool → Bool} (q : P (.bl (g (decide (i = j)))) S) : dEqG g (.int i) (.int j) S P := q
instance {g : Bool → Bool} : Wk (dEqG g (.int i) (.int j) S P) (P (.bl (g (decide (i = j)))) S) := ⟨fun q => i_eqI q⟩
theorem i_eqS {g : Bool → Bool} {u v : Str} (q : P (.bl (g (decide (u = v)))) S) : dEqG g (.str u) (.str v) S P := q
instance {g : Bool → Bool} {u v : Str} : Wk (dEqG g (.str u) (.str v) S P) (P (.bl (g (decide (u = v)))) S) := ⟨fun q => i_eqS q⟩
theorem i_eqB {g : Bool → Bool} {u v : Bool} (q : P (.bl (g (decide (u = v)))) S) : dEqG g (.bl u) (.bl v) S P := q
instance {g : Bool → Bool} {u v : Bool} : Wk (dEqG g (.bl u) (.bl v) S P) (P (.bl (g (decide (u = v)))) S) := ⟨fun q => i_eqB q⟩
theorem i_is {g : Bool → Bool} (q : P (.bl (g (isNon x))) S) : dIs g x .non S P := ⟨rfl, q⟩
instance {g : Bool → Bool} : Wk (dIs g x .non S P) (P (.bl (g (isNon x))) S) := ⟨fun q => i_is q⟩
theorem i_B (q : T env S fun d S' => dBx (fun k => B k S') d) : dB T env S B := q
instance  : Wk (dB T env S B) (T env S fun d S' => dBx (fun k => B k S') d) := ⟨fun q => i_B q⟩
theorem i_Bx {B : Bool → Prop} (q : B b) : dBx B (.bl b) := ⟨b, rfl, q⟩
instance {B : Bool → Prop} : Wk (dBx B (.bl b)) (B b) := ⟨fun q => i_Bx q⟩
theorem i_and (q : TA env S fun k S1 => if k = true then TB env S1 B else B false S1) : dAnd TA TB env S B := q
instance  : Wk (dAnd TA TB env S B) (TA env S fun k S1 => if k = true then TB env S1 B else B false S1) := ⟨fun q => i_and q⟩
theorem i_or (q : TA env S fun k S1 => if k = true then B true S1 else TB env S1 B) : dOr TA TB env S B := q
instance  : Wk (dOr TA TB env S B) (TA env S fun k S1 => if k = true then B true S1 else TB env S1 B) := ⟨fun q => i_or q⟩
theorem i_chain (q : Ta env S fun x S1 => Tb env S1 fun y S2 => R x y S2 fun z S3 => dBx (fun k => if k = true then Tc env S3 fun w S4 => R' y w S4 P else P (.bl false) S3) z) : dChain R R' Ta Tb Tc env S P := q
instance  : Wk (dChain R R' Ta Tb Tc env S P) (Ta env S fun x S1 => Tb env S1 fun y S2 => R x y S2 fun z S3 => dBx (fun k => if k = true then Tc env S3 fun w S4 => R' y w S4 P else P (.bl false) S3) z) := ⟨fun q => i_chain q⟩
theorem i_not (q : TA env S fun k S1 => B (!k) S1) : dNot TA env S B := q
instance  : Wk (dNot TA env S B) (TA env S fun k S1 => B (!k) S1) := ⟨fun q => i_not q⟩
theorem i_if (q : TA env S fun k S1 => if k = true then Ta env S1 P else Tb env S1 P) : dIf TA Ta Tb env S P := q
instance  : Wk (dIf TA Ta Tb env S P) (TA env S fun k S1 => if k = true then Ta env S1 P else Tb env S1 P) := ⟨fun q => i_if q⟩
theorem i_andV (q : Ta env S fun x S1 => dBx (fun k => if k = true then Tb env S1 P else P (.bl false) S1) x) : dAndV Ta Tb env S P := q
instance  : Wk (dAndV Ta Tb env S P) (Ta env S fun x S1 => dBx (fun k => if k = true then Tb env S1 P else P (.bl false) S1) x) := ⟨fun q => i_andV q⟩
theorem i_orV (q : Ta env S fun x S1 => dBx (fun k => if k = true then P (.bl true) S1 else Tb env S1 P) x) : dOrV Ta Tb env S P := q
instance  : Wk (dOrV Ta Tb env S P) (Ta env S fun x S1 => dBx (fun k => if k = true then P (.bl true) S1 else Tb env S1 P) x) := ⟨fun q => i_orV q⟩
theorem i_notV (q : Ta env S fun x S1 => dBx (fun k => P (.bl (!k)) S1) x) : dNotV Ta env S P := q
instance  : Wk (dNotV Ta env S P) (Ta env S fun x S1 => dBx (fun k => P (.bl (!k)) S1) x) := ⟨fun q => i_notV q⟩
theorem i_nil (q : Q [] S) : dNil env S Q := q
instance  : Wk (dNil env S Q) (Q [] S) := ⟨fun q => i_nil q⟩
theorem i_cons (q : Ta env S fun x S1 => TR env S1 fun xs S2 => Q (x :: xs) S2) : dCons Ta TR env S Q := q
instance  : Wk (dCons Ta TR env S Q) (Ta env S fun x S1 => TR env S1 fun xs S2 => Q (x :: xs) S2) := ⟨fun q => i_cons q⟩
theorem i_xstar {F : List D → Prop} (h : seqOf S x = some xs) (q : F xs) : xStar F x S := ⟨xs, h, q⟩
theorem i_star (q : Ta env S fun x S1 => xStar (fun xs => TR env S1 fun ys S2 => Q (xs ++ ys) S2) x S1) : dStar Ta TR env S Q := q
instance  : Wk (dStar Ta TR env S Q) (Ta env S fun x S1 => xStar (fun xs => TR env S1 fun ys S2 => Q (xs ++ ys) S2) x S1) := ⟨fun q => i_star q⟩
theorem i_tup (q : TR env S fun xs S1 => xs.length ≤ sizeLine ∧ P (.tup xs) S1) : dTup TR env S P := q
instance  : Wk (dTup TR env S P) (TR env S fun xs S1 => xs.length ≤ sizeLine ∧ P (.tup xs) S1) := ⟨fun q => i_tup q⟩
theorem i_lst (q : TR env S fun xs S1 => xs.length ≤ sizeLine ∧ Q xs S1) : dLst TR env S Q := q
instance  : Wk (dLst TR env S Q) (TR env S fun xs S1 => xs.length ≤ sizeLine ∧ Q xs S1) := ⟨fun q => i_lst q⟩
theorem i_call {F : List D → Sto → DP → Prop} (q : TR env S fun ds S1 => F ds S1 P) : dCall F TR env S P := q
instance {F : List D → Sto → DP → Prop} : Wk (dCall F TR env S P) (TR env S fun ds S1 => F ds S1 P) := ⟨fun q => i_call q⟩
theorem i_callN {F : List D → Sto → (List D → Sto → Prop) → Prop} (q : TR env S fun ds S1 => F ds S1 Q) : dCallN F TR env S Q := q
instance {F : List D → Sto → (List D → Sto → Prop) → Prop} : Wk (dCallN F TR env S Q) (TR env S fun ds S1 => F ds S1 Q) := ⟨fun q => i_callN q⟩
theorem i_len (h : itemsOf S d = some xs) (q : P (.int xs.length) S) : bLen [d] S P := ⟨d, xs, rfl, h, q⟩
theorem i_min (q : P (.int (if j < i then j else i)) S) : bMin [.int i, .int j] S P := ⟨i, j, rfl, q⟩
instance  : Wk (bMin [.int i, .int j] S P) (P (.int (if j < i then j else i)) S) := ⟨fun q => i_min q⟩
theorem i_max (q : P (.int (if j > i then j else i)) S) : bMax [.int i, .int j] S P := ⟨i, j, rfl, q⟩
instance  : Wk (bMax [.int i, .int j] S P) (P (.int (if j > i then j else i)) S) := ⟨fun q => i_max q⟩
theorem i_list (h : itemsOf S d = some xs) (q : Q xs S) : bList [d] S Q := ⟨d, xs, rfl, h, q⟩
theorem i_tuple (h : seqOf S d = some xs) (q : P (.tup xs) S) : bTuple [d] S P := ⟨d, xs, rfl, h, q⟩
theorem i_xint {F : Int → Prop} (q : F i) : xInt F (.int i) := ⟨i, rfl, q⟩
instance {F : Int → Prop} : Wk (xInt F (.int i)) (F i) := ⟨fun q => i_xint q⟩
theorem i_neg (q : Ta env S fun x S1 => xInt (fun i => P (.int (-i)) S1) x) : dNeg Ta env S P := q
instance  : Wk (dNeg Ta env S P) (Ta env S fun x S1 => xInt (fun i => P (.int (-i)) S1) x) := ⟨fun q => i_neg q⟩
theorem i_part (q : Ta env S fun x S1 => xInt (fun i => O' (some i) S1) x) : dPart Ta env S O' := q
instance  : Wk (dPart Ta env S O') (Ta env S fun x S1 => xInt (fun i => O' (some i) S1) x) := ⟨fun q => i_part q⟩
theorem i_nopart (q : O' none S) : dNoPart env S O' := q
instance  : Wk (dNoPart env S O') (O' none S) := ⟨fun q => i_nopart q⟩
theorem i_sl {F : D → Option Int → Option Int → Sto → (List D → Sto → Prop) → Prop} (q : Ta env S fun x S1 => TO env S1 fun l S2 => Th env S2 fun u S3 => F x l u S3 Q) : dSl F Ta TO Th env S Q := q
instance {F : D → Option Int → Option Int → Sto → (List D → Sto → Prop) → Prop} : Wk (dSl F Ta TO Th env S Q) (Ta env S fun x S1 => TO env S1 fun l S2 => Th env S2 fun u S3 => F x l u S3 Q) := ⟨fun q => i_sl q⟩
theorem i_xslL {l u : Option Int} (h : lstOf S x = some xs) (q : Q (cutD xs l u) S) : xSlL x l u S Q := ⟨xs, h, q⟩
theorem i_slT (q : Ta env S fun x S1 => TO env S1 fun l S2 => Th env S2 fun u S3 => xSlT x l u S3 P) : dSlT Ta TO Th env S P := q
instance  : Wk (dSlT Ta TO Th env S P) (Ta env S fun x S1 => TO env S1 fun l S2 => Th env S2 fun u S3 => xSlT x l u S3 P) := ⟨fun q => i_slT q⟩
theorem i_xslT {l u : Option Int} (q : P (.tup (cutD xs l u)) S) : xSlT (.tup xs) l u S P := ⟨xs, rfl, q⟩
instance {l u : Option Int} : Wk (xSlT (.tup xs) l u S P) (P (.tup (cutD xs l u)) S) := ⟨fun q => i_xslT q⟩
theorem i_xtp {F : IP} (q : F ds (fun _ => True) S) : xTp F (.tup ds) S := ⟨ds, rfl, q⟩
instance {F : IP} : Wk (xTp F (.tup ds) S) (F ds (fun _ => True) S) := ⟨fun q => i_xtp q⟩
theorem i_xls {F : IP} (q : F ds (fun _ => True) S) : xLs F (.lst ds) S := ⟨ds, _, ⟨rfl, rfl⟩, q⟩
instance {F : IP} : Wk (xLs F (.lst ds) S) (F ds (fun _ => True) S) := ⟨fun q => i_xls q⟩
theorem i_xlsS {F : IP} {ns : List Int} (q : F (ns.map .int) (fun _ => True) S) : xLs F (.scr ns) S := ⟨_, _, ⟨rfl, rfl⟩, q⟩
instance {F : IP} {ns : List Int} : Wk (xLs F (.scr ns) S) (F (ns.map .int) (fun _ => True) S) := ⟨fun q => i_xlsS q⟩
theorem i_xlsR {F : IP} {m : Nat} (h : S[m]? = some (.lst ds)) (q : F ds (fun S' => S'[m]? = some (.lst ds)) S) : xLs F (.ref m) S := ⟨ds, _, ⟨h, rfl⟩, q⟩
theorem i_rg1 {F : IP} (h1 : -(2 ^ 62) ≤ j) (h2 : j < 2 ^ 62) (q : F (rangeD 0 j.toNat) (fun _ => True) S) : xRg1 F [.int j] S := ⟨j, rfl, h1, h2, q⟩
theorem i_xen {F : IP} (q : F (enumD 0 xs) (fun _ => True) S) : xEn F [.lst xs] S := ⟨xs, rfl, q⟩
instance {F : IP} : Wk (xEn F [.lst xs] S) (F (enumD 0 xs) (fun _ => True) S) := ⟨fun q => i_xen q⟩
theorem i_xzpL {F : IP} (q : F (zipD xs ys) (fun _ => True) S) : xZp F [.lst xs, .lst ys] S := .inl ⟨xs, ys, rfl, q⟩
instance {F : IP} : Wk (xZp F [.lst xs, .lst ys] S) (F (zipD xs ys) (fun _ => True) S) := ⟨fun q => i_xzpL q⟩
theorem i_xzpT {F : IP} (q : F (zipD xs ys) (fun _ => True) S) : xZp F [.tup xs, .tup ys] S := .inr ⟨xs, ys, rfl, q⟩
instance {F : IP} : Wk (xZp F [.tup xs, .tup ys] S) (F (zipD xs ys) (fun _ => True) S) := ⟨fun q => i_xzpT q⟩
theorem i_irg1 {F : IP} (q : TR env S (xRg1 F)) : iRg1 TR env S F := q
instance {F : IP} : Wk (iRg1 TR env S F) (TR env S (xRg1 F)) := ⟨fun q => i_irg1 q⟩
theorem i_itp {F : IP} (q : T env S (xTp F)) : iTp T env S F := q
instance {F : IP} : Wk (iTp T env S F) (T env S (xTp F)) := ⟨fun q => i_itp q⟩
theorem i_ils {F : IP} (q : T env S (xLs F)) : iLs T env S F := q
instance {F : IP} : Wk (iLs T env S F) (T env S (xLs F)) := ⟨fun q => i_ils q⟩
theorem i_ien {F : IP} (q : TR env S (xEn F)) : iEn TR env S F := q
instance {F : IP} : Wk (iEn TR env S F) (TR env S (xEn F)) := ⟨fun q => i_ien q⟩
theorem i_izp {F : IP} (q : TR env S (xZp F)) : iZp TR env S F := q
instance {F : IP} : Wk (iZp TR env S F) (TR env S (xZp F)) := ⟨fun q => i_izp q⟩
theorem i_for {TI : DTI} (q : TI env S fun ds ok S1 => xFor ds ok S1 G TS E env) : dFor TI G TS E env S := q
instance {TI : DTI} : Wk (dFor TI G TS E env S) (TI env S fun ds ok S1 => xFor ds ok S1 G TS E env) := ⟨fun q => i_for q⟩
theorem i_lc {TI : DTI} {TT : DTT} {vs : List Nat} (q : TI env S fun ds ok S1 => xLc ds ok S1 G TT T vs env Q) : dLc TI G TT T vs env S Q := q
instance {TI : DTI} {TT : DTT} {vs : List Nat} : Wk (dLc TI G TT T vs env S Q) (TI env S fun ds ok S1 => xLc ds ok S1 G TT T vs env Q) := ⟨fun q => i_lc q⟩
theorem i_yes (q : B true S) : dYes env S B := q
instance  : Wk (dYes env S B) (B true S) := ⟨fun q => i_yes q⟩
theorem i_in {neg : Bool} {v : V} {vs : List V} (h1 : seqOf S y = some ys) (h2 : flatD x = some v) (h3 : flatsD ys = some vs) (q : P (.bl (if neg then !inV v vs else inV v vs)) S) : dIn neg x y S P := ⟨ys, v, vs, h1, h2, h3, q⟩
theorem i_all {bs : List Bool} (h : lstOf S d = some (bs.map .bl)) (q : P (.bl (bs.all id)) S) : bAll [d] S P := ⟨d, bs, rfl, h, q⟩
theorem i_isi {u v : String} {kk : Bool} (h1 : tyOf S d = some u) (h2 : kitB u v = some kk) (q : P (.bl kk) S) : bIsi [d, .ty v] S P := ⟨d, u, v, kk, rfl, h1, h2, q⟩
theorem i_xpar {F : D → D → Prop} (q : F d1 d2) : xPar F [d1, d2] := ⟨d1, d2, rfl, q⟩
instance {F : D → D → Prop} : Wk (xPar F [d1, d2]) (F d1 d2) := ⟨fun q => i_xpar q⟩
theorem i_par {p1 p2 : Nat} (q : TR env S fun ds S1 => xPar (fun d1 d2 => E.nx ((env.set p1 (some d1)).set p2 (some d2)) S1) ds) : dPar p1 p2 TR E env S := q
instance {p1 p2 : Nat} : Wk (dPar p1 p2 TR E env S) (TR env S fun ds S1 => xPar (fun d1 d2 => E.nx ((env.set p1 (some d1)).set p2 (some d2)) S1) ds) := ⟨fun q => i_par q⟩
theorem i_asg (q : T env S fun d S1 => G d env S1 E.nx) : dAsg T G E env S := q
instance  : Wk (dAsg T G E env S) (T env S fun d S1 => G d env S1 E.nx) := ⟨fun q => i_asg q⟩
theorem i_nm (q : N (env.set n (some d)) S) : gNm n d env S N := q
instance  : Wk (gNm n d env S N) (N (env.set n (some d)) S) := ⟨fun q => i_nm q⟩
theorem i_tp (h : ds.length = n) (q : Gs ds env S N) : gTp n Gs (.tup ds) env S N := ⟨ds, rfl, h, q⟩
theorem i_gc (q : G d env S fun env' S' => Gs ds env' S' N) : gCs G Gs (d :: ds) env S N := ⟨d, ds, rfl, q⟩
instance  : Wk (gCs G Gs (d :: ds) env S N) (G d env S fun env' S' => Gs ds env' S' N) := ⟨fun q => i_gc q⟩
theorem i_gn (q : N env S) : gNl [] env S N := ⟨rfl, q⟩
instance  : Wk (gNl [] env S N) (N env S) := ⟨fun q => i_gn q⟩
theorem i_sb (q : Ta env S fun x S1 => Tb env S1 fun y S2 => setAt x y d S2 fun S3 => N env S3) : gSb Ta Tb d env S N := q
instance  : Wk (gSb Ta Tb d env S N) (Ta env S fun x S1 => Tb env S1 fun y S2 => setAt x y d S2 fun S3 => N env S3) := ⟨fun q => i_sb q⟩
theorem i_set {m p : Nat} {F : Sto → Prop} (h1 : S[m]? = some (.lst xs)) (h2 : ixN xs.length i = some p) (q : F (S.set m (.lst (xs.set p d)))) : setAt (.ref m) (.int i) d S F := ⟨m, xs, i, p, rfl, h1, rfl, h2, q⟩
theorem i_seq (q : TS { E with nx := TU E } env S) : dSeq TS TU E env S := q
instance  : Wk (dSeq TS TU E env S) (TS { E with nx := TU E } env S) := ⟨fun q => i_seq q⟩
theorem i_drop (q : T env S fun _ S1 => E.nx env S1) : dDrop T E env S := q
instance  : Wk (dDrop T E env S) (T env S fun _ S1 => E.nx env S1) := ⟨fun q => i_drop q⟩
theorem i_ret (q : T env S E.rt) : dRet T E env S := q
instance  : Wk (dRet T E env S) (T env S E.rt) := ⟨fun q => i_ret q⟩
theorem i_ifS (q : TA env S fun k S1 => if k = true then TS E env S1 else TU E env S1) : dIfS TA TS TU E env S := q
instance  : Wk (dIfS TA TS TU E env S) (TA env S fun k S1 => if k = true then TS E env S1 else TU E env S1) := ⟨fun q => i_ifS q⟩
theorem i_next (q : E.nx env S) : dNext E env S := q
instance  : Wk (dNext E env S) (E.nx env S) := ⟨fun q => i_next q⟩
theorem i_mt {F : D → List D → Sto → DP → Prop} (q : Ta env S fun x S1 => (∃ i xs, x = .ref i ∧ S1[i]? = some (.lst xs)) ∧ TR env S1 fun ds S2 => F x ds S2 P) : dMt F Ta TR env S P := q
instance {F : D → List D → Sto → DP → Prop} : Wk (dMt F Ta TR env S P) (Ta env S fun x S1 => (∃ i xs, x = .ref i ∧ S1[i]? = some (.lst xs)) ∧ TR env S1 fun ds S2 => F x ds S2 P) := ⟨fun q => i_mt q⟩
theorem i_mtx {m : Nat} {A : Prop} (h : S[m]? = some (.lst xs)) (q : A) : (∃ i ys, D.ref m = .ref i ∧ S[i]? = some (.lst ys)) ∧ A := ⟨⟨m, xs, rfl, h⟩, q⟩
theorem i_append {m : Nat} (h : S[m]? = some (.lst xs)) (hl : xs.length < sizeLine) (q : P .non (S.set m (.lst (xs ++ [d])))) : mAppend (.ref m) [d] S P := ⟨m, xs, d, rfl, rfl, h, hl, q⟩
theorem i_exit {S1 T' : Sto} (e : S' = S1 ++ T') (hl : S1.length = S.length) (ho : ∀ o ∈ S1, o ∈ S ∨ o.under S1.length = true) (hd : d.under S1.length = true) (q : P d S1) : atExit S P d S' := ⟨S1, T', e, hl, ho, hd, q⟩
end
end DL
namespace DL
open PySem PySem.Spec PyProof.Rows L2
section
variable {S : Sto} {P : DP} {x y d : D} {A : Prop} {n : Nat}
theorem i_sz (h : decide (n ≤ 100000) = true) (q : A) : n ≤ sizeLine ∧ A := ⟨Nat.le_trans (of_decide_eq_true h) (by decide), q⟩
theorem sz_le (h : n ≤ 100000) : n ≤ sizeLine := Nat.le_trans h (by decide)
theorem sz_lt (h : n < 100000) : n < sizeLine := Nat.lt_of_lt_of_le h (by decide)
theorem allOf_ints {S : Sto} {m : Nat} : ∀ ns : List Int, allOf (pyOf S (m + 1)) (ns.map .int) = some (ns.map .int)
  | [] => rfl
  | k :: ns => by
    show (match pyOf S (m + 1) (.int k), allOf (pyOf S (m + 1)) (ns.map .int) with | some p, some ps => some (p :: ps) | _, _ => none) = _
    rw [allOf_ints ns]
    rfl
theorem canLay_ints : ∀ ns : List Int, PyData.canLayAll0 (ns.map .int) = true
  | [] => rfl
  | k :: ns => by
    show (PyData.canLay0 (.int k) && PyData.canLayAll0 (ns.map .int)) = true
    rw [canLay_ints ns]
    rfl
theorem depth_ints : ∀ ns : List Int, PyData.depthAll (ns.map .int) = 0
  | [] => by simp [PyData.depthAll]
  | k :: ns => by simp [PyData.depthAll, PyData.depth, depth_ints ns]
theorem shaped_ints (ns : List Int) : SeqAt.shaped (.list (ns.map .int)) = true := by
  unfold SeqAt.shaped
  rw [show PyData.canLay0 (.list (ns.map .int)) = true from canLay_ints ns]
  simp [PyData.depth, depth_ints]
theorem eqv_nil (qs : List PyData) : PyData.eqv (.list qs) (.list []) = qs.isEmpty := by
  cases qs <;> simp [PyData.eqv, PyData.eqvAll]
theorem i_eqNil {g : Bool → Bool} {ns : List Int} (h : lstOf S x = some (ns.map .int)) (q : P (.bl (g ns.isEmpty)) S) : dEqG g x (.lst []) S P := by
  have hp : pyOf S 2 x = some (.list (ns.map .int)) := by
    cases x with
    | lst xs =>
      cases h
      show (allOf (pyOf S 1) (ns.map .int)).map PyData.list = _
      rw [allOf_ints]
      rfl
    | ref i =>
      dsimp only [lstOf] at h
      show (match S[i]? with | some (.lst xs) => (allOf (pyOf S 1) xs).map PyData.list | _ => none) = _
      cases hs : S[i]? with
      | none => rw [hs] at h; cases h
      | some o =>
        rw [hs] at h
        cases o with
        | lst xs =>
          cases h
          show (allOf (pyOf S 1) (ns.map .int)).map PyData.list = _
          rw [allOf_ints]
          rfl
        | _ => cases h
    | _ => cases h
  have e : PyData.eqv (.list (ns.map .int)) (.list []) = ns.isEmpty := by
    rw [eqv_nil]
    cases ns <;> rfl
  have go : ∃ n q r, pyOf S n x = some q ∧ pyOf S n (.lst []) = some r ∧ SeqAt.shaped q = true ∧ SeqAt.shaped r = true ∧ P (.bl (g (PyData.eqv q r))) S :=
    ⟨2, _, .list [], hp, rfl, shaped_ints ns, by decide, by rw [e]; exact q⟩
  cases x with
  | int i => cases h
  | str i => cases h
  | bl i => cases h
  | _ => exact go
theorem at_get {ns : List Int} {i : Int} (h0 : 0 ≤ i) (h1 : i < ns.length) : ∃ c, L2.atI (ns.map D.int) i = some (.int c) := by
  obtain ⟨m, rfl⟩ : ∃ m : Nat, i = m := ⟨i.toNat, by omega⟩
  have hi : m < ns.length := by omega
  exact ⟨ns[m], atI_nat (by rw [List.getElem?_map, List.getElem?_eq_getElem hi]; rfl)⟩
theorem kit_NoneType_int : kitB "NoneType" "int" = some false := by decide +kernel
theorem kit_NoneType_bool : kitB "NoneType" "bool" = some false := by decide +kernel
theorem kit_NoneType_str : kitB "NoneType" "str" = some false := by decide +kernel
theorem kit_NoneType_tuple : kitB "NoneType" "tuple" = some false := by decide +kernel
theorem kit_NoneType_list : kitB "NoneType" "list" = some false := by decide +kernel
theorem kit_bool_int : kitB "bool" "int" = some true := by decide +kernel
theorem kit_bool_bool : kitB "bool" "bool" = some true := by decide +kernel
theorem kit_bool_str : kitB "bool" "str" = some false := by decide +kernel
theorem kit_bool_tuple : kitB "bool" "tuple" = some false := by decide +kernel
theorem kit_bool_list : kitB "bool" "list" = some false := by decide +kernel
theorem kit_int_int : kitB "int" "int" = some true := by decide +kernel
theorem kit_int_bool : kitB "int" "bool" = some false := by decide +kernel
theorem kit_int_str : kitB "int" "str" = some false := by decide +kernel
theorem kit_int_tuple : kitB "int" "tuple" = some false := by decide +kernel
theorem kit_int_list : kitB "int" "list" = some false := by decide +kernel
theorem kit_str_int : kitB "str" "int" = some false := by decide +kernel
theorem kit_str_bool : kitB "str" "bool" = some false := by decide +kernel
theorem kit_str_str : kitB "str" "str" = some true := by decide +kernel
theorem kit_str_tuple : kitB "str" "tuple" = some false := by decide +kernel
theorem kit_str_list : kitB "str" "list" = some false := by decide +kernel
theorem kit_tuple_int : kitB "tuple" "int" = some false := by decide +kernel
theorem kit_tuple_bool : kitB "tuple" "bool" = some false := by decide +kernel
theorem kit_tuple_str : kitB "tuple" "str" = some false := by decide +kernel
theorem kit_tuple_tuple : kitB "tuple" "tuple" = some true := by decide +kernel
theorem kit_tuple_list : kitB "tuple" "list" = some false := by decide +kernel
theorem kit_list_int : kitB "list" "int" = some false := by decide +kernel
theorem kit_list_bool : kitB "list" "bool" = some false := by decide +kernel
theorem kit_list_str : kitB "list" "str" = some false := by decide +kernel
theorem kit_list_tuple : kitB "list" "tuple" = some false := by decide +kernel
theorem kit_list_list : kitB "list" "list" = some true := by decide +kernel
theorem ite_t {c A B : Prop} [Decidable c] (hc : c) (h : A) : if c then A else B := by rw [if_pos hc]; exact h
theorem ite_f {c A B : Prop} [Decidable c] (hc : ¬ c) (h : B) : if c then A else B := by rw [if_neg hc]; exact h
end
end DL
namespace DL
open PySem PySem.Spec PyProof.Rows L2
def Fn (P : Program) (w : World) (K : PySem.W.Frag) (mg : Str → Option Value) (base : Heap) (x : Str) (k : Nat) (ps : List Str) (sp : DSp) : Prop :=
  ∃ (f : Addr) (fd : FuncData), mg x = some (.ref f) ∧ PySem.W.keepIn K (.ref f) = true ∧ Binds K fd ps [] ∧ FnOk P w K mg base CX0 k f fd ps (liftSp K sp)
/-- where a def stands -/
structure At (K : PySem.W.Frag) (mg : Str → Option Value) (x : Str) (st : Stmt) (ps : List Str) : Prop where
  ex : ∃ (f : Addr) (fd : FuncData), mg x = some (.ref f) ∧ Fun K x x st f fd ∧ Binds K fd ps []
section
variable {P : Program} {w : World} {K : PySem.W.Frag} {mg : Str → Option Value} {base : Heap}
theorem fn_at {x : Str} {st : Stmt} {ps : List Str} {k : Nat} {sp : DSp} (h : At K mg x st ps) (ok : ∀ f fd, Fun K x x st f fd → FnOk P w K mg base CX0 k f fd ps (liftSp K sp)) : Fn P w K mg base x k ps sp := by
  obtain ⟨f, fd, h1, h2, h3⟩ := h.ex
  exact ⟨f, fd, h1, h2.kp, h3, ok f fd h2⟩
theorem Fn.imp {x : Str} {ps : List Str} {k : Nat} {sp sp' : DSp} (h : Fn P w K mg base x k ps sp) (i : ∀ ds S P, sp' ds S P → sp ds S P) : Fn P w K mg base x k ps sp' := by
  obtain ⟨f, fd, h1, h2, h3, h4⟩ := h
  exact ⟨f, fd, h1, h2, h3, h4.imp fun vs H Q E ⟨W, ds, S, P, s, r, q, post⟩ => ⟨W, ds, S, P, s, r, i ds S P q, post⟩⟩
end
section
variable {X : Cx} {W0 : Bs} {e : Expr} {es : List Expr} {TR : DTA} {pos p : Pos}
theorem de_fn {x : Str} {k : Nat} {ps : List Str} {sp : DSp} (h : Fn X.prog X.w X.K X.mg X.base x k ps sp) (hr : Room k X.A) (hg : Gl X x) (ha : DA X W0 (e :: es) TR) (hdb : (x == ("__debug__" : Str)) = false := by decide) (he : starEach (e :: es) X.env = (false, eval e X.env) :: starEach es X.env := by rfl) (hpl : (backTo pos (starEach es X.env)).any (·.1) = false := by rfl) :
    DE X W0 (.Call (.Name x p) (e :: es) [] pos) (dCall sp TR) := by
  obtain ⟨f, fd, h1, h2, h3, h4⟩ := h
  exact de_call (k := k) (f := f) (fd := fd) (ps := ps) ha fun q => pe_call h4 hr hg h1 h2 h3 .nil pass0 q hdb he hpl
end
end DL
namespace DL
open PySem PySem.Spec PyProof.Rows L2
end DL
namespace DL
open PySem PySem.Spec PyProof.Rows L2
abbrev enumO (k : Addr) : Obj := { cls := .type "enumerate", data := .fields #[.none, .bool false, .ref k, rawInt 0, .none, .none] }
/-- enumerate(v), one argument, v told by how its iterator begins -/
theorem enum1 {v : Value} {o : Obj} {Hh : Heap → Prop} (B : Begins v o Hh) : Meets (Builtin.«enumerate.__new__» ⟨[.type "enumerate", v], []⟩) (fun _ R s => Hh s.heap ∧ R (.ok (.ret (.ref (s.heap.push o).objs.size))) { s with heap := (s.heap.push o).push (enumO s.heap.objs.size) }) := by
  refine .of_wp fun prog w A R s ⟨b, q⟩ => ?_
  have sub := sub_enumerate
  cases s
  have begun := fun {A' : Around} {E : Value → Shared → Prop} {Q : Value → Shared → Prop} z => B.iter prog w A' E _ Q b z
  wp_walk using begun
  refine wpAny_stack_any fun st => wpAny_pure ?_
  split
  all_goals (try (rename_i c _ _ _ _ _; generalize (c == Value.type "enumerate") = z; cases z))
  all_goals (wp_walk using begun; exact ⟨_, rfl, q⟩)
section
variable {prog : Program} {w : World} {A : Around} {E : Value → Shared → Prop} {s : Shared}
theorem call_enum1 {v : Value} {o : Obj} {Hh : Heap → Prop} {Q : Value → Shared → Prop} (B : Begins v o Hh) (h1 : Hh s.heap)
    (h : ∀ h', IsEnum h' (s.heap.objs.size + 1) s.heap.objs.size 0 .none → h'.get? s.heap.objs.size = some o → (∀ b u, s.heap.get? b = some u → h'.get? b = some u) → Q (.ref (s.heap.objs.size + 1)) { s with heap := h' }) :
    wpAny (model prog w) A (call (.type "enumerate") [v]) Q E s := by
  have e1 : (s.heap.push o).objs.size = s.heap.objs.size + 1 := Heap.size_push ..
  have e2 : ((s.heap.push o).push (enumO s.heap.objs.size)).get? (s.heap.objs.size + 1) = some (enumO s.heap.objs.size) := by
    rw [← e1]
    exact Heap.get?_push_size _ rfl
  refine callType_new F.called_enumerate (by decide) (F.typeCall_enumerate_1 _) (F.newCall_enumerate_1 _) (fun ob => F.args_object_init_2 ob _) F.entry_enumerate_new (enum1 B) ⟨h1, ?_⟩
  have k2 : ∀ b u, s.heap.get? b = some u → ((s.heap.push o).push (enumO s.heap.objs.size)).get? b = some u := fun b u z => Heap.get?_push_of_some _ (Heap.get?_push_of_some _ z)
  have q := h ((s.heap.push o).push (enumO s.heap.objs.size)) e2 (Heap.get?_push_of_some _ (Heap.get?_push_size _ B.free)) k2
  rw [← e1] at q e2
  exact ⟨⟨_, e2, rfl⟩, q⟩
end
def IteT (K : PySem.W.Frag) (a : Addr) : It where
  go := fun i H => ∃ (xs : List V) (x : V), SqT K H a xs ∧ xs[i]? = some x
  yld := fun i H v H' => ∃ T x, v = .ref T ∧ H T = none ∧ H' = upd H T (.tup [.int (i : Nat), x]) ∧ ∀ xs, SqT K H a xs → xs[i]? = some x
  stop := fun i H => ∃ xs : List V, SqT K H a xs ∧ xs.length = i
theorem enum_apart {h : Heap} {a e it : Addr} {i : Nat} {c : Int} {old : Value} {items : Array Value} (he : IsEnum h e it c old) (hit : h.IsTupleIter it a i) (tp : IsTup h a items) : a ≠ it ∧ e ≠ a := by
  obtain ⟨o, g1, g2, _⟩ := tp
  obtain ⟨o2, g3, g4, _⟩ := hit
  refine ⟨fun z => ?_, fun z => ?_⟩
  · rw [z, g3] at g1
    cases g1
    rw [g4] at g2
    exact absurd g2 (by decide)
  · rw [← z] at g1
    unfold IsEnum at he
    rw [g1] at he
    cases he
    exact absurd (show Value.type "enumerate" = Value.type "tuple" from g2) (by decide)
theorem turn_enumT {P : Program} {w : World} {K : PySem.W.Frag} {elts : List Expr} {kk : Nat} {tpos : Pos} (a e it : Addr) :
    Turn P w K (.Tuple elts kk tpos) (IteT K a) [e, it] e (fun i h => (∃ old, IsEnum h e it ((i : Nat) : Int) old) ∧ h.IsTupleIter it a i ∧ e ≠ it) where
  mem := List.mem_cons_self ..
  obj := fun i h ⟨⟨old, he⟩, ⟨o, ho, hc, hd⟩, _⟩ b hb => by
    rcases List.mem_cons.mp hb with rfl | hb
    · exact ⟨_, he, fun v z => nomatch z⟩
    · rw [List.mem_singleton.mp hb]
      exact ⟨o, ho, fun v z => by rw [hd] at z; cases z⟩
  keep := fun i h h' ⟨⟨old, he⟩, hit, hne⟩ k => ⟨⟨old, k e (by simp) _ he⟩, hit.at fun o z => k it (by simp) o z, hne⟩
  item := by
    rintro X rfl rfl rfl hc i pins s σ H E I hf ⟨⟨old, he⟩, hit, hne⟩ ⟨xs, x, hq, hx⟩
    obtain ⟨its, rv, tp, hz⟩ := I.tuple hq
    obtain ⟨y, hy, ry⟩ := rv.get hx
    have ha := enum_apart he hit tp
    have Dr := Draws.tuple (prog := X.prog) (w := X.w) (A := X.A.in1) (show X.A.in1.handled = none from I.ok.hd hc) it a ha.1 its.toArray
    have Wk := WalksT.enumFrom 0 Dr e hne (by simp [hne, ha.2]) (by simp)
    refine Wk.item i s _ E (by simp; exact (List.getElem?_eq_some_iff.mp hy).1) ⟨⟨old, by rw [Int.zero_add]; exact he⟩, hit, tp⟩ fun T vals h1 tk ⟨t, y', hy', hv⟩ hT htup hmid hk1 => ⟨_, rfl, ?_⟩
    have hTw := Wk.apart i T h1 hmid
    refine Wk.go elts kk tpos i T { s with heap := h1, toks := tk } _ E hmid fun h2 hst2 hk2 => ?_
    have eyy : y' = y := by
      have z : its[i]? = some y' := by simpa using hy'
      rw [hy] at z
      exact (Option.some.inj z).symm
    subst eyy
    obtain ⟨⟨old2, he2⟩, hit2, _⟩ := hst2
    have fresh := I.hok.fresh hT
    refine ⟨.ref T, upd H T (.tup [.int (i : Nat), x]), I.turnedNew (ch := [e, it]) (fun b ob hb q => hk2 b ob hb (hk1 b ob hb q)) hf hT ⟨by show 2 ≤ sizeLine; decide, [.int (0 + (i : Int)) t, y'], .cons ⟨t, by rw [Int.zero_add]⟩ (.cons ry .nil), ?_⟩, rfl,
      ⟨T, x, rfl, fresh, rfl, fun ys hys => by rw [I.tuple_inj hys hq]; exact hx⟩, ⟨⟨old2, by rw [Int.zero_add] at he2; exact he2⟩, hit2, hne⟩, fun b hb => ?_⟩
    · subst hv
      obtain ⟨o, g1, g2, n, g3⟩ := htup
      exact ⟨o, hk2 T o hTw g1, g2, n, g3⟩
    · have hbs : b < s.heap.objs.size := by
        rcases List.mem_cons.mp hb with rfl | hb
        · exact Heap.lt_size he
        · rw [List.mem_singleton.mp hb]
          obtain ⟨o, g, _⟩ := hit
          exact Heap.lt_size g
      rw [upd_ne (Nat.ne_of_lt (Nat.lt_of_lt_of_le hbs hT))]
      exact (hf b hb).1
  done := by
    rintro X rfl rfl rfl hc i pins s σ H E I hf ⟨⟨old, he⟩, hit, hne⟩ ⟨xs, hq, hx⟩
    obtain ⟨its, rv, tp, hz⟩ := I.tuple hq
    have ha := enum_apart he hit tp
    have Dr := Draws.tuple (prog := X.prog) (w := X.w) (A := X.A.in1) (show X.A.in1.handled = none from I.ok.hd hc) it a ha.1 its.toArray
    have en : its.toArray.size = i := by rw [List.size_toArray, ← rv.length]; exact hx
    subst en
    exact (WalksT.enumFrom 0 Dr e hne (by simp [hne, ha.2]) (by simp)).done s _ E ⟨⟨old, by rw [Int.zero_add]; exact he⟩, hit, tp⟩ fun h' tk hk => ⟨rfl, I.turnedL (ch := [e, it]) hk hf⟩
  self := fun A i s Q E ⟨⟨old, he⟩, _⟩ h => wpAny_pyIter_enum he h
theorem boot_en : bootBuiltins "enumerate" = some (.type "enumerate") := by decide +kernel
def iEnumT (K : PySem.W.Frag) (ta : TA) : TI := fun σ H R => ta σ H fun vs H1 => ∃ a xs, vs = [.ref a] ∧ SqT K H1 a xs ∧ R (IteT K a) H1
theorem pi_enumT {X : Cx} {e : Expr} {ta : TA} {p pos tpos : Pos} {elts : List Expr} {kk : Nat} (hg : Gl X "enumerate") (hm : X.mg "enumerate" = none) (ha : PA X [e] ta) (hs : starEach [e] X.env = [(false, eval e X.env)] := by rfl) :
    PI X (.Tuple elts kk tpos) (.Call (.Name "enumerate" p) [e] [] pos) (iEnumT X.K ta) := by
  refine ⟨fun pins s σ H R I h => Call_ (ld_blt I hg hm boot_en (PyProof.Rows.callWith_type1 (thn (ha.run pos pins s σ H _ I h) ?_) hs rfl))⟩
  rintro us s1 ⟨vs, H1, I1, r1, a, xs, rfl, hq, q⟩
  obtain ⟨u, rfl, ru⟩ := r1.one
  cases ru
  obtain ⟨its, rv, tp, hz⟩ := I1.tuple hq
  refine call_enum1 (begins_tuple a its.toArray) tp fun h' he ho hk => wpAny_pyIter_enum he ?_
  have up : ∀ b ∈ [s1.heap.objs.size + 1, s1.heap.objs.size], s1.heap.objs.size ≤ b := fun b hb => by
    simp at hb
    omega
  exact ⟨s1.heap.objs.size + 1, [s1.heap.objs.size + 1, s1.heap.objs.size], _, IteT X.K a, H1, rfl, I1.kept (t' := s1.toks) hk, turn_enumT a _ _, ⟨⟨.none, he⟩, ⟨_, ho, rfl, rfl⟩, Nat.succ_ne_self _⟩, fun b hb => I1.fpOk (up b hb) (I1.hok.fresh (up b hb)), q⟩
section
variable {X : Cx} {W0 : Bs} {a : Expr} {TR : DTA} {pos p : Pos}
def xEnT (P : IP) (ds : List D) (S : Sto) : Prop := ∃ xs, ds = [.tup xs] ∧ P (enumD 0 xs) (fun _ => True) S
def iEnT (TR : DTA) : DTI := fun env S P => TR env S (xEnT P)
theorem walk_enumT {K : PySem.W.Frag} {b : Addr} {xs : List V} : Walk (IteT K b) xs.length (fun H => SqT K H b xs) (YPair (fun i => some (.int (i : Nat))) (fun i => xs[i]?)) :=
  ⟨fun i H hi q => ⟨xs, xs[i], q, List.getElem?_eq_getElem hi⟩, fun H q => ⟨xs, q, rfl⟩, fun i H v H' _ q ⟨T, x, h1, h2, h3, h4⟩ => ⟨T, _, x, h1, h2, h3, rfl, h4 xs q⟩⟩
theorem di_enumT {elts : List Expr} {kk : Nat} {tpos : Pos} (hg : Gl X "enumerate") (hm : X.mg "enumerate" = none) (ha : DA X W0 [a] TR) (hs : starEach [a] X.env = [(false, eval a X.env)] := by rfl) : DI X W0 (.Tuple elts kk tpos) (.Call (.Name "enumerate" p) [a] [] pos) (iEnT TR) :=
  (pi_enumT hg hm ha hs).imp fun σ H R ⟨W, env, S, P, hW, sim, er, ht, post⟩ => ⟨W, env, S, _, hW, sim, er, ht, fun ds S1 W1 H1 vs ⟨xs, e, q⟩ s l r => by
    subst e
    obtain ⟨v, rfl, rv⟩ := r.one
    obtain ⟨a1, vs, rfl, hB, rr⟩ := rv.tupV
    have st : ∀ {W' : Wd} {S' : Sto} {H' : Hp}, Stp W1 H1 W' H' → Sim X.K W' S' H' → SqT X.K H' a1 vs := fun l' s' => same_sqt s'.same (same_sqt l'.le.same hB)
    refine ⟨a1, vs, rfl, st .refl s, post _ _ S1 W1 H1 _ q s l ⟨fun H' => SqT X.K H' a1 vs, _, by rw [enumD_len, ← rr.length]; exact walk_enumT (xs := vs), fun W' S' H' l' s' _ => st l' s', ?_⟩⟩
    rintro i d W' S' H' x H'' hd l' s' _ ⟨T, x1, x2, rfl, hT, rfl, e1, e2⟩
    obtain ⟨y, h1, rfl⟩ := enumD_get 0 xs i d hd
    obtain ⟨u, g1, g2⟩ := rr.get h1
    have e2 : vs[i]? = some x2 := e2
    rw [g1] at e2
    cases e2
    cases e1
    rw [Nat.zero_add]
    exact pair_new s' hT (.int _) (g2.mono l'.le)⟩
theorem i_ienT {env : Ev} {S : Sto} {F : IP} (q : TR env S (xEnT F)) : iEnT TR env S F := q
instance {env : Ev} {S : Sto} {F : IP} : Wk (iEnT TR env S F) (TR env S (xEnT F)) := ⟨fun q => i_ienT q⟩
theorem i_xenT {S : Sto} {F : IP} {xs : List D} (q : F (enumD 0 xs) (fun _ => True) S) : xEnT F [.tup xs] S := ⟨xs, rfl, q⟩
instance {S : Sto} {F : IP} {xs : List D} : Wk (xEnT F [.tup xs] S) (F (enumD 0 xs) (fun _ => True) S) := ⟨fun q => i_xenT q⟩
end
end DL
namespace DL
open PySem PySem.Spec PyProof.Rows L2
def keyOf : D → Option Key
  | .int i => some (.inl i)
  | .str x => some (.inr x)
  | _ => none
def dlook : List Key → List D → Key → Option D
  | k :: ks, d :: ds, q => if k = q then some d else dlook ks ds q
  | _, _, _ => none
theorem Rep.key {K : PySem.W.Frag} {W : Wd} {v : V} {d : D} {k : Key} (r : Rep K W v d) (h : keyOf d = some k) : v = kV k := by
  cases r <;> first | (cases h; rfl) | cases h
theorem look_rep {K : PySem.W.Frag} {W : Wd} {q : Key} : ∀ {ks : List Key} {vs : List V} {ds : List D}, Reps K W vs ds → ks.length = vs.length → (∀ d, dlook ks ds q = some d → ∃ v, valV (ks.zip vs) q = some v ∧ Rep K W v d) ∧ (dlook ks ds q = none → valV (ks.zip vs) q = none)
  | [], vs, ds, r, e => by
    refine ⟨fun d h => ?_, fun _ => ?_⟩
    · cases ds <;> cases h
    · cases vs <;> rfl
  | k :: ks, [], ds, r, e => by cases e
  | k :: ks, v :: vs, _, .cons (d := d) (ds := ds) h r, e => by
    have ih := look_rep (q := q) (ks := ks) r (by simpa using e)
    by_cases hk : k = q
    · refine ⟨fun d' h' => ?_, fun h' => ?_⟩
      · unfold dlook at h'
        rw [if_pos hk] at h'
        cases h'
        exact ⟨v, by rw [List.zip_cons_cons]; exact valV_pos hk, h⟩
      · unfold dlook at h'
        rw [if_pos hk] at h'
        cases h'
    · have e1 : dlook (k :: ks) (d :: ds) q = dlook ks ds q := by
        show (if k = q then some d else dlook ks ds q) = _
        rw [if_neg hk]
      rw [e1, List.zip_cons_cons, valV_neg hk]
      exact ih
section
variable {X : Cx} {W0 : Bs} {a b c e o : Expr} {es : List Expr} {Ta Tb T : DTE} {TR : DTA} {pos p apos cpos : Pos}
theorem Rep.dctV {K : PySem.W.Frag} {W : Wd} {v : V} {ks : List Key} {ds : List D} (r : Rep K W v (.dct ks ds)) : ∃ a vs, v = .ref a ∧ Rd W.B a (.dK (ks.zip vs)) ∧ ks.length = vs.length ∧ Reps K W vs ds := by
  cases r with | dct h1 h2 h3 => exact ⟨_, _, rfl, h1, h2, h3⟩
theorem dget_rd {H : Hp} {a : Addr} {kvs : List (Key × V)} {k : Key} (h : Rd H a (.dK kvs)) : DGet H a (kV k) (valV kvs k) := .inl ⟨kvs, k, h, rfl, rfl⟩
def xDget (P : D → Prop) (x y : D) : Prop := ∃ ks ds k d, x = .dct ks ds ∧ keyOf y = some k ∧ dlook ks ds k = some d ∧ P d
def dDget (Ta Tb : DTE) : DTE := fun env S P => Ta env S fun x S1 => Tb env S1 fun y S2 => xDget (fun d => P d S2) x y
theorem de_dget (hu : X.A.units + 1 < cLine) (ha : DE X W0 a Ta) (hb : DE X W0 b Tb) (hs : NoSl b) : DE X W0 (.Subscript a b pos) (dDget Ta Tb) := (pe_dget hu ha hb hs).imp fun σ H Q ⟨W, env, S, P, hW, sim, er, ht, post⟩ =>
  ⟨W, env, S, _, hW, sim, er, ht, fun x S1 W1 H1 v1 q1 s1 l1 r1 => ⟨W1, env, S1, _, hW.trans l1, s1, er.mono l1.le, q1, fun y S2 W2 H2 v2 q2 s2 l2 r2 => by
    obtain ⟨ks, ds, k, d, rfl, hk, hd, q⟩ := q2
    obtain ⟨a1, vs, rfl, hB, hl, rr⟩ := (r1.mono l2.le).dctV
    obtain ⟨v, h1, h2⟩ := (look_rep rr hl).1 d hd
    refine ⟨a1, v, rfl, ?_, post _ _ W2 H2 _ q s2 (l1.trans l2) h2⟩
    rw [r2.key hk, ← h1]
    exact dget_rd (same_rd s2.same hB)⟩⟩
def xDget1 (P : D → Prop) (x y : D) : Prop := ∃ ks ds k, x = .dct ks ds ∧ keyOf y = some k ∧ P ((dlook ks ds k).getD .non)
def dDget1 (Ta Tb : DTE) : DTE := fun env S P => Ta env S fun x S1 => (∃ ks ds, x = .dct ks ds) ∧ Tb env S1 fun y S2 => xDget1 (fun d => P d S2) x y
theorem de_dget1 (hu : X.A.units + 1 < cLine) (ha : DE X W0 o Ta) (hb : DE X W0 e Tb) (m : M1 X o "get" apos e cpos) : DE X W0 (.Call (.Attribute o "get" apos) [e] [] cpos) (dDget1 Ta Tb) := (pe_dget1 hu ha hb m).imp fun σ H Q ⟨W, env, S, P, hW, sim, er, ht, post⟩ =>
  ⟨W, env, S, _, hW, sim, er, ht, fun x S1 W1 H1 v1 ⟨⟨ks0, ds0, e0⟩, q1⟩ s1 l1 r1 => by
    subst e0
    obtain ⟨a1, vs, rfl, hB, hl, rr⟩ := r1.dctV
    refine ⟨a1, rfl, .inl ⟨_, same_rd s1.same hB⟩, W1, env, S1, _, hW.trans l1, s1, er.mono l1.le, q1, fun y S2 W2 H2 v2 q2 s2 l2 r2 => ?_⟩
    obtain ⟨ks, ds, k, e1, hk, q⟩ := q2
    cases e1
    have rr2 := rr.mono l2.le
    refine ⟨valV (ks0.zip vs) k, ?_, ?_⟩
    · rw [r2.key hk]
      exact dget_rd (same_rd s2.same (same_rd l2.le.same hB))
    · cases hd : dlook ks0 ds0 k with
      | none =>
        rw [hd] at q
        rw [(look_rep rr2 hl).2 hd]
        exact post _ _ W2 H2 _ q s2 (l1.trans l2) .non
      | some d =>
        rw [hd] at q
        obtain ⟨v, h1, h2⟩ := (look_rep rr2 hl).1 d hd
        rw [h1]
        exact post _ _ W2 H2 _ q s2 (l1.trans l2) h2⟩
def dPairs : List (DTE × DTE) → Ev → Sto → (List (D × D) → Sto → Prop) → Prop
  | [], _, S, Q => Q [] S
  | t :: ts, env, S, Q => t.1 env S fun k S1 => t.2 env S1 fun v S2 => dPairs ts env S2 fun ps S3 => Q ((k, v) :: ps) S3
abbrev DPs (X : Cx) (W0 : Bs) (pos : Pos) (keys : List (Option Expr)) (values : List Expr) (Ts : List (DTE × DTE)) : Prop := PPs X pos keys values (Ts.map fun t => (liftE X.K W0 t.1, liftE X.K W0 t.2))
theorem dps_nil : DPs X W0 pos [] [] [] := pps_nil
theorem dps_cons {k v : Expr} {ks : List (Option Expr)} {vs : List Expr} {Tk Tv : DTE} {Ts : List (DTE × DTE)} (hk : DE X W0 k Tk) (hv : DE X W0 v Tv) (hr : DPs X W0 pos ks vs Ts) : DPs X W0 pos (some k :: ks) (v :: vs) ((Tk, Tv) :: Ts) := pps_cons hk hv hr
theorem lift_pairs {K : PySem.W.Frag} {W0 : Bs} {σ : L2.St} {env : Ev} : ∀ {Ts : List (DTE × DTE)} {W : Wd} {S : Sto} {H : Hp} {P : List (D × D) → Sto → Prop} {Q : List (V × V) → Hp → Prop}, W0.to W H → Sim K W S H → EnvR K W env σ → dPairs Ts env S P →
    (∀ ps S' W' H' us, P ps S' → Sim K W' S' H' → Stp W H W' H' → Reps K W' (us.map (·.1)) (ps.map (·.1)) → Reps K W' (us.map (·.2)) (ps.map (·.2)) → Q us H') → tPairs (Ts.map fun t => (liftE K W0 t.1, liftE K W0 t.2)) σ H Q
  | [], W, S, H, P, Q, hW, s, er, h, q => q [] S W H [] h s .refl .nil .nil
  | t :: ts, W, S, H, P, Q, hW, s, er, h, q => ⟨W, env, S, _, hW, s, er, h, fun k S1 W1 H1 v1 q1 s1 l1 r1 => ⟨W1, env, S1, _, hW.trans l1, s1, er.mono l1.le, q1, fun d S2 W2 H2 v2 q2 s2 l2 r2 =>
      lift_pairs (hW.trans (l1.trans l2)) s2 (er.mono (l1.trans l2).le) q2 fun ps S3 W3 H3 us q3 s3 l3 ra rb => q _ S3 W3 H3 ((v1, v2) :: us) q3 s3 ((l1.trans l2).trans l3) (.cons (r1.mono (l2.trans l3).le) ra) (.cons (r2.mono l3.le) rb)⟩⟩
def xDisp (P : D → Sto → Prop) (ps : List (D × D)) (S : Sto) : Prop := ∃ ks, ps.map (fun q => keyOf q.1) = ks.map some ∧ ks.Nodup ∧ ks.length ≤ 15 ∧ P (.dct ks (ps.map (·.2))) S
def dDisp (Ts : List (DTE × DTE)) : DTE := fun env S P => dPairs Ts env S (xDisp P)
end
theorem Sim.beside {K : PySem.W.Frag} {W : Wd} {S : Sto} {H : Hp} {p : Addr} {o : HO} (s : Sim K W S H) (hB : W.B p = none) (hm : p ∉ W.m) : Sim K W S (upd H p o) := by
  refine ⟨fun b u e => by rw [upd_ne (ne_of_none e hB)]; exact s.same b u e, s.len, s.nd, fun a ha => upd_dom a (s.dom a ha), fun i a ob h1 h2 => ?_, s.ntb⟩
  refine (s.obj i a ob h1 h2).mono (Wd.le.refl _) ?_ (upd_ne fun z => hm (z ▸ List.mem_of_getElem? h1))
  by_cases hb : W.B a = none
  · exact .inl hb
  · exact .inr hb
theorem Stp.over {W W' : Wd} {H H' : Hp} {p : Addr} {o : HO} (l : Stp W H W' H') (hp : H p = none) (hB : W'.B p = none) (hn : ∀ ps, o ≠ .tbl ps := by intro _ z; cases z) : Stp W H (W'.put p o) (upd H' p o) := by
  have a := l.adopt (o := o) (.of hp) hB
  exact ⟨a.le, fun q u h n t => by rw [upd_ne (ne_of_none h hp)]; exact a.keep q u h n t, fun q h => a.dom q (fre_set hn q h), a.newm, a.newB⟩
/-- what lies beside a world stays as it is -/
theorem Stp.stays {W W' : Wd} {H H' : Hp} {p : Addr} {o : HO} (l : Stp W H W' H') (hB : W.B p = none) (hm : p ∉ W.m) (hH : H p = some o) (ht : ∀ ps, o ≠ .tbl ps := by intro _ z; cases z) (hx : ∀ φ, o ≠ .ext φ := by intro _ z; cases z) : W'.B p = none ∧ p ∉ W'.m ∧ H' p = some o := by
  refine ⟨?_, fun z => ?_, l.keep _ _ hH hm ht⟩
  · cases e : W'.B p with
    | none => rfl
    | some u =>
      rcases l.newB p u e with q | q | q | ⟨φ, q⟩
      · rw [hB] at q; cases q
      · exact (q.not hH ht).elim
      · exact absurd q hm
      · rw [hH] at q; exact absurd (Option.some.inj q) (hx φ)
  · rcases l.newm p z with q | q
    · exact hm q
    · exact q.not hH ht
theorem putK_new {kvs : List (Key × V)} {k : Key} {v : V} (h : k ∉ kvs.map (·.1)) : putK kvs k v = kvs ++ [(k, v)] := by
  unfold putK
  rw [if_neg]
  intro z
  obtain ⟨q, hq, e⟩ := List.any_eq_true.mp z
  exact h (List.mem_map.mpr ⟨q, hq, of_decide_eq_true e⟩)
theorem merge_new : ∀ (more kvs : List (Key × V)), (kvs.map (·.1) ++ more.map (·.1)).Nodup → mergeK kvs more = kvs ++ more
  | [], kvs, _ => (List.append_nil kvs).symm
  | q :: more, kvs, h => by
    show mergeK (putK kvs q.1 q.2) more = _
    have hn : q.1 ∉ kvs.map (·.1) := fun z => by
      have := (List.nodup_append.mp h).2.2 q.1 z q.1 (by simp)
      exact this rfl
    rw [putK_new hn, merge_new more _ (by simpa using h)]
    simp
section
variable {X : Cx} {W0 : Bs} {pos : Pos}
theorem keys_us {K : PySem.W.Frag} {W : Wd} : ∀ {us : List (V × V)} {ps : List (D × D)} {ks : List Key}, Reps K W (us.map (·.1)) (ps.map (·.1)) → ps.map (fun q => keyOf q.1) = ks.map some → us = (ks.zip (us.map (·.2))).map fun kv => (kV kv.1, kv.2)
  | [], _, _, _, _ => by simp
  | u :: us, [], _, r, _ => by cases r
  | u :: us, q :: ps, [], _, e => by simp at e
  | u :: us, q :: ps, k :: ks, r, e => by
    cases r with
    | cons h t =>
      have e' : keyOf q.1 = some k ∧ ps.map (fun q => keyOf q.1) = ks.map some := by simpa using e
      have ih := keys_us t e'.2
      simp only [List.map_cons, List.zip_cons_cons]
      rw [← ih, ← h.key e'.1]
theorem de_disp {keys : List (Option Expr)} {values : List Expr} {Ts : List (DTE × DTE)} (h : DPs X W0 pos keys values Ts) (hall : keys.all (·.isSome) = true) (hl : keys.length = values.length) (h0 : keys ≠ []) (h15 : keys.length ≤ 15) : DE X W0 (.Dict keys values pos) (dDisp Ts) :=
  (pe_disp h hall hl h0 h15).imp fun σ H Q ⟨W, env, S, P, hW, sim, er, ht, post⟩ p hp => by
    refine lift_pairs (hW.trans (.lay hp)) (sim.lay hp) er ht fun ps S' W' H' us ⟨ks, e, nd, h15, q⟩ s l ra rb => ?_
    obtain ⟨hB, hm, hH⟩ := l.stays (sim.free hp) (fun z => sim.dom p z hp) upd_same
    have lus : us.length = ps.length := by simpa using ra.length
    have lks : ks.length = ps.length := by simpa using (congrArg List.length e).symm
    have lzip : ks.length = (us.map (·.2)).length := by rw [List.length_map, lus, lks]
    have ek : (ks.zip (us.map (·.2))).map (·.1) = ks := List.map_fst_zip (by omega)
    refine ⟨hH, ks.zip (us.map (·.2)), keys_us ra e, by rw [List.length_zip]; omega, ?_⟩
    rw [merge_new _ [] (by simpa [ek] using nd), List.nil_append]
    have s2 := (s.beside (o := .dK (ks.zip (us.map (·.2)))) hB hm).adopt hB hm upd_same
    exact post _ _ _ _ _ q s2 ((Stp.lay hp).trans l |>.over hp hB) (.dct (.inl upd_same) lzip (rb.mono (Wd.le_put hB)))
structure KTab (P : Program) (w : World) (K : PySem.W.Frag) (a : Addr) (ks : List Key) (ds : List D) : Prop where
  ex : ∃ (vs : List V) (us : List (Key × Value)), ks.length = vs.length ∧ (∀ W, Reps K W vs ds) ∧ KV (ks.zip vs) us ∧ ks.length ≤ 1000 ∧ (a == sysModules) = false ∧ ∀ h : Heap, K.In h → h.DictOf (mixKind P w) a us
/-- dict(NAME) -/
theorem call_kcopy {a : Addr} {ks : List Key} {ds : List D} {vs : List V} {us : List (Key × Value)} (hl : ks.length = vs.length) (kv : KV (ks.zip vs) us) (hk : ks.length ≤ 1000) (hs : (a == sysModules) = false) (hd : ∀ h : Heap, X.K.In h → h.DictOf (mixKind X.prog X.w) a us) :
    CallR X (.type "dict") (fun xs H Q => xs = [.ref a] ∧ ∀ p, H p = none → Q (.ref p) (upd H p (.dK (ks.zip vs)))) := by
  rintro pins s σ H xs gs Q I r ⟨rfl, q⟩
  obtain ⟨u, rfl, ru⟩ := r.one
  cases ru
  have lz : (ks.zip vs).length ≤ sizeLine := Nat.le_trans (by rw [List.length_zip]; omega) (show 1000 ≤ sizeLine by decide)
  refine kt_call_dict hs (hd _ I.kIn) (by rw [← Paired.length kv]; exact lz) fun h' d' sb => ?_
  have low : (s.heap.objs.size == sysModules) = false := beq_eq_false_iff_ne.mpr (Nat.ne_of_gt I.big)
  refine ⟨.ref s.heap.objs.size, _, I.laid (t' := s.toks) (fun b u e => ?_) (Nat.le_refl _) (o := .dK (ks.zip vs)) ⟨lz, low, us, kv, d'⟩, rfl, q _ I.fresh⟩
  rw [sb.2 b (Nat.ne_of_lt (Heap.lt_size e))]
  exact Heap.get?_push_of_some _ e
def dNewD (ks : List Key) (ds : List D) : DTE := fun _ S P => P (.dct ks ds) S
theorem de_kcopy {x : Str} {a : Addr} {ks : List Key} {ds : List D} {p pos' : Pos} (tab : KTab X.prog X.w X.K a ks ds) (hx : Gl X x) (hm : X.mg x = some (.ref a)) (hg : Gl X "dict") (hmd : X.mg "dict" = none) (hdb : (x == ("__debug__" : Str)) = false := by decide) :
    DE X W0 (.Call (.Name "dict" p) [.Name x pos'] [] pos) (dNewD ks ds) := by
  obtain ⟨vs, us, hl, hr, kv, hk, hs, hd⟩ := tab.ex
  refine (pe_callTy (call_kcopy (ds := ds) hl kv hk hs hd) hg hmd (by decide +kernel) (pa_cons (pe_glob (v := .ref a) hx hm rfl hdb) pa_nil)).imp fun σ H Q ⟨W, env, S, P, hW, sim, er, ht, post⟩ => ⟨rfl, fun q hq => ?_⟩
  exact post _ _ _ _ _ ht (sim.put hq) (.put sim hq) (.dct (.inl upd_same) hl (hr _))
/-- NAME[e] -/
structure KGet (w : World) (K : PySem.W.Frag) (a : Addr) (ks : List Key) (ds : List D) : Prop where
  get : ∀ (z : Str) d, dlook ks ds (.inr z) = some d → ∃ v, KDct K w a z v ∧ ∀ W, Rep K W v d
def xKix (ks : List Key) (ds : List D) (P : D → Prop) (y : D) : Prop := ∃ z d, y = .str z ∧ dlook ks ds (.inr z) = some d ∧ P d
def dKix (ks : List Key) (ds : List D) (Tb : DTE) : DTE := fun env S P => Tb env S fun y S1 => xKix ks ds (fun d => P d S1) y
section
variable {env : Ev} {S : Sto} {P : DP} {Ta Tb : DTE} {x y d : D} {ks : List Key} {ds : List D} {k : Key}
theorem i_kix (q : Tb env S fun y S1 => xKix ks ds (fun d => P d S1) y) : dKix ks ds Tb env S P := q
instance  : Wk (dKix ks ds Tb env S P) (Tb env S fun y S1 => xKix ks ds (fun d => P d S1) y) := ⟨fun q => i_kix q⟩
theorem i_xkix {F : D → Prop} {z : Str} (h : dlook ks ds (.inr z) = some d) (q : F d) : xKix ks ds F (.str z) := ⟨z, d, rfl, h, q⟩
theorem i_newD (q : P (.dct ks ds) S) : dNewD ks ds env S P := q
instance  : Wk (dNewD ks ds env S P) (P (.dct ks ds) S) := ⟨fun q => i_newD q⟩
theorem i_dget (q : Ta env S fun x S1 => Tb env S1 fun y S2 => xDget (fun d => P d S2) x y) : dDget Ta Tb env S P := q
instance  : Wk (dDget Ta Tb env S P) (Ta env S fun x S1 => Tb env S1 fun y S2 => xDget (fun d => P d S2) x y) := ⟨fun q => i_dget q⟩
theorem i_xdget {F : D → Prop} (hk : keyOf y = some k) (h : dlook ks ds k = some d) (q : F d) : xDget F (.dct ks ds) y := ⟨ks, ds, k, d, rfl, hk, h, q⟩
theorem i_dget1 (q : Ta env S fun x S1 => (∃ ks ds, x = .dct ks ds) ∧ Tb env S1 fun y S2 => xDget1 (fun d => P d S2) x y) : dDget1 Ta Tb env S P := q
instance  : Wk (dDget1 Ta Tb env S P) (Ta env S fun x S1 => (∃ ks ds, x = .dct ks ds) ∧ Tb env S1 fun y S2 => xDget1 (fun d => P d S2) x y) := ⟨fun q => i_dget1 q⟩
theorem i_dd {A : Prop} (q : A) : (∃ ks' ds', D.dct ks ds = .dct ks' ds') ∧ A := ⟨⟨ks, ds, rfl⟩, q⟩
theorem i_xdget1 {F : D → Prop} (hk : keyOf y = some k) (q : F ((dlook ks ds k).getD .non)) : xDget1 F (.dct ks ds) y := ⟨ks, ds, k, rfl, hk, q⟩
theorem i_disp {Ts : List (DTE × DTE)} (q : dPairs Ts env S (xDisp P)) : dDisp Ts env S P := q
instance {Ts : List (DTE × DTE)} : Wk (dDisp Ts env S P) (dPairs Ts env S (xDisp P)) := ⟨fun q => i_disp q⟩
theorem i_pnil {F : List (D × D) → Sto → Prop} (q : F [] S) : dPairs [] env S F := q
instance {F : List (D × D) → Sto → Prop} : Wk (dPairs [] env S F) (F [] S) := ⟨fun q => i_pnil q⟩
theorem i_pcons {F : List (D × D) → Sto → Prop} {T1 T2 : DTE} {Ts : List (DTE × DTE)} (q : T1 env S fun k S1 => T2 env S1 fun v S2 => dPairs Ts env S2 fun ps S3 => F ((k, v) :: ps) S3) : dPairs ((T1, T2) :: Ts) env S F := q
instance {F : List (D × D) → Sto → Prop} {T1 T2 : DTE} {Ts : List (DTE × DTE)} : Wk (dPairs ((T1, T2) :: Ts) env S F) (T1 env S fun k S1 => T2 env S1 fun v S2 => dPairs Ts env S2 fun ps S3 => F ((k, v) :: ps) S3) := ⟨fun q => i_pcons q⟩
theorem i_xdisp {ps : List (D × D)} (h1 : ps.map (fun q => keyOf q.1) = ks.map some) (h2 : ks.Nodup) (h3 : ks.length ≤ 15) (q : P (.dct ks (ps.map (·.2))) S) : xDisp P ps S := ⟨ks, h1, h2, h3, q⟩
end
end
end DL
namespace DL
open PySem PySem.Spec PyProof.Rows L2
theorem de_gint {X : Cx} {W0 : Bs} {x : Str} {n : Int} {pos : Pos} (hg : Gl X x) (h : ∃ t, X.mg x = some (.int n t)) (hd : (x == ("__debug__" : Str)) = false := by decide) : DE X W0 (.Name x pos) (dC (.int n)) := by
  obtain ⟨t, h⟩ := h
  exact de_glob (v := .int n) hg h ⟨t, rfl⟩ (fun _ => .int n) hd
theorem at0 {α : Type} (x : α) (xs : List α) : L2.atI (x :: xs) 0 = some x := atI_nat (j := 0) rfl
/-- the end: a list that the store got here is handed back, what else it got is dropped -/
def atExitN (S0 : Sto) (P : List D → Sto → Prop) : DP := fun d S' => ∃ S1 T ds i, S' = S1 ++ T ∧ S1.length = S0.length ∧ (∀ o ∈ S1, o ∈ S0 ∨ o.under S1.length = true) ∧ d = .ref i ∧ S1.length ≤ i ∧ S'[i]? = some (.lst ds) ∧ unders S1.length ds = true ∧ P ds S1
theorem PostL.exit {K : PySem.W.Frag} {W : Wd} {S : Sto} {H : Hp} {P : List D → Sto → Prop} {Q : VK} (s : Sim K W S H) (post : PostL K W H P Q) : Post K W H (atExitN S P) Q := by
  rintro d S' W' H' v ⟨S1, T, ds, i, rfl, hl, ho, rfl, hi, hS, hd, q⟩ s' l r
  have hb : ∀ o ∈ S1, o.under S1.length = true := fun o h => (ho o h).elim (fun z => by rw [hl]; exact s.under o z) id
  cases r with
  | @ref _ a ha =>
    obtain ⟨hB, vs, hH, rr⟩ := s'.obj i a _ ha hS
    have away : a ∉ W'.m.take S1.length := fun z => by
      obtain ⟨j, hj⟩ := List.getElem?_of_mem z
      have hjl : j < S1.length := by
        have := (List.getElem?_eq_some_iff.mp hj).1
        rw [List.length_take] at this
        omega
      rw [List.getElem?_take_of_lt hjl] at hj
      have := one_place _ s'.nd _ _ _ hj ha
      omega
    have lc := l.cut (k := S1.length) (by rw [s.len, hl]; exact Nat.le_refl _)
    have fresh : Fre H a := by
      rcases l.newm a (List.mem_of_getElem? ha) with z | z
      · obtain ⟨j, hj⟩ := List.getElem?_of_mem z
        exact absurd (List.mem_of_getElem? (lc.le.pre j a hj)) away
      · exact z
    exact post ds S1 (W'.cut S1.length) H' a vs q (s'.cut hb) lc fresh hB away hH (rr.cutW hd)
end DL
namespace DL
open PySem PySem.Spec PyProof.Rows L2
def kit2 (u n1 n2 : String) : Option Bool := match kitB u n1 with
  | some true => some true
  | some false => kitB u n2
  | none => none
theorem kit2_any {K : PySem.W.Frag} {u n1 n2 : String} {k : Bool} (h : kit2 u n1 n2 = some k) : PySem.W.kitAny K (.type u) [.type n1, .type n2] = some k := by
  unfold kit2 at h
  cases h1 : kitB u n1 with
  | none => rw [h1] at h; cases h
  | some b =>
    have e1 := kit_ty (K := K) h1
    rw [h1] at h
    cases b with
    | true =>
      cases h
      simp only [PySem.W.kitAny, e1]
    | false =>
      have e2 := kit_ty (K := K) (show kitB u n2 = some k from h)
      simp only [PySem.W.kitAny, e1, e2]
      cases k <;> rfl
def dIsi2 (n1 n2 : String) (T : DTE) : DTE := fun env S P => T env S fun d S1 => ∃ u k, tyOf S1 d = some u ∧ kit2 u n1 n2 = some k ∧ P (.bl k) S1
theorem de_isi2 {X : Cx} {W0 : Bs} {e : Expr} {T : DTE} {x1 x2 : Str} {n1 n2 : String} {z : _} {p p1 p2 p3 pos : Pos} (he : DE X W0 e T) (hg : Gl X "isinstance") (hm : X.mg "isinstance" = none) (hb : bootBuiltins "isinstance" = some (.builtin "isinstance"))
    (g1 : Gl X x1) (m1 : X.mg x1 = none) (b1 : bootBuiltins x1 = some (.type n1)) (g2 : Gl X x2) (m2 : X.mg x2 = none) (b2 : bootBuiltins x2 = some (.type n2))
    (hn1 : x1 ≠ "__name__" := by decide) (hd1 : (x1 == ("__debug__" : Str)) = false := by decide) (hn2 : x2 ≠ "__name__" := by decide) (hd2 : (x2 == ("__debug__" : Str)) = false := by decide)
    (hs : starEach (e :: [Expr.Tuple [.Name x1 p1, .Name x2 p2] z p3]) X.env = (false, eval e X.env) :: starEach [Expr.Tuple [.Name x1 p1, .Name x2 p2] z p3] X.env := by rfl) :
    DE X W0 (.Call (.Name "isinstance" p) [e, .Tuple [.Name x1 p1, .Name x2 p2] z p3] [] pos) (dIsi2 n1 n2 T) := by
  have pT : PE X (.Tuple [.Name x1 p1, .Name x2 p2] z p3) _ := pe_tup (pa_cons (pe_bltn g1 m1 b1 (v := .ty n1) rfl hn1 hd1) (pa_cons (pe_bltn g2 m2 b2 (v := .ty n2) rfl hn2 hd2) pa_nil))
  refine (pe_callB call_isiT hg hm hb (pa_cons he (pa_cons pT pa_nil) hs) (he := hs)).imp fun σ H Q ⟨W, env, S, P, hW, sim, er, ht, post⟩ => ⟨W, env, S, _, hW, sim, er, ht, fun d S1 W1 H1 v ⟨u, k, hty, hk, q⟩ s l r => ?_⟩
  refine ⟨sz_le (by simp), fun a ha => ?_⟩
  have s' := s.put (o := .tup [.ty n1, .ty n2]) ha
  have r' := r.mono (Wd.le_put (o := .tup [.ty n1, .ty n2]) (s.free ha))
  exact ⟨v, a, [.ty n1, .ty n2], .type u, [.type n1, .type n2], k, rfl, upd_same, .cons (.ty n1) (.cons (.ty n2) .nil), r'.tyx s' hty, kit2_any hk, (post.mono l) _ _ _ _ _ q s' (.put s ha) (.bl k)⟩
theorem i_isi2 {env : Ev} {S : Sto} {P : DP} {n1 n2 : String} {T : DTE} (q : T env S fun d S1 => ∃ u k, tyOf S1 d = some u ∧ kit2 u n1 n2 = some k ∧ P (.bl k) S1) : dIsi2 n1 n2 T env S P := q
/-- a def whose end keeps what the store got -/
def exitK (P : DP) : DEnds := { nx := fun _ _ => False, rt := P }
theorem fn_dK {P : Program} {w : World} {K : PySem.W.Frag} {mg : Str → Option Value} {base : Heap} {x qual : Str} {st : Stmt} {f : Addr} {fd : FuncData} {N ps : List Str} {k : Nat} {sp : DSp} (F : Fun K x qual st f fd) (S : FnScope N ps (defScope st))
    (len : ∀ ds S P, sp ds S P → ds.length = ps.length)
    (body : ∀ (X : Cx) (W0 : Bs) (cdv : Value) (A : Around) (outer : List Env) (s : Shared) (H : Hp) (E : XK), X = (cxOf CX0 P w K mg base N qual (defScope st) f cdv A outer s H E).nox → Room k X.A →
      ∃ T : DTS, DSs X W0 (defBody st) T ∧ ∀ ds S P, sp ds S P → T (exitK P) (startE N ds) S) : FnOk P w K mg base CX0 (k + 1) f fd ps (liftSp K sp) := by
  refine F.ok S (fun vs H Q E ⟨W, ds, S, P, _, r, q, _⟩ => by rw [r.length]; exact len ds S P q) fun cdv A outer s H vs Q E hr h => ?_
  obtain ⟨W, ds, S, P, sim, r, q, post⟩ := h
  obtain ⟨T, hT, hq⟩ := body _ { W := W, H := H } cdv A outer s H E rfl hr
  exact ⟨_, hT, W, startE N ds, S, _, Stp.refl, sim, EnvR.start r, hq ds S P q, ⟨fun _ _ _ _ _ z => z.elim, post, fun _ _ _ _ _ z => z.elim, fun _ _ _ _ _ z => z.elim⟩⟩
end DL
namespace SC
open PySem PySem.Spec PyProof.Rows L2
end SC
namespace SC
open PySem PySem.Spec PyProof.Rows L2
abbrev two (elt t0 i0 : Expr) (f0 : List Expr) (t1 i1 : Expr) (f1 : List Expr) (scope : Scope) (pos : Pos) : Expr := .SetComp elt [⟨t0, i0, f0, 0⟩, ⟨t1, i1, f1, 0⟩] scope pos
def put (elt : Expr) (acc : Value) (env : Env) (c : Code) : Sem Fin := do
  (do let v ← eval elt env; standAt elt.pos; let _ ← call (.builtin "set.add") [acc, v])
  again c
def deeper (e i1 : Expr) (acc : Value) (env : Env) (c : Code) : Sem Fin := do
  let x ← eval i1 env
  standAt i1.pos
  let y ← foldedSetIterable i1 env x
  let _ ← runOwn (.compStart e 1 (← holding [y] (pyIter y)) acc env) env
  again c
end SC
namespace SC
open PySem PySem.Spec PyProof.Rows L2
end SC
namespace DL
open PySem PySem.Spec PyProof.Rows L2 SC
theorem Gives.mono {K : PySem.W.Frag} {W W2 : Wd} {H H2 : Hp} {ok : Sto → Prop} {ds : List D} {J : It} (g : Gives K W H ok ds J) (l : Stp W H W2 H2) : Gives K W2 H2 ok ds J := by
  obtain ⟨Gd, Y, wk, h1, h2⟩ := g
  exact ⟨Gd, Y, wk, fun W' S' H' l' => h1 W' S' H' (l.trans l'), fun i d W' S' H' x H'' hd l' => h2 i d W' S' H' x H'' hd (l.trans l')⟩
end DL
namespace DL
open PySem PySem.Spec PyProof.Rows L2
mutual
inductive KR (K : PySem.W.Frag) : Value → D → Prop where
  | int (n : Int) (t : PySem.Tok) : KR K (.int n t) (.int n)
  | str (x : Str) (t : PySem.Tok) : KR K (.str x t) (.str x)
  | tup {a : Addr} {d : Option Addr} {its : Array Value} {n : Nat} {sl : Array (Option Value)} {ds : List D} : K.lookup a = some ⟨.type "tuple", d, .seq its n, sl⟩ → ds.length ≤ 1000 → KRs K its.toList ds → KR K (.ref a) (.tup ds)
inductive KRs (K : PySem.W.Frag) : List Value → List D → Prop where
  | nil : KRs K [] []
  | cons {u : Value} {d : D} {us : List Value} {ds : List D} : KR K u d → KRs K us ds → KRs K (u :: us) (d :: ds)
end
section
variable {K : PySem.W.Frag}
mutual
theorem KR.rep : ∀ {u : Value} {d : D}, KR K u d → ∃ v, RelV v u ∧ ∀ W, Rep K W v d
  | _, _, .int n t => ⟨.int n, ⟨t, rfl⟩, fun _ => .int n⟩
  | _, _, .str x t => ⟨.str x, ⟨t, rfl⟩, fun _ => .str x⟩
  | _, _, .tup (a := a) l h r => by
    obtain ⟨vs, h1, h2⟩ := KRs.rep r
    refine ⟨.ref a, rfl, fun W => .tup (.inr ⟨_, _, _, l, rfl, rfl, ?_, h1⟩) (h2 W)⟩
    rw [← Array.length_toList, ← h1.length, (h2 W).length]
    exact sz_le (by omega)
theorem KRs.rep : ∀ {us : List Value} {ds : List D}, KRs K us ds → ∃ vs, Vals vs us ∧ ∀ W, Reps K W vs ds
  | _, _, .nil => ⟨[], .nil, fun _ => .nil⟩
  | _, _, .cons r rs => by
    obtain ⟨v, h1, h2⟩ := KR.rep r
    obtain ⟨vs, h3, h4⟩ := KRs.rep rs
    exact ⟨v :: vs, .cons h1 h3, fun W => .cons (h2 W) (h4 W)⟩
end
/-- a written dict's entries -/
inductive KEs (K : PySem.W.Frag) : List DictEntry → List Str → List D → Prop where
  | nil : KEs K [] [] []
  | cons {e : DictEntry} {x : Str} {t : PySem.Tok} {d : D} {es : List DictEntry} {xs : List Str} {ds : List D} : e.key = .str x t → KR K e.val d → KEs K es xs ds → KEs K (e :: es) (x :: xs) (d :: ds)
theorem KEs.out {P : Program} {w : World} : ∀ {es : List DictEntry} {xs : List Str} {ds : List D}, KEs K es xs ds → ∃ (vs : List V) (us : List Value), xs.length = vs.length ∧ (∀ W, Reps K W vs ds) ∧
    KV ((xs.map (Sum.inr : Str → Key)).zip vs) ((xs.map (Sum.inr : Str → Key)).zip us) ∧ Pairs (mixKind P w) es ((xs.map (Sum.inr : Str → Key)).zip us) ∧ xs.length = us.length
  | _, _, _, .nil => ⟨[], [], rfl, fun _ => .nil, .nil, .nil, rfl⟩
  | _, _, _, .cons (t := t) e r rs => by
    obtain ⟨v, h1, h2⟩ := r.rep
    obtain ⟨vs, us, a1, a2, a3, a4, a5⟩ := KEs.out (P := P) (w := w) rs
    exact ⟨v :: vs, _ :: us, congrArg (· + 1) a1, fun W => .cons (h2 W) (a2 W), .cons ⟨rfl, h1⟩ a3, .cons (by rw [e]; exact keyIs_str _ t) rfl a4, congrArg (· + 1) a5⟩
theorem inr_inj {a b : Str} (h : (Sum.inr a : Key) = Sum.inr b) : a = b := by cases h; rfl
theorem KEs.tab {P : Program} {w : World} {a : Addr} {es : Array DictEntry} {n : Nat} {xs : List Str} {ds : List D} (h : KEs K es.toList xs ds) (l : K.lookup a = some ⟨.type "dict", none, .dict es n, #[]⟩) (lit : PySem.W.KeysLit w.params es.toList) (low : (a == sysModules) = false) (nd : xs.Nodup) (few : xs.length ≤ 1000) :
    KTab P w K a (xs.map .inr) ds := by
  obtain ⟨vs, us, a1, a2, a3, a4, a5⟩ := h.out (P := P) (w := w)
  refine ⟨vs, _, by rw [List.length_map]; exact a1, a2, a3, by rw [List.length_map]; exact few, low, fun hp X => ⟨_, es, n, X _ _ l, ⟨rfl, rfl, rfl⟩, rfl, fun e he => ?_, a4, ?_⟩⟩
  · obtain ⟨x, t, e1, e2⟩ := lit.all e (Array.mem_toList_iff.mpr he)
    exact ⟨.inr x, by rw [e1]; exact keyIs_str x t, e2⟩
  · rw [List.map_fst_zip (by rw [List.length_map]; omega)]
    exact (List.pairwise_map.mpr (nd.imp fun hne e => hne (inr_inj e)))
theorem KEs.find {w : World} {z : Str} {d : D} : ∀ {es : List DictEntry} {xs : List Str} {ds : List D}, KEs K es xs ds → dlook (xs.map .inr) ds (.inr z) = some d → ∃ e, es.find? (fun e => e.key.isStr z) = some e ∧ KR K e.val d
  | _, _, _, .nil, h => by cases h
  | _, _, _, .cons (e := e) (x := x) (t := t) ek r rs, h => by
    have h : (if (Sum.inr x : Key) = .inr z then _ else _) = some d := h
    by_cases hx : x = z
    · subst hx
      rw [if_pos rfl] at h
      cases h
      exact ⟨e, by rw [List.find?_cons_of_pos]; rw [ek, PySem.W.isStr_of]; simp [Value.isStrOf], r⟩
    · rw [if_neg fun q => hx (inr_inj q)] at h
      obtain ⟨e', h1, h2⟩ := KEs.find (w := w) rs h
      refine ⟨e', ?_, h2⟩
      rw [List.find?_cons_of_neg]
      · exact h1
      · rw [ek, PySem.W.isStr_of]
        simpa [Value.isStrOf] using hx
theorem KEs.getK {w : World} {a : Addr} {es : Array DictEntry} {n : Nat} {xs : List Str} {ds : List D} (h : KEs K es.toList xs ds) (l : K.lookup a = some ⟨.type "dict", none, .dict es n, #[]⟩) (lit : PySem.W.KeysLit w.params es.toList) : KGet w K a (xs.map .inr) ds := by
  refine ⟨fun z d hd => ?_⟩
  obtain ⟨e, h1, h2⟩ := h.find (w := w) hd
  obtain ⟨v, h3, h4⟩ := h2.rep
  refine ⟨v, ⟨es, n, e.val, l, lit, ?_, h3⟩, h4⟩
  unfold PySem.W.nsIn
  rw [l]
  dsimp only
  rw [h1]
end
section
variable {K : PySem.W.Frag} {h : Heap} {mg : Str → Option Value} {goal : Prop}
theorem at_of (X : K.In h) (G : h.Ns mainGlobals mg) {x : Str} {st : Stmt} {ps : List Str} {f : Addr} {od an : Option Addr} {sl : Array (Option Value)} {oc kV dc pm cd ct : Value}
    (a : PySem.W.nsIn K mainGlobals x = some (some (.ref f))) (l : K.lookup f = some ⟨oc, od, .func (PySem.W.fnOf x x (defArgs st) (defBody st) (defScope st) .none kV dc pm an cd ct), sl⟩) (c : PySem.W.codeIn K cd x = true) (k : PySem.W.keepIn K (.ref f) = true)
    (b : ∀ (kV doc pm : Value) (an : Option Addr) (cdv ct : Value) (us : List Value), us.length = ps.length → bindArgs (PySem.W.fnOf x x (defArgs st) (defBody st) (defScope st) .none kV doc pm an cdv ct) ⟨us, []⟩ = pure (ps.zip us)) : At K mg x st ps := by
  have F := fun_mk (st := st) l c k
  exact ⟨f, _, PySem.W.mg_of X G a, F, F.binds b⟩
theorem with_at (X : K.In h) (G : h.Ns mainGlobals mg) (x : Str) (st : Stmt) (ps : List Str) {f : Addr} {od an : Option Addr} {sl : Array (Option Value)} {oc kV dc pm cd ct : Value}
    (a : PySem.W.nsIn K mainGlobals x = some (some (.ref f))) (l : K.lookup f = some ⟨oc, od, .func (PySem.W.fnOf x x (defArgs st) (defBody st) (defScope st) .none kV dc pm an cd ct), sl⟩) (c : PySem.W.codeIn K cd x = true) (k : PySem.W.keepIn K (.ref f) = true)
    (b : ∀ (kV doc pm : Value) (an : Option Addr) (cdv ct : Value) (us : List Value), us.length = ps.length → bindArgs (PySem.W.fnOf x x (defArgs st) (defBody st) (defScope st) .none kV doc pm an cdv ct) ⟨us, []⟩ = pure (ps.zip us)) (q : At K mg x st ps → goal) : goal := q (at_of X G a l c k b)
theorem with_int (X : K.In h) (G : h.Ns mainGlobals mg) (x : Str) (n : Int) {t : PySem.Tok} (a : PySem.W.nsIn K mainGlobals x = some (some (.int n t))) (q : (∃ t, mg x = some (.int n t)) → goal) : goal := q ⟨t, PySem.W.mg_of X G a⟩
theorem with_none (X : K.In h) (G : h.Ns mainGlobals mg) (x : Str) (a : PySem.W.nsIn K mainGlobals x = some none) (q : mg x = none → goal) : goal := q (PySem.W.mg_none_of X G a)
def TopD (P : Program) (w : World) (K : PySem.W.Frag) (mg : Str → Option Value) (x : Str) (xs : List Str) (ds : List D) : Prop := ∃ a, mg x = some (.ref a) ∧ KTab P w K a (xs.map .inr) ds ∧ KGet w K a (xs.map .inr) ds
theorem with_dict {P : Program} {w : World} (X : K.In h) (G : h.Ns mainGlobals mg) (x : Str) (xs : List Str) (ds : List D) {a : Addr} {es : Array DictEntry} {n : Nat} (e : PySem.W.nsIn K mainGlobals x = some (some (.ref a)))
    (l : K.lookup a = some ⟨.type "dict", none, .dict es n, #[]⟩) (k : KEs K es.toList xs ds) (lit : PySem.W.KeysLit w.params es.toList) (low : (a == sysModules) = false) (nd : xs.Nodup) (few : xs.length ≤ 1000) (q : TopD P w K mg x xs ds → goal) : goal :=
  q ⟨a, PySem.W.mg_of X G e, k.tab l lit low nd few, k.getK l lit⟩
/-- the heap without tables of code objects -/
def noTab (H : Hp) : Hp := fun b => match H b with
  | some (.tbl _) => none
  | x => x
theorem noTab_of {H : Hp} {b : Addr} {o : HO} (h : H b = some o) (n : ∀ ps, o ≠ .tbl ps) : noTab H b = some o := by
  unfold noTab
  rw [h]
  cases o with
  | tbl ps => exact absurd rfl (n ps)
  | _ => rfl
theorem noTab_in {H : Hp} {b : Addr} {o : HO} (h : noTab H b = some o) : H b = some o ∧ ∀ ps, o ≠ .tbl ps := by
  unfold noTab at h
  cases e : H b with
  | none => rw [e] at h; cases h
  | some u =>
    rw [e] at h
    cases u with
    | tbl ps => cases h
    | _ => cases h; exact ⟨rfl, fun _ z => by cases z⟩
theorem noTab_sql {K : PySem.W.Frag} {H : Hp} {a : Addr} {xs : List V} (h : SqL K H a xs) : SqL K (noTab H) a xs := by
  rcases h with (h | ⟨o, h⟩) | h
  · exact .inl (.inl (noTab_of h fun _ z => by cases z))
  · exact .inl (.inr ⟨o, noTab_of h fun _ z => by cases z⟩)
  · exact .inr h
end
end DL
namespace DL
open PySem PySem.Spec PyProof.Rows L2
theorem nones {mg : Str → Option Value} {l : List Str} (h : ∀ x ∈ l, mg x = none) : ∀ x, l.contains x = true → mg x = none := fun x hx => h x (by simpa using hx)
theorem ints_of_top {mg : Str → Option Value} : ∀ {l : List (Str × Int)}, (∀ p ∈ l, ∃ t, mg p.1 = some (.int p.2 t)) → ∀ x n, l.lookup x = some n → ∃ t, mg x = some (.int n t)
  | [], _, _, _, h => by cases h
  | (y, m) :: l, a, x, n, h => by
    rw [List.lookup_cons] at h
    cases e : (x == y) with
    | true =>
      rw [e] at h
      cases h
      obtain ⟨t, ht⟩ := a (y, m) List.mem_cons_self
      exact ⟨t, by rw [eq_of_beq e]; exact ht⟩
    | false =>
      rw [e] at h
      exact ints_of_top (fun p hp => a p (List.mem_cons_of_mem _ hp)) x n h
end DL
namespace DL
open PySem PySem.Spec PyProof.Rows L2
end DL
namespace DL
open PySem PySem.Spec PyProof.Rows L2
abbrev Fs := List (Str × D)
def putD (f : Str) (d : D) : Fs → Fs
  | [] => [(f, d)]
  | (g, x) :: r => if g = f then (g, d) :: r else (g, x) :: putD f d r
section
variable {K : PySem.W.Frag} {W : Wd}
theorem fld_some {f : Str} {d : D} : ∀ {fs : Fs} {vs : List V}, Reps K W vs (fs.map (·.2)) → fs.lookup f = some d → ∃ v, ((fs.map (·.1)).zip vs).lookup f = some v ∧ Rep K W v d
  | [], _, _, h => by cases h
  | (g, x) :: fs, _, .cons (v := v) (vs := vs) r rs, h => by
    rw [List.lookup_cons] at h
    cases e : (f == g) with
    | true =>
      rw [e] at h
      cases h
      exact ⟨v, by simp only [List.map_cons, List.zip_cons_cons, List.lookup_cons, e], r⟩
    | false =>
      rw [e] at h
      obtain ⟨v', h1, h2⟩ := fld_some rs h
      exact ⟨v', by simp only [List.map_cons, List.zip_cons_cons, List.lookup_cons, e]; exact h1, h2⟩
theorem fld_none {f : Str} : ∀ {fs : Fs} {vs : List V}, fs.lookup f = none → ((fs.map (·.1)).zip vs).lookup f = none
  | [], _, _ => rfl
  | (g, x) :: fs, [], _ => rfl
  | (g, x) :: fs, v :: vs, h => by
    rw [List.lookup_cons] at h
    cases e : (f == g) with
    | true => rw [e] at h; cases h
    | false =>
      rw [e] at h
      simp only [List.map_cons, List.zip_cons_cons, List.lookup_cons, e]
      exact fld_none h
theorem fld_put {f : Str} {v : V} {d : D} (r0 : Rep K W v d) : ∀ {fs : Fs} {vs : List V}, Reps K W vs (fs.map (·.2)) → ∃ vs', putF f v ((fs.map (·.1)).zip vs) = ((putD f d fs).map (·.1)).zip vs' ∧ Reps K W vs' ((putD f d fs).map (·.2))
  | [], _, .nil => ⟨[v], rfl, .cons r0 .nil⟩
  | (g, x) :: fs, _, .cons (v := y) (vs := vs) r rs => by
    by_cases e : g = f
    · exact ⟨v :: vs, by simp [putF, putD, e], by simp only [putD, e, if_true]; exact .cons r0 rs⟩
    · obtain ⟨vs', h1, h2⟩ := fld_put (f := f) r0 rs
      exact ⟨y :: vs', by simp only [List.map_cons, List.zip_cons_cons, putF, putD, if_neg e, h1], by simp only [putD, if_neg e, List.map_cons]; exact .cons r h2⟩
end
def dFld (C : Addr) (f : Str) (Ta : DTE) : DTE := fun env S P => Ta env S fun x S1 => ∃ i fs d, x = .ref i ∧ S1[i]? = some (.ins C fs) ∧ fs.lookup f = some d ∧ P d S1
def dSetF (C : Addr) (f : Str) (Ta Tv : DTE) : DTS := fun E env S => Tv env S fun y S1 => Ta env S1 fun x S2 => ∃ i fs, x = .ref i ∧ S2[i]? = some (.ins C fs) ∧ fs.length < 1000 ∧ E.nx env (S2.set i (.ins C (putD f y fs)))
def dAugF (C : Addr) (f : Str) (Ta Tv : DTE) (g : Int → Int → Int) : DTS := fun E env S => Ta env S fun x S1 => ∃ i fs a, x = .ref i ∧ S1[i]? = some (.ins C fs) ∧ fs.lookup f = some (.int a) ∧
  Tv env S1 fun y S2 => xInt (fun b => ∃ fs', S2[i]? = some (.ins C fs') ∧ fs'.length < 1000 ∧ E.nx env (S2.set i (.ins C (putD f (.int (g a b)) fs')))) y
def dMeth (C : Addr) (m : Str) (sp : DSp) (Ta : DTE) (TR : DTA) : DTE := fun env S P => Ta env S fun x S1 => (∃ i fs, x = .ref i ∧ S1[i]? = some (.ins C fs) ∧ fs.lookup m = none) ∧ TR env S1 fun ds S2 => sp (x :: ds) S2 P
def dMake (C : Addr) (sp : DSp) (TR : DTA) : DTE := fun env S P => TR env S fun ds S1 => sp (.ref S1.length :: ds) (S1 ++ [.ins C []]) fun v S2 => v = .non ∧ P (.ref S1.length) S2
/-- a method, as it is kept -/
def MFn (P : Program) (w : World) (K : PySem.W.Frag) (mg : Str → Option Value) (base : Heap) (C : Addr) (m : Str) (k : Nat) (ps : List Str) (sp : DSp) : Prop :=
  ∃ (f : Addr) (fd : FuncData), Meth K C m f ∧ Binds K fd ps [] ∧ FnOk P w K mg base CX0 k f fd ps (liftSp K sp)
/-- a class that is made by its __init__ -/
def MkF (P : Program) (w : World) (K : PySem.W.Frag) (mg : Str → Option Value) (base : Heap) (x : Str) (C : Addr) (k : Nat) (ps : List Str) (sp : DSp) : Prop :=
  ∃ (f : Addr) (fd : FuncData), mg x = some (.ref C) ∧ Mk K C f ∧ Binds K fd ps [] ∧ FnOk P w K mg base CX0 k f fd ps (liftSp K sp)
section
variable {X : Cx} {W0 : Bs} {a e : Expr} {es : List Expr} {Ta Tv : DTE} {TR : DTA} {C : Addr} {f m : Str} {pos pos' apos tpos p : Pos}
theorem de_fld (c : Cls X.K C) (n : NoAttr X.K C f) (ha : DE X W0 a Ta) (hb : attributeBase a f X.env (eval a X.env) = eval a X.env := by rfl) : DE X W0 (.Attribute a f pos) (dFld C f Ta) :=
  (pe_fld ha hb).imp fun σ H Q ⟨W, env, S, P, hW, sim, er, ht, post⟩ => ⟨W, env, S, _, hW, sim, er, ht, fun x S1 W1 H1 v ⟨i, fs, d, ex, hi, hf, q⟩ s1 l1 r1 => by
    subst ex
    cases r1 with
    | @ref _ b hb =>
      obtain ⟨_, dx, vs, hH, rr⟩ := s1.obj i b _ hb hi
      obtain ⟨v, h1, h2⟩ := fld_some rr hf
      exact ⟨b, C, dx, _, v, rfl, hH, c, n, h1, post _ _ W1 H1 _ q s1 l1 h2⟩⟩
theorem ds_fld (c : Cls X.K C) (n : NoAttr X.K C f) (ha : DE X W0 a Ta) (hv : DE X W0 e Tv) (hs : swapsWith e (some (.Attribute a f pos')) pos.line X.env = pure false := by rfl) : DS X W0 (.Assign [.Attribute a f pos'] e pos) (dSetF C f Ta Tv) :=
  (ps_fld ha hv hs).imp fun D σ H ⟨W, env, S, E, hW, sim, er, ht, post⟩ => ⟨W, env, S, _, hW, sim, er, ht, fun y S1 W1 H1 v q1 s1 l1 r1 => ⟨W1, env, S1, _, hW.trans l1, s1, er.mono l1.le, q1, fun x S2 W2 H2 u ⟨i, fs, ex, hi, hl, q2⟩ s2 l2 r2 => by
    subst ex
    cases r2 with
    | @ref _ b hb =>
      obtain ⟨hB, dx, vs, hH, rr⟩ := s2.obj i b _ hb hi
      obtain ⟨vs', h1, h2⟩ := fld_put (f := f) (r1.mono l2.le) rr
      refine ⟨b, C, dx, _, rfl, hH, c, n, ?_, ?_⟩
      · rw [List.length_zip, List.length_map]
        omega
      · rw [h1]
        have s3 := s2.setO (o' := .ins C (putD f y fs)) (ho := .ins C dx (((putD f y fs).map (·.1)).zip vs')) hb hi hB ⟨hB, dx, vs', upd_same, h2⟩
        exact post.nx _ _ W2 _ σ q2 s3 ((l1.trans l2).trans (.setO hb)) (er.mono (l1.trans l2).le)⟩⟩
theorem lift_meth {sp : DSp} {σ : L2.St} {H : Hp} {Q : VK} (h : liftE X.K W0 (dMeth C m sp Ta TR) σ H Q) : tMeth C m (liftSp X.K sp) [] E0 (liftE X.K W0 Ta) (liftA X.K W0 TR) σ H Q := by
  obtain ⟨W, env, S, P, hW, sim, er, ht, post⟩ := h
  refine ⟨W, env, S, _, hW, sim, er, ht, fun x S1 W1 H1 v ⟨⟨i, fs, ex, hi, hf⟩, q1⟩ s1 l1 r1 => ?_⟩
  subst ex
  have r1' := r1
  cases r1 with
  | @ref _ b hb =>
    obtain ⟨_, dx, vs, hH, rr⟩ := s1.obj i b _ hb hi
    refine ⟨b, dx, _, rfl, hH, fld_none hf, W1, env, S1, _, hW.trans l1, s1, er.mono l1.le, q1, fun ds S2 W2 H2 us q2 s2 l2 r2 => ?_⟩
    show liftSp X.K sp (V.ref b :: (us ++ [])) H2 Q E0
    rw [List.append_nil]
    exact ⟨W2, _, S2, P, s2, .cons (r1'.mono l2.le) r2, q2, post.mono (l1.trans l2)⟩
theorem de_meth0 {k : Nat} {ps : List Str} {sp : DSp} (c : Cls X.K C) (h : MFn X.prog X.w X.K X.mg X.base C m k ps sp) (hr : Room k X.A) (ha : DE X W0 a Ta)
    {pl : Sem Bool} (ht : eval (.Call (.Attribute a m apos) [] [] pos) X.env = (do
      let ov ← eval a X.env
      standAt apos.atName
      let (f, first) ← holding [ov] (getMethod ov m pl)
      callWith pos f first (backTo pos (starEach [] X.env)) (backToKw pos (keywordEach [] X.env))) := by rfl) : DE X W0 (.Call (.Attribute a m apos) [] [] pos) (dMeth C m sp Ta dNil) := by
  obtain ⟨f, fd, h1, h2, h3⟩ := h
  refine (pe_meth0 (pl := pl) ha c h1 h3 hr h2 .nil pass0 ht).imp fun σ H Q q => ?_
  obtain ⟨W, env, S, P, hW, sim, er, hh, post⟩ := lift_meth (TR := dNil) q
  refine ⟨W, env, S, P, hW, sim, er, hh, fun d S' W' H' v q' s' l' r' => ?_⟩
  obtain ⟨a', dx, fs, e1, e2, e3, W2, env2, S2, P2, hW2, sim2, er2, hn, post2⟩ := post d S' W' H' v q' s' l' r'
  exact ⟨a', dx, fs, e1, e2, e3, post2 [] S2 W2 H' [] hn sim2 .refl .nil⟩
theorem lift_make {sp : DSp} {σ : L2.St} {H : Hp} {Q : VK} (h : liftE X.K W0 (dMake C sp TR) σ H Q) : tMake C (liftSp X.K sp) [] E0 (liftA X.K W0 TR) σ H Q := by
  obtain ⟨W, env, S, P, hW, sim, er, ht, post⟩ := h
  refine ⟨W, env, S, _, hW, sim, er, ht, fun ds S1 W1 H1 vs q s1 l1 r1 x dx hx hdx hne => ?_⟩
  rw [List.append_nil]
  have hx2 : upd H1 dx (HO.own x) x = none := by rw [upd_ne (Ne.symm hne)]; exact hx
  have s2 : Sim X.K (W1.new x) (S1 ++ [.ins C []]) (upd (upd H1 dx (.own x)) x (.ins C dx [])) := (s1.lay hdx).newO hx2 ⟨s1.free hx, dx, [], upd_same, .nil⟩
  have l2 : Stp W1 H1 (W1.new x) (upd (upd H1 dx (.own x)) x (.ins C dx [])) := (Stp.lay hdx).trans (.newO hx2)
  have hk : (W1.new x).m[S1.length]? = some x := by
    show (W1.m ++ [x])[S1.length]? = some x
    rw [← s1.len, List.getElem?_append_right (Nat.le_refl _), Nat.sub_self]
    rfl
  refine ⟨W1.new x, _, _, _, s2, .cons (.ref hk) (r1.mono l2.le), q, fun d S3 W3 H3 v ⟨e, q3⟩ s3 l3 r3 => ?_⟩
  subst e
  exact ⟨r3.nonV, post _ _ W3 H3 _ q3 s3 (l1.trans (l2.trans l3)) (.ref (l3.le.pre _ _ hk))⟩
theorem de_make {x : Str} {k : Nat} {ps : List Str} {sp : DSp} (h : MkF X.prog X.w X.K X.mg X.base x C k ps sp) (hr : Room (k + 1) X.A) (hg : Gl X x) (ha : DA X W0 (e :: es) TR) (hdb : (x == ("__debug__" : Str)) = false := by decide) (he : starEach (e :: es) X.env = (false, eval e X.env) :: starEach es X.env := by rfl) (hpl : (backTo pos (starEach es X.env)).any (·.1) = false := by rfl) :
    DE X W0 (.Call (.Name x p) (e :: es) [] pos) (dMake C sp TR) := by
  obtain ⟨f, fd, h1, h2, h3, h4⟩ := h
  exact (pe_make h2 h4 hr hg h1 h3 .nil pass0 ha hdb he hpl).imp fun _ _ _ q => lift_make q
end
end DL
namespace DL
open PySem PySem.Spec PyProof.Rows L2
section
variable {X : Cx} {W0 : Bs} {a b e : Expr} {Ta Tb Te : DTE} {pos tpos : Pos}
def dAugS (Ta Tb Te : DTE) (g : Int → Int → Int) : DTS := fun E env S => Ta env S fun x S1 => Tb env S1 fun y S2 => ∃ i k xs z, x = .ref i ∧ y = .int k ∧ 0 ≤ k ∧ S2[i]? = some (.lst xs) ∧ L2.atI xs k = some (.int z) ∧
  Te env S2 fun v S3 => xInt (fun u => setAt (.ref i) (.int k) (.int (g z u)) S3 fun S4 => E.nx env S4) v
def xKget2 (ks : List Key) (ds : List D) (P : D → Prop) (y z : D) : Prop := ∃ k, keyOf y = some k ∧ P ((dlook ks ds k).getD z)
def dKget2 (ks : List Key) (ds : List D) (Tb Tc : DTE) : DTE := fun env S P => Tb env S fun y S1 => Tc env S1 fun z S2 => xKget2 ks ds (fun d => P d S2) y z
end
end DL
namespace DL
open PySem PySem.Spec PyProof.Rows L2
section
variable {X : Cx} {W0 : Bs} {a b e : Expr} {Ta Tb Te : DTE} {pos tpos : Pos}
def dKin (ks : List Key) (ds : List D) (Tb : DTE) : DTE := fun env S P => Tb env S fun y S1 => ∃ k, keyOf y = some k ∧ P (.bl (dlook ks ds k).isSome) S1
def xDispS (P : D → Sto → Prop) (ps : List (D × D)) (S : Sto) : Prop := ∃ ks, ps.map (fun q => keyOf q.1) = ks.map some ∧ ks.Nodup ∧ ks.length ≤ 15 ∧ P (.ref S.length) (S ++ [.dct ks (ps.map (·.2))])
def dDispS (Ts : List (DTE × DTE)) : DTE := fun env S P => dPairs Ts env S (xDispS P)
def xSget (P : D → Prop) (x y : D) (S : Sto) : Prop := ∃ i ks ds k d, x = .ref i ∧ S[i]? = some (.dct ks ds) ∧ keyOf y = some k ∧ dlook ks ds k = some d ∧ P d
def dSget (Ta Tb : DTE) : DTE := fun env S P => Ta env S fun x S1 => Tb env S1 fun y S2 => xSget (fun d => P d S2) x y S2
def dput (ks : List Key) (ds : List D) (k : Key) (d : D) : List D := List.zipWith (fun k' x => if k' = k then d else x) ks ds
def setAtD (x y d : D) (S : Sto) (P : Sto → Prop) : Prop := ∃ i ks ds k, x = .ref i ∧ S[i]? = some (.dct ks ds) ∧ keyOf y = some k ∧ k ∈ ks ∧ ks.length ≤ 1000 ∧ P (S.set i (.dct ks (dput ks ds k d)))
def gSbD (Ta Tb : DTE) : DTG := fun d env S P => Ta env S fun x S1 => Tb env S1 fun y S2 => setAtD x y d S2 fun S3 => P env S3
end
end DL
namespace DL
open PySem PySem.Spec PyProof.Rows L2
/-- what a class of the text has: no name of its objects is its own -/
structure ClsF (K : PySem.W.Frag) (C : Addr) (fs : List Str) : Prop where
  cl : Cls K C
  na : ∀ f, fs.contains f = true → NoAttr K C f
structure MAt (K : PySem.W.Frag) (C : Addr) (m qual : Str) (st : Stmt) (ps : List Str) : Prop where
  ex : ∃ f fd, Meth K C m f ∧ Fun K m qual st f fd ∧ Binds K fd ps []
structure IAt (K : PySem.W.Frag) (mg : Str → Option Value) (x : Str) (C : Addr) (qual : Str) (st : Stmt) (ps : List Str) : Prop where
  ex : ∃ f fd, mg x = some (.ref C) ∧ Mk K C f ∧ Fun K "__init__" qual st f fd ∧ Binds K fd ps []
section
variable {P : Program} {w : World} {K : PySem.W.Frag} {mg : Str → Option Value} {base : Heap} {C : Addr} {m x qual : Str} {st : Stmt} {ps : List Str} {k : Nat} {sp : DSp}
theorem mfn_at (h : MAt K C m qual st ps) (ok : ∀ f fd, Fun K m qual st f fd → FnOk P w K mg base CX0 k f fd ps (liftSp K sp)) : MFn P w K mg base C m k ps sp := by
  obtain ⟨f, fd, h1, h2, h3⟩ := h.ex
  exact ⟨f, fd, h1, h3, ok f fd h2⟩
theorem mkf_at (h : IAt K mg x C qual st ps) (ok : ∀ f fd, Fun K "__init__" qual st f fd → FnOk P w K mg base CX0 k f fd ps (liftSp K sp)) : MkF P w K mg base x C k ps sp := by
  obtain ⟨f, fd, h0, h1, h2, h3⟩ := h.ex
  exact ⟨f, fd, h0, h1, h3, ok f fd h2⟩
end
section
variable {K : PySem.W.Frag} {h : Heap} {mg : Str → Option Value} {goal : Prop}
/-- the class stands at a written place -/
theorem with_cls' (X : K.In h) (G : h.Ns mainGlobals mg) (x : Str) {C : Addr} (aC : PySem.W.nsIn K mainGlobals x = some (some (.ref C))) (pg : PySem.W.plainGet K C Str.empty = true) (hd : PySem.W.hasDictIn K C = true) (po : PySem.W.plainOver K C = true)
    (sa : PySem.W.findIn K (.ref C) "__setattr__" = some (some (.builtin "object.__setattr__"))) (q : Cls K C → mg x = some (.ref C) → goal) : goal :=
  q ⟨pg, hd, po, sa⟩ (PySem.W.mg_of X G aC)
theorem with_meth (C : Addr) (m qual : Str) (st : Stmt) (ps : List Str) {f : Addr} {od an : Option Addr} {sl : Array (Option Value)} {oc kV dc pm cd ct : Value}
    (a : PySem.W.findIn K (.ref C) m = some (some (.ref f))) (i : PySem.W.isFn K (.ref f) = true) (l : K.lookup f = some ⟨oc, od, .func (PySem.W.fnOf m qual (defArgs st) (defBody st) (defScope st) .none kV dc pm an cd ct), sl⟩) (c : PySem.W.codeIn K cd qual = true) (k : PySem.W.keepIn K (.ref f) = true)
    (b : ∀ (kV doc pm : Value) (an : Option Addr) (cdv ct : Value) (us : List Value), us.length = ps.length → bindArgs (PySem.W.fnOf m qual (defArgs st) (defBody st) (defScope st) .none kV doc pm an cdv ct) ⟨us, []⟩ = pure (ps.zip us)) (q : MAt K C m qual st ps → goal) : goal := by
  have F := fun_mk (st := st) l c k
  exact q ⟨f, _, ⟨a, i, k⟩, F, F.binds b⟩
theorem with_init (x : Str) (C : Addr) (qual : Str) (st : Stmt) (ps : List Str) (hx : mg x = some (.ref C)) {f : Addr} {od an : Option Addr} {sl : Array (Option Value)} {oc kV dc pm cd ct : Value}
    (mk : PySem.W.makesIn K C = true) (kc : PySem.W.keepIn K (.ref C) = true) (a : PySem.W.findIn K (.ref C) "__init__" = some (some (.ref f))) (i : PySem.W.isFn K (.ref f) = true) (l : K.lookup f = some ⟨oc, od, .func (PySem.W.fnOf "__init__" qual (defArgs st) (defBody st) (defScope st) .none kV dc pm an cd ct), sl⟩) (c : PySem.W.codeIn K cd qual = true) (k : PySem.W.keepIn K (.ref f) = true)
    (b : ∀ (kV doc pm : Value) (an : Option Addr) (cdv ct : Value) (us : List Value), us.length = ps.length → bindArgs (PySem.W.fnOf "__init__" qual (defArgs st) (defBody st) (defScope st) .none kV doc pm an cdv ct) ⟨us, []⟩ = pure (ps.zip us)) (q : IAt K mg x C qual st ps → goal) : goal := by
  have F := fun_mk (st := st) l c k
  exact q ⟨f, _, hx, ⟨mk, a, i, kc⟩, F, F.binds b⟩
theorem clsF_of {C : Addr} {fs : List Str} (c : Cls K C) (h : ∀ f ∈ fs, NoAttr K C f) : ClsF K C fs := ⟨c, fun f hf => h f (by simpa using hf)⟩
end
section
variable {env : Ev} {S : Sto} {P : DP} {E : DEnds} {Ta Tb Tc Tv : DTE} {TR : DTA} {C : Addr} {f m : Str} {i : Nat} {fs fs' : Fs} {d x y : D} {sp : DSp} {g : Int → Int → Int} {G : DTG} {N : Ev → Sto → Prop} {ks : List Key} {ds : List D} {k : Key}
theorem i_fld (q : Ta env S fun x S1 => ∃ i fs d, x = .ref i ∧ S1[i]? = some (.ins C fs) ∧ fs.lookup f = some d ∧ P d S1) : dFld C f Ta env S P := q
instance  : Wk (dFld C f Ta env S P) (Ta env S fun x S1 => ∃ i fs d, x = .ref i ∧ S1[i]? = some (.ins C fs) ∧ fs.lookup f = some d ∧ P d S1) := ⟨fun q => i_fld q⟩
theorem i_setF (q : Tv env S fun y S1 => Ta env S1 fun x S2 => ∃ i fs, x = .ref i ∧ S2[i]? = some (.ins C fs) ∧ fs.length < 1000 ∧ E.nx env (S2.set i (.ins C (putD f y fs)))) : dSetF C f Ta Tv E env S := q
instance  : Wk (dSetF C f Ta Tv E env S) (Tv env S fun y S1 => Ta env S1 fun x S2 => ∃ i fs, x = .ref i ∧ S2[i]? = some (.ins C fs) ∧ fs.length < 1000 ∧ E.nx env (S2.set i (.ins C (putD f y fs)))) := ⟨fun q => i_setF q⟩
theorem i_augF (q : Ta env S fun x S1 => ∃ i fs a, x = .ref i ∧ S1[i]? = some (.ins C fs) ∧ fs.lookup f = some (.int a) ∧
  Tv env S1 fun y S2 => xInt (fun b => ∃ fs', S2[i]? = some (.ins C fs') ∧ fs'.length < 1000 ∧ E.nx env (S2.set i (.ins C (putD f (.int (g a b)) fs')))) y) : dAugF C f Ta Tv g E env S := q
instance  : Wk (dAugF C f Ta Tv g E env S) (Ta env S fun x S1 => ∃ i fs a, x = .ref i ∧ S1[i]? = some (.ins C fs) ∧ fs.lookup f = some (.int a) ∧
  Tv env S1 fun y S2 => xInt (fun b => ∃ fs', S2[i]? = some (.ins C fs') ∧ fs'.length < 1000 ∧ E.nx env (S2.set i (.ins C (putD f (.int (g a b)) fs')))) y) := ⟨fun q => i_augF q⟩
theorem i_meth (q : Ta env S fun x S1 => (∃ i fs, x = .ref i ∧ S1[i]? = some (.ins C fs) ∧ fs.lookup m = none) ∧ TR env S1 fun ds S2 => sp (x :: ds) S2 P) : dMeth C m sp Ta TR env S P := q
instance  : Wk (dMeth C m sp Ta TR env S P) (Ta env S fun x S1 => (∃ i fs, x = .ref i ∧ S1[i]? = some (.ins C fs) ∧ fs.lookup m = none) ∧ TR env S1 fun ds S2 => sp (x :: ds) S2 P) := ⟨fun q => i_meth q⟩
theorem i_make (q : TR env S fun ds S1 => sp (.ref S1.length :: ds) (S1 ++ [.ins C []]) fun v S2 => v = .non ∧ P (.ref S1.length) S2) : dMake C sp TR env S P := q
instance  : Wk (dMake C sp TR env S P) (TR env S fun ds S1 => sp (.ref S1.length :: ds) (S1 ++ [.ins C []]) fun v S2 => v = .non ∧ P (.ref S1.length) S2) := ⟨fun q => i_make q⟩
theorem i_augS (q : Ta env S fun x S1 => Tb env S1 fun y S2 => ∃ i k xs z, x = .ref i ∧ y = .int k ∧ 0 ≤ k ∧ S2[i]? = some (.lst xs) ∧ L2.atI xs k = some (.int z) ∧
  Tc env S2 fun v S3 => xInt (fun u => setAt (.ref i) (.int k) (.int (g z u)) S3 fun S4 => E.nx env S4) v) : dAugS Ta Tb Tc g E env S := q
instance  : Wk (dAugS Ta Tb Tc g E env S) (Ta env S fun x S1 => Tb env S1 fun y S2 => ∃ i k xs z, x = .ref i ∧ y = .int k ∧ 0 ≤ k ∧ S2[i]? = some (.lst xs) ∧ L2.atI xs k = some (.int z) ∧
  Tc env S2 fun v S3 => xInt (fun u => setAt (.ref i) (.int k) (.int (g z u)) S3 fun S4 => E.nx env S4) v) := ⟨fun q => i_augS q⟩
theorem i_kget2 (q : Tb env S fun y S1 => Tc env S1 fun z S2 => xKget2 ks ds (fun d => P d S2) y z) : dKget2 ks ds Tb Tc env S P := q
instance  : Wk (dKget2 ks ds Tb Tc env S P) (Tb env S fun y S1 => Tc env S1 fun z S2 => xKget2 ks ds (fun d => P d S2) y z) := ⟨fun q => i_kget2 q⟩
theorem i_kin (q : Tb env S fun y S1 => ∃ k, keyOf y = some k ∧ P (.bl (dlook ks ds k).isSome) S1) : dKin ks ds Tb env S P := q
instance  : Wk (dKin ks ds Tb env S P) (Tb env S fun y S1 => ∃ k, keyOf y = some k ∧ P (.bl (dlook ks ds k).isSome) S1) := ⟨fun q => i_kin q⟩
theorem i_sget (q : Ta env S fun x S1 => Tb env S1 fun y S2 => xSget (fun d => P d S2) x y S2) : dSget Ta Tb env S P := q
instance  : Wk (dSget Ta Tb env S P) (Ta env S fun x S1 => Tb env S1 fun y S2 => xSget (fun d => P d S2) x y S2) := ⟨fun q => i_sget q⟩
theorem i_dispS {Ts : List (DTE × DTE)} (q : dPairs Ts env S (xDispS P)) : dDispS Ts env S P := q
instance {Ts : List (DTE × DTE)} : Wk (dDispS Ts env S P) (dPairs Ts env S (xDispS P)) := ⟨fun q => i_dispS q⟩
theorem i_sbD (q : Ta env S fun x S1 => Tb env S1 fun y S2 => setAtD x y d S2 fun S3 => N env S3) : gSbD Ta Tb d env S N := q
instance  : Wk (gSbD Ta Tb d env S N) (Ta env S fun x S1 => Tb env S1 fun y S2 => setAtD x y d S2 fun S3 => N env S3) := ⟨fun q => i_sbD q⟩
theorem i_aug {n : Nat} {z : Int} (h : env[n]? = some (some (.int z))) (q : Ta env S fun y S1 => xInt (fun b => E.nx (env.set n (some (.int (g z b)))) S1) y) : dAug n Ta g E env S := ⟨z, h, q⟩
end
end DL
namespace DL
open PySem PySem.Spec PyProof.Rows L2
/-- a def that may fall off its end, and keeps what the store got -/
def exitKN (P : DP) : DEnds := { nx := fun _ S' => P .non S', rt := P }
theorem fn_dKN {P : Program} {w : World} {K : PySem.W.Frag} {mg : Str → Option Value} {base : Heap} {x qual : Str} {st : Stmt} {f : Addr} {fd : FuncData} {N ps : List Str} {k : Nat} {sp : DSp} (F : Fun K x qual st f fd) (S : FnScope N ps (defScope st))
    (len : ∀ ds S P, sp ds S P → ds.length = ps.length)
    (body : ∀ (X : Cx) (W0 : Bs) (cdv : Value) (A : Around) (outer : List Env) (s : Shared) (H : Hp) (E : XK), X = (cxOf CX0 P w K mg base N qual (defScope st) f cdv A outer s H E).nox → Room k X.A →
      ∃ T : DTS, DSs X W0 (defBody st) T ∧ ∀ ds S P, sp ds S P → T (exitKN P) (startE N ds) S) : FnOk P w K mg base CX0 (k + 1) f fd ps (liftSp K sp) := by
  refine F.ok S (fun vs H Q E ⟨W, ds, S, P, _, r, q, _⟩ => by rw [r.length]; exact len ds S P q) fun cdv A outer s H vs Q E hr h => ?_
  obtain ⟨W, ds, S, P, sim, r, q, post⟩ := h
  obtain ⟨T, hT, hq⟩ := body _ { W := W, H := H } cdv A outer s H E rfl hr
  exact ⟨_, hT, W, startE N ds, S, _, Stp.refl, sim, EnvR.start r, hq ds S P q, ⟨fun _ S' W' H' _ z s' l' _ => post .non S' W' H' .non z s' l' .non, post, fun _ _ _ _ _ z => z.elim, fun _ _ _ _ _ z => z.elim⟩⟩
end DL
namespace DL
open PySem PySem.Spec PyProof.Rows L2
section
variable {K : PySem.W.Frag} {h : Heap} {mg : Str → Option Value} {goal : Prop}
theorem with_meth' {C : Addr} (_ : Cls K C) (m qual : Str) (st : Stmt) (ps : List Str) {f : Addr} {od an : Option Addr} {sl : Array (Option Value)} {oc kV dc pm cd ct : Value}
    (a : PySem.W.findIn K (.ref C) m = some (some (.ref f))) (i : PySem.W.isFn K (.ref f) = true) (l : K.lookup f = some ⟨oc, od, .func (PySem.W.fnOf m qual (defArgs st) (defBody st) (defScope st) .none kV dc pm an cd ct), sl⟩) (c : PySem.W.codeIn K cd qual = true) (k : PySem.W.keepIn K (.ref f) = true)
    (b : ∀ (kV doc pm : Value) (an : Option Addr) (cdv ct : Value) (us : List Value), us.length = ps.length → bindArgs (PySem.W.fnOf m qual (defArgs st) (defBody st) (defScope st) .none kV doc pm an cdv ct) ⟨us, []⟩ = pure (ps.zip us)) (q : MAt K C m qual st ps → goal) : goal := with_meth C m qual st ps a i l c k b q
theorem with_init' {C : Addr} (_ : Cls K C) (x qual : Str) (st : Stmt) (ps : List Str) (hx : mg x = some (.ref C)) {f : Addr} {od an : Option Addr} {sl : Array (Option Value)} {oc kV dc pm cd ct : Value}
    (mk : PySem.W.makesIn K C = true) (kc : PySem.W.keepIn K (.ref C) = true) (a : PySem.W.findIn K (.ref C) "__init__" = some (some (.ref f))) (i : PySem.W.isFn K (.ref f) = true) (l : K.lookup f = some ⟨oc, od, .func (PySem.W.fnOf "__init__" qual (defArgs st) (defBody st) (defScope st) .none kV dc pm an cd ct), sl⟩) (c : PySem.W.codeIn K cd qual = true) (k : PySem.W.keepIn K (.ref f) = true)
    (b : ∀ (kV doc pm : Value) (an : Option Addr) (cdv ct : Value) (us : List Value), us.length = ps.length → bindArgs (PySem.W.fnOf "__init__" qual (defArgs st) (defBody st) (defScope st) .none kV doc pm an cdv ct) ⟨us, []⟩ = pure (ps.zip us)) (q : IAt K mg x C qual st ps → goal) : goal := with_init x C qual st ps hx mk kc a i l c k b q
theorem with_noattr {C : Addr} (_ : Cls K C) (f : Str) (a : PySem.W.findIn K (.ref C) f = some none) (q : NoAttr K C f → goal) : goal := q a
end
end DL
namespace DL
open PySem PySem.Spec PyProof.Rows L2
section
variable {S L : Sto} {k : Nat} {o : O} {xs : List D}
theorem sto_get : (S ++ L)[S.length + k]? = L[k]? := by
  rw [List.getElem?_append_right (by omega), show S.length + k - S.length = k by omega]
theorem sto_get0 : (S ++ L)[S.length]? = L[0]? := by
  rw [List.getElem?_append_right (Nat.le_refl _), Nat.sub_self]
end
theorem few {n : Nat} (h : n.ble 20 = true) : n < 1000 := Nat.lt_of_le_of_lt (Nat.le_of_ble_eq_true h) (by decide)
section
variable {X : Cx} {W0 : Bs} {a : Expr} {Ta : DTE}
def dRev (Ta : DTE) : DTN := fun env S P => Ta env S fun x S1 => ∃ xs, lstOf S1 x = some xs ∧ P xs.reverse S1
theorem Reps.reverse {K : PySem.W.Frag} {W : Wd} : ∀ {vs : List V} {ds : List D}, Reps K W vs ds → Reps K W vs.reverse ds.reverse
  | _, _, .nil => .nil
  | _, _, .cons h r => by
    rw [List.reverse_cons, List.reverse_cons]
    exact (Reps.reverse r).app (.cons h .nil)
theorem i_rev {env : Ev} {S : Sto} {Q : List D → Sto → Prop} (q : Ta env S fun x S1 => ∃ xs, lstOf S1 x = some xs ∧ Q xs.reverse S1) : dRev Ta env S Q := q
instance {env : Ev} {S : Sto} {Q : List D → Sto → Prop} : Wk (dRev Ta env S Q) (Ta env S fun x S1 => ∃ xs, lstOf S1 x = some xs ∧ Q xs.reverse S1) := ⟨fun q => i_rev q⟩
end
section
variable {α β : Type}
theorem c_hi (xs : List α) (k : Nat) : cutD xs none (some (k : Int)) = xs.take k := by
  unfold cutD
  rw [HT.sIx_nat, HT.sIx_none, List.drop_zero, Nat.sub_zero]
  by_cases h : k ≤ xs.length
  · rw [Nat.min_eq_left h]
  · rw [Nat.min_eq_right (by omega), List.take_of_length_le (Nat.le_refl _), List.take_of_length_le (by omega)]
theorem c_lo (xs : List α) (k : Nat) : cutD xs (some (k : Int)) none = xs.drop k := by
  unfold cutD
  rw [HT.sIx_nat, HT.sIx_none]
  by_cases h : k ≤ xs.length
  · rw [Nat.min_eq_left h, List.take_of_length_le (by rw [List.length_drop]; omega)]
  · rw [Nat.min_eq_right (by omega), List.drop_of_length_le (Nat.le_refl _), List.drop_of_length_le (by omega), List.take_nil]
theorem c_map (f : α → β) (xs : List α) (l u : Option Int) : cutD (xs.map f) l u = (cutD xs l u).map f := by
  unfold cutD
  rw [List.length_map, ← List.map_drop, ← List.map_take]
end
end DL
namespace DL
open PySem PySem.Spec PyProof.Rows L2
mutual
def toPy : D → PyData
  | .bl b => .bool b
  | .int i => .int i
  | .str x => .str x
  | .tup xs => .tuple (toPys xs)
  | .lst xs => .list (toPys xs)
  | _ => .none
def toPys : List D → List PyData
  | [] => []
  | x :: xs => toPy x :: toPys xs
end
mutual
/-- pln, of at most so many levels -/
def pln : Nat → D → Bool
  | 0, _ => false
  | _ + 1, .non => true
  | _ + 1, .bl _ => true
  | _ + 1, .int _ => true
  | _ + 1, .str x => PyData.strOk x
  | n + 1, .tup xs => decide (xs.length ≤ 90000) && plns n xs
  | n + 1, .lst xs => decide (xs.length ≤ 90000) && plns n xs
  | _ + 1, _ => false
def plns : Nat → List D → Bool
  | _, [] => true
  | n, x :: xs => pln n x && plns n xs
end
theorem plns_mem {n : Nat} : ∀ {xs : List D}, plns n xs = true → ∀ x ∈ xs, pln n x = true
  | [], _, _, h => absurd h List.not_mem_nil
  | y :: ys, h, x, hx => by
    rw [plns, Bool.and_eq_true_iff] at h
    rcases List.mem_cons.mp hx with rfl | hx
    · exact h.1
    · exact plns_mem h.2 x hx
theorem pln_py (S : Sto) : ∀ (n : Nat) (d : D), pln n d = true → pyOf S n d = some (toPy d) ∧ (toPy d).canLay0 = true ∧ (toPy d).depth ≤ n
  | 0, _, h => by simp [pln] at h
  | n + 1, d, h => by
    have all : ∀ ds : List D, plns n ds = true → allOf (pyOf S n) ds = some (toPys ds) ∧ PyData.canLayAll0 (toPys ds) = true ∧ PyData.depthAll (toPys ds) ≤ n := fun ds => by
      induction ds with
      | nil => exact fun _ => ⟨by simp [allOf, toPys], by simp [toPys, PyData.canLayAll0], by simp [toPys, PyData.depthAll]⟩
      | cons d ds ih =>
        intro h
        rw [plns, Bool.and_eq_true_iff] at h
        obtain ⟨e1, c1, d1⟩ := pln_py S n d h.1
        obtain ⟨e2, c2, d2⟩ := ih h.2
        refine ⟨by simp only [allOf, e1, e2, toPys], ?_, ?_⟩
        · rw [toPys, PyData.canLayAll0, c1, c2]
          rfl
        · rw [toPys, PyData.depthAll]
          exact Nat.max_le.mpr ⟨d1, d2⟩
    cases d with
    | non => simp [pyOf, toPy, PyData.canLay0, PyData.depth]
    | bl b => simp [pyOf, toPy, PyData.canLay0, PyData.depth]
    | int b => simp [pyOf, toPy, PyData.canLay0, PyData.depth]
    | str b =>
      rw [pln] at h
      simp [pyOf, toPy, PyData.canLay0, PyData.depth, h]
    | tup xs =>
      rw [pln, Bool.and_eq_true_iff] at h
      obtain ⟨e, c, dp⟩ := all xs h.2
      exact ⟨by simp only [pyOf, e, toPy]; rfl, by rw [toPy, PyData.canLay0]; exact c, by rw [toPy, PyData.depth]; exact Nat.succ_le_succ dp⟩
    | lst xs =>
      rw [pln, Bool.and_eq_true_iff] at h
      obtain ⟨e, c, dp⟩ := all xs h.2
      exact ⟨by simp only [pyOf, e, toPy]; rfl, by rw [toPy, PyData.canLay0]; exact c, by rw [toPy, PyData.depth]; exact Nat.succ_le_succ dp⟩
    | _ => simp [pln] at h
theorem pln_shaped {n : Nat} {d : D} (h : pln n d = true) (hn : n ≤ 64) : SeqAt.shaped (toPy d) = true := by
  obtain ⟨_, c, dp⟩ := pln_py [] n d h
  unfold SeqAt.shaped
  rw [c, decide_eq_true (Nat.le_trans dp hn)]
  rfl
/-- == of pln data -/
theorem i_eqP {g : Bool → Bool} {S : Sto} {P : DP} {x y : D} (n : Nat) (hx : pln n x = true) (hy : pln n y = true) (q : P (.bl (g (PyData.eqv (toPy x) (toPy y)))) S) (hn : n ≤ 64 := by decide) : dEqG g x y S P := by
  have e1 := (pln_py S n x hx).1
  have e2 := (pln_py S n y hy).1
  have fin : ∃ n q r, pyOf S n x = some q ∧ pyOf S n y = some r ∧ SeqAt.shaped q = true ∧ SeqAt.shaped r = true ∧ P (.bl (g (PyData.eqv q r))) S := ⟨n, _, _, e1, e2, pln_shaped hx hn, pln_shaped hy hn, q⟩
  clear e1 e2
  unfold dEqG
  split
  · rename_i i j
    have : PyData.eqv (toPy (.int i)) (toPy (.int j)) = decide (i = j) := by simp only [toPy, PyData.eqv]; by_cases h : i = j <;> simp [h]
    rw [this] at q
    exact q
  · rename_i i j
    have : PyData.eqv (toPy (.str i)) (toPy (.str j)) = decide (i = j) := by simp only [toPy, PyData.eqv]; by_cases h : i = j <;> simp [h]
    rw [this] at q
    exact q
  · rename_i i j
    have : PyData.eqv (toPy (.bl i)) (toPy (.bl j)) = decide (i = j) := by simp only [toPy, PyData.eqv]; cases i <;> cases j <;> rfl
    rw [this] at q
    exact q
  · exact fin
end DL
namespace DL
open PySem PySem.Spec PyProof.Rows L2
end DL
namespace DL
open PySem PySem.Spec PyProof.Rows L2
/-- what an exception bears -/
def ExR (K : PySem.W.Frag) (W : Wd) (d : Option Addr) (fs : Fs) : Prop := (fs = [] ∧ d = none) ∨ ∃ dd vs, d = some dd ∧ W.B dd = some (.xd ((fs.map (·.1)).zip vs)) ∧ Reps K W vs (fs.map (·.2))
abbrev EX := Addr → Fs → Sto → Prop
def PostX (K : PySem.W.Frag) (W : Wd) (H : Hp) (R : EX) (E : XK) : Prop := ∀ C fs S' W' H' d, R C fs S' → Sim K W' S' H' → Stp W H W' H' → ExR K W' d fs → E (.ref C) d H'
theorem PostX.mono {K : PySem.W.Frag} {W W' : Wd} {H H' : Hp} {R : EX} {E : XK} (h : PostX K W H R E) (l : Stp W H W' H') : PostX K W' H' R E := fun C fs S' W2 H2 d q s l2 r => h C fs S' W2 H2 d q s (l.trans l2) r
abbrev DSpX := List D → Sto → DP → EX → Prop
def liftSpX (K : PySem.W.Frag) (sp : DSpX) : Sp := fun vs H Q E => ∃ W ds S P R, Sim K W S H ∧ Reps K W vs ds ∧ sp ds S P R ∧ Post K W H P Q ∧ PostX K W H R E
/-- a def that may raise -/
def FnX (P : Program) (w : World) (K : PySem.W.Frag) (mg : Str → Option Value) (base : Heap) (x : Str) (k : Nat) (ps : List Str) (sp : DSpX) : Prop :=
  ∃ (f : Addr) (fd : FuncData), mg x = some (.ref f) ∧ PySem.W.keepIn K (.ref f) = true ∧ Binds K fd ps [] ∧ FnOk P w K mg base (L2.CX P w) k f fd ps (liftSpX K sp)
theorem fnX_at {P : Program} {w : World} {K : PySem.W.Frag} {mg : Str → Option Value} {base : Heap} {x : Str} {st : Stmt} {ps : List Str} {k : Nat} {sp : DSpX} (h : At K mg x st ps) (ok : ∀ f fd, Fun K x x st f fd → FnOk P w K mg base (L2.CX P w) k f fd ps (liftSpX K sp)) : FnX P w K mg base x k ps sp := by
  obtain ⟨f, fd, h1, h2, h3⟩ := h.ex
  exact ⟨f, fd, h1, h2.kp, h3, ok f fd h2⟩
/-- what leaves the def by an exception is what W0 tells -/
def Rz (X : Cx) (W0 : Bs) : Prop := ∃ E : XK, Takes X (fun cls d _ H => E cls d H) ∧ PostX X.K W0.W W0.H W0.R E
def dCallX (sp : DSpX) (R : EX) (TR : DTA) : DTE := fun env S P => TR env S fun ds S1 => sp ds S1 P R
section
variable {X : Cx} {W0 : Bs} {e : Expr} {es : List Expr} {TR : DTA} {pos p : Pos}
theorem de_fnX {x : Str} {k : Nat} {ps : List Str} {sp : DSpX} (h : FnX X.prog X.w X.K X.mg X.base x k ps sp) (hR : Rz X W0) (hr : Room k X.A) (hg : Gl X x) (ha : DA X W0 (e :: es) TR) (hdb : (x == ("__debug__" : Str)) = false := by decide) (he : starEach (e :: es) X.env = (false, eval e X.env) :: starEach es X.env := by rfl) (hpl : (backTo pos (starEach es X.env)).any (·.1) = false := by rfl) :
    DE X W0 (.Call (.Name x p) (e :: es) [] pos) (dCallX sp W0.R TR) := by
  obtain ⟨f, fd, h1, h2, h3, h4⟩ := h
  obtain ⟨E, tk, px⟩ := hR
  refine (pe_callS (E := fun _ => E) h4 hr hg h1 h2 h3 (fun σ => passAt tk σ) ha hdb he hpl).imp fun σ H Q ⟨W, env, S, P, hW, sim, er, ht, post⟩ => ⟨W, env, S, _, hW, sim, er, ht, fun ds S1 W1 H1 vs q s l r => ?_⟩
  exact ⟨W1, ds, S1, P, W0.R, s, r, q, post.mono l, px.mono ((hW.trans l).stp)⟩
/-- raise X('..') -/
structure XcF (K : PySem.W.Frag) (mg : Str → Option Value) (x : Str) (C : Addr) : Prop where
  ex : PySem.W.excIn K C PySem.HandSPX.veTail "ValueError.__new__" = true
  gC : mg x = some (.ref C)
  kC : PySem.W.keepIn K (.ref C) = true
  su : PySem.W.subIn K (.ref C) (.type "BaseException") = some true
  ty : PySem.W.typeIn K (.ref C) = some (.type "type")
def dRz0 (R : EX) (C : Addr) : DTS := fun _ _ S => R C [] S
theorem ds_raise0 {x m : Str} {C : Addr} {j : Nat} {p2 pos' : Pos} (hc : X.calm = true) (hR : Rz X W0) (T : XcF X.K X.mg x C) (hg : Gl X x) (hdb : (x == ("__debug__" : Str)) = false := by decide) :
    DS X W0 (.Raise (some (.Call (.Name x p) [.Constant (.str m) j p2] [] pos)) none pos') (dRz0 W0.R C) := by
  obtain ⟨E, tk, px⟩ := hR
  exact (ps_raise hc tk (pmk_own F.excBase_ValueError T.ex T.gC T.kC (raises_own T.su T.ty) hg hdb)).imp fun D σ H ⟨W, env, S, E', hW, sim, er, ht, post⟩ => px C [] S W H none ht sim hW.stp (.inl ⟨rfl, rfl⟩)
end
/-- an exception leaves a def: what the store got there is dropped -/
def atExitX (S0 : Sto) (R : EX) : EX := fun C fs S' => ∃ S1 T, S' = S1 ++ T ∧ S1.length = S0.length ∧ (∀ o ∈ S1, o ∈ S0 ∨ o.under S1.length = true) ∧ unders S1.length (fs.map (·.2)) = true ∧ R C fs S1
theorem PostX.exit {K : PySem.W.Frag} {W : Wd} {S : Sto} {H : Hp} {R : EX} {E : XK} (s : Sim K W S H) (post : PostX K W H R E) : PostX K W H (atExitX S R) E := fun C fs S' W' H' d ⟨S1, T, e, hl, ho, hd, q⟩ s' l r => by
  subst e
  have hb : ∀ o ∈ S1, o.under S1.length = true := fun o h => (ho o h).elim (fun z => by rw [hl]; exact s.under o z) id
  refine post C fs S1 (W'.cut S1.length) H' d q (s'.cut hb) (l.cut (by rw [s.len, hl]; exact Nat.le_refl _)) ?_
  rcases r with r | ⟨dd, vs, h1, h2, h3⟩
  · exact .inl r
  · exact .inr ⟨dd, vs, h1, h2, h3.cutW hd⟩
theorem exitX_same {S T : Sto} {R : EX} {C : Addr} {fs : Fs} (hd : unders S.length (fs.map (·.2)) = true) (q : R C fs S) : atExitX S R C fs (S ++ T) := ⟨S, T, rfl, rfl, fun _ h => .inl h, hd, q⟩
theorem exitX_id {S : Sto} {R : EX} {C : Addr} {fs : Fs} (hd : unders S.length (fs.map (·.2)) = true) (q : R C fs S) : atExitX S R C fs S := ⟨S, [], (List.append_nil S).symm, rfl, fun _ h => .inl h, hd, q⟩
theorem i_callX {sp : DSpX} {R : EX} {TR : DTA} {env : Ev} {S : Sto} {P : DP} (q : TR env S fun ds S1 => sp ds S1 P R) : dCallX sp R TR env S P := q
instance {sp : DSpX} {R : EX} {TR : DTA} {env : Ev} {S : Sto} {P : DP} : Wk (dCallX sp R TR env S P) (TR env S fun ds S1 => sp ds S1 P R) := ⟨fun q => i_callX q⟩
theorem i_rz0 {R : EX} {C : Addr} {E : DEnds} {env : Ev} {S : Sto} (q : R C [] S) : dRz0 R C E env S := q
instance {R : EX} {C : Addr} {E : DEnds} {env : Ev} {S : Sto} : Wk (dRz0 R C E env S) (R C [] S) := ⟨fun q => i_rz0 q⟩
/-- a def that may raise, by its body over data -/
theorem fn_dX {P : Program} {w : World} {K : PySem.W.Frag} {mg : Str → Option Value} {base : Heap} {x qual : Str} {st : Stmt} {f : Addr} {fd : FuncData} {N ps : List Str} {k : Nat} {sp : DSpX} (F : Fun K x qual st f fd) (S : FnScope N ps (defScope st))
    (len : ∀ ds S P R, sp ds S P R → ds.length = ps.length)
    (body : ∀ (X : Cx) (W0 : Bs) (cdv : Value) (A : Around) (outer : List Env) (s : Shared) (H : Hp) (E : XK), X = cxOf (L2.CX P w) P w K mg base N qual (defScope st) f cdv A outer s H E → Room k X.A → Rz X W0 →
      ∃ T : DTS, DSs X W0 (defBody st) T ∧ ∀ ds S P R, sp ds S P R → W0.R = atExitX S R → T (exitE S P) (startE N ds) S) : FnOk P w K mg base (L2.CX P w) (k + 1) f fd ps (liftSpX K sp) := by
  refine F.okX S (fun vs H Q E h => ?_) fun cdv A outer s H vs Q E hr h => ?_
  · obtain ⟨W, ds, S, P, R, _, r, q, _⟩ := h
    rw [r.length]
    exact len ds S P R q
  · obtain ⟨W, ds, S, P, R, sim, r, q, post, px⟩ := h
    obtain ⟨T, hT, hq⟩ := body _ { W := W, H := H, R := atExitX S R } cdv A outer s H E rfl hr ⟨E, takes_of rfl rfl rfl rfl, px.exit sim⟩
    exact ⟨_, hT, W, startE N ds, S, _, Stp.refl, sim, EnvR.start r, hq ds S P R q rfl, ⟨fun env S' W' H' σ q' s' l _ => post.exit sim _ _ W' H' _ q' s' l .non, post.exit sim, fun _ _ _ _ _ z => z.elim, fun _ _ _ _ _ z => z.elim⟩⟩
end DL
namespace DL
open PySem PySem.Spec PyProof.Rows L2
section
variable {X : Cx} {W0 : Bs} {a e : Expr} {Ta : DTE} {pos p apos : Pos}
def rCntF (K : PySem.W.Frag) : V → List V → Hp → VK → Prop := fun x xs H Q => ∃ (p : Addr) (ys : List V) (y : V), x = .ref p ∧ xs = [y] ∧ SqL K H p ys ∧ flatV y = true ∧ ys.all flatV = true ∧ Q (.int (ys.countP (fun z => eqV z y) : Nat)) H
theorem countU {y : V} : ∀ {ys : List V} {us : List Value}, Vals ys us → ys.all flatV = true → us.countP (eqU y) = ys.countP fun z => eqV z y
  | _, _, .nil, _ => rfl
  | z :: ys, u :: us, .cons r t, f => by
    rw [List.all_cons, Bool.and_eq_true] at f
    rw [List.countP_cons, List.countP_cons, countU t f.2, eqU_of r f.1]
theorem mt_cntF : MtR X "list.count" (rCntF X.K) := by
  intro pins s σ H x xs v us Q I rx rxs h
  obtain ⟨p, ys, y, rfl, rfl, hs, fy, fys, q⟩ := h
  cases rx
  cases rxs with
  | cons ry rt =>
    rename_i uy ut
    cases rt
    obtain ⟨its, rv, ⟨⟨cls, dd, data, sl⟩, n, ho, hc, hdn, hd⟩, hlen⟩ := I.list hs
    simp only at hc hd
    subst hc hd
    refine call_meets PySem.F.slot_list_count ⟨_, ho, rfl⟩ PySem.F.entry_list_count (PySem.F.args_list_count_2 _ _)
      (SeqAt.list_countAt p its.toArray n dd sl uy (eqU y)) ⟨ho, fun u' hu' => mem_eqAt ry fy rv fys u' (by simpa using hu'), ?_⟩
    have ec : its.toArray.toList.countP (eqU y) = ys.countP fun z => eqV z y := countU rv fys
    refine ⟨.int (ys.countP (fun z => eqV z y) : Nat), H, I.tok _, ⟨s.toks, ?_⟩, q⟩
    show Value.int ((its.toArray.toList.countP (eqU y) : Nat) : Int) s.toks = _
    rw [ec]
theorem bools_flat (bs : List Bool) : (bs.map V.bl).all flatV = true := List.all_eq_true.mpr fun x hx => by
  obtain ⟨b, _, rfl⟩ := List.mem_map.mp hx
  rfl
theorem bools_count (bs : List Bool) : (bs.map V.bl).countP (fun z => eqV z (.bl true)) = bs.count true := by
  induction bs with
  | nil => rfl
  | cons b bs ih =>
    rw [List.map_cons, List.countP_cons, ih, List.count_cons]
    cases b <;> rfl
def dCntB (Ta : DTE) : DTE := fun env S P => Ta env S fun x S1 => ∃ bs : List Bool, lstOf S1 x = some (bs.map .bl) ∧ P (.int (bs.count true : Nat)) S1
theorem de_cntB {j : Nat} (h : ∀ {to : TE} {ta : L2.TA}, PE X a to → PA X [.Constant (.bool true) j p] ta → PE X e (tBM X.K "list" (rCntF X.K) to ta)) (ha : DE X W0 a Ta) : DE X W0 e (dCntB Ta) :=
  (h ha (pa_cons pe_bl pa_nil)).imp fun σ H Q ⟨W, env, S, P, hW, sim, er, ht, post⟩ => ⟨W, env, S, _, hW, sim, er, ht, fun x S1 W1 H1 v ⟨bs, hb, q⟩ s l r => by
    obtain ⟨a1, vs, rfl, hq, rr⟩ := r.lst_of s hb
    have ev := rr.bools
    refine ⟨.inl ⟨rfl, vs, SqL.of hq⟩, ⟨a1, vs, .bl true, rfl, rfl, SqL.of hq, rfl, by rw [ev]; exact bools_flat bs, ?_⟩⟩
    rw [ev, bools_count]
    exact post _ _ W1 H1 _ q s l (.int _)⟩
def dIdxB (Ta : DTE) : DTE := fun env S P => Ta env S fun x S1 => ∃ (bs : List Bool) (j : Nat), lstOf S1 x = some (bs.map .bl) ∧ bs[j]? = some true ∧ (∀ m, m < j → bs[m]? = some false) ∧ P (.int j) S1
theorem de_idxB {j : Nat} (h : ∀ {to : TE} {ta : L2.TA}, PE X a to → PA X [.Constant (.bool true) j p] ta → PE X e (tBM X.K "list" (rIndex X.K) to ta)) (ha : DE X W0 a Ta) : DE X W0 e (dIdxB Ta) :=
  (h ha (pa_cons pe_bl pa_nil)).imp fun σ H Q ⟨W, env, S, P, hW, sim, er, ht, post⟩ => ⟨W, env, S, _, hW, sim, er, ht, fun x S1 W1 H1 v ⟨bs, k, hb, hk, hno, q⟩ s l r => by
    obtain ⟨a1, vs, rfl, hq, rr⟩ := r.lst_of s hb
    have ev := rr.bools
    refine ⟨.inl ⟨rfl, vs, SqL.of hq⟩, ⟨a1, vs, .bl true, k, .bl true, rfl, rfl, SqL.of hq, rfl, by rw [ev]; exact bools_flat bs, by rw [ev, List.getElem?_map, hk]; rfl, rfl, fun m z' hm hz => ?_, post _ _ W1 H1 _ q s l (.int _)⟩⟩
    rw [ev, List.getElem?_map, hno m hm] at hz
    cases hz
    rfl⟩
theorem i_cntB {env : Ev} {S : Sto} {P : DP} (q : Ta env S fun x S1 => ∃ bs : List Bool, lstOf S1 x = some (bs.map .bl) ∧ P (.int (bs.count true : Nat)) S1) : dCntB Ta env S P := q
theorem i_idxB {env : Ev} {S : Sto} {P : DP} (q : Ta env S fun x S1 => ∃ (bs : List Bool) (j : Nat), lstOf S1 x = some (bs.map .bl) ∧ bs[j]? = some true ∧ (∀ m, m < j → bs[m]? = some false) ∧ P (.int j) S1) : dIdxB Ta env S P := q
end
def cvOf : D → Option Value
  | .adr k => some (.ref k)
  | .ty n => some (.type n)
  | _ => none
theorem Rep.cv {K : PySem.W.Frag} {W : Wd} {v : V} {d : D} {cv u : Value} (r : Rep K W v d) (h : cvOf d = some cv) (ru : RelV v u) : u = cv := by
  cases r with
  | adr a => cases h; exact ru
  | ty n => cases h; exact ru
  | _ => cases h
/-- what the exception bears, as the suite finds it -/
def Held (W : Wd) (d : Option Addr) : Prop := d = none ∨ ∃ dd fs, d = some dd ∧ W.B dd = some (.xd fs)
theorem ExR.held {K : PySem.W.Frag} {W : Wd} {d : Option Addr} {fs : Fs} (h : ExR K W d fs) : Held W d := by
  rcases h with ⟨_, h⟩ | ⟨dd, vs, h1, h2, _⟩
  · exact .inl h
  · exact .inr ⟨dd, _, h1, h2⟩
def rIsE2 (K : PySem.W.Frag) (D a : Addr) (d : Option Addr) : List V → Hp → VK → Prop := fun xs H Q => ∃ (c : V) (cv : Value) (b : Bool), xs = [.ref a, c] ∧ (∀ u, RelV c u → u = cv) ∧ (d = none ∨ ∃ dd fs, d = some dd ∧ H dd = some (.xd fs)) ∧ PySem.W.kitOne K (.ref D) cv = some b ∧ Q (.bl b) H
theorem call_isE2 {X : Cx} {a D : Addr} {oe : Obj} {d : Option Addr} {pn : List (Addr × Obj)} (C : ExcC X.K D) (hz : Zc (.ref D) d oe) (hf : ∃ vs, oe.data = .fields vs) : CallR (X.suite a ((a, oe) :: pn)) (.builtin "isinstance") (rIsE2 X.K D a d) := by
  intro pins s σ H xs us Q I r h
  obtain ⟨c, cv, b, rfl, hcv, hd, e, q⟩ := h
  cases r with
  | cons rx rr =>
    cases rr with
    | cons rt rr =>
      cases rr
      cases rx
      have ec := hcv _ rt
      subst ec
      obtain ⟨hget, _⟩ := I.pin (a, oe) (List.mem_append.mpr (.inl List.mem_cons_self))
      obtain ⟨vs, hv⟩ := hf
      have hcl : (PySem.W.clsIn X.K D).isSome = true := by
        obtain ⟨cd, hc, _⟩ := PySem.W.any_some C.hd
        rw [hc]
        rfl
      have J : ∃ od, PySem.W.InstAt s.heap a oe D od := by
        rcases hd with hd | ⟨dd, fs, hd, hH⟩
        · exact ⟨none, hget, hz.1, by unfold PySem.W.notCls; rw [hv] <;> rfl, by rw [hz.2, hd]; trivial⟩
        · have hx : ObjOk X.prog X.w H s.heap dd (.xd fs) := I.hok dd _ hH
          obtain ⟨mA, ⟨o, es, ep, ho, _⟩, _⟩ := hx
          exact ⟨some o, hget, hz.1, by unfold PySem.W.notCls; rw [hv] <;> rfl, by rw [hz.2, hd]; exact ho⟩
      obtain ⟨od, J⟩ := J
      exact PySem.W.kia_one (PySem.W.kitx_exc hcl C.hg C.hk C.hs C.ha C.hn C.ht C.hm) I.kIn J e (fun z => nomatch z) fun tk => ⟨.bl b, H, I.kept (t' := tk) fun _ _ z => z, rfl, q⟩
section
variable {X : Cx} {W0 : Bs} {a D : Addr} {oe : Obj} {d : Option Addr} {pn : List (Addr × Obj)} {e1 e2 : Expr} {TR : DTA} {p pos : Pos}
def bIsE (K : PySem.W.Frag) (C a : Addr) : List DL.D → Sto → DP → Prop := fun ds S P => ∃ c cv b, ds = [.adr a, c] ∧ cvOf c = some cv ∧ PySem.W.kitOne K (.ref C) cv = some b ∧ P (.bl b) S
theorem de_isE (C : ExcC X.K D) (hz : Zc (.ref D) d oe) (hf : ∃ vs, oe.data = .fields vs) (hd : Held W0.W d) (hg : Gl X "isinstance") (hm : X.mg "isinstance" = none) (ha : DA (X.suite a ((a, oe) :: pn)) W0 [e1, e2] TR)
    (he : starEach (e1 :: [e2]) X.env = (false, eval e1 X.env) :: starEach [e2] X.env := by rfl) (hpl : (backTo pos (starEach [e2] X.env)).any (·.1) = false := by rfl) : DE (X.suite a ((a, oe) :: pn)) W0 (.Call (.Name "isinstance" p) [e1, e2] [] pos) (dCall (bIsE X.K D a) TR) :=
  (pe_callB (X := X.suite a ((a, oe) :: pn)) (call_isE2 C hz hf) hg hm (by decide +kernel) ha (he := he) (hpl := hpl)).imp fun σ H Q ⟨W, env, S, P, hW, sim, er, ht, post⟩ => ⟨W, env, S, _, hW, sim, er, ht, fun ds S1 W1 H1 vs ⟨c, cv, b, e, h1, h2, q⟩ s l r => by
    subst e
    obtain ⟨v, w, rfl, rv, rw'⟩ := r.two
    cases rv
    refine ⟨w, cv, b, rfl, fun u ru => rw'.cv h1 ru, ?_, h2, post _ _ W1 H1 _ q s l (.bl b)⟩
    rcases hd with hd | ⟨dd, fs, hd, hB⟩
    · exact .inl hd
    · exact .inr ⟨dd, fs, hd, s.same _ _ (l.le.same _ _ (hW.stp.le.same _ _ hB))⟩⟩
theorem i_isE {K : PySem.W.Frag} {D a : Addr} {c : DL.D} {cv : Value} {b : Bool} {S : Sto} {P : DP} (h1 : cvOf c = some cv) (h2 : PySem.W.kitOne K (.ref D) cv = some b) (q : P (.bl b) S) : bIsE K D a [.adr a, c] S P := ⟨c, cv, b, rfl, h1, h2, q⟩
def dXf (i : Nat) (a : Addr) (y : DL.D) : DTE := fun env S P => env[i]? = some (some (.adr a)) ∧ P y S
theorem de_xf {i : Nat} {n x : Str} {y : DL.D} {fs : Fs} (T : XfC X.K D) (hno : PySem.W.findIn X.K (.ref D) n = some none) (hz : Zc (.ref D) d oe) (hf : ∃ vs, oe.data = .fields vs) (hx : ExR X.K W0.W d fs) (hy : fs.lookup n = some y)
    (hv : PE (X.suite a ((a, oe) :: pn)) (.Name x p) (tVar i)) (hb : attributeBase (.Name x p) n X.env (eval (.Name x p) X.env) = eval (.Name x p) X.env := by rfl) :
    DE (X.suite a ((a, oe) :: pn)) W0 (.Attribute (.Name x p) n pos) (dXf i a y) :=
  (pe_xf (X := X) T hno hz hf hv hb).imp fun σ H Q ⟨W, env, S, P, hW, sim, er, ⟨he, ht⟩, post⟩ => by
    obtain ⟨v, h1, h2⟩ := er.get i _ he
    cases h2
    rcases hx with ⟨hx, _⟩ | ⟨dd, vs, hd, hB, rr⟩
    · rw [hx] at hy
      cases hy
    · obtain ⟨u, g1, g2⟩ := fld_some rr hy
      exact ⟨.ref a, h1, rfl, rfl, dd, _, u, hd, sim.same _ _ (hW.stp.le.same _ _ hB), g1, post _ _ W H _ ht sim .refl (g2.mono hW.stp.le)⟩
end
end DL
namespace DL
open PySem PySem.Spec PyProof.Rows L2 LamX
def plainO : O → Bool
  | .any _ => false
  | .tab _ _ => false
  | _ => true
def tabO (p : Addr × Str) : O := .tab p.1 p.2
section
variable {K : PySem.W.Frag} {W : Wd} {S : Sto} {H H1 : Hp} {T : List (Addr × Str)}
open Classical in
/-- the world behind the making of a lambda -/
noncomputable def Wd.lam (W : Wd) (H1 : Hp) (T : List (Addr × Str)) : Wd := ⟨W.m, fun b => if W.B b = none ∧ ∃ p ∈ T, H1 b = some (CodeO b p.2) then H1 b else W.B b⟩
theorem lam_new {b : Addr} {p : Addr × Str} (h1 : W.B b = none) (hp : p ∈ T) (h2 : H1 b = some (CodeO b p.2)) : (W.lam H1 T).B b = some (CodeO b p.2) := (if_pos ⟨h1, p, hp, h2⟩).trans h2
theorem lam_old {b : Addr} (h : ¬ (W.B b = none ∧ ∃ p ∈ T, H1 b = some (CodeO b p.2))) : (W.lam H1 T).B b = W.B b := if_neg h
theorem lam_cases {b : Addr} {o : HO} (h : (W.lam H1 T).B b = some o) : W.B b = some o ∨ (W.B b = none ∧ H1 b = some o ∧ ∃ p ∈ T, o = CodeO b p.2) := by
  by_cases c : W.B b = none ∧ ∃ p ∈ T, H1 b = some (CodeO b p.2)
  · obtain ⟨c1, p, hp, c2⟩ := c
    rw [lam_new c1 hp c2] at h
    cases h
    exact .inr ⟨c1, c2, p, hp, rfl⟩
  · rw [lam_old c] at h
    exact .inl h
theorem codeO_lst {c : Addr} {q : Str} {vs : List V} : CodeO c q ≠ .lst vs := fun z => by unfold CodeO at z; cases z
theorem codeO_ins {c C dx : Addr} {q : Str} {fs : List (Str × V)} : CodeO c q ≠ .ins C dx fs := fun z => by unfold CodeO at z; cases z
theorem codeO_dK {c : Addr} {q : Str} {vs : List (Key × V)} : CodeO c q ≠ .dK vs := fun z => by unfold CodeO at z; cases z
theorem Sim.lam (s : Sim K W (T.map tabO ++ S) H) (hS : S.all plainO = true) (ex : ExtN H H1) (tb : Tabs T H1) : Sim K (W.lam H1 T) (T.map tabO ++ S) H1 ∧ Stp W H (W.lam H1 T) H1 := by
  have keepB : ∀ b o, W.B b = some o → H1 b = some o := fun b o e => ex b o (s.same b o e) fun ps z => s.ntb b ps (by rw [e, z])
  have le : W.le (W.lam H1 T) := ⟨fun _ _ h => h, fun b o e => by rw [lam_old fun z => by rw [e] at z; cases z.1]; exact e⟩
  have kp : ∀ b o, H b = some o → (∀ ps, o ≠ .tbl ps) → H1 b = some o := fun b o e n => ex b o e n
  have live : ∀ {a : Addr} {o : HO}, H1 a = some o → (∀ q, o ≠ CodeO a q) → W.B a = none → (W.lam H1 T).B a = none := fun {a o} e n h => by
    rw [lam_old fun ⟨_, p, _, z⟩ => n p.2 (Option.some.inj (e.symm.trans z))]
    exact h
  -- an object of the store: a table of T, or plain
  have two : ∀ (i : Nat) o, (T.map tabO ++ S)[i]? = some o → (∃ p ∈ T, o = tabO p) ∨ plainO o = true := fun i o h => by
    rcases List.mem_append.mp (List.mem_of_getElem? h) with z | z
    · obtain ⟨p, hp, e⟩ := List.mem_map.mp z
      exact .inl ⟨p, hp, e.symm⟩
    · exact .inr (List.all_eq_true.mp hS o z)
  refine ⟨⟨fun b o e => ?_, s.len, s.nd, fun a ha => ?_, fun i a o h1 h2 => ?_, fun b ps' z => ?_⟩, ⟨le, fun b o e _ n => kp b o e n, fun b h u e => ?_, fun b h => .inl h, fun b o e => ?_⟩⟩
  · rcases lam_cases e with z | ⟨_, z, _⟩
    · exact keepB b o z
    · exact z
  · obtain ⟨i, hi⟩ := List.getElem?_of_mem (show a ∈ W.m from ha)
    have hl : i < (T.map tabO ++ S).length := by rw [← s.len]; exact (List.getElem?_eq_some_iff.mp hi).1
    have hs : (T.map tabO ++ S)[i]? = some (T.map tabO ++ S)[i] := List.getElem?_eq_getElem hl
    have ob := s.obj i a _ hi hs
    rcases Fre.two (H := H) (p := a) with z | ⟨u, e, n⟩
    · cases hH : H a with
      | none => exact absurd hH (s.dom a ha)
      | some u =>
        obtain ⟨ps', rfl⟩ := z u hH
        generalize (T.map tabO ++ S)[i] = o at *
        rcases two i o hs with ⟨p, hp, rfl⟩ | hp
        · have e0 : a = p.1 := ob.2.1
          obtain ⟨ps, t1, _⟩ := tb p hp
          rw [e0, t1]
          exact fun z => nomatch z
        · cases o with
          | dead => obtain ⟨vs, e⟩ := ob; have e2 := s.same _ _ e; rw [hH] at e2; cases e2
          | lst ds => obtain ⟨_, vs, e, _⟩ := ob; rw [hH] at e; cases e
          | ins C fs => obtain ⟨_, dx, vs, e, _⟩ := ob; rw [hH] at e; cases e
          | dct ks ds => obtain ⟨_, vs, e, _⟩ := ob; rw [hH] at e; cases e
          | any ho' => cases hp
          | tab p' q' => cases hp
    · rw [kp a u e n]
      exact fun z => nomatch z
  · have h1 : W.m[i]? = some a := h1
    have ob := s.obj i a o h1 h2
    rcases two i o h2 with ⟨p, hp, rfl⟩ | hp
    · obtain ⟨b, ea, _⟩ := ob
      have ea : a = p.1 := ea
      subst ea
      obtain ⟨ps, t1, t2, t3⟩ := tb p hp
      refine ⟨live t1 (fun q z => codeO_ne _ z.symm) b, rfl, ps, t1, t2, fun pos cv hc => ?_⟩
      obtain ⟨c, e1, e2⟩ := t3 pos cv hc
      refine ⟨c, e1, ?_⟩
      cases hb : W.B c with
      | none => exact lam_new hb hp e2
      | some u =>
        have e3 := lam_old (W := W) (H1 := H1) (T := T) (b := c) (fun z => by rw [hb] at z; cases z.1)
        rw [e3, hb]
        exact (keepB c u hb).symm.trans e2
    · cases o with
      | dead =>
        obtain ⟨vs, e⟩ := ob
        exact ⟨vs, le.same _ _ e⟩
      | lst ds =>
        obtain ⟨b, vs, e, r⟩ := ob
        have e' := kp a _ e (fun _ z => by cases z)
        exact ⟨live e' (fun q z => codeO_lst z.symm) b, vs, e', r.mono le⟩
      | ins C fs =>
        obtain ⟨b, dx, vs, e, r⟩ := ob
        have e' := kp a _ e (fun _ z => by cases z)
        exact ⟨live e' (fun q z => codeO_ins z.symm) b, dx, vs, e', r.mono le⟩
      | dct ks ds =>
        obtain ⟨b, vs, e, l, r⟩ := ob
        have e' := kp a _ e (fun _ z => by cases z)
        exact ⟨live e' (fun q z => codeO_dK z.symm) b, vs, e', l, r.mono le⟩
      | any ho => cases hp
      | tab p' q' => cases hp
  · rcases lam_cases z with z | ⟨_, _, p, _, z⟩
    · exact s.ntb b ps' z
    · exact codeO_ne ps' z.symm
  · rcases Fre.two (H := H) (p := b) with z | ⟨v, e', n⟩
    · exact z u e
    · exact (h.not (kp b v e' n) n).elim
  · rcases lam_cases e with z | ⟨_, z, p, _, rfl⟩
    · exact .inl z
    · rcases Fre.two (H := H) (p := b) with z' | ⟨v, e', n⟩
      · exact .inr (.inl z')
      · rw [kp b v e' n] at z
        exact .inr (.inr (.inr ⟨_, by rw [e', Option.some.inj z]; rfl⟩))
end
end DL
namespace DL
open PySem PySem.Spec PyProof.Rows L2 LamX
def kindsW : List Str := ["BadProgram", "BadCode", "BadHands", "BadOrder", "BadTrace", "BadPlan", "BadLog", "BadText", "BadRound", "BadRule", "BadCost", "NoHand", "NotMade", "NoRound", "Long"]
def formW (j : Nat) (x : Str) (fs : Fs) : Option D :=
  if j < 2 then (match fs.lookup ("function" : Str), fs.lookup ("row" : Str) with
    | some a, some b => some (.tup [.str x, a, b])
    | _, _ => none)
  else if j < 7 then (match fs.lookup ("at" : Str) with
    | some a => some (.tup [.str x, a])
    | none => none)
  else if j = 7 then (match fs.lookup ("row" : Str) with
    | some a => some (.tup [.str x, a])
    | none => none)
  else some (.tup [.str x])
/-- what is told of an exception of the j-th kind that bears fs -/
def wordOf (j : Nat) (fs : Fs) : Option D := match kindsW[j]? with
  | some x => formW j x fs
  | none => none
/-- what the written part says of a class that is raised: the j-th of cs, caught by CS -/
structure WdC (K : PySem.W.Frag) (cs : List Addr) (CS C : Addr) (j : Nat) : Prop where
  ex : ExcC K C
  jl : j < 15
  sl : PySem.W.exmOne K (.ref C) (.ref CS) = some true
  is : ∀ (k : Nat) c, cs[k]? = some c → PySem.W.kitOne K (.ref C) (.ref c) = some (decide (k = j))
  ve : PySem.W.kitOne K (.ref C) (.type "ValueError") = some true
  nf : PySem.W.findIn K (.ref C) "function" = some none
  nr : PySem.W.findIn K (.ref C) "row" = some none
  na : PySem.W.findIn K (.ref C) "at" = some none
theorem WdC.xf {K : PySem.W.Frag} {cs : List Addr} {CS C : Addr} {j : Nat} (h : WdC K cs CS C j) : XfC K C := ⟨h.ex.hg, h.ex.hk, h.ex.hs, h.ex.hd⟩
def SuOk (K : PySem.W.Frag) (cs : List Addr) (CS : Addr) (cls : Value) (d : Option Addr) (H' : Hp) (Q : VK) : Prop :=
  ∃ C j fs y W' S' P', cls = .ref C ∧ WdC K cs CS C j ∧ Sim K W' S' H' ∧ ExR K W' d fs ∧ wordOf j fs = some y ∧ P' y S' ∧ Post K W' H' P' Q
def TTw (K : PySem.W.Frag) (cs : List Addr) (CS : Addr) : (XK → Hp → VK → Prop) → Hp → VK → Prop := fun tl H Q => ∃ E : XK, (∀ cls d H', E cls d H' → SuOk K cs CS cls d H' Q) ∧ tl E H Q
/-- the exceptions that are told as words -/
def wishW (K : PySem.W.Frag) (cs : List Addr) (CS : Addr) (P : DP) : EX := fun C fs S => ∃ j y, WdC K cs CS C j ∧ wordOf j fs = some y ∧ P y S
/-- a def whose code object is known: it makes lambdas -/
theorem fn_dT {P : Program} {w : World} {K : PySem.W.Frag} {mg : Str → Option Value} {base : Heap} {x qual : Str} {st : Stmt} {f : Addr} {N ps : List Str} {k : Nat} {sp : DSp} {oc kV doc pm ct : Value} {od an : Option Addr} {c : Addr} {osl : Array (Option Value)}
    (lk : K.lookup f = some ⟨oc, od, .func (PySem.W.fnOf x qual (defArgs st) (defBody st) (defScope st) .none kV doc pm an (.ref c) ct), osl⟩) (hcd : PySem.W.codeIn K (.ref c) qual = true) (S : FnScope N ps (defScope st))
    (len : ∀ ds S P, sp ds S P → ds.length = ps.length)
    (body : ∀ (X : Cx) (W0 : Bs) (A : Around) (outer : List Env) (s : Shared) (H : Hp) (E : XK), X = (cxOf CX0 P w K mg base N qual (defScope st) f (.ref c) A outer s H E).nox → Room k X.A →
      ∃ T : DTS, DSs X W0 (defBody st) T ∧ ∀ ds S P, sp ds S P → T (exitE S P) (startE N ds) S) : FnOk P w K mg base CX0 (k + 1) f (PySem.W.fnOf x qual (defArgs st) (defBody st) (defScope st) .none kV doc pm an (.ref c) ct) ps (liftSp K sp) := by
  refine fn_of lk hcd S (fun vs H Q E h => ?_) fun A outer s H vs Q E hr h => ?_
  · obtain ⟨W, ds, S, P, _, r, q, _⟩ := h
    rw [r.length]
    exact len ds S P q
  · obtain ⟨W, ds, S, P, sim, r, q, post⟩ := h
    obtain ⟨T, hT, hq⟩ := body _ { W := W, H := H } A outer s H E rfl hr
    exact ⟨_, L2.PSs.nox hT, W, startE N ds, S, _, Stp.refl, sim, EnvR.start r, hq ds S P q, ⟨fun env S' W' H' σ q' s' l _ => post.exit sim _ _ W' H' _ q' s' l .non, post.exit sim, fun _ _ _ _ _ z => z.elim, fun _ _ _ _ _ z => z.elim⟩⟩
end DL
namespace DL
open PySem PySem.Spec PyProof.Rows L2
/-- the parts of the text that it is made with -/
inductive Fp (ns : List Str) : List Expr → Prop where
  | nil : Fp ns []
  | txt {y : Str} {k : Nat} {p : Pos} {es : List Expr} : y.length ≤ 1000 → Fp ns es → Fp ns (.Constant (.str y) k p :: es)
  | nam {x : Str} {p p' : Pos} {es : List Expr} : x ∈ ns → Fp ns es → Fp ns (.FormattedValue (.Name x p) (-1) none p' :: es)
/-- self.f = f, one behind the other -/
inductive Sts : List Str → List Stmt → Prop where
  | nil : Sts [] []
  | cons {f : Str} {fs : List Str} {p1 p2 p3 p4 : Pos} {es : List Stmt} : Sts fs es → Sts (f :: fs) (.Assign [.Attribute (.Name "self" p1) f p2] (.Name f p3) p4 :: es)
def IntB (u : Value) (i : Int) : Prop := (∃ t, u = .int i t) ∧ i.natAbs.log2 < 1920
section
variable {prog : Program} {w : World} {A : Around} {E : Value → Shared → Prop} {env : Env} {m : Str → Option Value} {ns : List Str}
theorem joins_fp (hk : env.scope.kind = .function) (hl : ∀ x ∈ ns, env.kindOf x = some .local) (hm : ∀ x ∈ ns, ∃ u i, m x = some u ∧ IntB u i) (hd : ∀ x ∈ ns, (x == ("__debug__" : Str)) = false) :
    ∀ {es : List Expr} (h : Fp ns es) (acc : Str) (s : Shared) (R : Str → Shared → Prop), s.heap.Ns env.locals m → acc.length + 3000 * es.length ≤ 1000000 →
      (∀ out tk, out.length ≤ sizeLine → R out { s with toks := tk }) → Joins (model prog w) A E (evalEach es env) acc R s
  | _, .nil, acc, s, R, hn, hz, k => by
    have e0 : evalEach [] env = [] := by first | rfl | simp [evalEach]
    rw [e0]
    exact k acc s.toks (by rw [sizeLine_eq]; simp at hz; omega)
  | _, @Fp.txt _ y j p es hy r, acc, s, R, hn, hz, k => by
    have e0 : evalEach (.Constant (.str y) j p :: es) env = eval (.Constant (.str y) j p) env :: evalEach es env := by first | rfl | simp [evalEach]
    rw [e0]
    have hb : (acc ++ y).length + 3000 * es.length ≤ 1000000 := by rw [Str.length_append]; simp at hz; omega
    exact wpAny_Constant_str ⟨y, _, rfl, by rw [sizeLine_eq]; omega, joins_fp hk hl hm hd r (acc ++ y) _ R hn hb fun out tk ho => k out tk ho⟩
  | _, @Fp.nam _ x p p' es hx r, acc, s, R, hn, hz, k => by
    have e0 : evalEach (.FormattedValue (.Name x p) (-1) none p' :: es) env = eval (.FormattedValue (.Name x p) (-1) none p') env :: evalEach es env := by first | rfl | simp [evalEach]
    rw [e0]
    obtain ⟨u, i, hu, ⟨t, rfl⟩, hi⟩ := hm x hx
    have hlen : (Str.ofString (toString i)).length ≤ 1920 + 1 := by
      have e := int_text_length_le (k := 1920) (by decide) hi
      rw [PySem.ofString_length]
      omega
    have hb : (acc ++ Str.ofString (toString i)).length + 3000 * es.length ≤ 1000000 := by rw [Str.length_append]; simp at hz; omega
    refine wpAny_FormattedValue_plain (wpAny_Name (wpAny_loadName_local hk (hl x hx) hn hu ?_) (hd x hx))
    exact wpAny_formatField_int hi ⟨_, _, rfl, by rw [sizeLine_eq]; omega, joins_fp hk hl hm hd r _ _ R hn hb fun out tk ho => k out tk ho⟩
end
section
variable {prog : Program} {w : World} {A : Around} {E : Value → Shared → Prop} {env : Env} {m : Str → Option Value} {K : PySem.W.Frag} {C e : Addr}
/-- what is kept but at e -/
def KeepB (e : Addr) (h h' : Heap) : Prop := ∀ b o, b ≠ e → h.get? b = some o → h'.get? b = some o
theorem KeepB.refl {e : Addr} {h : Heap} : KeepB e h h := fun _ _ _ z => z
theorem KeepB.trans {e : Addr} {h h1 h2 : Heap} (a : KeepB e h h1) (b : KeepB e h1 h2) : KeepB e h h2 := fun x o n z => b x o n (a x o n z)
theorem KeepB.ns {e : Addr} {h h1 : Heap} {L : Addr} {m : Str → Option Value} (k : KeepB e h h1) (n : L ≠ e) (hn : h.Ns L m) : h1.Ns L m := let ⟨o, es, ep, ho, r⟩ := hn; ⟨o, es, ep, k _ _ n ho, r⟩
abbrev exO2 (C t dx : Addr) : Obj := { cls := .ref C, dict := some dx, data := .fields #[.ref t, .none, .none, .none, .bool false, .none] }
/-- further fields -/
theorem sts_more (T : OexC K C) (hk : env.scope.kind = .function) (hse : env.kindOf "self" = some .local) (hms : m "self" = some (.ref e)) {dx t1 : Addr} (hde : dx ≠ e) :
    ∀ {fs : List Str} {es : List Stmt} (r : Sts fs es) (vs : List V) (us : List Value) (acc : List (Str × V)) (mA : Str → Option Value) (s : Shared) (Q : Flow → Shared → Prop), vs.length = fs.length → Vals vs us → (∀ f ∈ fs, env.kindOf f = some .local ∧ PySem.W.findIn K (.ref C) f = some none ∧ (f == ("__debug__" : Str)) = false) →
      (∀ (i : Nat) f u, fs[i]? = some f → us[i]? = some u → m f = some u) → acc.length + fs.length ≤ 900 → K.In s.heap → (∀ b o, K.lookup b = some o → b ≠ dx) → s.heap.Ns env.locals m → env.locals ≠ dx → s.heap.get? e = some (exO2 C t1 dx) → s.heap.Ns1 dx mA → (∀ f, RelO (acc.lookup f) (mA f)) →
      (∀ h' tk mA', (∀ b o, b ≠ dx → s.heap.get? b = some o → h'.get? b = some o) → h'.Ns1 dx mA' → (∀ f, RelO (((fs.zip vs).reverse ++ acc).lookup f) (mA' f)) → Q .next { s with heap := h', toks := tk }) →
      wpAny (model prog w) A (execs es env) Q E s
  | _, _, .nil, vs, us, acc, mA, s, Q, hl, rv, hf, hu, hz, KX, hkd, hn, hLd, he, hd, rel, k => by
    refine wpAny_execs_nil (k s.heap s.toks mA (fun _ _ _ z => z) hd fun f => ?_)
    simpa using rel f
  | _, _, @Sts.cons f fs p1 p2 p3 p4 es r, v :: vs, u :: us, acc, mA, s, Q, hl, .cons r1 rv, hf, hu, hz, KX, hkd, hn, hLd, he, hd, rel, k => by
    obtain ⟨nm, q, N, bs, bm, sn, sub, ab, col, dd, k0, k1, k2, k3, k5, hC, hbm⟩ := T.cls
    have hcl : PySem.W.clsIn K C = some { name := nm, bases := bs, mro := .ref C :: bm, ns := N, qualname := q, hasDict := true, slotNames := sn, subclasses := sub, abstract := ab, collection := col, hasDel := false } := by unfold PySem.W.clsIn; rw [hC] <;> rfl
    obtain ⟨f1, f2, f3⟩ := hf f List.mem_cons_self
    have hw := within_of rel
    obtain ⟨oD, _, _, hoD, _, _⟩ := hd.count hw
    obtain ⟨hp, g, d, t, os⟩ := s
    refine wpAny_execs_cons (plainObj_wpAny_Assign_Attribute (wpAny_Name (wpAny_loadName_local hk f1 hn (hu 0 f u rfl rfl) (wpAny_Name (wpAny_loadName_local hk hse hn hms ?_) (by decide))) f3) (by rfl))
    refine PySem.W.set_plain KX (ox := exO2 C t1 dx) (od := some oD) ⟨he, rfl, rfl, hoD⟩ T.sa ?_
    refine PySem.OEX.osa_old KX he hd hw (by rw [List.length_map]; simp at hz; omega) hcl (show PySem.HandSPX.refsVE (.ref C :: bm) = true from hbm) rfl f2 (fun h' tk' kp hn' => ?_)
    show wpAny _ _ (execs es env) Q E _
    refine sts_more T hk hse hms hde r vs us ((f, v) :: acc) _ ⟨h', g, d, tk', os⟩ Q (by simpa using hl) rv (fun f' z => hf f' (List.mem_cons_of_mem _ z)) (fun i f' u' z1 z2 => hu (i + 1) f' u' (by simpa using z1) (by simpa using z2)) (by simp at hz ⊢; omega)
      (fun b o z => kp b o (hkd b o z) (KX b o z)) hkd (let ⟨o, es', ep, ho, r'⟩ := hn; ⟨o, es', ep, kp _ _ hLd ho, r'⟩) hLd (kp _ _ (Ne.symm hde) he) hn' (relO_put r1 rel) (fun h2 tk2 mA2 kp2 hd2 rel2 => ?_)
    exact k h2 tk2 mA2 (fun b o z1 z2 => kp2 b o z1 (kp b o z1 z2)) hd2 fun f' => by simpa using rel2 f'
/-- all fields: the first one makes the dict -/
theorem sts_all (T : OexC K C) (hk : env.scope.kind = .function) (hse : env.kindOf "self" = some .local) (hms : m "self" = some (.ref e)) {t1 : Addr}
    {f : Str} {fs : List Str} {es : List Stmt} (r : Sts (f :: fs) es) (vs : List V) (us : List Value) (s : Shared) (Q : Flow → Shared → Prop) (hl : vs.length = (f :: fs).length) (rv : Vals vs us) (hf : ∀ f' ∈ f :: fs, env.kindOf f' = some .local ∧ PySem.W.findIn K (.ref C) f' = some none ∧ (f' == ("__debug__" : Str)) = false)
    (hu : ∀ (i : Nat) f' u, (f :: fs)[i]? = some f' → us[i]? = some u → m f' = some u) (hz : fs.length ≤ 800) (KX : K.In s.heap) (hke : ∀ b o, K.lookup b = some o → b ≠ e) (hn : s.heap.Ns env.locals m) (hLe : env.locals ≠ e) (he : s.heap.get? e = some (PySem.HandSPX.excO C t1))
    (k : ∀ h' tk dx mA', KeepB e s.heap h' → s.heap.objs.size ≤ dx → dx ≠ e → h'.get? e = some (exO2 C t1 dx) → h'.Ns1 dx mA' → (∀ g, RelO ((((f :: fs).zip vs).reverse).lookup g) (mA' g)) → Q .next { s with heap := h', toks := tk }) :
    wpAny (model prog w) A (execs es env) Q E s := by
  cases r with
  | @cons _ _ p1 p2 p3 p4 es r =>
    obtain ⟨nm, q, N, bs, bm, sn, sub, ab, col, dd, k0, k1, k2, k3, k5, hC, hbm⟩ := T.cls
    have hcl : PySem.W.clsIn K C = some { name := nm, bases := bs, mro := .ref C :: bm, ns := N, qualname := q, hasDict := true, slotNames := sn, subclasses := sub, abstract := ab, collection := col, hasDel := false } := by unfold PySem.W.clsIn; rw [hC] <;> rfl
    obtain ⟨f1, f2, f3⟩ := hf f List.mem_cons_self
    cases rv with
    | nil => simp at hl
    | @cons v u vs us r1 rv =>
      obtain ⟨hp, g, d, t, os⟩ := s
      refine wpAny_execs_cons (plainObj_wpAny_Assign_Attribute (wpAny_Name (wpAny_loadName_local hk f1 hn (hu 0 f u rfl rfl) (wpAny_Name (wpAny_loadName_local hk hse hn hms ?_) (by decide))) f3) (by rfl))
      refine PySem.W.set_plain KX (ox := PySem.HandSPX.excO C t1) (od := none) ⟨he, rfl, rfl, trivial⟩ T.sa ?_
      refine PySem.HandSPX.exc_osa KX he hcl (show PySem.HandSPX.refsVE (.ref C :: bm) = true from hbm) rfl f2 (fun h' tk' dx kp dn dne hx hn' => ?_)
      show wpAny _ _ (execs es env) Q E _
      have old : ∀ {b : Addr} {o : Obj}, hp.get? b = some o → b ≠ dx := fun {b o} z y => by
        rw [y] at z
        exact absurd (Heap.lt_size z) (Nat.not_lt.mpr dn)
      have hLo : env.locals ≠ dx := let ⟨o, _, _, ho, _⟩ := hn; old ho
      refine sts_more T hk hse hms dne r vs us [(f, v)] _ ⟨h', g, d, tk', os⟩ Q (by simpa using hl) rv (fun f' z => hf f' (List.mem_cons_of_mem _ z)) (fun i f' u' z1 z2 => hu (i + 1) f' u' (by simpa using z1) (by simpa using z2)) (by simp; omega)
        (fun b o z => kp b o (hke b o z) (KX b o z)) (fun b o z => old (KX b o z)) (KeepB.ns kp hLe hn) hLo hx hn' (relO_put (fs := []) r1 fun g => True.intro) (fun h2 tk2 mA2 kp2 hd2 rel2 => ?_)
      refine k h2 tk2 dx mA2 (fun b o z1 z2 => kp2 b o (old z2) (kp b o z1 z2)) dn dne (kp2 _ _ (Ne.symm dne) hx) hd2 fun f' => ?_
      simpa using rel2 f'
end
end DL
namespace DL
open PySem PySem.Spec PyProof.Rows L2
abbrev iniEnv (qual : Str) (st : Stmt) (kV doc pm : Value) (an : Option Addr) (cdv ct : Value) (cc L f : Addr) : Env := callEnv (PySem.W.ksFn "__init__" qual (defArgs st) (defBody st) (defScope st) .none kV doc pm an cdv ct cc) L f
/-- what the written part says of such a class and its __init__ -/
structure XiC (P : Program) (K : PySem.W.Frag) (C : Addr) (qual : Str) (st : Stmt) (fs : List Str) : Prop where
  oc : OexC K C
  ex : ∃ (fI cda cc : Addr) (oc : Value) (od an : Option Addr) (osl : Array (Option Value)) (kV doc pm ct : Value) (ccl cl : Value) (cdd cld : Option Addr) (vs : Array Value) (ccs csl : Array (Option Value)) (file : Str) (tf : Tok),
    PySem.W.findIn K (.ref C) "__init__" = some (some (.ref fI)) ∧ PySem.W.typeIn K (.ref fI) = some (.type "function") ∧
    K.lookup fI = some ⟨oc, od, .func (PySem.W.ksFn "__init__" qual (defArgs st) (defBody st) (defScope st) .none kV doc pm an (.ref cda) ct cc), osl⟩ ∧ PySem.W.codeIn K (.ref cda) qual = true ∧
    K.lookup cda = some ⟨ccl, cdd, .fields vs, ccs⟩ ∧ vs[2]? = some (.str file tf) ∧ ((P.main.file : Str) == file) = true ∧ K.lookup cc = some ⟨cl, cld, .cell (some (.ref C)), csl⟩
  bind : ∀ (kV doc pm : Value) (an : Option Addr) (cdv ct : Value) (cc : Addr) (us : List Value), us.length = fs.length + 1 → bindArgs (PySem.W.ksFn "__init__" qual (defArgs st) (defBody st) (defScope st) .none kV doc pm an cdv ct cc) ⟨us, []⟩ = pure ((("self" : Str) :: fs).zip us)
  hp : ∃ ar, ((defArgs st).posonlyargs ++ (defArgs st).args).head? = some ar ∧ ar.arg = "self"
  mro : PySem.W.mroIn K C (.ref C) = some true
  sup : PySem.W.ks_superIn K C C "__init__" = some (some (.builtin "ValueError.__init__"))
  sub : PySem.W.subIn K (.ref C) (.type "ValueError") = some true
  opq : PySem.W.nsIn K cStatics "thirdparty.any" = some none
  top : (P.main.scope.names.lookup ("super" : Str)).isSome = false
  ks : (defScope st).names.lookup ("super" : Str) = some .globalImplicit
  kc : (defScope st).names.lookup ("__class__" : Str) = some .free
  kl : ∀ x ∈ ("self" : Str) :: fs, (defScope st).names.lookup x = some .local ∧ (x == ("__debug__" : Str)) = false
  nc : ∀ x ∈ (defScope st).names, x.2 ≠ .cell
  co : (defScope st).isCoroutine = false
  gen : (defScope st).isGenerator = false
  kd : (defScope st).kind = .function
  nf : ∀ f ∈ fs, PySem.W.findIn K (.ref C) f = some none
  few : fs.length ≤ 100
  nd : (("self" : Str) :: fs).Nodup
  body : ∃ (es : List Expr) (v1 v2 : Expr) (rest : List Stmt) (p0 p1 p2 p6 p7 p8 : Pos), defBody st = .Expr (.Call (.Attribute (.Call (.Name "super" p0) [] [] p1) "__init__" p2) [.JoinedStr (v1 :: v2 :: es) p6] [] p7) p8 :: rest ∧ Fp fs (v1 :: v2 :: es) ∧ es.length ≤ 100 ∧ Sts fs rest ∧
    ∀ (kV doc pm : Value) (an : Option Addr) (cdv ct : Value) (cc L f : Addr), interactive (iniEnv qual st kV doc pm an cdv ct cc L f) = false ∧ ∃ pl : Sem Bool, eval (.Call (.Attribute (.Call (.Name "super" p0) [] [] p1) "__init__" p2) [.JoinedStr (v1 :: v2 :: es) p6] [] p7) (iniEnv qual st kV doc pm an cdv ct cc L f) = (do
      let ov ← attributeBase (.Call (.Name "super" p0) [] [] p1) "__init__" (iniEnv qual st kV doc pm an cdv ct cc L f) (eval (.Call (.Name "super" p0) [] [] p1) (iniEnv qual st kV doc pm an cdv ct cc L f))
      standAt p2.atName
      let (f', first) ← holding [ov] (getMethod ov "__init__" pl)
      callWith p7 f' first (backTo p7 (starEach [.JoinedStr (v1 :: v2 :: es) p6] (iniEnv qual st kV doc pm an cdv ct cc L f))) [])
theorem map_fst_zip_sub {α β : Type} : ∀ (l : List α) (r : List β), ((l.zip r).map (·.1)).Sublist l
  | [], _ => by simp
  | _ :: _, [] => by simp
  | x :: l, y :: r => by simpa using map_fst_zip_sub l r
theorem map_fst_zip_all {α β : Type} : ∀ (l : List α) (r : List β), l.length = r.length → (l.zip r).map (·.1) = l
  | [], _, _ => by simp
  | _ :: _, [], h => by simp at h
  | x :: l, y :: r, h => by
    have h' : l.length = r.length := by simpa using h
    simpa using map_fst_zip_all l r h'
theorem map_snd_zip_all {α β : Type} : ∀ (l : List α) (r : List β), l.length = r.length → (l.zip r).map (·.2) = r
  | [], [], _ => rfl
  | [], _ :: _, h => by simp at h
  | _ :: _, [], h => by simp at h
  | x :: l, y :: r, h => by
    have h' : l.length = r.length := by simpa using h
    simpa using map_snd_zip_all l r h'
theorem zip_rev {α β : Type} (l : List α) (r : List β) (h : l.length = r.length) : (l.zip r).reverse = l.reverse.zip r.reverse := by
  refine List.ext_getElem? fun i => ?_
  by_cases hi : i < (l.zip r).length
  · have h1 : i < l.length := by rw [List.length_zip] at hi; omega
    have h2 : i < r.length := by omega
    rw [List.getElem?_reverse hi, List.zip_eq_zipWith, List.zip_eq_zipWith, List.getElem?_zipWith, List.getElem?_zipWith, List.getElem?_reverse h1, List.getElem?_reverse h2, List.length_zipWith]
    rw [show min l.length r.length = l.length by omega, ← h]
  · rw [List.getElem?_eq_none (by simpa using hi), List.getElem?_eq_none (by simp [List.length_zip] at hi ⊢; omega)]
theorem zip_lookup : ∀ {ns : List Str} {us : List Value} {i : Nat} {x : Str} {u : Value}, ns.Nodup → ns[i]? = some x → us[i]? = some u → (ns.zip us).reverse.lookup x = some u := by
  intro ns us i x u nd h1 h2
  have key : ∀ {l : List (Str × Value)}, (l.map (·.1)).Nodup → (x, u) ∈ l → l.lookup x = some u := by
    intro l
    induction l with
    | nil => intro _ h; cases h
    | cons p l ih =>
      intro nd h
      obtain ⟨y, v⟩ := p
      rw [List.lookup_cons]
      rcases List.mem_cons.mp h with e | h
      · cases e
        simp
      · have hne : (x == y) = false := by
          simp only [beq_eq_false_iff_ne]
          intro z
          have nd2 := (List.nodup_cons.mp nd).1
          rw [← z] at nd2
          exact nd2 (List.mem_map.mpr ⟨(x, u), h, rfl⟩)
        rw [hne]
        exact ih (List.nodup_cons.mp nd).2 h
  refine key ?_ ?_
  · rw [List.map_reverse]
    refine (List.reverse_perm _).nodup_iff.mpr (List.Sublist.nodup ?_ nd)
    exact map_fst_zip_sub ns us
  · rw [List.mem_reverse]
    exact List.mem_of_getElem? (i := i) (by rw [List.getElem?_zip_eq_some]; exact ⟨h1, h2⟩)
section
variable {P : Program} {w : World} {K : PySem.W.Frag} {mg : Str → Option Value} {A : Around} {C e t0 : Addr} {qual : Str} {st : Stmt} {f : Str} {fs : List Str} {R : Result → Shared → Prop}
/-- its __init__, called -/
theorem ini_run (T : XiC P K C qual st (f :: fs)) (fI : Addr) (hI : PySem.W.findIn K (.ref C) "__init__" = some (some (.ref fI))) (s : Shared) (KX : K.In s.heap) (hg : s.heap.Ns mainGlobals mg) (hmg : mg "super" = none) (hb : ∃ mb, s.heap.Ns builtinsNs mb ∧ ∀ x : Str, x ≠ "__name__" → mb x = bootBuiltins x) (lim : s.heap.NoLimit)
    (hr : A.depth < recursionLimit) (he : s.heap.get? e = some (PySem.HandSPX.excO C t0)) (hke : ∀ b o, K.lookup b = some o → b ≠ e) (vs : List V) (us : List Value) (hl : vs.length = (f :: fs).length) (rv : Vals vs us) (hi : ∀ u ∈ us, ∃ i, IntB u i)
    (k : ∀ h' tk dx t1 mA', KeepB e s.heap h' → s.heap.objs.size ≤ dx → dx ≠ e → h'.get? e = some (exO2 C t1 dx) → h'.Ns1 dx mA' → (∀ g, RelO ((((f :: fs).zip vs).reverse).lookup g) (mA' g)) → R (.ok (.ret .none)) { s with heap := h', toks := tk }) :
    codeAny (model P w) A (.call (.ref fI) ⟨.ref e :: us, []⟩) R s := by
  obtain ⟨fI', cda, cc, oc, od, an, osl, kV, doc, pm, ct, ccl, cl, cdd, cld, vsC, ccs, csl, file, tf, h1, h2, lk, hcd, hcode, hvs, hfile, hcell⟩ := T.ex
  have e0 := hI.symm.trans h1
  cases e0
  obtain ⟨es, v1, v2, rest, p0, p1, p2, p6, p7, p8, hbody, hfp, hes, hsts, hev⟩ := T.body
  obtain ⟨ar, har, harn⟩ := T.hp
  have hul : us.length = (f :: fs).length := by rw [← hl]; exact rv.length.symm
  obtain ⟨nm, q, N, bs, bm, sn, sub, ab, col, dd, k0, k1, k2, k3, k5, hC, hbm⟩ := T.oc.cls
  have hcl : PySem.W.clsIn K C = some { name := nm, bases := bs, mro := .ref C :: bm, ns := N, qualname := q, hasDict := true, slotNames := sn, subclasses := sub, abstract := ab, collection := col, hasDel := false } := by unfold PySem.W.clsIn; rw [hC] <;> rfl
  refine PySem.ks_codeAny_call_defAt (fd := PySem.W.ksFn "__init__" qual (defArgs st) (defBody st) (defScope st) .none kV doc pm an (.ref cda) ct cc) (body := defBody st) (binds := (("self" : Str) :: f :: fs).zip (.ref e :: us)) hr (KX _ _ lk) rfl lim (PySem.W.codeRec_of KX hcd) rfl
    (.of_eq (T.bind kV doc pm an (.ref cda) ct cc (.ref e :: us) (by simp [hul]))) T.nc (fun x hx => (T.kl x.1 (List.of_mem_zip hx).1).1) (fun h₁ hns hk₁ => ?_) T.co T.gen T.kd
  obtain ⟨hp, g, d, t, os⟩ := s
  obtain ⟨hint, pl, hev⟩ := hev kV doc pm an (.ref cda) ct cc hp.objs.size fI
  have eb : ∀ (c : Code) (Q : Flow → Shared → Prop) (E : Value → Shared → Prop) (s : Shared), _root_.PySem.wpAt (model P w) (A.deeper (iniEnv qual st kV doc pm an (.ref cda) ct cc hp.objs.size fI)) c (execs (.Expr (.Call (.Attribute (.Call (.Name "super" p0) [] [] p1) "__init__" p2) [.JoinedStr (v1 :: v2 :: es) p6] [] p7) p8 :: rest) (iniEnv qual st kV doc pm an (.ref cda) ct cc hp.objs.size fI)) Q E s → _root_.PySem.wpAt (model P w) (A.deeper (iniEnv qual st kV doc pm an (.ref cda) ct cc hp.objs.size fI)) c (execs (defBody st) (iniEnv qual st kV doc pm an (.ref cda) ct cc hp.objs.size fI)) Q E s := fun c Q E s z => by
    have z' := z
    rw [← hbody] at z'
    exact z'
  refine eb _ _ _ _ ?_
  dsimp only at hns hk₁ he KX hg hb lim k ⊢
  have X1 : K.In h₁ := fun b o z => hk₁ b o (KX b o z)
  have mget : ∀ (i : Nat) x u, (("self" : Str) :: f :: fs)[i]? = some x → (Value.ref e :: us)[i]? = some u → ((("self" : Str) :: f :: fs).zip (Value.ref e :: us)).reverse.lookup x = some u := fun i x u z1 z2 => zip_lookup T.nd z1 z2
  have he1 := hk₁ _ _ he
  have hLe : hp.objs.size ≠ e := fun z => absurd (Heap.lt_size he) (by rw [← z]; exact Nat.lt_irrefl _)
  refine PySem.ks_wpAt_execs_cons (PySem.ks_wpAt_Expr_any (PySem.ks_wpAt_MethodCall (pl := pl) ?_ hev) hint)
  refine PySem.ks_wpAt_super_base (env := callEnv (PySem.W.ksFn "__init__" qual (defArgs st) (defBody st) (defScope st) .none kV doc pm an (.ref cda) ct cc) hp.objs.size fI) T.ks T.kc (by decide) rfl (X1 _ _ lk) rfl har rfl (X1 _ _ hcode) rfl hvs hfile T.top ?_
  obtain ⟨mb, hb1, hb2⟩ := hb
  have nsk : ∀ {L : Addr} {mm : Str → Option Value}, hp.Ns L mm → h₁.Ns L mm := fun ⟨o, es', ep, ho, r'⟩ => ⟨o, es', ep, hk₁ _ _ ho, r'⟩
  refine PySem.W.ks_loadName_global T.kd T.ks (Calls.loadGlobal_builtin (env := callEnv (PySem.W.ksFn "__init__" qual (defArgs st) (defBody st) (defScope st) .none kV doc pm an (.ref cda) ct cc) hp.objs.size fI) (nsk hg) hmg (nsk hb1) ((hb2 "super" (by decide)).trans (by first | boot_by_name | rfl | kernel_rfl)) ⟨rfl, ?_⟩)
  refine wpAny_loadName_free T.kd T.kc rfl ⟨_, X1 _ _ hcell, rfl⟩ ?_
  rw [harn]
  refine wpAny_loadName_local T.kd (T.kl "self" List.mem_cons_self).1 hns (mget 0 _ _ rfl rfl) ?_
  refine PySem.ks_wpAny_isType_cls (X1 _ _ hC) rfl ⟨rfl, ?_⟩
  refine PySem.ks_wpAny_call_super (X1 _ _ hC) rfl he1 rfl (fun c z => by cases z) (PySem.W.looks_mroIn X1 T.mro) (fun h2' hso k2' => ?_)
  have X2 : K.In h2' := fun b o z => k2' b o (X1 b o z)
  have he2 := k2' _ _ he1
  have I2 : PySem.W.InstAt h2' e (PySem.HandSPX.excO C t0) C none := ⟨he2, rfl, rfl, trivial⟩
  have hsup := T.sup
  unfold PySem.W.ks_superIn at hsup
  rw [hcl, Option.bind_some] at hsup
  refine PySem.W.kxs_getMethod PySem.W.kxs_ValueError hso (PySem.W.looks_opaque X2 T.opq) (l₀ := .ref C :: bm) ((PySem.W.looks_clsIn X2 hcl).andThen .now) rfl X2 hsup (I2.type.andThen (PySem.W.looks_subIn X2 T.sub)) (PySem.W.ks_ne X2 I2 hcl) (by decide) ?_
  have k3 : ∀ b o, h2'.get? b = some o → (h2'.push (PySem.W.kxs_mw "ValueError.__init__" e)).get? b = some o := fun b o z => Heap.get?_push_of_some _ z
  have n3 : (h2'.push (PySem.W.kxs_mw "ValueError.__init__" e)).Ns hp.objs.size (fun x => ((("self" : Str) :: f :: fs).zip (Value.ref e :: us)).reverse.lookup x) := let ⟨o, es', ep, ho, r'⟩ := hns; ⟨o, es', ep, k3 _ _ (k2' _ _ ho), r'⟩
  refine PySem.W.kxs_callWith (i := "ValueError.__init__") (x := e) (by rfl) (Calls.evalArgs_plain (Calls.spliced_cons ?_))
  refine wpAny_JoinedStr (pos := p6) (joins_fp (env := iniEnv qual st kV doc pm an (.ref cda) ct cc hp.objs.size fI) (ns := f :: fs) (m := fun x => ((("self" : Str) :: f :: fs).zip (Value.ref e :: us)).reverse.lookup x) T.kd (fun x hx => (T.kl x (List.mem_cons_of_mem _ hx)).1) (fun x hx => ?_) (fun x hx => (T.kl x (List.mem_cons_of_mem _ hx)).2) hfp Str.empty _ _ n3 (by show 0 + 3000 * (es.length + 1 + 1) ≤ 1000000; omega) fun out tk ho => ⟨ho, ?_⟩)
  · obtain ⟨i, hi'⟩ := List.getElem?_of_mem hx
    have hlt : i < us.length := by rw [hul]; exact (List.getElem?_eq_some_iff.mp hi').1
    obtain ⟨z, hz⟩ := hi us[i] (List.getElem_mem hlt)
    exact ⟨us[i], z, mget (i + 1) x us[i] (by simpa using hi') (by simpa using List.getElem?_eq_getElem hlt), hz⟩
  refine Calls.spliced_nil ⟨Heap.get?_push_at rfl rfl, ?_⟩
  have X3 : K.In (h2'.push (PySem.W.kxs_mw "ValueError.__init__" e)) := fun b o z => k3 b o (X2 b o z)
  have he3 := k3 _ _ he2
  refine wpAny_call (codeAny_of_tree ?_)
  show wpAny _ (A.deeper (iniEnv qual st kV doc pm an (.ref cda) ct cc hp.objs.size fI)).in1 (callAny (.ref h2'.objs.size) ⟨[.str out tk], []⟩) _ _ ⟨h2'.push (PySem.W.kxs_mw "ValueError.__init__" e), g, d, tk + 1, os⟩
  simp only [callAny]
  refine wpAny_bind (wpAny_load (Heap.get?_push_at rfl rfl) ?_)
  simp only [PySem.W.kxs_mw, show (Value.type "method-wrapper" == Value.type "method" || Value.type "method-wrapper" == Value.type "builtin_function_or_method" || Value.type "method-wrapper" == Value.type "method-wrapper") = true by decide, if_true]
  refine PySem.W.KFB.if_so (by decide) ?_
  refine wpAny_bind (PySem.W.check_bound_init PySem.F.excBase_ValueError.toExcCallFacts (X3 _ _ hC) he3 rfl ?_)
  refine wpAny_bind (wpAny_pure (wpAny_pure ?_))
  refine ⟨plainId_quiet PySem.F.excBase_ValueError.init.plain _, codeAny_builtin PySem.F.excBase_ValueError.initEntry ?_⟩
  refine PySem.W.exc_init_tree (cls := .ref C) (t0 := t0) (dv := none) (c2 := .none) (c3 := .none) (b4 := .bool false) he3 (by show 1 ≤ sizeLine; decide) (fun h4 k4 he4 _ => ?_)
  have kAll : KeepB e h₁ h4 := fun b o n z => k4 b o n (k3 b o (k2' b o z))
  refine wpAt_of_wpAny ?_
  refine sts_all (env := iniEnv qual st kV doc pm an (.ref cda) ct cc hp.objs.size fI) (e := e) T.oc T.kd (T.kl "self" List.mem_cons_self).1 (m := fun x => ((("self" : Str) :: f :: fs).zip (Value.ref e :: us)).reverse.lookup x) (mget 0 _ _ rfl rfl) hsts vs us _ _ hl rv (fun f' z => ⟨(T.kl f' (List.mem_cons_of_mem _ z)).1, T.nf f' z, (T.kl f' (List.mem_cons_of_mem _ z)).2⟩) (fun i f' u z1 z2 => mget (i + 1) f' u (by simpa using z1) (by simpa using z2)) (by have := T.few; simp at this; omega) (fun b o z => kAll b o (hke b o z) (X1 b o z)) hke (kAll.ns hLe hns) hLe he4 (fun h5 tk5 dx mA5 k5 hd1 hd2 he5 hn5 rel5 => ?_)
  have sz4 : hp.objs.size ≤ h4.objs.size := by
    obtain ⟨o, es', ep, ho, r'⟩ := kAll.ns hLe hns
    exact Nat.le_of_lt (Heap.lt_size ho)
  exact k h5 tk5 dx _ mA5 (fun b o n z => k5 b o n (kAll b o n (hk₁ b o z))) (Nat.le_trans sz4 hd1) hd2 he5 hn5 rel5
end
/-- C(e, ..) -/
def tXi (C : Addr) (fs : List Str) (ta : L2.TA) : L2.St → Hp → XK → Prop := fun σ H Q => ta σ H fun vs H1 => vs.length = fs.length ∧ (∀ v ∈ vs, ∃ i : Int, v = .int i ∧ i.natAbs.log2 < 1920) ∧ ∀ d, H1 d = none → Q (.ref C) (some d) (upd H1 d (.xd (fs.zip vs).reverse))
theorem vals_ints : ∀ {vs : List V} {us : List Value}, Vals vs us → (∀ v ∈ vs, ∃ i : Int, v = .int i ∧ i.natAbs.log2 < 1920) → ∀ u ∈ us, ∃ i, IntB u i
  | _, _, .nil, _, u, hu => by cases hu
  | _, _, .cons r t, h, u, hu => by
    rcases List.mem_cons.mp hu with rfl | hu
    · obtain ⟨i, rfl, hi⟩ := h _ List.mem_cons_self
      exact ⟨i, r, hi⟩
    · exact vals_ints t (fun v hv => h v (List.mem_cons_of_mem _ hv)) u hu
section
variable {X : Cx} {W0 : Bs} {e : Expr} {es : List Expr} {ta : L2.TA} {p pos : Pos} {C : Addr} {qual x : Str} {st : Stmt} {f : Str} {fs : List Str}
theorem pmk_xi (T : XiC X.prog X.K C qual st (f :: fs)) (hr : Room 2 X.A) (hsu : X.mg "super" = none) (hg : Gl X x) (hm : X.mg x = some (.ref C)) (ha : PA X (e :: es) ta)
    (hdb : (x == ("__debug__" : Str)) = false := by decide) (he : starEach (e :: es) X.env = (false, eval e X.env) :: starEach es X.env := by rfl) (hpl : (backTo pos (starEach es X.env)).any (·.1) = false := by rfl) :
    PMk X (.Call (.Name x p) (e :: es) [] pos) (tXi C (f :: fs) ta) := by
  intro pins s σ H Q I h
  obtain ⟨nm, q, N, bs, bm, sn, sub, ab, col, dd, k0, k1, k2, k3, k5, hC, hbm⟩ := T.oc.cls
  refine wpAny_Call_Name_kw (ld_glob I hg hm ?_ hdb)
  refine PySem.W.callWith_K (h₀ := X.base) I.ok.mod.kin T.oc.kC (thn (ha.run pos pins s σ H _ I h) fun us s1 ⟨vs, H1, I1, r1, hz, hi, q1⟩ => ⟨I1.kIn, ?_⟩) he hpl
  show wpAny _ _ (call (.ref C) us) _ _ _
  obtain ⟨fI, _, _, _, _, _, _, _, _, _, _, _, _, _, _, _, _, _, _, _, iC, tI, _⟩ := T.ex
  obtain ⟨hp, g, dr, tk, os⟩ := s1
  have hsz : hp.objs.size ≤ hp.objs.size + 1 := Nat.le_succ _
  have kk : ∀ b o, hp.get? b = some o → ((hp.push (PySem.W.kdv_tup us)).push (PySem.HandSPX.excO C hp.objs.size)).get? b = some o := fun b o e => Heap.get?_push_of_some _ (Heap.get?_push_of_some _ e)
  have hget : ((hp.push (PySem.W.kdv_tup us)).push (PySem.HandSPX.excO C hp.objs.size)).get? (hp.objs.size + 1) = some (PySem.HandSPX.excO C hp.objs.size) := by heap_get
  have hul : us.length = (f :: fs).length := by rw [← hz]; exact r1.length.symm
  have hus : us.length ≤ sizeLine := by
    have := T.few
    rw [hul, sizeLine_eq]
    exact Nat.le_trans this (by decide)
  have old : ∀ {b : Addr} {o : Obj}, hp.get? b = some o → b ≠ hp.objs.size + 1 := fun {b o} z y => by
    rw [y] at z
    have z' := Heap.lt_size z
    exact absurd z' (Nat.not_lt.mpr (Nat.le_succ _))
  have kb : ∀ b o, X.base.get? b = some o → ((hp.push (PySem.W.kdv_tup us)).push (PySem.HandSPX.excO C hp.objs.size)).get? b = some o := fun b o z => kk b o (I1.bk b o z)
  have nsb : ∀ {L : Addr} {mm : Str → Option Value}, X.base.Ns L mm → ((hp.push (PySem.W.kdv_tup us)).push (PySem.HandSPX.excO C hp.objs.size)).Ns L mm := fun ⟨o, es', ep, ho, r'⟩ => ⟨o, es', ep, kb _ _ ho, r'⟩
  refine wpAny_call (PySem.HandSPX.call_own PySem.F.excBase_ValueError (fun Y => PySem.HandSPX.refsVE_contains Y bm hbm) (I1.kIn _ _ hC) (PySem.W.looks_findIn I1.kIn iC) (fun self => PySem.W.bind_fn I1.kIn self tI) hus
    (ini_run (w := X.w) (mg := X.mg) T fI iC ⟨(hp.push (PySem.W.kdv_tup us)).push (PySem.HandSPX.excO C hp.objs.size), g, dr, tk, os⟩ (fun b o z => kk b o (I1.kIn b o z)) (nsb I1.ok.mod.glob) hsu (let ⟨mb, b1, b2⟩ := I1.ok.mod.blt; ⟨mb, nsb b1, b2⟩) (I1.ok.mod.nolimit.keeps kb) (hr.make C us []).depth hget (fun b o z => old (I1.kIn b o z)) vs us hz r1 (vals_ints r1 hi)
      fun h' tk' dx t1 mA' kp hd1 hd2 he' hn' rel' => ?_))
  show Value.none = Value.none ∧ _
  refine ⟨rfl, ?_⟩
  obtain ⟨G, g1', g2'⟩ := restrict h' fun b => decide (b ≠ hp.objs.size + 1)
  have gk : ∀ b, b ≠ hp.objs.size + 1 → G.get? b = h'.get? b := fun b hb => g1' b (decide_eq_true hb)
  have ge : G.get? (hp.objs.size + 1) = none := g2' _ (by simp)
  have hds : hp.objs.size ≤ dx := Nat.le_trans (by simp [Heap.push]; omega) hd1
  have J : Inv X pins σ (upd H1 dx (.xd ((f :: fs).zip vs).reverse)) ⟨G, g, dr, tk', os⟩ := I1.laid (t' := tk') (h' := G) (fun b o z => by rw [gk b (old z)]; exact kp b o (old z) (kk b o z)) hds ⟨mA', hn'.at fun o y => (gk dx hd2).trans y, rel'⟩
  have na : upd H1 dx (.xd ((f :: fs).zip vs).reverse) (hp.objs.size + 1) = none := by
    rw [upd_ne (Ne.symm hd2)]
    exact I1.hok.fresh hsz
  exact ⟨hp.objs.size + 1, _, _, ⟨G, g, dr, tk', os⟩, _, .ref C, some dx, rfl, J, fun b o z => by
    by_cases hb : b = hp.objs.size + 1
    · rw [hb, ge] at z
      cases z
    · exact (gk b hb).symm.trans z, ge, he', ⟨rfl, rfl⟩, rfl, rfl, na, rfl, I1.bare, raises_own T.oc.exC T.oc.tyC, q1 dx (I1.hok.fresh hds)⟩
/-- raise C(e, ..), at the level of data -/
def dXi (R : EX) (C : Addr) (fs : List Str) (TR : DTA) : DTS := fun _ env S => TR env S fun ds S1 => ∃ is : List Int, ds = is.map .int ∧ is.length = fs.length ∧ (∀ i ∈ is, i.natAbs.log2 < 1920) ∧ R C (fs.zip (is.map D.int)).reverse S1
theorem Reps.intsV {K : PySem.W.Frag} {W : Wd} : ∀ {vs : List V} {is : List Int}, Reps K W vs (is.map D.int) → vs = is.map V.int
  | _, [], .nil => rfl
  | _, i :: is, .cons r t => by rw [r.intV, Reps.intsV t]; rfl
theorem ds_raiseX {TR : DTA} {pos' : Pos} (hc : X.calm = true) (hR : Rz X W0) (T : XiC X.prog X.K C qual st (f :: fs)) (hr : Room 2 X.A) (hsu : X.mg "super" = none) (hm : X.mg x = some (.ref C)) (hg : Gl X x) (ha : DA X W0 (e :: es) TR)
    (hdb : (x == ("__debug__" : Str)) = false := by decide) (he : starEach (e :: es) X.env = (false, eval e X.env) :: starEach es X.env := by rfl) (hpl : (backTo pos (starEach es X.env)).any (·.1) = false := by rfl) :
    DS X W0 (.Raise (some (.Call (.Name x p) (e :: es) [] pos)) none pos') (dXi W0.R C (f :: fs) TR) := by
  obtain ⟨E, tk, px⟩ := hR
  refine (ps_raise hc tk (pmk_xi T hr hsu hg hm ha hdb he hpl)).imp fun D σ H ⟨W, env, S, E', hW, sim, er, ht, post⟩ => ⟨W, env, S, _, hW, sim, er, ht, fun ds S1 W1 H1 vs ⟨is, hds, hl, hb, hq⟩ s l r => ?_⟩
  subst hds
  have ev := r.intsV
  subst ev
  refine ⟨by rw [List.length_map]; exact hl, fun v hv => ?_, fun d hd => ?_⟩
  · obtain ⟨i, hi, rfl⟩ := List.mem_map.mp hv
    exact ⟨i, rfl, hb i hi⟩
  · refine px C _ S1 (W1.put d (.xd ((f :: fs).zip (is.map V.int)).reverse)) _ (some d) hq (s.put hd) ((hW.trans l).stp.trans (.put s hd)) (.inr ⟨d, (is.map V.int).reverse, rfl, ?_, ?_⟩)
    · show upd W1.B d _ d = _
      rw [upd_same]
      rw [List.map_reverse, map_fst_zip_all _ _ (by simpa using hl.symm), zip_rev _ _ (by simpa using hl.symm)]
    · rw [List.map_reverse, map_snd_zip_all _ _ (by simpa using hl.symm), ← List.map_reverse, ← List.map_reverse]
      exact reps_ints _
theorem i_rzX {R : EX} {C : Addr} {fs : List Str} {TR : DTA} {E : DEnds} {env : Ev} {S : Sto} (q : TR env S fun ds S1 => ∃ is : List Int, ds = is.map .int ∧ is.length = fs.length ∧ (∀ i ∈ is, i.natAbs.log2 < 1920) ∧ R C (fs.zip (is.map D.int)).reverse S1) : dXi R C fs TR E env S := q
instance {R : EX} {C : Addr} {fs : List Str} {TR : DTA} {E : DEnds} {env : Ev} {S : Sto} : Wk (dXi R C fs TR E env S) (TR env S fun ds S1 => ∃ is : List Int, ds = is.map .int ∧ is.length = fs.length ∧ (∀ i ∈ is, i.natAbs.log2 < 1920) ∧ R C (fs.zip (is.map D.int)).reverse S1) := ⟨fun q => i_rzX q⟩
end
end DL
namespace DL
open PySem PySem.Spec PyProof.Rows L2 LamX
/-- a def that may raise, called so that it doesn't -/
theorem FnX.fn {P : Program} {w : World} {K : PySem.W.Frag} {mg : Str → Option Value} {base : Heap} {x : Str} {k : Nat} {ps : List Str} {sp : DSpX} (h : FnX P w K mg base x k ps sp) : Fn P w K mg base x k ps (fun ds S P => sp ds S P fun _ _ _ => False) := by
  obtain ⟨f, fd, h1, h2, h3, h4⟩ := h
  refine ⟨f, fd, h1, h2, h3, ⟨fun vs H Q E ⟨W, ds, S, P, s, r, q, post⟩ => h4.len vs H Q (fun _ _ _ => False) ⟨W, ds, S, P, _, s, r, q, post, fun C fs S' W' H' d z => z.elim⟩, fun A outer s H args us vs Q E hr e0 hb rv ⟨W, ds, S, P, sm, r, q, post⟩ => ?_⟩⟩
  refine codeAny_mono (h4.run A outer s H args us vs Q (fun _ _ _ => False) hr e0 hb rv ⟨W, ds, S, P, _, sm, r, q, post, fun C fs S' W' H' d z => z.elim⟩) fun rr s' hq => ?_
  cases rr with
  | error e =>
    obtain ⟨a, B, H', cls, d, _, _, _, _, _, _, _, z⟩ := hq
    exact z.elim
  | ok fl =>
    cases fl with
    | ret u => exact hq
    | next => exact hq
    | brk => exact hq
    | cont => exact hq
/-- the code object c of the def x, and its table P, which the written part leaves out -/
structure TabF (K : PySem.W.Frag) (mg : Str → Option Value) (x : Str) (c P : Addr) : Prop where
  ex : ∃ (f : Addr) (o oc : Obj) (fd : FuncData) (vs : Array Value), mg x = some (.ref f) ∧ K.lookup f = some o ∧ o.data = .func fd ∧ fd.code = .ref c ∧ K.lookup c = some oc ∧ oc.data = .fields vs ∧ vs[11]? = some (.ref P)
  no : K.lookup P = none
theorem with_tab {K : PySem.W.Frag} {h : Heap} {mg : Str → Option Value} {goal : Prop} (X : K.In h) (G : h.Ns mainGlobals mg) (x : Str) {f c P : Addr} {oc cc : Value} {od cd : Option Addr} {fd : FuncData} {vs : Array Value} {osl csl : Array (Option Value)}
    (a : PySem.W.nsIn K mainGlobals x = some (some (.ref f))) (l : K.lookup f = some ⟨oc, od, .func fd, osl⟩) (hc : fd.code = .ref c) (lc : K.lookup c = some ⟨cc, cd, .fields vs, csl⟩) (hv : vs[11]? = some (.ref P)) (no : K.lookup P = none) (q : TabF K mg x c P → goal) : goal :=
  q ⟨⟨f, _, _, fd, vs, PySem.W.mg_of X G a, l, rfl, hc, lc, rfl, hv⟩, no⟩
/-- what the top's facts say of such a table -/
theorem TabF.tab {K : PySem.W.Frag} {mg mb : Str → Option Value} {q : Program} {loose : List Str} {mean : ExcName → Option Value} {h : Heap} {x : Str} {c P : Addr} (t : TabF K mg x c P) (T : Top q loose mean mg mb h) (X : K.In h) (hx : (recsOf q).any (fun d => d.name == x) = true) : h.get? P = some { cls := .none, data := .fields #[] } ∧ PySem.W.CodeHd h c P := by
  obtain ⟨f, o, oc, fd, vs, h1, h2, h3, h4, h5, h6, h7⟩ := t.ex
  obtain ⟨d, hd, he⟩ := List.any_eq_true.mp hx
  obtain ⟨a, o', fd', c', P', g1, g2, g3, g4, g5, g6⟩ := T.tab d hd
  rw [eq_of_beq he, h1] at g1
  cases g1
  rw [X _ _ h2] at g2
  cases g2
  rw [h3] at g3
  cases g3
  rw [h4] at g4
  cases g4
  have g6' := g6
  obtain ⟨⟨o2, us, e1, e2, e3, e4⟩, e5⟩ := g6'
  rw [X _ _ h5] at e1
  cases e1
  rw [h6] at e3
  cases e3
  rw [h7] at e4
  cases e4
  exact ⟨e5, PySem.W.CodeHd.of g5 g6⟩
/-- the tables of the defs ts: (name, code object, table) -/
theorem walk_tabs {l : PySem.W.OpenLaw} {n k : Nat} {q : Program} {loose : List Str} {XP : (Str → Option Value) → Heap → Prop} {YP : World → Heap → Prop} {d : DefRec} {K : Params → PySem.W.Frag} {x : Str} {sp : DSp} (ts : List (Str × Addr × Addr)) (qs : List (Addr × Str))
    (hn : l.most = some n) (hn2 : n ≤ sizeLine) (hdf : d.params.defaults = []) (hr : Room k callerA) (hY : ∀ (w : World) (h : Heap), YP w h → (K w.params).In h)
    (hrec : ts.all (fun t => (recsOf q).any (fun d => d.name == t.1)) = true) (hqs : qs.map (·.1) = ts.map (·.2.2)) (hnd : (qs.map (·.1)).Nodup)
    (F : ∀ (w : World) (mg : Str → Option Value) (fa : Addr) (h : Heap), (K w.params).In h → h.Ns mainGlobals mg → mg d.name = some (.ref fa) → (∀ t ∈ ts, TabF (K w.params) mg t.1 t.2.1 t.2.2) ∧
      ∃ fd : FuncData, (∀ (s : Shared) (u : Value), BindsTo s fd ⟨[u], []⟩ [(x, u)]) ∧ ∀ base : Heap, (K w.params).In base → base.Ns mainGlobals mg → (∀ t ∈ ts, TabB base mg t.2.1 t.2.2) → FnOk l.prog w (K w.params) mg base CX0 k fa fd [x] (liftSp (K w.params) sp))
    (hsp : ∀ ns : List Int, sp [.scr ns] (qs.map tabO) fun d _ => d = .bl true) :
    PySem.W.WalkO q loose XP YP l.row.toRowW d [] (fun f vs => PySem.call f vs) := by
  refine Att.attach_callB hn hdf fun w s₀ s₁ mg mb fa o pm cd doc a vs ns G Y ho hd hcd hmg hobj hints hlen hbits hg => ?_
  have KX := hY w _ Y
  obtain ⟨tf, fd, hb, hF⟩ := F w mg fa _ KX G.T.g hmg
  have hrec' : ∀ t ∈ ts, (recsOf q).any (fun d => d.name == t.1) = true := List.all_eq_true.mp hrec
  have tt : ∀ t ∈ ts, s₁.heap.get? t.2.2 = some { cls := .none, data := .fields #[] } ∧ PySem.W.CodeHd s₁.heap t.2.1 t.2.2 := fun t ht => (tf t ht).tab G.T KX (hrec' t ht)
  refine law_callTs (cs := ts.map (·.2)) (sp := liftSp (K w.params) sp) KX G.T.g G.T.b G.T.builtins G.T.nolimit hg (fun p hp => ?_) (fun p hp => ?_) (fun p hp => ?_) G.T.bmain hobj hints (Nat.le_trans hlen hn2) hr (fun base b1 b2 b3 => hF base b1 b2 fun t ht => b3 t.2 (List.mem_map.mpr ⟨t, ht, rfl⟩)) hb (fun H hH hS => ?_) fun H e s' z => z
  · obtain ⟨t, ht, rfl⟩ := List.mem_map.mp hp
    exact (tt t ht).1
  · obtain ⟨t, ht, rfl⟩ := List.mem_map.mp hp
    exact (tf t ht).no
  · obtain ⟨t, ht, rfl⟩ := List.mem_map.mp hp
    exact (tt t ht).2
  · have hq : ∀ p ∈ qs, H p.1 = some (.tbl #[]) := fun p hp => by
      have : p.1 ∈ ts.map (·.2.2) := by rw [← hqs]; exact List.mem_map.mpr ⟨p, hp, rfl⟩
      obtain ⟨t, ht, e⟩ := List.mem_map.mp this
      rw [← e]
      exact hH t.2 (List.mem_map.mpr ⟨t, ht, rfl⟩)
    refine ⟨⟨qs.map (·.1), noTab H⟩, [.scr ns], qs.map tabO, fun d _ => d = .bl true, ⟨fun b u e => (noTab_in e).1, by simp, hnd, fun a ha => ?_, fun i a o h1 h2 => ?_, fun b ps z => (noTab_in z).2 ps rfl⟩, .cons (.scr (noTab_sql hS)) .nil, hsp ns, fun d S' W' H' v e _ _ r => by subst e; exact r.bool⟩
    · obtain ⟨p, hp, rfl⟩ := List.mem_map.mp (show a ∈ qs.map (·.1) from ha)
      rw [hq p hp]
      exact fun z => nomatch z
    · have h1 : (qs.map (·.1))[i]? = some a := h1
      rw [List.getElem?_map] at h1 h2
      cases e : qs[i]? with
      | none => rw [e] at h1; cases h1
      | some p =>
        rw [e] at h1 h2
        cases h1
        cases h2
        have hp := hq p (List.mem_of_getElem? e)
        refine ⟨?_, rfl, #[], hp, trivial, fun pos cv hc => ?_⟩
        · show noTab H p.1 = none
          unfold noTab
          rw [hp]
        · have z : codeAmong pos [] = some cv := hc
          simp [codeAmong] at z
/-- the def x, its code object known -/
theorem Fun.code {K : PySem.W.Frag} {mg : Str → Option Value} {x : Str} {st : Stmt} {ps : List Str} {c P : Addr} (A : At K mg x st ps) (t : TabF K mg x c P) : ∃ (f : Addr) (oc kV doc pm ct : Value) (od an : Option Addr) (osl : Array (Option Value)), mg x = some (.ref f) ∧ K.lookup f = some ⟨oc, od, .func (PySem.W.fnOf x x (defArgs st) (defBody st) (defScope st) .none kV doc pm an (.ref c) ct), osl⟩ ∧ PySem.W.codeIn K (.ref c) x = true ∧ PySem.W.keepIn K (.ref f) = true ∧ Binds K (PySem.W.fnOf x x (defArgs st) (defBody st) (defScope st) .none kV doc pm an (.ref c) ct) ps [] := by
  obtain ⟨f, fd, h1, F, hb⟩ := A.ex
  obtain ⟨oc, od, kV, doc, pm, an, cdv, ct, osl, rfl, lk, hcd⟩ := F.ex
  obtain ⟨f', o, oc', fd', vs, g1, g2, g3, g4, _⟩ := t.ex
  rw [h1] at g1
  cases g1
  rw [lk] at g2
  cases g2
  cases g3
  have e : cdv = .ref c := g4
  subst e
  exact ⟨f, oc, kV, doc, pm, ct, od, an, osl, h1, lk, hcd, F.kp, hb⟩
end DL
namespace DL
open PySem PySem.Spec PyProof.Rows L2 LamX
section
variable {K : PySem.W.Frag} {h : Heap} {mg : Str → Option Value} {goal : Prop}
/-- a class of the top -/
theorem with_clsA (X : K.In h) (G : h.Ns mainGlobals mg) (x : Str) {C : Addr} (aC : PySem.W.nsIn K mainGlobals x = some (some (.ref C))) (q : mg x = some (.ref C) → goal) : goal := q (PySem.W.mg_of X G aC)
theorem with_xi {P : Program} {C : Addr} (qual : Str) (st : Stmt) (fs : List Str) {nm q : Str} {N : Addr} {bs bm : List Value} {sn : List Str} {sub : List Value} {ab : Bool} {col : Option Bool} {dd : Option Addr} {k0 k1 k2 k3 k5 : Option Value}
    {fI cda cc : Addr} {oc : Value} {od an : Option Addr} {osl : Array (Option Value)} {kV doc pm ct : Value} {ccl cl : Value} {cdd cld : Option Addr} {vs : Array Value} {ccs csl : Array (Option Value)} {file : Str} {tf : Tok}
    (lC : K.lookup C = some (excClassObj nm q C N bs bm true sn sub ab col dd k0 k1 k2 k3 k5 "ValueError.__new__")) (vb : PySem.HandSPX.refsVE bm = true)
    (sa : PySem.W.findIn K (.ref C) "__setattr__" = some (some (.builtin "object.__setattr__"))) (exC : PySem.W.subIn K (.ref C) (.type "BaseException") = some true) (tyC : PySem.W.typeIn K (.ref C) = some (.type "type")) (kC : PySem.W.keepIn K (.ref C) = true)
    (iC : PySem.W.findIn K (.ref C) "__init__" = some (some (.ref fI))) (tI : PySem.W.typeIn K (.ref fI) = some (.type "function"))
    (lI : K.lookup fI = some ⟨oc, od, .func (PySem.W.ksFn "__init__" qual (defArgs st) (defBody st) (defScope st) .none kV doc pm an (.ref cda) ct cc), osl⟩) (cI : PySem.W.codeIn K (.ref cda) qual = true)
    (lc : K.lookup cda = some ⟨ccl, cdd, .fields vs, ccs⟩) (hv : vs[2]? = some (.str file tf)) (hf : ((P.main.file : Str) == file) = true) (lcc : K.lookup cc = some ⟨cl, cld, .cell (some (.ref C)), csl⟩)
    (mro : PySem.W.mroIn K C (.ref C) = some true) (sub' : PySem.W.subIn K (.ref C) (.type "ValueError") = some true) (opq : PySem.W.nsIn K cStatics "thirdparty.any" = some none)
    (sup : PySem.W.ks_superIn K C C "__init__" = some (some (.builtin "ValueError.__init__")))
    (nf : ∀ f ∈ fs, PySem.W.findIn K (.ref C) f = some none)
    (bind : ∀ (kV doc pm : Value) (an : Option Addr) (cdv ct : Value) (cc : Addr) (us : List Value), us.length = fs.length + 1 → bindArgs (PySem.W.ksFn "__init__" qual (defArgs st) (defBody st) (defScope st) .none kV doc pm an cdv ct cc) ⟨us, []⟩ = pure ((("self" : Str) :: fs).zip us))
    (hp : ∃ ar, ((defArgs st).posonlyargs ++ (defArgs st).args).head? = some ar ∧ ar.arg = "self")
    (top : (P.main.scope.names.lookup ("super" : Str)).isSome = false)
    (ks : (defScope st).names.lookup ("super" : Str) = some .globalImplicit) (kc : (defScope st).names.lookup ("__class__" : Str) = some .free) (kl : ∀ x ∈ ("self" : Str) :: fs, (defScope st).names.lookup x = some .local ∧ (x == ("__debug__" : Str)) = false)
    (nc : ∀ x ∈ (defScope st).names, x.2 ≠ .cell) (co : (defScope st).isCoroutine = false) (gen : (defScope st).isGenerator = false) (kd : (defScope st).kind = .function) (few : fs.length ≤ 100) (nd : (("self" : Str) :: fs).Nodup)
    (body : ∃ (es : List Expr) (v1 v2 : Expr) (rest : List Stmt) (p0 p1 p2 p6 p7 p8 : Pos), defBody st = .Expr (.Call (.Attribute (.Call (.Name "super" p0) [] [] p1) "__init__" p2) [.JoinedStr (v1 :: v2 :: es) p6] [] p7) p8 :: rest ∧ Fp fs (v1 :: v2 :: es) ∧ es.length ≤ 100 ∧ Sts fs rest ∧
      ∀ (kV doc pm : Value) (an : Option Addr) (cdv ct : Value) (cc L f : Addr), interactive (iniEnv qual st kV doc pm an cdv ct cc L f) = false ∧ ∃ pl : Sem Bool, eval (.Call (.Attribute (.Call (.Name "super" p0) [] [] p1) "__init__" p2) [.JoinedStr (v1 :: v2 :: es) p6] [] p7) (iniEnv qual st kV doc pm an cdv ct cc L f) = (do
        let ov ← attributeBase (.Call (.Name "super" p0) [] [] p1) "__init__" (iniEnv qual st kV doc pm an cdv ct cc L f) (eval (.Call (.Name "super" p0) [] [] p1) (iniEnv qual st kV doc pm an cdv ct cc L f))
        standAt p2.atName
        let (f', first) ← holding [ov] (getMethod ov "__init__" pl)
        callWith p7 f' first (backTo p7 (starEach [.JoinedStr (v1 :: v2 :: es) p6] (iniEnv qual st kV doc pm an cdv ct cc L f))) []))
    (g : XiC P K C qual st fs → goal) : goal :=
  g ⟨⟨⟨nm, q, N, bs, bm, sn, sub, ab, col, dd, k0, k1, k2, k3, k5, lC, vb⟩, sa, exC, tyC, kC⟩, ⟨fI, cda, cc, oc, od, an, osl, kV, doc, pm, ct, ccl, cl, cdd, cld, vs, ccs, csl, file, tf, iC, tI, lI, cI, lc, hv, hf, lcc⟩, bind, hp, mro, sup, sub', opq, top, ks, kc, kl, nc, co, gen, kd, nf, few, nd, body⟩
end
end DL
namespace DL
open PySem PySem.Spec PyProof.Rows L2 LamX
theorem tabIn_of {T : List (Addr × Str)} {P : Addr} {q q' : Str} (e : q' = q) (h : (P, q) ∈ T) : (P, q') ∈ T := by rw [e]; exact h
theorem tabUn_of {T : List (Addr × Str)} {P : Addr} {q q' : Str} (e : q' = q) (h : ∀ p ∈ T, p.1 = P → p.2 = q) : ∀ p ∈ T, p.1 = P → p.2 = q' := by rw [e]; exact h
/-- what the text says of such a class's __init__ -/
structure XiS (P : Program) (qual : Str) (st : Stmt) (fs : List Str) : Prop where
  bind : ∀ (kV doc pm : Value) (an : Option Addr) (cdv ct : Value) (cc : Addr) (us : List Value), us.length = fs.length + 1 → bindArgs (PySem.W.ksFn "__init__" qual (defArgs st) (defBody st) (defScope st) .none kV doc pm an cdv ct cc) ⟨us, []⟩ = pure ((("self" : Str) :: fs).zip us)
  hp : ∃ ar, ((defArgs st).posonlyargs ++ (defArgs st).args).head? = some ar ∧ ar.arg = "self"
  top : (P.main.scope.names.lookup ("super" : Str)).isSome = false
  ks : (defScope st).names.lookup ("super" : Str) = some .globalImplicit
  kc : (defScope st).names.lookup ("__class__" : Str) = some .free
  kl : ∀ x ∈ ("self" : Str) :: fs, (defScope st).names.lookup x = some .local ∧ (x == ("__debug__" : Str)) = false
  nc : ∀ x ∈ (defScope st).names, x.2 ≠ .cell
  co : (defScope st).isCoroutine = false
  gen : (defScope st).isGenerator = false
  kd : (defScope st).kind = .function
  few : fs.length ≤ 100
  nd : (("self" : Str) :: fs).Nodup
  body : ∃ (es : List Expr) (v1 v2 : Expr) (rest : List Stmt) (p0 p1 p2 p6 p7 p8 : Pos), defBody st = .Expr (.Call (.Attribute (.Call (.Name "super" p0) [] [] p1) "__init__" p2) [.JoinedStr (v1 :: v2 :: es) p6] [] p7) p8 :: rest ∧ Fp fs (v1 :: v2 :: es) ∧ es.length ≤ 100 ∧ Sts fs rest ∧
    ∀ (kV doc pm : Value) (an : Option Addr) (cdv ct : Value) (cc L f : Addr), interactive (iniEnv qual st kV doc pm an cdv ct cc L f) = false ∧ ∃ pl : Sem Bool, eval (.Call (.Attribute (.Call (.Name "super" p0) [] [] p1) "__init__" p2) [.JoinedStr (v1 :: v2 :: es) p6] [] p7) (iniEnv qual st kV doc pm an cdv ct cc L f) = (do
      let ov ← attributeBase (.Call (.Name "super" p0) [] [] p1) "__init__" (iniEnv qual st kV doc pm an cdv ct cc L f) (eval (.Call (.Name "super" p0) [] [] p1) (iniEnv qual st kV doc pm an cdv ct cc L f))
      standAt p2.atName
      let (f', first) ← holding [ov] (getMethod ov "__init__" pl)
      callWith p7 f' first (backTo p7 (starEach [.JoinedStr (v1 :: v2 :: es) p6] (iniEnv qual st kV doc pm an cdv ct cc L f))) [])
end DL
namespace DL
open PySem PySem.Spec PyProof.Rows L2
inductive Pt where
  | con (x : Str) | cap (i : Nat)
inductive PatR (X : Cx) : Pattern → Pt → Prop where
  | con {x : Str} {k : Nat} {p p' : Pos} : PatR X (.MatchValue (.Constant (.str x) k p) p') (.con x)
  | cap {i : Nat} {n : Str} {p : Pos} : X.N.Nodup → X.N[i]? = some n → Loc X.env.scope n → (X.fn n = true ∨ X.env.scope.names.lookup n = some .local) → PatR X (.MatchAs none (some n) p) (.cap i)
inductive PatsR (X : Cx) : List Pattern → List Pt → Prop where
  | nil : PatsR X [] []
  | cons {p : Pattern} {t : Pt} {ps : List Pattern} {ts : List Pt} : PatR X p t → PatsR X ps ts → PatsR X (p :: ps) (t :: ts)
theorem PatsR.length {X : Cx} : ∀ {ps : List Pattern} {ts : List Pt}, PatsR X ps ts → ps.length = ts.length
  | _, _, .nil => rfl
  | _, _, .cons _ r => congrArg (· + 1) r.length
def okD : List Pt → List D → Prop
  | .con _ :: ps, v :: vs => (∃ y, v = .str y) ∧ okD ps vs
  | .cap _ :: ps, _ :: vs => okD ps vs
  | _, _ => True
def bindD : List Pt → List D → Option (List (Nat × D))
  | [], [] => some []
  | .con x :: ps, .str y :: vs => if y = x then bindD ps vs else none
  | .cap i :: ps, v :: vs => (bindD ps vs).map ((i, v) :: ·)
  | _, _ => none
def setsD (env : Ev) : List (Nat × D) → Ev
  | [] => env
  | b :: bs => setsD (env.set b.1 (some b.2)) bs
def dCases (xs : List D) : List (List Pt × DTS) → DTS
  | [] => fun E env S => E.nx env S
  | (ps, T) :: r => fun E env S => okD ps xs ∧ match bindD ps xs with
    | some bs => T E (setsD env bs) S
    | none => dCases xs r E env S
section
variable {E : DEnds} {env : Ev} {S : Sto} {Ts : DTE} {cs : List (List Pt × DTS)} {xs : List D} {ps : List Pt} {T : DTS} {bs : List (Nat × D)}
theorem i_hit (ok : okD ps xs) (h : bindD ps xs = some bs) (q : T E (setsD env bs) S) : dCases xs ((ps, T) :: cs) E env S := ⟨ok, by rw [h]; exact q⟩
theorem i_miss (ok : okD ps xs) (h : bindD ps xs = none) (q : dCases xs cs E env S) : dCases xs ((ps, T) :: cs) E env S := ⟨ok, by rw [h]; exact q⟩
end
end DL
namespace DL
open PySem PySem.Spec PyProof.Rows L2
/-- a method that may raise -/
def MFnX (P : Program) (w : World) (K : PySem.W.Frag) (mg : Str → Option Value) (base : Heap) (C : Addr) (m : Str) (k : Nat) (ps : List Str) (sp : DSpX) : Prop :=
  ∃ (f : Addr) (fd : FuncData), Meth K C m f ∧ Binds K fd ps [] ∧ FnOk P w K mg base (L2.CX P w) k f fd ps (liftSpX K sp)
theorem mfnX_at {P : Program} {w : World} {K : PySem.W.Frag} {mg : Str → Option Value} {base : Heap} {C : Addr} {m qual : Str} {st : Stmt} {ps : List Str} {k : Nat} {sp : DSpX} (h : MAt K C m qual st ps) (ok : ∀ f fd, Fun K m qual st f fd → FnOk P w K mg base (L2.CX P w) k f fd ps (liftSpX K sp)) : MFnX P w K mg base C m k ps sp := by
  obtain ⟨f, fd, h1, h2, h3⟩ := h.ex
  exact ⟨f, fd, h1, h3, ok f fd h2⟩
def dMethX (C : Addr) (m : Str) (sp : DSpX) (R : EX) (Ta : DTE) (TR : DTA) : DTE := fun env S P => Ta env S fun x S1 => (∃ i fs, x = .ref i ∧ S1[i]? = some (.ins C fs) ∧ fs.lookup m = none) ∧ TR env S1 fun ds S2 => sp (x :: ds) S2 P R
section
variable {X : Cx} {W0 : Bs} {a e : Expr} {es : List Expr} {Ta : DTE} {TR : DTA} {C : Addr} {m : Str} {pos apos : Pos}
theorem lift_methX {E : XK} {sp : DSpX} (px : PostX X.K W0.W W0.H W0.R E) {σ : L2.St} {H : Hp} {Q : VK} (h : liftE X.K W0 (dMethX C m sp W0.R Ta TR) σ H Q) : tMeth C m (liftSpX X.K sp) [] E (liftE X.K W0 Ta) (liftA X.K W0 TR) σ H Q := by
  obtain ⟨W, env, S, P, hW, sim, er, ht, post⟩ := h
  refine ⟨W, env, S, _, hW, sim, er, ht, fun x S1 W1 H1 v ⟨⟨i, fs, ex, hi, hf⟩, q1⟩ s1 l1 r1 => ?_⟩
  subst ex
  have r1' := r1
  cases r1 with
  | @ref _ b hb =>
    obtain ⟨_, dx, vs, hH, rr⟩ := s1.obj i b _ hb hi
    refine ⟨b, dx, _, rfl, hH, fld_none hf, W1, env, S1, _, hW.trans l1, s1, er.mono l1.le, q1, fun ds S2 W2 H2 us q2 s2 l2 r2 => ?_⟩
    show liftSpX X.K sp (V.ref b :: (us ++ [])) H2 Q E
    rw [List.append_nil]
    exact ⟨W2, _, S2, P, W0.R, s2, .cons (r1'.mono l2.le) r2, q2, post.mono (l1.trans l2), px.mono (((hW.trans l1).trans l2).stp)⟩
theorem pass_of {E : XK} (tk : Takes X (fun cls d _ H => E cls d H)) : Passes (L2.CX X.prog X.w) X E := fun _ _ _ _ e s' I c => tk e s' (XE.of_call I (fun _ _ _ h => h) c)
theorem de_methX {k : Nat} {ps : List Str} {sp : DSpX} (c : Cls X.K C) (h : MFnX X.prog X.w X.K X.mg X.base C m k ps sp) (hR : Rz X W0) (hr : Room k X.A) (ha : DE X W0 a Ta) (hs : DA X W0 (e :: es) TR) (hst : starEach (e :: es) X.env = (false, eval e X.env) :: starEach es X.env := by rfl) (hpl : (backTo pos (starEach es X.env)).any (·.1) = false := by rfl)
    {pl : Sem Bool} (ht : eval (.Call (.Attribute a m apos) (e :: es) [] pos) X.env = (do
      let ov ← eval a X.env
      standAt apos.atName
      let (f, first) ← holding [ov] (getMethod ov m pl)
      callWith pos f first (backTo pos (starEach (e :: es) X.env)) (backToKw pos (keywordEach [] X.env))) := by rfl) : DE X W0 (.Call (.Attribute a m apos) (e :: es) [] pos) (dMethX C m sp W0.R Ta TR) := by
  obtain ⟨f, fd, h1, h2, h3⟩ := h
  obtain ⟨E, tk, px⟩ := hR
  exact (pe_meth (pl := pl) ha c h1 h3 hr h2 .nil (pass_of tk) hs hst hpl ht).imp fun _ _ _ q => lift_methX px q
theorem i_methX {sp : DSpX} {R : EX} {env : Ev} {S : Sto} {P : DP} (q : Ta env S fun x S1 => (∃ i fs, x = .ref i ∧ S1[i]? = some (.ins C fs) ∧ fs.lookup m = none) ∧ TR env S1 fun ds S2 => sp (x :: ds) S2 P R) : dMethX C m sp R Ta TR env S P := q
end
end DL
namespace DL
open PySem PySem.Spec PyProof.Rows L2
inductive Kd where
  | lst | ins (C : Addr) (ns : List Str) | dct (ks : List Key)
inductive Tree where
  | leaf (d : D) | node (k : Kd) (ts : List Tree)
def Kd.obj : Kd → List D → O
  | .lst, ds => .lst ds
  | .ins C ns, ds => .ins C (ns.zip ds)
  | .dct ks, ds => .dct ks ds
def Kd.okN : Kd → Nat → Prop
  | .lst, _ => True
  | .ins _ ns, n => ns.length = n
  | .dct ks, n => ks.length = n
mutual
/-- d stands for the tree t; its objects are those at the places A, and no others' -/
inductive Own (S : Sto) : D → Tree → List Nat → Prop where
  | leaf {d : D} : Own S d (.leaf d) []
  | node {i : Nat} {k : Kd} {ds : List D} {ts : List Tree} {A : List Nat} : S[i]? = some (k.obj ds) → k.okN ds.length → Owns S ds ts A → i ∉ A → Own S (.ref i) (.node k ts) (i :: A)
inductive Owns (S : Sto) : List D → List Tree → List Nat → Prop where
  | nil : Owns S [] [] []
  | cons {d : D} {t : Tree} {A : List Nat} {ds : List D} {ts : List Tree} {B : List Nat} : Own S d t A → Owns S ds ts B → (∀ a ∈ A, a ∉ B) → Owns S (d :: ds) (t :: ts) (A ++ B)
end
section
variable {S S' : Sto}
mutual
/-- what isn't touched stays -/
theorem Own.frame : ∀ {d : D} {t : Tree} {A : List Nat}, Own S d t A → (∀ a ∈ A, S'[a]? = S[a]?) → Own S' d t A
  | _, _, _, .leaf, _ => .leaf
  | _, _, _, .node h1 h2 h3 h4, f => .node (by rw [f _ List.mem_cons_self]; exact h1) h2 (Owns.frame h3 fun a ha => f a (List.mem_cons_of_mem _ ha)) h4
theorem Owns.frame : ∀ {ds : List D} {ts : List Tree} {A : List Nat}, Owns S ds ts A → (∀ a ∈ A, S'[a]? = S[a]?) → Owns S' ds ts A
  | _, _, _, .nil, _ => .nil
  | _, _, _, .cons h1 h2 h3, f => .cons (Own.frame h1 fun a ha => f a (List.mem_append_left _ ha)) (Owns.frame h2 fun a ha => f a (List.mem_append_right _ ha)) h3
end
mutual
theorem Own.lt : ∀ {d : D} {t : Tree} {A : List Nat}, Own S d t A → ∀ a ∈ A, a < S.length
  | _, _, _, .leaf, a, h => by cases h
  | _, _, _, .node h1 _ h3 _, a, h => by
    rcases List.mem_cons.mp h with rfl | h
    · exact (List.getElem?_eq_some_iff.mp h1).1
    · exact Owns.lt h3 a h
theorem Owns.lt : ∀ {ds : List D} {ts : List Tree} {A : List Nat}, Owns S ds ts A → ∀ a ∈ A, a < S.length
  | _, _, _, .nil, a, h => by cases h
  | _, _, _, .cons h1 h2 _, a, h => by
    rcases List.mem_append.mp h with h | h
    · exact Own.lt h1 a h
    · exact Owns.lt h2 a h
end
/-- the store grows -/
theorem Own.grow {d : D} {t : Tree} {A : List Nat} (h : Own S d t A) (T : Sto) : Own (S ++ T) d t A := h.frame fun a ha => List.getElem?_append_left (h.lt a ha)
theorem Owns.grow {ds : List D} {ts : List Tree} {A : List Nat} (h : Owns S ds ts A) (T : Sto) : Owns (S ++ T) ds ts A := h.frame fun a ha => List.getElem?_append_left (h.lt a ha)
theorem Owns.length : ∀ {ds : List D} {ts : List Tree} {A : List Nat}, Owns S ds ts A → ds.length = ts.length
  | _, _, _, .nil => rfl
  | _, _, _, .cons _ h _ => congrArg (· + 1) h.length
theorem Owns.app : ∀ {ds : List D} {ts : List Tree} {A : List Nat}, Owns S ds ts A → ∀ {es : List D} {us : List Tree} {B : List Nat}, Owns S es us B → (∀ a ∈ A, a ∉ B) → Owns S (ds ++ es) (ts ++ us) (A ++ B)
  | _, _, _, .nil, _, _, _, h, _ => h
  | _, _, _, .cons h1 h2 h3, es, us, B, h, n => by
    rw [List.append_assoc]
    refine .cons h1 (h2.app h fun a ha => n a (List.mem_append_right _ ha)) fun a ha z => ?_
    rcases List.mem_append.mp z with z | z
    · exact h3 a ha z
    · exact n a (List.mem_append_left _ ha) z
theorem Owns.one {d : D} {t : Tree} {A : List Nat} (h : Own S d t A) : Owns S [d] [t] A := by
  have := Owns.cons h Owns.nil (fun a _ z => by cases z)
  rwa [List.append_nil] at this
/-- one of several, looked at and put back -/
theorem Owns.at : ∀ {ds : List D} {ts : List Tree} {A : List Nat}, Owns S ds ts A → ∀ {j : Nat} {t : Tree}, ts[j]? = some t → ∃ d Aj, ds[j]? = some d ∧ Own S d t Aj ∧ (∀ a ∈ Aj, a ∈ A) ∧
    ∀ (S' : Sto) (d' : D) (t' : Tree) (A' : List Nat), Own S' d' t' A' → (∀ a ∈ A, a ∉ Aj → S'[a]? = S[a]?) → (∀ a ∈ A', a ∈ Aj ∨ a ∉ A) → ∃ B, Owns S' (ds.set j d') (ts.set j t') B ∧ ∀ b ∈ B, (b ∈ A ∧ b ∉ Aj) ∨ b ∈ A'
  | _, _, _, .nil, j, t, e => by simp at e
  | _, _, _, @Owns.cons _ d t0 A0 ds ts B h1 h2 h3, 0, t, e => by
    have e : t0 = t := by simpa using e
    subst e
    refine ⟨d, A0, rfl, h1, fun a ha => List.mem_append_left _ ha, fun S' d' t' A' h f n => ?_⟩
    have hd : ∀ a ∈ A', a ∉ B := fun a ha z => by
      rcases n a ha with q | q
      · exact h3 a q z
      · exact q (List.mem_append_right _ z)
    refine ⟨A' ++ B, .cons h (h2.frame fun a ha => f a (List.mem_append_right _ ha) fun z => h3 a z ha) hd, fun b hb => ?_⟩
    rcases List.mem_append.mp hb with hb | hb
    · exact .inr hb
    · exact .inl ⟨List.mem_append_right _ hb, fun z => h3 b z hb⟩
  | _, _, _, @Owns.cons _ d t0 A0 ds ts B h1 h2 h3, j + 1, t, e => by
    obtain ⟨dj, Aj, e1, o1, s1, p1⟩ := Owns.at h2 (j := j) (t := t) (by simpa using e)
    refine ⟨dj, Aj, by simpa using e1, o1, fun a ha => List.mem_append_right _ (s1 a ha), fun S' d' t' A' h f n => ?_⟩
    obtain ⟨B', o2, s2⟩ := p1 S' d' t' A' h (fun a ha => f a (List.mem_append_right _ ha)) (fun a ha => (n a ha).imp id fun q z => q (List.mem_append_right _ z))
    have hd : ∀ a ∈ A0, a ∉ B' := fun a ha z => by
      rcases s2 a z with ⟨q, _⟩ | q
      · exact h3 a ha q
      · rcases n a q with r | r
        · exact h3 a ha (s1 a r)
        · exact r (List.mem_append_left _ ha)
    refine ⟨A0 ++ B', .cons (h1.frame fun a ha => f a (List.mem_append_left _ ha) fun z => h3 a ha (s1 a z)) o2 hd, fun b hb => ?_⟩
    rcases List.mem_append.mp hb with hb | hb
    · exact .inl ⟨List.mem_append_left _ hb, fun z => h3 b hb (s1 b z)⟩
    · rcases s2 b hb with ⟨q1, q2⟩ | q
      · exact .inl ⟨List.mem_append_right _ q1, q2⟩
      · exact .inr q
end
def Tree.get : Tree → List Nat → Option Tree
  | t, [] => some t
  | .node _ ts, j :: π => match ts[j]? with
    | some t => t.get π
    | none => none
  | .leaf _, _ :: _ => none
def Tree.put : Tree → List Nat → Tree → Tree
  | _, [], u => u
  | .node k ts, j :: π, u => match ts[j]? with
    | some t => .node k (ts.set j (t.put π u))
    | none => .node k ts
  | .leaf d, _ :: _, _ => .leaf d
end DL
namespace DL
open PySem PySem.Spec PyProof.Rows L2
/-- the last one taken off -/
theorem Owns.last {S : Sto} : ∀ {ds : List D} {ts : List Tree} {A : List Nat}, Owns S ds ts A → ∀ {t : Tree}, ts[ts.length - 1]? = some t → ∃ d A1 A2, ds[ds.length - 1]? = some d ∧ Own S d t A1 ∧ Owns S ds.dropLast ts.dropLast A2 ∧ (∀ a ∈ A1, a ∈ A ∧ a ∉ A2) ∧ ∀ a ∈ A2, a ∈ A
  | _, _, _, .nil, t, e => by simp at e
  | _, _, _, @Owns.cons _ d t0 A0 [] _ _ h1 h2 h3, t, e => by
    cases h2
    have e := Option.some.inj (by simpa using e)
    subst e
    exact ⟨d, A0, [], rfl, h1, .nil, fun a ha => ⟨List.mem_append_left _ ha, fun z => by cases z⟩, fun a z => by cases z⟩
  | _, _, _, @Owns.cons _ d t0 A0 (d1 :: ds) (t1 :: ts) B h1 h2 h3, t, e => by
    obtain ⟨dl, A1, A2, e1, o1, o2, s1, s2⟩ := Owns.last h2 (t := t) (by simpa using e)
    refine ⟨dl, A1, A0 ++ A2, by simpa using e1, o1, ?_, fun a ha => ⟨List.mem_append_right _ (s1 a ha).1, fun z => ?_⟩, fun a ha => ?_⟩
    · exact .cons h1 o2 fun a ha z => h3 a ha (s2 a z)
    · rcases List.mem_append.mp z with z | z
      · exact h3 a z (s1 a ha).1
      · exact (s1 a ha).2 z
    · rcases List.mem_append.mp ha with ha | ha
      · exact List.mem_append_left _ ha
      · exact List.mem_append_right _ (s2 a ha)
/-- new objects -/
theorem Own.new {S : Sto} {k : Kd} {ds : List D} {ts : List Tree} {A : List Nat} (h : Owns S ds ts A) (ok : k.okN ds.length) : Own (S ++ [k.obj ds]) (.ref S.length) (.node k ts) (S.length :: A) :=
  .node (by rw [List.getElem?_append_right (Nat.le_refl _), Nat.sub_self]; rfl) ok (h.grow _) fun z => absurd (h.lt _ z) (Nat.lt_irrefl _)
end DL
namespace DL
open PySem PySem.Spec PyProof.Rows L2
section
variable {X : Cx} {W0 : Bs} {a b c e tg : Expr} {es : List Expr} {Ta Tb Tc T : DTE} {TA : DTT} {TR : DTA} {pos p apos cpos : Pos}
def xRv (P : IP) (ds : List D) (S : Sto) : Prop := ∃ xs, ds = [.lst xs] ∧ P xs.reverse (fun _ => True) S
def iRv (TR : DTA) : DTI := fun env S P => TR env S (xRv P)
def dRvM (Ta : DTE) : DTE := fun env S P => Ta env S fun x S1 => ∃ i xs, x = .ref i ∧ S1[i]? = some (.lst xs) ∧ P .non (S1.set i (.lst xs.reverse))
theorem i_rvm {env : Ev} {S : Sto} {P : DP} (q : Ta env S fun x S1 => ∃ i xs, x = .ref i ∧ S1[i]? = some (.lst xs) ∧ P .non (S1.set i (.lst xs.reverse))) : dRvM Ta env S P := q
instance {env : Ev} {S : Sto} {P : DP} : Wk (dRvM Ta env S P) (Ta env S fun x S1 => ∃ i xs, x = .ref i ∧ S1[i]? = some (.lst xs) ∧ P .non (S1.set i (.lst xs.reverse))) := ⟨fun q => i_rvm q⟩
def rangeN (lo : Int) (n : Nat) : List D := (List.range n).map fun (k : Nat) => D.int (lo + (k : Int) * (-1))
def xRg3 (P : IP) (ds : List D) (S : Sto) : Prop := ∃ i j, ds = [.int i, .int j, .int (-1)] ∧ (-(2 ^ 62) ≤ i ∧ i < 2 ^ 62 ∧ -(2 ^ 62) ≤ j ∧ j < 2 ^ 62) ∧ P (rangeN i (i - j).toNat) (fun _ => True) S
def iRg3 (TR : DTA) : DTI := fun env S P => TR env S (xRg3 P)
def xDget2 (P : D → Prop) (x y z : D) : Prop := ∃ ks ds k, x = .dct ks ds ∧ keyOf y = some k ∧ P ((dlook ks ds k).getD z)
def dDget2 (Ta Tb Tc : DTE) : DTE := fun env S P => Ta env S fun x S1 => (∃ ks ds, x = .dct ks ds) ∧ Tb env S1 fun y S2 => Tc env S2 fun z S3 => xDget2 (fun d => P d S3) x y z
theorem i_dget2 {env : Ev} {S : Sto} {P : DP} (q : Ta env S fun x S1 => (∃ ks ds, x = .dct ks ds) ∧ Tb env S1 fun y S2 => Tc env S2 fun z S3 => xDget2 (fun d => P d S3) x y z) : dDget2 Ta Tb Tc env S P := q
instance {env : Ev} {S : Sto} {P : DP} : Wk (dDget2 Ta Tb Tc env S P) (Ta env S fun x S1 => (∃ ks ds, x = .dct ks ds) ∧ Tb env S1 fun y S2 => Tc env S2 fun z S3 => xDget2 (fun d => P d S3) x y z) := ⟨fun q => i_dget2 q⟩
theorem i_isdct {ks : List Key} {ds : List D} {A : Prop} (q : A) : (∃ ks' ds', D.dct ks ds = .dct ks' ds') ∧ A := ⟨⟨ks, ds, rfl⟩, q⟩
theorem i_xdget2 {ks : List Key} {ds : List D} {y z : D} {k : Key} {F : D → Prop} (hk : keyOf y = some k) (q : F ((dlook ks ds k).getD z)) : xDget2 F (.dct ks ds) y z := ⟨ks, ds, k, rfl, hk, q⟩
def dEmpD : DTE := fun _ S P => P (.ref S.length) (S ++ [.dct [] []])
theorem i_irg2 {env : Ev} {S : Sto} {F : IP} (q : TR env S (xRg2 F)) : iRg2 TR env S F := q
instance {env : Ev} {S : Sto} {F : IP} : Wk (iRg2 TR env S F) (TR env S (xRg2 F)) := ⟨fun q => i_irg2 q⟩
theorem i_irg3 {env : Ev} {S : Sto} {F : IP} (q : TR env S (xRg3 F)) : iRg3 TR env S F := q
instance {env : Ev} {S : Sto} {F : IP} : Wk (iRg3 TR env S F) (TR env S (xRg3 F)) := ⟨fun q => i_irg3 q⟩
theorem i_irv {env : Ev} {S : Sto} {F : IP} (q : TR env S (xRv F)) : iRv TR env S F := q
instance {env : Ev} {S : Sto} {F : IP} : Wk (iRv TR env S F) (TR env S (xRv F)) := ⟨fun q => i_irv q⟩
theorem i_new0 {env : Ev} {S : Sto} {P : DP} (q : P (.ref S.length) (S ++ [.dct [] []])) : dEmpD env S P := q
instance {env : Ev} {S : Sto} {P : DP} : Wk (dEmpD env S P) (P (.ref S.length) (S ++ [.dct [] []])) := ⟨fun q => i_new0 q⟩
def setNewD (x y d : D) (S : Sto) (P : Sto → Prop) : Prop := ∃ i ks ds k, x = .ref i ∧ S[i]? = some (.dct ks ds) ∧ keyOf y = some k ∧ k ∉ ks ∧ ks.length ≤ 1000 ∧ P (S.set i (.dct (ks ++ [k]) (ds ++ [d])))
def gSbN (Ta Tb : DTE) : DTG := fun d env S P => Ta env S fun x S1 => Tb env S1 fun y S2 => setNewD x y d S2 fun S3 => P env S3
theorem i_sbN {d : D} {env : Ev} {S : Sto} {N : Ev → Sto → Prop} (q : Ta env S fun x S1 => Tb env S1 fun y S2 => setNewD x y d S2 fun S3 => N env S3) : gSbN Ta Tb d env S N := q
instance {d : D} {env : Ev} {S : Sto} {N : Ev → Sto → Prop} : Wk (gSbN Ta Tb d env S N) (Ta env S fun x S1 => Tb env S1 fun y S2 => setNewD x y d S2 fun S3 => N env S3) := ⟨fun q => i_sbN q⟩
end
end DL
namespace DL
open PySem PySem.Spec PyProof.Rows L2
section
variable {X : Cx} {W0 : Bs} {tg : Expr} {TI : DTI} {G : DTG} {TK TV : DTE} {ss : List Nat} {pos : Pos}
def xDc (ds : List D) (ok : Sto → Prop) (S1 : Sto) (G : DTG) (TT : DTT) (TK TV : DTE) (vs : List Nat) (env : Ev) (P : DP) : Prop := ∃ I : Nat → List Key → List D → Sto → Prop, I 0 [] [] S1 ∧ (∀ i ks acc S', i ≤ ds.length → I i ks acc S' → ok S' ∧ ks.length < sizeLine ∧ ks.length = acc.length) ∧
  (∀ i x ks acc S', ds[i]? = some x → I i ks acc S' → G x (wipeE env vs) S' fun env2 S2 => TT env2 S2 fun k S3 => if k = true then TK env2 S3 fun y S4 => TV env2 S4 fun z S5 => ∃ q, keyOf y = some q ∧ q ∉ ks ∧ I (i + 1) (ks ++ [q]) (acc ++ [z]) S5 else I (i + 1) ks acc S3) ∧ ∀ ks acc S', I ds.length ks acc S' → P (.dct ks acc) S'
def dDc (TI : DTI) (G : DTG) (TT : DTT) (TK TV : DTE) (vs : List Nat) : DTE := fun env S P => TI env S fun ds ok S1 => xDc ds ok S1 G TT TK TV vs env P
theorem i_dc {TT : DTT} {vs : List Nat} {env : Ev} {S : Sto} {P : DP} (q : TI env S fun ds ok S1 => xDc ds ok S1 G TT TK TV vs env P) : dDc TI G TT TK TV vs env S P := q
instance {TT : DTT} {vs : List Nat} {env : Ev} {S : Sto} {P : DP} : Wk (dDc TI G TT TK TV vs env S P) (TI env S fun ds ok S1 => xDc ds ok S1 G TT TK TV vs env P) := ⟨fun q => i_dc q⟩
end
end DL
namespace DL
open PySem PySem.Spec PyProof.Rows L2
end DL
namespace DL
open PySem PySem.Spec PyProof.Rows L2
abbrev Pl := List (Nat × O)
structure Hd (S : Sto) (L : Pl) : Prop where
  nd : (L.map (·.1)).Nodup
  at_ : ∀ p ∈ L, S[p.1]? = some p.2
  pl : ∀ i o, S[i]? = some o → plainO o = true ∨ (i, o) ∈ L
section
variable {S : Sto} {L A B : Pl} {i : Nat} {o o' : O}
theorem Hd.get (h : Hd S L) (hm : (i, o) ∈ L) : S[i]? = some o := h.at_ _ hm
theorem Hd.lt (h : Hd S L) {p : Nat × O} (hm : p ∈ L) : p.1 < S.length := (List.getElem?_eq_some_iff.mp (h.at_ p hm)).1
theorem Hd.perm {L' : Pl} (h : Hd S L) (p : L.Perm L') : Hd S L' := ⟨(p.map _).nodup_iff.mp h.nd, fun q hq => h.at_ q (p.mem_iff.mpr hq), fun i o z => (h.pl i o z).imp id fun m => p.mem_iff.mp m⟩
theorem Hd.set (h : Hd S (A ++ (i, o) :: B)) (o' : O) : Hd (S.set i o') (A ++ (i, o') :: B) := by
  have e : ∀ o : O, ((A ++ (i, o) :: B).map (·.1)) = A.map (·.1) ++ i :: B.map (·.1) := fun o => by rw [List.map_append, List.map_cons]
  have nd := h.nd
  rw [e] at nd
  obtain ⟨n1, n2, n3⟩ := List.nodup_append.mp nd
  have hA : ∀ p ∈ A, p.1 ≠ i := fun p hp => n3 _ (List.mem_map.mpr ⟨p, hp, rfl⟩) _ List.mem_cons_self
  have hB : ∀ p ∈ B, p.1 ≠ i := fun p hp z => (List.nodup_cons.mp n2).1 (z ▸ List.mem_map.mpr ⟨p, hp, rfl⟩)
  have hi := h.lt (p := (i, o)) (List.mem_append_right _ List.mem_cons_self)
  refine ⟨by rw [e]; exact nd, fun p hp => ?_, fun j x z => ?_⟩
  rotate_left
  · by_cases hj : j = i
    · subst hj
      rw [List.getElem?_set_self hi] at z
      cases z
      exact .inr (List.mem_append_right _ List.mem_cons_self)
    · rw [List.getElem?_set_ne (Ne.symm hj)] at z
      refine (h.pl j x z).imp id fun m => ?_
      rcases List.mem_append.mp m with m | m
      · exact List.mem_append_left _ m
      · rcases List.mem_cons.mp m with m | m
        · cases m
          exact absurd rfl hj
        · exact List.mem_append_right _ (List.mem_cons_of_mem _ m)
  rcases List.mem_append.mp hp with hp | hp
  · rw [List.getElem?_set_ne (Ne.symm (hA p hp))]
    exact h.at_ p (List.mem_append_left _ hp)
  · rcases List.mem_cons.mp hp with rfl | hp
    · exact List.getElem?_set_self hi
    · rw [List.getElem?_set_ne (Ne.symm (hB p hp))]
      exact h.at_ p (List.mem_append_right _ (List.mem_cons_of_mem _ hp))
theorem Hd.new (h : Hd S (A ++ B)) (o : O) : Hd (S ++ [o]) (A ++ (S.length, o) :: B) := by
  have hl : ∀ p ∈ A ++ B, p.1 < S.length := fun p hp => h.lt hp
  refine ⟨?_, fun p hp => ?_, fun j x z => ?_⟩
  rotate_left 2
  · by_cases hj : j < S.length
    · rw [List.getElem?_append_left hj] at z
      refine (h.pl j x z).imp id fun m => ?_
      rcases List.mem_append.mp m with m | m
      · exact List.mem_append_left _ m
      · exact List.mem_append_right _ (List.mem_cons_of_mem _ m)
    · have hl := (List.getElem?_eq_some_iff.mp z).1
      rw [List.length_append, List.length_singleton] at hl
      obtain rfl : j = S.length := by omega
      rw [List.getElem?_append_right (Nat.le_refl _), Nat.sub_self] at z
      cases z
      exact .inr (List.mem_append_right _ List.mem_cons_self)
  · rw [List.map_append, List.map_cons]
    have nd := h.nd
    rw [List.map_append] at nd
    obtain ⟨n1, n2, n3⟩ := List.nodup_append.mp nd
    refine List.nodup_append.mpr ⟨n1, List.nodup_cons.mpr ⟨fun z => ?_, n2⟩, fun a ha b hb => ?_⟩
    · obtain ⟨q, hq, e⟩ := List.mem_map.mp z
      have := hl q (List.mem_append_right _ hq)
      omega
    · rcases List.mem_cons.mp hb with rfl | hb
      · obtain ⟨q, hq, rfl⟩ := List.mem_map.mp ha
        exact Nat.ne_of_lt (hl q (List.mem_append_left _ hq))
      · exact n3 a ha b hb
  · rcases List.mem_append.mp hp with hp | hp
    · rw [List.getElem?_append_left (hl p (List.mem_append_left _ hp))]
      exact h.at_ p (List.mem_append_left _ hp)
    · rcases List.mem_cons.mp hp with rfl | hp
      · rw [List.getElem?_append_right (Nat.le_refl _), Nat.sub_self]
        rfl
      · rw [List.getElem?_append_left (hl p (List.mem_append_right _ hp))]
        exact h.at_ p (List.mem_append_right _ hp)
theorem Hd.sub {L' : Pl} (h : Hd S L) (s : L'.Sublist L) (g : ∀ p ∈ L, p ∈ L' ∨ plainO p.2 = true) : Hd S L' := ⟨(s.map _).nodup h.nd, fun p hp => h.at_ p (s.subset hp), fun i o z => (h.pl i o z).elim .inl fun m => (g _ m).symm⟩
/-- the whole of a store -/
def allPl (S : Sto) : Pl := S.zipIdx.map fun p => (p.2, p.1)
theorem mem_allPl {S : Sto} {i : Nat} {o : O} : (i, o) ∈ allPl S ↔ S[i]? = some o := by
  unfold allPl
  rw [List.mem_map]
  constructor
  · rintro ⟨⟨x, k⟩, h, e⟩
    cases e
    exact List.mem_zipIdx_iff_getElem?.mp h
  · intro h
    exact ⟨(o, i), List.mem_zipIdx_iff_getElem?.mpr h, rfl⟩
theorem allPl_hd (S : Sto) : Hd S (allPl S) := by
  refine ⟨?_, fun p hp => mem_allPl.mp hp, fun i o z => .inr (mem_allPl.mpr z)⟩
  unfold allPl
  rw [List.map_map]
  have : (S.zipIdx.map ((fun p : Nat × O => p.1) ∘ fun p : O × Nat => (p.2, p.1))) = S.zipIdx.map Prod.snd := rfl
  rw [this, List.zipIdx_map_snd]
  exact List.nodup_range'
theorem Hd.junk {S S' : Sto} {L : Pl} (h : Hd S' (L ++ allPl S)) (g : ∀ p ∈ L, plainO p.2 = true) : (S'.drop S.length).all plainO = true := by
  rw [List.all_eq_true]
  intro o ho
  obtain ⟨i, hi⟩ := List.getElem?_of_mem ho
  rw [List.getElem?_drop] at hi
  rcases h.pl _ _ hi with z | z
  · exact z
  · rcases List.mem_append.mp z with z | z
    · exact g _ z
    · have := (List.getElem?_eq_some_iff.mp (mem_allPl.mp z)).1
      omega
theorem Hd.prefix {S S' : Sto} {L : Pl} (h : Hd S' (L ++ allPl S)) : S' = S ++ S'.drop S.length := by
  have e : ∀ i, i < S.length → S'[i]? = S[i]? := fun i hi => by
    have hs : S[i]? = some S[i] := List.getElem?_eq_getElem hi
    rw [hs]
    exact h.get (List.mem_append_right _ (mem_allPl.mpr hs))
  refine List.ext_getElem? fun k => ?_
  by_cases hk : k < S.length
  · rw [e k hk, List.getElem?_append_left hk]
  · rw [List.getElem?_append_right (by omega), List.getElem?_drop, show S.length + (k - S.length) = k by omega]
end
end DL
namespace DL
open PySem PySem.Spec PyProof.Rows L2
/-- a call: the function, the place among its rows, its boxes, the caller's box for what it tells -/
structure CS where
  f : Nat
  pl : Nat
  cells : List Int
  into : Option Int
structure Hs where
  told : List D
  said : List D
  evs : List D
  done : Int
  st : List CS
structure Loc where
  r : Nat
  rs : Nat
  sd : Nat
  ev : Nat
  hl : Nat
def stkL (mk : CS → Nat → O) : List (Nat × Nat) → List CS → Pl
  | q :: cs, c :: st => (q.1, mk c q.2) :: (q.2, .lst (c.cells.map .int)) :: stkL mk cs st
  | _, _ => []
theorem stkL_plain {mk : CS → Nat → O} (hmk : ∀ c b, plainO (mk c b) = true) : ∀ (cs : List (Nat × Nat)) (st : List CS), ∀ p ∈ stkL mk cs st, plainO p.2 = true
  | [], _, p, h => by cases h
  | _ :: _, [], p, h => by cases h
  | q :: cs, c :: st, p, h => by
    rcases List.mem_cons.mp h with rfl | h
    · exact hmk _ _
    · rcases List.mem_cons.mp h with rfl | h
      · rfl
      · exact stkL_plain hmk cs st p h
def refsL (cs : List (Nat × Nat)) : List D := (cs.map fun q => D.ref q.1).reverse
def coreL (top : Int → O) (mk : CS → Nat → O) (L : Loc) (cs : List (Nat × Nat)) (s : Hs) : Pl :=
  (L.r, top s.done) :: (L.rs, .lst s.told) :: (L.sd, .lst s.said) :: (L.ev, .lst s.evs) :: (L.hl, .lst (refsL cs)) :: stkL mk cs s.st
structure Core (top : Int → O) (mk : CS → Nat → O) (F : Pl) (L : Loc) (S : Sto) (cs : List (Nat × Nat)) (s : Hs) : Prop where
  hd : Hd S (coreL top mk L cs s ++ F)
  len : cs.length = s.st.length
section
variable {tp : Int → O} {mk : CS → Nat → O} {F : Pl} {L : Loc} {S : Sto} {cs : List (Nat × Nat)} {s : Hs} {c c' : CS} {st : List CS} {q : Nat × Nat}
theorem Core.top (h : Core tp mk F L S cs s) : S[L.r]? = some (tp s.done) := h.hd.get (by simp [coreL])
theorem Core.told (h : Core tp mk F L S cs s) : S[L.rs]? = some (.lst s.told) := h.hd.get (by simp [coreL])
theorem Core.said (h : Core tp mk F L S cs s) : S[L.sd]? = some (.lst s.said) := h.hd.get (by simp [coreL])
theorem Core.ev (h : Core tp mk F L S cs s) : S[L.ev]? = some (.lst s.evs) := h.hd.get (by simp [coreL])
theorem Core.hl (h : Core tp mk F L S cs s) : S[L.hl]? = some (.lst (refsL cs)) := h.hd.get (by simp [coreL])
theorem Core.call (h : Core tp mk F L S (q :: cs) s) (e : s.st = c :: st) : S[q.1]? = some (mk c q.2) ∧ S[q.2]? = some (.lst (c.cells.map .int)) := by
  have : coreL tp mk L (q :: cs) s = (L.r, tp s.done) :: (L.rs, .lst s.told) :: (L.sd, .lst s.said) :: (L.ev, .lst s.evs) :: (L.hl, .lst (refsL (q :: cs))) :: (q.1, mk c q.2) :: (q.2, .lst (c.cells.map .int)) :: stkL mk cs st := by
    unfold coreL
    rw [e]
    rfl
  have hd := h.hd
  rw [this] at hd
  exact ⟨hd.get (by simp), hd.get (by simp)⟩
theorem refsL_cons (q : Nat × Nat) (cs : List (Nat × Nat)) : refsL (q :: cs) = refsL cs ++ [.ref q.1] := by unfold refsL; rw [List.map_cons, List.reverse_cons]
theorem Core.frame (h : Core tp mk F L S cs s) (htp : ∀ d, plainO (tp d) = true) (hmk : ∀ c b, plainO (mk c b) = true) : Hd S F := by
  refine h.hd.sub (List.sublist_append_right _ _) fun p hp => ?_
  rcases List.mem_append.mp hp with hp | hp
  · unfold coreL at hp
    simp only [List.mem_cons] at hp
    rcases hp with h | h | h | h | h | h
    · exact .inr (by rw [h]; exact htp _)
    · exact .inr (by rw [h]; rfl)
    · exact .inr (by rw [h]; rfl)
    · exact .inr (by rw [h]; rfl)
    · exact .inr (by rw [h]; rfl)
    · exact .inr (stkL_plain hmk _ _ _ h)
  · exact .inl hp
/-- the store grows by a call's two objects, in the one order or the other -/
theorem Core.push (h : Core tp mk F L S cs s) (c : CS) : Core tp mk F L ((S ++ [mk c (S.length + 1), .lst (c.cells.map .int)]).set L.hl (.lst (refsL cs ++ [.ref S.length]))) ((S.length, S.length + 1) :: cs) { s with st := c :: s.st } := by
  refine ⟨?_, by simp [h.len]⟩
  have h1 := Hd.new (A := [(L.r, tp s.done), (L.rs, .lst s.told), (L.sd, .lst s.said), (L.ev, .lst s.evs), (L.hl, .lst (refsL cs))]) (B := stkL mk cs s.st ++ F) h.hd (mk c (S.length + 1))
  have h2 := Hd.new (A := [(L.r, tp s.done), (L.rs, .lst s.told), (L.sd, .lst s.said), (L.ev, .lst s.evs), (L.hl, .lst (refsL cs)), (S.length, mk c (S.length + 1))]) (B := stkL mk cs s.st ++ F) h1 (.lst (c.cells.map .int))
  rw [List.length_append, List.length_singleton, List.append_assoc] at h2
  have h3 := Hd.set (A := [(L.r, tp s.done), (L.rs, .lst s.told), (L.sd, .lst s.said), (L.ev, .lst s.evs)]) (B := (S.length, mk c (S.length + 1)) :: (S.length + 1, .lst (c.cells.map .int)) :: stkL mk cs s.st ++ F) (i := L.hl) (o := .lst (refsL cs)) h2 (.lst (refsL cs ++ [.ref S.length]))
  unfold coreL
  rw [refsL_cons]
  exact h3
end
end DL
namespace DL
open PySem PySem.Spec PyProof.Rows L2
end DL
namespace DL
open PySem PySem.Spec PyProof.Rows L2
end DL
namespace DL
open PySem PySem.Spec PyProof.Rows L2
end DL
namespace DL
open PySem PySem.Spec PyProof.Rows L2
end DL
namespace DL
open PySem PySem.Spec PyProof.Rows L2
end DL
namespace DL
open PySem PySem.Spec PyProof.Rows L2
theorem tuple_mul1 (l : Addr) (items : Array Value) (n : Nat) (dd : Option Addr) (sl : Array (Option Value)) (u : Tok) :
    Meets (Builtin.«tuple.__mul__» ⟨[.ref l, .int 1 u], []⟩) (fun _ R s => s.heap.get? l = some { cls := .type "tuple", dict := dd, data := .seq items n, slots := sl } ∧ R (.ok (.ret (Value.ref l))) s) :=
  .of_wp fun prog w A R s h => by
    obtain ⟨hp, g, d, tk, os⟩ := s
    obtain ⟨hl, h⟩ := h
    have f1 := AutoSeq1.idx_int
    wp_walk using wpAny_loadPart' hl
    exact ⟨_, rfl, h⟩
theorem tuple_mul0 (l : Addr) (items : Array Value) (n : Nat) (dd : Option Addr) (sl : Array (Option Value)) (u : Tok) (hi : items.isEmpty = false) :
    Meets (Builtin.«tuple.__mul__» ⟨[.ref l, .int 0 u], []⟩) (fun _ R s => s.heap.get? l = some { cls := .type "tuple", dict := dd, data := .seq items n, slots := sl } ∧ R (.ok (.ret (Value.ref s.heap.objs.size))) { s with heap := s.heap.push { cls := Value.type "tuple", data := Data.seq #[] }, toks := s.toks }) :=
  .of_wp fun prog w A R s h => by
    obtain ⟨hp, g, d, tk, os⟩ := s
    obtain ⟨hl, h⟩ := h
    have f1 := AutoSeq1.idx_int
    wp_walk using wpAny_loadPart' hl
    exact ⟨_, rfl, h⟩
def rRepA (K : PySem.W.Frag) : R2 := fun x y H Q => ∃ l k xs, x = .ref l ∧ y = .int k ∧ SqT K H l xs ∧ xs ≠ [] ∧ 0 ≤ k ∧ k ≤ 1000 ∧ xs.length ≤ 1000 ∧ (k = 1 → Q (.ref l) H) ∧ (k ≠ 1 → ∀ p, H p = none → Q (.ref p) (upd H p (.tup (List.replicate k.toNat xs).flatten)))
theorem op_repA {X : Cx} : OpR X (binaryOp .Mult) (rRepA X.K) := by
  intro pins s σ H x y v u Q I rx ry h
  obtain ⟨l, k, xs, rfl, rfl, hT, hne, h0, h2, hz, q1, q⟩ := h
  by_cases hk : 2 ≤ k
  · exact op_repT pins s σ H _ _ v u Q I rx ry ⟨l, k, xs, rfl, rfl, hT, hne, hk, h2, hz, q (by omega)⟩
  · cases rx
    obtain ⟨t, rfl⟩ := ry
    obtain ⟨its, r, ⟨⟨cls, dd, data, sl⟩, ho, hc, n, hd⟩, hs⟩ := I.tuple hT
    simp only at hc hd
    subst hc hd
    have hi : its.toArray.isEmpty = false := by
      cases its with
      | nil => exact absurd (List.eq_nil_of_length_eq_zero r.length) hne
      | cons a b => rfl
    rcases (show k = 0 ∨ k = 1 by omega) with rfl | rfl
    · refine wpAny_binaryOp_repeat_ref (T := "tuple") (U := "int") (by decide) ⟨_, ho, rfl⟩ (fun s' => typeIs_int s' 0 t) noFill_tuple_mul F.fills_int_mul F.slot_int_rmul repeat_tuple F.slot_int_index.lookup
        (call_meets F.slot_int_rmul (typeIs_int s 0 t) F.entry_int_rmul (F.args_int_rmul_2 _ _) (int_rmul_tuple 0 t l its.toArray n dd sl)
          ⟨ho, rfl, ⟨_, ho, rfl⟩, call_meets F.slot_tuple_mul ⟨_, ho, rfl⟩ F.entry_tuple_mul (F.args_tuple_mul_2 _ _) (tuple_mul0 l its.toArray n dd sl t hi) ⟨ho, ?_⟩⟩)
      refine ⟨.ref s.heap.objs.size, _, I.laid (t' := s.toks) (o := .tup []) (fun b ob q => Heap.get?_push_of_some _ q) (Nat.le_refl _) ?_, rfl, q (by decide) _ (I.hok.fresh (Nat.le_refl _))⟩
      exact ⟨Nat.zero_le _, [], .nil, IsTup.new _ _⟩
    · refine wpAny_binaryOp_repeat_ref (T := "tuple") (U := "int") (by decide) ⟨_, ho, rfl⟩ (fun s' => typeIs_int s' 1 t) noFill_tuple_mul F.fills_int_mul F.slot_int_rmul repeat_tuple F.slot_int_index.lookup
        (call_meets F.slot_int_rmul (typeIs_int s 1 t) F.entry_int_rmul (F.args_int_rmul_2 _ _) (int_rmul_tuple 1 t l its.toArray n dd sl)
          ⟨ho, rfl, ⟨_, ho, rfl⟩, call_meets F.slot_tuple_mul ⟨_, ho, rfl⟩ F.entry_tuple_mul (F.args_tuple_mul_2 _ _) (tuple_mul1 l its.toArray n dd sl t) ⟨ho, ?_⟩⟩)
      exact ⟨.ref l, H, I, rfl, q1 rfl⟩
section
variable {X : Cx} {W0 : Bs} {a b : Expr} {Ta Tb : DTE} {pos : Pos}
def dRepT : D2 := fun x y S P => ∃ xs k, x = .tup xs ∧ y = .int k ∧ xs ≠ [] ∧ 0 ≤ k ∧ k ≤ 1000 ∧ xs.length ≤ 1000 ∧ P (.tup (List.replicate k.toNat xs).flatten) S
theorem do_repT {K : PySem.W.Frag} : DOp K (rRepA K) dRepT := by
  intro W S H x y d1 d2 P Q s r1 r2 ⟨xs, k, e1, e2, hne, h0, h1, hl, p⟩ post
  subst e1 e2
  obtain ⟨a0, vs, rfl, hq, rr⟩ := r1.tupV
  have hq' := same_sqt s.same hq
  have hlen := rr.length
  refine ⟨a0, k, vs, rfl, r2.intV, hq', fun z => hne (by rw [z] at hlen; exact List.eq_nil_of_length_eq_zero hlen.symm), h0, h1, by omega, fun hk => ?_, fun hk q hp => ?_⟩
  · subst hk
    have e : (List.replicate (1 : Int).toNat xs).flatten = xs := by simp
    rw [e] at p
    exact post _ _ W H _ p s .refl r1
  · have s' := s.put (o := .tup (List.replicate k.toNat vs).flatten) hp
    have le := Wd.le_put (o := .tup (List.replicate k.toNat vs).flatten) (s.free hp)
    exact post _ _ _ _ _ p s' (Stp.put s hp) (.tup (.inl (.inl upd_same)) ((rr.rep k.toNat).mono le))
theorem de_repT (ha : DE X W0 a Ta) (hb : DE X W0 b Tb) : DE X W0 (.BinOp a .Mult b pos) (dOp dRepT Ta Tb) := de_op op_repA do_repT ha hb
end
end DL
namespace DL
open PySem PySem.Spec PyProof.Rows L2
end DL
namespace DL
open PySem PySem.Spec PyProof.Rows L2
end DL
namespace DL
open PySem PySem.Spec PyProof.Rows L2
section
variable {X : Cx} {W0 : Bs} {a e o l u : Expr} {Ta Tl Tu : DTE} {pos p2 apos p : Pos}
def setSl (x : D) (a : Int) (z d : D) (S : Sto) (P : Sto → Prop) : Prop := ∃ i xs ys c, x = .ref i ∧ S[i]? = some (.lst xs) ∧ d = .lst ys ∧ z = .int c ∧ 0 ≤ a ∧ a ≤ c ∧ c ≤ xs.length ∧ xs.length + ys.length ≤ sizeLine ∧ P (S.set i (.lst (xs.take a.toNat ++ ys ++ xs.drop c.toNat)))
def gSl (Ta Tl Tu : DTE) : DTG := fun d env S P => Ta env S fun x S1 => Tl env S1 fun y S2 => ∃ a, y = .int a ∧ Tu env S2 fun z S3 => setSl x a z d S3 fun S4 => P env S4
theorem i_gsl {d : D} {env : Ev} {S : Sto} {P : Ev → Sto → Prop} (q : Ta env S fun x S1 => Tl env S1 fun y S2 => ∃ a, y = .int a ∧ Tu env S2 fun z S3 => setSl x a z d S3 fun S4 => P env S4) : gSl Ta Tl Tu d env S P := q
instance {d : D} {env : Ev} {S : Sto} {P : Ev → Sto → Prop} : Wk (gSl Ta Tl Tu d env S P) (Ta env S fun x S1 => Tl env S1 fun y S2 => ∃ a, y = .int a ∧ Tu env S2 fun z S3 => setSl x a z d S3 fun S4 => P env S4) := ⟨fun q => i_gsl q⟩
def gFldV (K : PySem.W.Frag) (to : TE) (f : Str) : TG := fun y σ H Q => to σ H fun x H2 => ∃ a C dx fs, x = .ref a ∧ H2 a = some (.ins C dx fs) ∧ Cls K C ∧ NoAttr K C f ∧ fs.length < 1000 ∧ Q σ (upd H2 a (.ins C dx (putF f y fs)))
theorem pg_fld {to : TE} {f : Str} (ho : PE X o to)
    (ha : ∀ v, assign (.Attribute o f pos) X.env v = (do
      let ov ← holding [v] (eval o X.env)
      standAt pos.atName
      holding [v, ov] (setAttr ov f v)
      release [v, ov] []) := by intro _; rfl) : PG X (.Attribute o f pos) (gFldV X.K to f) := by
  refine ⟨fun pins s σ H v w Q I r h => ?_⟩
  rw [ha]
  refine wpAny_bind (wpAny_holding (thn (ho.run pins s σ H _ I h) fun ov s1 ⟨x, H1, I1, r1, a, C, dx, fs, ex, ea, c, n, l, q⟩ => ?_))
  subst ex
  obtain rfl : ov = Value.ref a := r1
  refine wpAny_bind (wpAny_standAt (wpAny_bind (wpAny_holding ?_)))
  exact setattr_ok I1 ea c n l r fun s3 I3 => wpAny_release ⟨σ, _, I3, q⟩
def gFl (C : Addr) (f : Str) (Ta : DTE) : DTG := fun y env S P => Ta env S fun x S2 => ∃ i fs, x = .ref i ∧ S2[i]? = some (.ins C fs) ∧ fs.length < 1000 ∧ P env (S2.set i (.ins C (putD f y fs)))
theorem dg_fld {C : Addr} {f : Str} (c : Cls X.K C) (n : NoAttr X.K C f) (ha : DE X W0 a Ta)
    (h : ∀ v, assign (.Attribute a f pos) X.env v = (do
      let ov ← holding [v] (eval a X.env)
      standAt pos.atName
      holding [v, ov] (setAttr ov f v)
      release [v, ov] []) := by intro _; rfl) : DG X W0 [] (.Attribute a f pos) (gFl C f Ta) :=
  (pg_fld ha h).imp fun v σ H Q ⟨W, env, S, P, d, hW, sim, er, r, ht, post⟩ => ⟨W, env, S, _, hW, sim, er, ht, fun x S1 W1 H1 v1 ⟨i, fs, ex, hi, hl, q⟩ s1 l1 r1 => by
    subst ex
    cases r1 with
    | @ref _ b hb =>
      obtain ⟨hB, dx, vs, hH, rr⟩ := s1.obj i b _ hb hi
      obtain ⟨vs', h1, h2⟩ := fld_put (f := f) (r.mono l1.le) rr
      refine ⟨b, C, dx, _, rfl, hH, c, n, ?_, ?_⟩
      · rw [List.length_zip, List.length_map]
        omega
      · rw [h1]
        have s3 := s1.setO (o' := .ins C (putD f d fs)) (ho := .ins C dx (((putD f d fs).map (·.1)).zip vs')) hb hi hB ⟨hB, dx, vs', upd_same, h2⟩
        exact post env _ W1 _ σ q s3 (l1.trans (.setO hb)) (er.mono l1.le) .refl⟩
theorem i_gfl {C : Addr} {f : Str} {y : D} {env : Ev} {S : Sto} {P : Ev → Sto → Prop} (q : Ta env S fun x S2 => ∃ i fs, x = .ref i ∧ S2[i]? = some (.ins C fs) ∧ fs.length < 1000 ∧ P env (S2.set i (.ins C (putD f y fs)))) : gFl C f Ta y env S P := q
instance {C : Addr} {f : Str} {y : D} {env : Ev} {S : Sto} {P : Ev → Sto → Prop} : Wk (gFl C f Ta y env S P) (Ta env S fun x S2 => ∃ i fs, x = .ref i ∧ S2[i]? = some (.ins C fs) ∧ fs.length < 1000 ∧ P env (S2.set i (.ins C (putD f y fs)))) := ⟨fun q => i_gfl q⟩
end
end DL
namespace DL
open PySem PySem.Spec PyProof.Rows L2
theorem Hd.setN {S : Sto} {L : Pl} {i : Nat} {o : O} (h : Hd S L) (n : Nat) (e : L[n]? = some (i, o)) (o' : O) : Hd (S.set i o') (L.set n (i, o')) := by
  obtain ⟨h1, h2⟩ := List.getElem?_eq_some_iff.mp e
  have e2 : L = L.take n ++ (i, o) :: L.drop (n + 1) := by
    have := List.take_append_drop n L
    rw [List.drop_eq_getElem_cons h1, h2] at this
    exact this.symm
  have e3 : L.set n (i, o') = L.take n ++ (i, o') :: L.drop (n + 1) := by rw [List.set_eq_take_append_cons_drop, if_pos h1]
  rw [e2] at h
  rw [e3]
  exact h.set o'
end DL
namespace DL
open PySem PySem.Spec PyProof.Rows L2 LamX
section
variable {X : Cx} {W0 : Bs} {a e : Expr} {es : List Expr} {Ta : DTE} {TR : DTA} {pos p apos : Pos}
def dUpd (Ta : DTE) (TR : DTA) : DTE := fun env S P => Ta env S fun x S1 => (∃ i ks xs, x = .ref i ∧ S1[i]? = some (.dct ks xs)) ∧ TR env S1 fun ds S2 => ∃ i j ks xs ks2 xs2, x = .ref i ∧ ds = [.ref j] ∧ i ≠ j ∧ S2[i]? = some (.dct ks xs) ∧ S2[j]? = some (.dct ks2 xs2) ∧ (ks ++ ks2).Nodup ∧ ks.length + ks2.length ≤ 1000 ∧ P .non (S2.set i (.dct (ks ++ ks2) (xs ++ xs2)))
theorem i_upd {env : Ev} {S : Sto} {P : DP} (q : Ta env S fun x S1 => (∃ i ks xs, x = .ref i ∧ S1[i]? = some (.dct ks xs)) ∧ TR env S1 fun ds S2 => ∃ i j ks xs ks2 xs2, x = .ref i ∧ ds = [.ref j] ∧ i ≠ j ∧ S2[i]? = some (.dct ks xs) ∧ S2[j]? = some (.dct ks2 xs2) ∧ (ks ++ ks2).Nodup ∧ ks.length + ks2.length ≤ 1000 ∧ P .non (S2.set i (.dct (ks ++ ks2) (xs ++ xs2)))) : dUpd Ta TR env S P := q
instance {env : Ev} {S : Sto} {P : DP} : Wk (dUpd Ta TR env S P) (Ta env S fun x S1 => (∃ i ks xs, x = .ref i ∧ S1[i]? = some (.dct ks xs)) ∧ TR env S1 fun ds S2 => ∃ i j ks xs ks2 xs2, x = .ref i ∧ ds = [.ref j] ∧ i ≠ j ∧ S2[i]? = some (.dct ks xs) ∧ S2[j]? = some (.dct ks2 xs2) ∧ (ks ++ ks2).Nodup ∧ ks.length + ks2.length ≤ 1000 ∧ P .non (S2.set i (.dct (ks ++ ks2) (xs ++ xs2)))) := ⟨fun q => i_upd q⟩
def dCntS (y : Str) (Ta : DTE) : DTE := fun env S P => Ta env S fun x S1 => ∃ bs : List Str, lstOf S1 x = some (bs.map .str) ∧ P (.int (bs.countP (fun z => decide (z = y)) : Nat)) S1
theorem i_cntS {y : Str} {env : Ev} {S : Sto} {P : DP} (q : Ta env S fun x S1 => ∃ bs : List Str, lstOf S1 x = some (bs.map .str) ∧ P (.int (bs.countP (fun z => decide (z = y)) : Nat)) S1) : dCntS y Ta env S P := q
instance {y : Str} {env : Ev} {S : Sto} {P : DP} : Wk (dCntS y Ta env S P) (Ta env S fun x S1 => ∃ bs : List Str, lstOf S1 x = some (bs.map .str) ∧ P (.int (bs.countP (fun z => decide (z = y)) : Nat)) S1) := ⟨fun q => i_cntS q⟩
end
end DL
namespace DL
open PySem PySem.Spec PyProof.Rows L2 LamX
section
variable {X : Cx} {W0 : Bs} {a e : Expr} {es : List Expr} {Ta : DTE} {TR : DTA} {pos p apos : Pos}
def dCntI (Ta : DTE) (TR : DTA) : DTE := fun env S P => Ta env S fun x S1 => (∃ xs, lstOf S1 x = some xs) ∧ TR env S1 fun ds S2 => ∃ (bs : List Int) (y : Int), lstOf S2 x = some (bs.map .int) ∧ ds = [.int y] ∧ P (.int (bs.count y : Nat)) S2
theorem i_cntI {env : Ev} {S : Sto} {P : DP} (q : Ta env S fun x S1 => (∃ xs, lstOf S1 x = some xs) ∧ TR env S1 fun ds S2 => ∃ (bs : List Int) (y : Int), lstOf S2 x = some (bs.map .int) ∧ ds = [.int y] ∧ P (.int (bs.count y : Nat)) S2) : dCntI Ta TR env S P := q
instance {env : Ev} {S : Sto} {P : DP} : Wk (dCntI Ta TR env S P) (Ta env S fun x S1 => (∃ xs, lstOf S1 x = some xs) ∧ TR env S1 fun ds S2 => ∃ (bs : List Int) (y : Int), lstOf S2 x = some (bs.map .int) ∧ ds = [.int y] ∧ P (.int (bs.count y : Nat)) S2) := ⟨fun q => i_cntI q⟩
end
section
variable {K : PySem.W.Frag} {W : Wd} {S : Sto} {H : Hp}
theorem Sim.frz {i : Nat} {a : Addr} {vs : List V} (s : Sim K W S H) (hi : W.m[i]? = some a) (hB : W.B a = none) (hH : H a = some (.lst vs)) : Sim K (W.put a (.lst vs)) (S.set i .dead) H ∧ Stp W H (W.put a (.lst vs)) H := by
  refine ⟨⟨fun b u e => ?_, by rw [List.length_set]; exact s.len, s.nd, s.dom, fun j b ob h1 h2 => ?_, Wd.put_ntb s.ntb (fun _ z => by cases z)⟩, ⟨Wd.le_put hB, fun _ _ h _ _ => h, fun _ h => h, fun _ h => .inl h, fun q u h => ?_⟩⟩
  · by_cases hb : b = a
    · subst hb
      have e : upd W.B b (.lst vs) b = some u := e
      rw [upd_same] at e
      rw [hH]
      exact e
    · have e : upd W.B a (.lst vs) b = some u := e
      rw [upd_ne hb] at e
      exact s.same b u e
  · have h1 : W.m[j]? = some b := h1
    by_cases hj : j = i
    · subst hj
      rw [hi] at h1
      cases h1
      rw [List.getElem?_set_self (by rw [← s.len]; exact (List.getElem?_eq_some_iff.mp hi).1)] at h2
      cases h2
      exact ⟨vs, upd_same⟩
    · rw [List.getElem?_set_ne (Ne.symm hj)] at h2
      have hne : b ≠ a := fun z => by
        subst z
        exact hj (one_place _ s.nd _ _ _ h1 hi)
      refine (s.obj j b ob h1 h2).mono (Wd.le_put hB) ?_ rfl
      by_cases hb : W.B b = none
      · exact .inl (by show upd W.B a (.lst vs) b = none; rw [upd_ne hne]; exact hb)
      · exact .inr hb
  · by_cases z : q = a
    · exact .inr (.inr (.inl (by rw [z]; exact List.mem_of_getElem? hi)))
    · have h : upd W.B a (.lst vs) q = some u := h
      rw [upd_ne z] at h
      exact .inl h
end
/-- behind a statement: the list that the name x stands for changes no more -/
def dFrz (x : Nat) (T : DTS) : DTS := fun E env S => T { E with nx := fun env1 S1 => ∃ i xs, env1[x]? = some (some (.ref i)) ∧ S1[i]? = some (.lst xs) ∧ E.nx (env1.set x (some (.lst xs))) (S1.set i .dead) } env S
theorem i_frz {T : DTS} {x : Nat} {E : DEnds} {env : Ev} {S : Sto} (q : T { E with nx := fun env1 S1 => ∃ i xs, env1[x]? = some (some (.ref i)) ∧ S1[i]? = some (.lst xs) ∧ E.nx (env1.set x (some (.lst xs))) (S1.set i .dead) } env S) : dFrz x T E env S := q
instance {T : DTS} {x : Nat} {E : DEnds} {env : Ev} {S : Sto} : Wk (dFrz x T E env S) (T { E with nx := fun env1 S1 => ∃ i xs, env1[x]? = some (some (.ref i)) ∧ S1[i]? = some (.lst xs) ∧ E.nx (env1.set x (some (.lst xs))) (S1.set i .dead) } env S) := ⟨fun q => i_frz q⟩
end DL
namespace DL
open PySem PySem.Spec PyProof.Rows L2 LamX
section
variable {X : Cx} {W0 : Bs} {a b e : Expr} {Ta Tb : DTE} {pos p pos2 p2 : Pos}
def xLrg (Q : List D → Sto → Prop) (x : D) (S : Sto) : Prop := ∃ j, x = .int j ∧ RgOk 0 j ∧ Q (rangeD 0 j.toNat) S
def dLrg1 (Ta : DTE) : DTN := fun env S Q => Ta env S (xLrg Q)
def xLrg2 (Q : List D → Sto → Prop) (i : Int) (y : D) (S : Sto) : Prop := ∃ j, y = .int j ∧ RgOk i j ∧ Q (rangeD i (j - i).toNat) S
def dLrg2 (Ta Tb : DTE) : DTN := fun env S Q => Ta env S fun x S1 => ∃ i, x = .int i ∧ Tb env S1 (xLrg2 Q i)
def xTrg (P : DP) (x : D) (S : Sto) : Prop := ∃ j, x = .int j ∧ RgOk 0 j ∧ P (.tup (rangeD 0 j.toNat)) S
def dTrg1 (Ta : DTE) : DTE := fun env S P => Ta env S (xTrg P)
theorem i_lrg1 {env : Ev} {S : Sto} {Q : List D → Sto → Prop} (q : Ta env S (xLrg Q)) : dLrg1 Ta env S Q := q
instance {env : Ev} {S : Sto} {Q : List D → Sto → Prop} : Wk (dLrg1 Ta env S Q) (Ta env S (xLrg Q)) := ⟨fun q => i_lrg1 q⟩
theorem i_trg1 {env : Ev} {S : Sto} {P : DP} (q : Ta env S (xTrg P)) : dTrg1 Ta env S P := q
instance {env : Ev} {S : Sto} {P : DP} : Wk (dTrg1 Ta env S P) (Ta env S (xTrg P)) := ⟨fun q => i_trg1 q⟩
theorem i_lrg2 {env : Ev} {S : Sto} {Q : List D → Sto → Prop} (q : Ta env S fun x S1 => ∃ i, x = .int i ∧ Tb env S1 (xLrg2 Q i)) : dLrg2 Ta Tb env S Q := q
instance {env : Ev} {S : Sto} {Q : List D → Sto → Prop} : Wk (dLrg2 Ta Tb env S Q) (Ta env S fun x S1 => ∃ i, x = .int i ∧ Tb env S1 (xLrg2 Q i)) := ⟨fun q => i_lrg2 q⟩
end
end DL
namespace DL
open PySem PySem.Spec PyProof.Rows L2 LamX
section
variable {X : Cx} {W0 : Bs} {a e : Expr} {TR : DTA} {pos p : Pos}
def xEnA (P : IP) (ds : List D) (S : Sto) : Prop := ∃ d xs ok, ds = [d] ∧ lstAny S d xs ok ∧ P (enumD 0 xs) ok S
def iEnA (TR : DTA) : DTI := fun env S P => TR env S (xEnA P)
theorem i_iena {F : IP} {env : Ev} {S : Sto} (q : TR env S (xEnA F)) : iEnA TR env S F := q
instance {F : IP} {env : Ev} {S : Sto} : Wk (iEnA TR env S F) (TR env S (xEnA F)) := ⟨fun q => i_iena q⟩
end
/-- a list, pure or of the store -/
structure LAt (S : Sto) (d : D) (xs : List D) : Prop where
  ex : d = .lst xs ∨ ∃ i, d = .ref i ∧ S[i]? = some (.lst xs)
theorem LAt.any {S : Sto} {d : D} {xs : List D} (h : LAt S d xs) : ∃ ok, lstAny S d xs ok ∧ ok S ∧ ∀ S', LAt S' d xs → ok S' := by
  rcases h.ex with rfl | ⟨i, rfl, h1⟩
  · exact ⟨_, ⟨rfl, rfl⟩, trivial, fun _ _ => trivial⟩
  · refine ⟨_, ⟨h1, rfl⟩, h1, fun S' h' => ?_⟩
    rcases h'.ex with z | ⟨j, z, h2⟩
    · cases z
    · cases z
      exact h2
end DL
namespace DL
open PySem PySem.Spec PyProof.Rows L2 LamX
theorem fn_dTK {P : Program} {w : World} {K : PySem.W.Frag} {mg : Str → Option Value} {base : Heap} {x qual : Str} {st : Stmt} {f : Addr} {N ps : List Str} {k : Nat} {sp : DSp} {oc kV doc pm ct : Value} {od an : Option Addr} {c : Addr} {osl : Array (Option Value)}
    (lk : K.lookup f = some ⟨oc, od, .func (PySem.W.fnOf x qual (defArgs st) (defBody st) (defScope st) .none kV doc pm an (.ref c) ct), osl⟩) (hcd : PySem.W.codeIn K (.ref c) qual = true) (S : FnScope N ps (defScope st))
    (len : ∀ ds S P, sp ds S P → ds.length = ps.length)
    (body : ∀ (X : Cx) (W0 : Bs) (A : Around) (outer : List Env) (s : Shared) (H : Hp) (E : XK), X = (cxOf CX0 P w K mg base N qual (defScope st) f (.ref c) A outer s H E).nox → Room k X.A →
      ∃ T : DTS, DSs X W0 (defBody st) T ∧ ∀ ds S P, sp ds S P → T (exitKN P) (startE N ds) S) : FnOk P w K mg base CX0 (k + 1) f (PySem.W.fnOf x qual (defArgs st) (defBody st) (defScope st) .none kV doc pm an (.ref c) ct) ps (liftSp K sp) := by
  refine fn_of lk hcd S (fun vs H Q E h => ?_) fun A outer s H vs Q E hr h => ?_
  · obtain ⟨W, ds, S, P, _, r, q, _⟩ := h
    rw [r.length]
    exact len ds S P q
  · obtain ⟨W, ds, S, P, sim, r, q, post⟩ := h
    obtain ⟨T, hT, hq⟩ := body _ { W := W, H := H } A outer s H E rfl hr
    exact ⟨_, L2.PSs.nox hT, W, startE N ds, S, _, Stp.refl, sim, EnvR.start r, hq ds S P q, ⟨fun _ S' W' H' _ z s' l' _ => post .non S' W' H' .non z s' l' .non, post, fun _ _ _ _ _ z => z.elim, fun _ _ _ _ _ z => z.elim⟩⟩
end DL
namespace DL
open PySem PySem.Spec PyProof.Rows L2
/-- the clause's class, and what is raised in it -/
def dTryRz (R : EX) (CX CY : Addr) (T : EX → DTS) : DTS := fun E env S => T (fun C fs S' => C = CX ∧ R CY [] S') E env S
section
variable {X : Cx} {W0 : Bs} {body : List Stmt} {T : EX → DTS}
theorem i_tryRz {R : EX} {CX CY : Addr} {T : EX → DTS} {E : DEnds} {env : Ev} {S : Sto} (q : T (fun C fs S' => C = CX ∧ R CY [] S') E env S) : dTryRz R CX CY T E env S := q
instance {R : EX} {CX CY : Addr} {T : EX → DTS} {E : DEnds} {env : Ev} {S : Sto} : Wk (dTryRz R CX CY T E env S) (T (fun C fs S' => C = CX ∧ R CY [] S') E env S) := ⟨fun q => i_tryRz q⟩
end
end DL
namespace DL
open PySem PySem.Spec PyProof.Rows L2 LamX
section
variable {X : Cx} {W0 : Bs} {a e : Expr} {es : List Expr} {Ta : DTE} {TR : DTA} {pos p apos : Pos}
def dIdxI (Ta : DTE) (TR : DTA) : DTE := fun env S P => Ta env S fun x S1 => (∃ xs, lstOf S1 x = some xs) ∧ TR env S1 fun ds S2 => ∃ (bs : List Int) (y : Int), lstOf S2 x = some (bs.map .int) ∧ ds = [.int y] ∧ y ∈ bs ∧ P (.int (bs.idxOf y : Nat)) S2
theorem i_idxI {env : Ev} {S : Sto} {P : DP} (q : Ta env S fun x S1 => (∃ xs, lstOf S1 x = some xs) ∧ TR env S1 fun ds S2 => ∃ (bs : List Int) (y : Int), lstOf S2 x = some (bs.map .int) ∧ ds = [.int y] ∧ y ∈ bs ∧ P (.int (bs.idxOf y : Nat)) S2) : dIdxI Ta TR env S P := q
instance {env : Ev} {S : Sto} {P : DP} : Wk (dIdxI Ta TR env S P) (Ta env S fun x S1 => (∃ xs, lstOf S1 x = some xs) ∧ TR env S1 fun ds S2 => ∃ (bs : List Int) (y : Int), lstOf S2 x = some (bs.map .int) ∧ ds = [.int y] ∧ y ∈ bs ∧ P (.int (bs.idxOf y : Nat)) S2) := ⟨fun q => i_idxI q⟩
end
section
variable {X : Cx} {W0 : Bs}
def xLenS (P : DP) (d : D) (S : Sto) : Prop := ∃ ns : List Int, lstOf S d = some (ns.map .int) ∧ ns.length < 1000 ∧ ∀ L : List Int, L.Nodup → (∀ k, k ∈ L ↔ k ∈ ns) → P (.int L.length) S
def dLenS (T : DTE) : DTE := fun env S P => T env S (xLenS P)
theorem i_lenS {T : DTE} {env : Ev} {S : Sto} {P : DP} (q : T env S (xLenS P)) : dLenS T env S P := q
instance {T : DTE} {env : Ev} {S : Sto} {P : DP} : Wk (dLenS T env S P) (T env S (xLenS P)) := ⟨fun q => i_lenS q⟩
end
section
variable {X : Cx} {W0 : Bs} {tg e : Expr} {T : DTE}
def xAny (P : IP) (d : D) (S : Sto) : Prop := xTp P d S ∨ xLs P d S
def iAn (T : DTE) : DTI := fun env S P => T env S (xAny P)
theorem i_an {env : Ev} {S : Sto} {P : IP} (q : T env S (xAny P)) : iAn T env S P := q
instance {env : Ev} {S : Sto} {P : IP} : Wk (iAn T env S P) (T env S (xAny P)) := ⟨fun q => i_an q⟩
end
end DL
namespace DL
open PySem PySem.Spec PyProof.Rows L2 LamX LamV
section
variable {K : PySem.W.Frag} {W W' : Wd} {S S' : Sto} {H H' : Hp} {cs : List (Addr × Obj)}
theorem Icy.not_fre (ic : Icy cs H) {b : Addr} {o : Obj} (e : cs.lookup b = some o) (z : Fre H b) : False := z.not (ic b o e) fun ps x => by cases x
theorem out_none (o : Out cs H) {b : Addr} {u : HO} (e : H b = some u) : cs.lookup b = none := by
  cases q : cs.lookup b with
  | none => rfl
  | some x => have := o b x q; rw [this] at e; cases e
/-- the cells become known -/
theorem Sim.frosted (s : Sim K W S H) (o : Out cs H) : Sim K W S (frost cs H) := by
  have at_ : ∀ {b : Addr}, H b ≠ none → frost cs H b = H b := fun {b} n => by
    cases e : H b with
    | none => exact absurd e n
    | some u => rw [frost_out (out_none o e), e]
  refine ⟨fun b u e => ?_, s.len, s.nd, fun a ha => by rw [at_ (s.dom a ha)]; exact s.dom a ha, fun i a x h1 h2 => ?_, s.ntb⟩
  · have := s.same b u e
    rw [frost_out (out_none o this)]
    exact this
  · have hd := at_ (s.dom a (List.mem_of_getElem? h1))
    have ob := s.obj i a x h1 h2
    cases x with
    | dead => exact ob
    | lst ds => obtain ⟨h, vs, e, r⟩ := ob; exact ⟨h, vs, by rw [hd]; exact e, r⟩
    | ins C fs => obtain ⟨h, dx, vs, e, r⟩ := ob; exact ⟨h, dx, vs, by rw [hd]; exact e, r⟩
    | dct ks ds => obtain ⟨h, vs, e, r⟩ := ob; exact ⟨h, vs, by rw [hd]; exact e, r⟩
    | any ho => exact ⟨ob.1, by rw [hd]; exact ob.2⟩
    | tab p q => obtain ⟨h, e, ps, h1, h2⟩ := ob; exact ⟨h, e, ps, by rw [hd]; exact h1, h2⟩
/-- the cells are not known, nor the store's -/
structure Far (cs : List (Addr × Obj)) (W : Wd) : Prop where
  B : ∀ b o, cs.lookup b = some o → W.B b = none
  m : ∀ b o, cs.lookup b = some o → b ∉ W.m
theorem Far.of (s : Sim K W S H) (o : Out cs H) : Far cs W := by
  refine ⟨fun b x e => ?_, fun b x e z => s.dom b z (o b x e)⟩
  cases q : W.B b with
  | none => rfl
  | some u => have := s.same b u q; rw [o b x e] at this; cases this
theorem Far.out (f : Far cs W) {b : Addr} {u : HO} (e : W.B b = some u) : cs.lookup b = none := by
  cases q : cs.lookup b with
  | none => rfl
  | some x => have := f.B b x q; rw [this] at e; cases e
theorem Far.outm (f : Far cs W) {b : Addr} (e : b ∈ W.m) : cs.lookup b = none := by
  cases q : cs.lookup b with
  | none => rfl
  | some x => exact absurd e (f.m b x q)
theorem Far.step (f : Far cs W) (ic : Icy cs H) (l : Stp W H W' H') : Far cs W' := by
  refine ⟨fun b o e => ?_, fun b o e z => ?_⟩
  · cases q : W'.B b with
    | none => rfl
    | some u =>
      rcases l.newB b u q with z | z | z | ⟨φ, z⟩
      · rw [f.B b o e] at z; cases z
      · exact (Icy.not_fre ic e z).elim
      · exact absurd z (f.m b o e)
      · rw [ic b o e] at z; cases z
  · rcases l.newm b z with q | q
    · exact f.m b o e q
    · exact Icy.not_fre ic e q
theorem Icy.step (ic : Icy cs H) (f : Far cs W) (l : Stp W H W' H') : Icy cs H' := fun b o e => l.keep b _ (ic b o e) (f.m b o e) fun ps x => by cases x
theorem Sim.thawed (s : Sim K W S H) (f : Far cs W) : Sim K W S (thaw cs H) := by
  refine ⟨fun b u e => by rw [thaw_out (f.out e)]; exact s.same b u e, s.len, s.nd, fun a ha => by rw [thaw_out (f.outm ha)]; exact s.dom a ha, fun i a x h1 h2 => ?_, s.ntb⟩
  have hd : LamV.thaw cs H a = H a := thaw_out (f.outm (List.mem_of_getElem? h1))
  have ob := s.obj i a x h1 h2
  cases x with
  | dead => exact ob
  | lst ds => obtain ⟨h, vs, e, r⟩ := ob; exact ⟨h, vs, by rw [hd]; exact e, r⟩
  | ins C fs => obtain ⟨h, dx, vs, e, r⟩ := ob; exact ⟨h, dx, vs, by rw [hd]; exact e, r⟩
  | dct ks ds => obtain ⟨h, vs, e, r⟩ := ob; exact ⟨h, vs, by rw [hd]; exact e, r⟩
  | any ho => exact ⟨ob.1, by rw [hd]; exact ob.2⟩
  | tab p q => obtain ⟨h, e, ps, h1, h2⟩ := ob; exact ⟨h, e, ps, by rw [hd]; exact h1, h2⟩
/-- a step with the cells known, told of the store in which they are not -/
theorem Stp.thawed (o : Out cs H) (l : Stp W (frost cs H) W' H') (f : Far cs W) : Stp W H W' (thaw cs H') := by
  have fr : ∀ {p}, cs.lookup p = none → Fre (frost cs H) p → Fre H p := fun {p} q z u e => z u (by rw [frost_out q]; exact e)
  have not : ∀ {p}, Fre (frost cs H) p → cs.lookup p = none := fun {p} z => by
    cases q : cs.lookup p with
    | none => rfl
    | some x => exact (Icy.not_fre icy_frost q z).elim
  refine ⟨l.le, fun p u e n t => ?_, fun p z => ?_, fun p z => ?_, fun p u e => ?_⟩
  · have q := out_none o e
    rw [thaw_out q]
    exact l.keep p u (by rw [frost_out q]; exact e) n t
  · cases q : cs.lookup p with
    | some x => exact .of (o p x q)
    | none => exact fr q (l.dom p fun u e => z u (by rw [thaw_out q]; exact e))
  · rcases l.newm p z with q | q
    · exact .inl q
    · exact .inr (fr (not q) q)
  · rcases l.newB p u e with q | q | q | ⟨φ, q⟩
    · exact .inl q
    · exact .inr (.inl (fr (not q) q))
    · exact .inr (.inr (.inl q))
    · refine .inr (.inr (.inr ⟨φ, ?_⟩))
      cases x : cs.lookup p with
      | some y => rw [frost_in x] at q; cases q
      | none => rw [frost_out x] at q; exact q
/-- a step without them, told of the store in which they are known -/
theorem Stp.frozen (ic : Icy cs H) (f : Far cs W) (l : Stp W (thaw cs H) W' H') (o : Out cs H') (f' : Far cs W') : Stp W H W' (frost cs H') := by
  refine ⟨l.le, fun p u e n t => ?_, fun p z => ?_, fun p z => ?_, fun p u e => ?_⟩
  · cases q : cs.lookup p with
    | some x => rw [frost_in q, ← ic p x q]; exact e
    | none => rw [frost_out q]; exact l.keep p u (by rw [thaw_out q]; exact e) n t
  · cases q : cs.lookup p with
    | some x => exact (Icy.not_fre icy_frost q z).elim
    | none =>
      have := l.dom p fun u e => z u (by rw [frost_out q]; exact e)
      exact fun u e => this u (by rw [thaw_out q]; exact e)
  · rcases l.newm p z with q | q
    · exact .inl q
    · have x := f'.outm z
      exact .inr fun u e => q u (by rw [thaw_out x]; exact e)
  · have x := f'.out e
    rcases l.newB p u e with q | q | q | ⟨φ, q⟩
    · exact .inl q
    · exact .inr (.inl fun u e => q u (by rw [thaw_out x]; exact e))
    · exact .inr (.inr (.inl q))
    · exact .inr (.inr (.inr ⟨φ, by rw [thaw_out x] at q; exact q⟩))
end
end DL
namespace DL
open PySem PySem.Spec PyProof.Rows L2 LamX LamV
def dFn (Tb : List (Addr × Str)) (l : FnD) : DTE := fun env S P => ∃ S', S = Tb.map tabO ++ S' ∧ S'.all plainO = true ∧ P (.fn l) S
theorem i_fn {Tb : List (Addr × Str)} {l : FnD} {env : Ev} {S S' : Sto} {P : DP} (e : S = Tb.map tabO ++ S') (h : S'.all plainO = true) (q : P (.fn l) S) : dFn Tb l env S P := ⟨S', e, h, q⟩
theorem tabs_of {K : PySem.W.Frag} {W : Wd} {H : Hp} {Tb : List (Addr × Str)} {S' : Sto} (sim : Sim K W (Tb.map tabO ++ S') H) : Tabs Tb H := fun p hp => by
  obtain ⟨i, hi⟩ := List.getElem?_of_mem hp
  obtain ⟨a0, h1, _, e0, ps, h2, h3, h4⟩ := sim.at (i := i) (o := tabO p) (by rw [List.getElem?_append_left (by rw [List.length_map]; exact (List.getElem?_eq_some_iff.mp hi).1), List.getElem?_map, hi]; rfl)
  have e0 : a0 = p.1 := e0
  subst e0
  exact ⟨ps, h2, h3, fun pos cv hc => let ⟨c, e1, e2⟩ := h4 pos cv hc; ⟨c, e1, sim.same _ _ e2⟩⟩
section
variable {X : Cx} {W0 : Bs}
theorem funO_code {P : Program} {w : World} {H : Hp} {h : Heap} {f : Addr} {q q' : Str} {params : Arguments} {body : Expr} {scope : Scope} {cl : List (Str × Addr)} {dV doc pm ctv : Value} {c' : Addr} (hok : HOk P w H h) (h1 : H f = some (FunO f (lamObj q' params body scope cl dV doc pm c' ctv))) (h2 : H f = some (CodeO f q)) : False := by
  have e1 : h.get? f = some _ := (hok f _ h1).1
  obtain ⟨⟨oc, vs, t, hoc, hdc, _⟩, _⟩ := hok f _ h2
  rw [e1] at hoc
  cases hoc
  cases hdc
/-- the world in which the new function is known -/
theorem lam_world {K : PySem.W.Frag} {W : Wd} {H H1 : Hp} {Tb : List (Addr × Str)} {S' : Sto} {P : Program} {w : World} {h : Heap} {f c' : Addr} {q : Str} {params : Arguments} {body : Expr} {scope : Scope} {cl : List (Str × Addr)} {dV doc pm ctv : Value}
    (sim : Sim K W (Tb.map tabO ++ S') H) (hS : S'.all plainO = true) (eN : ExtN H H1) (T1 : Tabs Tb H1) (hok : HOk P w H1 h) (nf : H f = none) (hf : H1 f = some (FunO f (lamObj q params body scope cl dV doc pm c' ctv))) (hc : H1 c' = some (CodeO c' q)) (hq : ∃ p ∈ Tb, p.2 = q) :
    ∃ W2, Sim K W2 (Tb.map tabO ++ S') H1 ∧ Stp W H W2 H1 ∧ W2.B f = some (FunO f (lamObj q params body scope cl dV doc pm c' ctv)) ∧ W2.B c' = some (CodeO c' q) ∧ (∀ t, H t = none → t ≠ f → (∀ q, H1 t ≠ some (CodeO t q)) → W2.B t = none) ∧ W2.m = W.m := by
  obtain ⟨s1, l1⟩ := sim.lam hS eN T1
  have nm : f ∉ (W.lam H1 Tb).m := fun z => sim.dom f z nf
  have nB : ∀ t, H t = none → (∀ q, H1 t ≠ some (CodeO t q)) → (W.lam H1 Tb).B t = none := fun t ht hq => by
    cases e : (W.lam H1 Tb).B t with
    | none => rfl
    | some u =>
      rcases lam_cases e with z | ⟨_, z, p, _, rfl⟩
      · have := sim.same t u z
        rw [ht] at this
        cases this
      · exact absurd z (hq _)
  have hB := nB f nf fun q' z => funO_code hok hf z
  have cB : (W.lam H1 Tb).B c' = some (CodeO c' q) := by
    obtain ⟨p, hp, rfl⟩ := hq
    cases e : W.B c' with
    | none => exact lam_new e hp hc
    | some u =>
      have e2 := l1.le.same c' u e
      rw [e2]
      have := s1.same c' u e2
      rw [hc] at this
      exact this.symm
  have ne : c' ≠ f := fun z => by
    rw [z] at hc
    exact funO_code hok hf hc
  refine ⟨(W.lam H1 Tb).put f (FunO f (lamObj q params body scope cl dV doc pm c' ctv)), s1.adopt hB nm hf (by intro _ z; cases z), l1.adopt (.of nf) hB, ?_, ?_, fun t ht hn hq => ?_, rfl⟩
  · show upd _ f _ f = _
    exact upd_same
  · show upd _ f _ c' = _
    rw [upd_ne ne]
    exact cB
  · show upd _ f _ t = _
    rw [upd_ne hn]
    exact nB t ht hq
theorem de_lam0 {Tb : List (Addr × Str)} {c P : Addr} {params : Arguments} {body : Expr} {scope : Scope} {pos : Pos} (TB : TabB X.base X.mg c P) (hTb : (P, X.env.qual ++ "<lambda>") ∈ Tb) (hTu : ∀ p ∈ Tb, p.1 = P → p.2 = X.env.qual ++ "<lambda>") (hcode : X.env.code = .ref c) (L : LamS3 X.N X.env.scope scope) (hdef : defaultsOf params X.env = ([], [])) :
    DE X W0 (.Lambda params body scope pos) (dFn Tb ⟨X.env.qual ++ "<lambda>", params, body, scope, cloFrom X.env.cells scope.names [], false⟩) := by
  refine ⟨fun pins s σ H Q I ⟨W, env, S, Pq, hW, sim, er, ⟨S', eS, hS, q⟩, post⟩ => ?_⟩
  subst eS
  refine lam_eval0 I TB hcode hTb hTu (tabs_of sim) (L.has I.ok) hdef fun f c' doc pm ctv H1 s' I1 eN T1 nf hf hc => ?_
  obtain ⟨W2, s2, l2, b1, b2, _⟩ := lam_world sim hS eN T1 I1.hok nf hf hc ⟨_, hTb, rfl⟩
  exact ⟨.ref f, H1, I1, rfl, post (.fn _) _ W2 H1 (.ref f) q s2 l2 (.fn ⟨_, doc, pm, c', ctv, b1, b2, rfl⟩)⟩
theorem de_lam1 {Tb : List (Addr × Str)} {c P : Addr} {params : Arguments} {body : Expr} {scope : Scope} {pos p0 : Pos} {k0 : Nat} (TB : TabB X.base X.mg c P) (hTb : (P, X.env.qual ++ "<lambda>") ∈ Tb) (hTu : ∀ p ∈ Tb, p.1 = P → p.2 = X.env.qual ++ "<lambda>") (hcode : X.env.code = .ref c) (L : LamS3 X.N X.env.scope scope) (hd : params.defaults = [.Constant (.int 0) k0 p0]) (hk : params.kw_defaults = []) :
    DE X W0 (.Lambda params body scope pos) (dFn Tb ⟨X.env.qual ++ "<lambda>", params, body, scope, cloFrom X.env.cells scope.names [], true⟩) := by
  refine ⟨fun pins s σ H Q I ⟨W, env, S, Pq, hW, sim, er, ⟨S', eS, hS, q⟩, post⟩ => ?_⟩
  subst eS
  refine lam_eval1 I TB hcode hTb hTu (tabs_of sim) (L.has I.ok) hd hk fun f c' t doc pm ctv H1 s' I1 eN T1 nf nt ft ht hf hc => ?_
  obtain ⟨W2, s2, l2, b1, b2, b3, b4⟩ := lam_world sim hS eN T1 I1.hok nf hf hc ⟨_, hTb, rfl⟩
  have tB : W2.B t = none := b3 t nt (Ne.symm ft) fun q z => by
    rw [ht] at z
    unfold CodeO at z
    cases z
  have tm : t ∉ W2.m := fun z => sim.dom t (by rw [← b4]; exact z) nt
  have s3 := s2.adopt tB tm ht (by intro _ z; cases z)
  have l3 := l2.adopt (o := .tup [.int 0]) (.of nt) tB
  have ct : c' ≠ t := fun z => by
    rw [z, ht] at hc
    unfold CodeO at hc
    cases hc
  have fr : FnR (W2.put t (.tup [.int 0])).B f ⟨X.env.qual ++ "<lambda>", params, body, scope, cloFrom X.env.cells scope.names [], true⟩ := by
    refine ⟨.ref t, doc, pm, c', ctv, ?_, ?_, ?_⟩
    · show upd W2.B t _ f = _
      rw [upd_ne ft]
      exact b1
    · show upd W2.B t _ c' = _
      rw [upd_ne ct]
      exact b2
    · refine (if_pos (show (true : Bool) = true from rfl)).mpr ⟨t, rfl, ?_⟩
      show upd W2.B t (.tup [.int 0]) t = some (.tup [.int 0])
      exact upd_same
  exact ⟨.ref f, H1, I1, rfl, post (.fn _) _ _ H1 (.ref f) q s3 l3 (.fn fr)⟩
end
end DL
namespace DL
open PySem PySem.Spec PyProof.Rows L2 LamX LamV
/-- g(f), wherever it is asked, is as wanted -/
def CallsTo (P : Program) (w : World) (K : PySem.W.Frag) (mg : Str → Option Value) (base : Heap) (k : Nat) (g f : Addr) (H2 : Hp) (Q : VK) : Prop :=
  ∀ (A : Around) (outer : List Env) (s2 : Shared), Env0 P w K mg base A outer s2 H2 → Room k A → codeAny (model P w) A (.call (.ref g) ⟨[.ref f], []⟩) (CR C8.CX0 outer P w H2 s2 Q C8.E0) s2
abbrev Told := FnD → Sto → DP → Prop
def Tells (P : Program) (w : World) (K : PySem.W.Frag) (mg : Str → Option Value) (base : Heap) (k : Nat) (g : Addr) (W0 : Wd) (H0 : Hp) (told : Told) : Prop :=
  ∀ W2 H2 S f l Pq Q, Stp W0 H0 W2 H2 → Sim K W2 S H2 → FnR W2.B f l → told l S Pq → Post K W2 H2 Pq Q → CallsTo P w K mg base k g f H2 Q
/-- a lambda's reading in its def's context -/
structure LamOk (X : Cx) (k : Nat) (l : FnD) (T : EX → DTE) : Prop where
  q : l.q = X.env.qual ++ "<lambda>"
  cl : l.cl = cloFrom X.env.cells l.scope.names []
  sc : LamS3 X.N X.env.scope l.scope
  bd : BindOk l.params l.body l.scope l.dflt
  run : ∀ (A : Around) (outer : List Env) (s : Shared) (H : Hp) (E : XK) (f c' : Addr) (B : Bs), Room k (A.deeper (lamEnv X l.scope s.heap.objs.size f c')) → Rz (lamCx X A outer s H E l.scope f c') B → DE (lamCx X A outer s H E l.scope f c') B l.body (T B.R)
section
variable {X : Cx} {σ : L2.St} {env : Ev} {W : Wd} {H : Hp} {cs : List (Addr × Obj)} {Λ : List (FnD × (EX → DTE))} {cls : List Addr} {CS : Addr}
theorem tells_home {a x : Str} {g : Addr} {k : Nat} {pg : Arguments} {bg : List Stmt} {sg : Scope} {dV kV doc pm cdv ct oc : Value} {an od : Option Addr} {osl : Array (Option Value)} {Ng : List Str} (ok : X.Ok) (hlen : σ.length = X.N.length) (er : EnvR X.K W env σ) (far : Far cs W)
    (hΛ : ∀ l T, (l, T) ∈ Λ → LamOk X k l T ∧ Kept X σ l.scope cs)
    (lk : X.K.lookup g = some ⟨oc, od, .func (PySem.W.fnOf x x pg bg sg dV kV doc pm an cdv ct), osl⟩) (hcg : PySem.W.codeIn X.K cdv x = true) (hb : L2.Binds X.K (PySem.W.fnOf x x pg bg sg dV kV doc pm an cdv ct) [a] []) (Sg : FnScope Ng [a] sg) (hNg : Ng[0]? = some a) (hva : Vis sg a)
    (hG : ∀ (A : Around) (outer : List Env), Room (k + 2) A → GivesTo { X with A := A, stack := outer } Ng x sg g cdv bg a (X.env.qual ++ "<lambda>") (TTw X.K cls CS))
    (hd : (a == ("__debug__" : Str)) = false := by decide) (hcd : (a == ("__classdict__" : Str)) = false := by decide) :
    Tells X.prog X.w X.K X.mg X.base (k + 2) g W (frost cs H) fun l S P => ∃ T, (l, T) ∈ Λ ∧ T (wishW X.K cls CS P) env S P := by
  intro W2 H2 S f l Pq Q l2 s2 fr ⟨T, hl, ht⟩ post A outer s3 e0 hr
  obtain ⟨lo, kc⟩ := hΛ l T hl
  have ic : Icy cs H2 := Icy.step icy_frost far l2
  have far2 : Far cs W2 := Far.step far icy_frost l2
  have fr2 : FnR H2 f l := fr.mono s2.same
  obtain ⟨dV0, doc0, pm0, c', ctv0, binds0, hf0, hc0, _⟩ := fr2.binds e0.hok lo.bd
  have kIn : X.K.In s3.heap := e0.mod.kin.keeps fun b o e => (e0.bs b o e).1
  refine run_ofS (CX := C8.CX0) (N := Ng) (ps := [a]) (us := [.ref f]) (vs := [.ref f]) lk hcg Sg hr e0 (hb s3 [.ref f] kIn rfl) (.cons rfl .nil) rfl fun hr' => ?_
  have gv := hG A outer hr f c' s3 H2 Q (fun E HZ Q' => FnR HZ f l ∧ Icy cs HZ ∧ ∃ (Et : XK) (Qt : VK), (∃ W env S P R, Sim X.K W S (thaw cs HZ) ∧ EnvR X.K W env σ ∧ T R env S P ∧ Post X.K W (thaw cs HZ) P Qt ∧ PostX X.K W (thaw cs HZ) R Et) ∧
      (∀ v H', Out cs H' → Qt v H' → Q' v (frost cs H')) ∧ (∀ cls d H', Out cs H' → Et cls d H' → E cls d (frost cs H')))
  suffices hh : _ ∧ _ by
    obtain ⟨t', ht', hq'⟩ := gv hh.1 (by rw [← lo.q]; exact hc0) hh.2
    exact ⟨t', ht'.nox, hq'⟩
  refine ⟨fun Wx pn xe E p1 p2 tk hW => ?_, ?_⟩
  · refine ⟨fun pinsZ sZ σZ HZ Q IZ h => ?_⟩
    obtain ⟨hs, hc, frZ, icZ, Et, Qt, hT, hQ, hE⟩ := h
    refine wpAny_Call_Name_kw (thn ((pe_var (pos := p1) (i := 0) hNg hva hd hcd).run pinsZ sZ σZ HZ (fun v H1 => v = .ref f ∧ H1 = HZ) IZ ⟨.ref f, hs, rfl, rfl⟩) fun u s1 ⟨v, H1, I1, r1, q1⟩ => ?_)
    obtain ⟨ev, eH⟩ := q1
    subst ev
    rw [eH] at I1
    obtain rfl : u = Value.ref f := r1
    obtain ⟨dV, doc, pm, c2, ctv, binds, hf, hc2, hbi, hlo⟩ := frZ.binds I1.hok lo.bd
    have of1 : s1.heap.get? f = some _ := (I1.hok f _ hf).1
    refine PySem.W.callWith_F0 ⟨_, _, _, _, of1⟩ ?_
    rw [lo.cl] at hf hbi
    have rc := call_lam (X := X) (σ := σ) (cs := cs) (E := E) (Q := Q) (tb := fun σ H Q => ∃ W env S P R, Sim X.K W S H ∧ EnvR X.K W env σ ∧ T R env S P ∧ Post X.K W H P Q ∧ PostX X.K W H R Et) ok hlen lo.sc lo.q kc I1.env0 icZ
      (fun b o e z => by have := I1.env0.frf b z; rw [icZ b o e] at this; cases this) hr' hf hc2 hbi hlo
      (fun hrb => ⟨fun pins s' σ' H' Q' I ⟨W, env, S, P, R, sim, er, ht, post, px⟩ => (lo.run _ _ s1 _ Et f c2 { W := W, H := H', R := R } hrb ⟨Et, takes_of rfl rfl rfl rfl, px⟩).run pins s' σ' H' Q' I ⟨W, env, S, P, Stp.refl, sim, er, ht, post⟩⟩) hT hQ hE
    have hx := passes_call (E := E) tk hW
    refine wpAny_call (codeAny_mono rc fun r s' hq => ?_)
    cases r with
    | error e => exact hx pinsZ σZ HZ s1 e s' I1 hq
    | ok fl =>
      cases fl with
      | ret u => exact I1.after hq
      | next => exact False.elim hq
      | brk => exact False.elim hq
      | cont => exact False.elim hq
  · refine ⟨fun cls' d H' => SuOk X.K cls CS cls' d H' Q, fun _ _ _ h => h, fr2, ic, fun cls' d H' => Out cs H' → SuOk X.K cls CS cls' d (frost cs H') Q, fun v H' => Out cs H' → Q v (frost cs H'), ⟨W2, env, S, Pq, wishW X.K cls CS Pq, s2.thawed far2, er.mono l2.le, ht, ?_, ?_⟩, fun v H' o h => h o, fun c d H' o h => h o⟩
    · exact fun d S' W' H' v p s' l' r o => post d S' W' (frost cs H') v p (s'.frosted o) (l'.frozen ic far2 o (Far.of s' o)) r
    · exact fun C fs S' W' H' d ⟨j, y, wf, hy, hp⟩ s' l' ex o => ⟨C, j, fs, y, W', S', Pq, rfl, wf, s'.frosted o, ex, hy, hp, post.mono (l'.frozen ic far2 o (Far.of s' o))⟩
end
end DL
namespace DL
open PySem PySem.Spec PyProof.Rows L2 LamX LamV
def dWV (told : Told) (TR : DTA) : DTE := fun env S P => TR env S fun ds S1 => ∃ l, ds = [.fn l] ∧ told l S1 P
theorem i_wv {told : Told} {TR : DTA} {env : Ev} {S : Sto} {P : DP} (q : TR env S fun ds S1 => ∃ l, ds = [.fn l] ∧ told l S1 P) : dWV told TR env S P := q
instance {told : Told} {TR : DTA} {env : Ev} {S : Sto} {P : DP} : Wk (dWV told TR env S P) (TR env S fun ds S1 => ∃ l, ds = [.fn l] ∧ told l S1 P) := ⟨fun q => i_wv q⟩
section
variable {X : Cx} {W0 : Bs} {e : Expr} {es : List Expr} {TR : DTA} {x : Str} {g : Addr} {k : Nat} {told : Told} {p pos : Pos}
theorem de_wordV (hg : Gl X x) (hm : X.mg x = some (.ref g)) (hk : PySem.W.keepIn X.K (.ref g) = true) (hr : Room k X.A) (tl : Tells X.prog X.w X.K X.mg X.base k g W0.W W0.H told) (ha : DA X W0 (e :: es) TR)
    (hdb : (x == ("__debug__" : Str)) = false := by decide) (he : starEach (e :: es) X.env = (false, eval e X.env) :: starEach es X.env := by rfl) (hpl : (backTo pos (starEach es X.env)).any (·.1) = false := by rfl) :
    DE X W0 (.Call (.Name x p) (e :: es) [] pos) (dWV told TR) := by
  refine ⟨fun pins s σ H Q I ⟨W, env, S, P, hW, sim, er, ht, post⟩ => ?_⟩
  refine wpAny_Call_Name_kw (ld_glob I hg hm ?_ hdb)
  refine PySem.W.callWith_K (h₀ := X.base) I.ok.mod.kin hk (thn (ha.run pos pins s σ H (fun vs H1 => ∃ f, vs = [.ref f] ∧ CallsTo X.prog X.w X.K X.mg X.base k g f H1 Q) I ⟨W, env, S, _, hW, sim, er, ht, ?_⟩) fun us s1 hs => ?_) he hpl
  · intro ds S1 W1 H1 vs ⟨l, e1, q⟩ s1 l1 r1
    subst e1
    cases r1 with
    | cons a b =>
      cases b
      cases a with
      | fn h => exact ⟨_, rfl, tl W1 H1 S1 _ l P Q (hW.stp.trans l1) s1 h q (post.mono l1)⟩
  · obtain ⟨vs, H1, I1, r1, f, rfl, ct⟩ := hs
    refine ⟨I1.kIn, ?_⟩
    cases r1 with
    | cons a b =>
      cases b
      cases a
      refine wpAny_call (codeAny_mono (ct X.A X.stack s1 I1.env0 hr) fun r s' hq => ?_)
      cases r with
      | error e => exact (show False from hq).elim
      | ok fl =>
        cases fl with
        | ret u => exact I1.after hq
        | next => exact False.elim hq
        | brk => exact False.elim hq
        | cont => exact False.elim hq
end
/-- a def that gets functions: sp tells of what each of them tells -/
def spV (P : Program) (w : World) (K : PySem.W.Frag) (mg : Str → Option Value) (base : Heap) (k : Nat) (g : Addr) (sp : Told → DSp) : Sp := fun vs H Q _ => ∃ W ds S P' told, Sim K W S H ∧ Reps K W vs ds ∧ Tells P w K mg base k g W H told ∧ sp told ds S P' ∧ Post K W H P' Q
theorem fn_dV {P : Program} {w : World} {K : PySem.W.Frag} {mg : Str → Option Value} {base : Heap} {f : Addr} {qual : Str} {st : Stmt} {N ps : List Str} {k kg : Nat} {g : Addr} {sp : Told → DSp} {oc kV doc pm cdv ct : Value} {od an : Option Addr} {osl : Array (Option Value)} {x : Str}
    (lk : K.lookup f = some ⟨oc, od, .func (PySem.W.fnOf x qual (defArgs st) (defBody st) (defScope st) .none kV doc pm an cdv ct), osl⟩) (hcd : PySem.W.codeIn K cdv qual = true) (S : FnScope N ps (defScope st))
    (len : ∀ told ds S P, sp told ds S P → ds.length = ps.length)
    (body : ∀ (X : Cx) (W0 : Bs) (A : Around) (outer : List Env) (s : Shared) (H : Hp) (E : XK), X = (cxOf CX0 P w K mg base N qual (defScope st) f cdv A outer s H E).nox → Room k X.A → ∀ told, Tells P w K mg base kg g W0.W W0.H told →
      ∃ T : DTS, DSs X W0 (defBody st) T ∧ ∀ ds S P, sp told ds S P → T (exitE S P) (startE N ds) S) :
    FnOk P w K mg base CX0 (k + 1) f (PySem.W.fnOf x qual (defArgs st) (defBody st) (defScope st) .none kV doc pm an cdv ct) ps (spV P w K mg base kg g sp) := by
  refine fn_of lk hcd S (fun vs H Q E h => ?_) fun A outer s H vs Q E hr h => ?_
  · obtain ⟨W, ds, S, P, told, _, r, _, q, _⟩ := h
    rw [r.length]
    exact len told ds S P q
  · obtain ⟨W, ds, S, P, told, sim, r, tl, q, post⟩ := h
    obtain ⟨T, hT, hq⟩ := body _ { W := W, H := H } A outer s H E rfl hr told tl
    exact ⟨_, L2.PSs.nox hT, W, startE N ds, S, _, Stp.refl, sim, EnvR.start r, hq ds S P q, ⟨fun env S' W' H' σ q' s' l _ => post.exit sim _ _ W' H' _ q' s' l .non, post.exit sim, fun _ _ _ _ _ z => z.elim, fun _ _ _ _ _ z => z.elim⟩⟩
end DL
namespace DL
open PySem PySem.Spec PyProof.Rows L2 LamX LamV
theorem look_mem {cs : List (Addr × Obj)} : ∀ {b : Addr} {o : Obj}, cs.lookup b = some o → (b, o) ∈ cs := by
  induction cs with
  | nil => intro b o e; cases e
  | cons p cs ih =>
    intro b o e
    obtain ⟨c, u⟩ := p
    rw [List.lookup_cons] at e
    cases hb : b == c with
    | true =>
      rw [hb] at e
      cases e
      rw [eq_of_beq hb]
      exact List.mem_cons_self
    | false =>
      rw [hb] at e
      exact List.mem_cons_of_mem _ (ih e)
theorem mem_look {cs : List (Addr × Obj)} : ∀ {b : Addr} {o : Obj}, (b, o) ∈ cs → ∃ o', cs.lookup b = some o' := by
  induction cs with
  | nil => intro b o e; cases e
  | cons p cs ih =>
    intro b o e
    obtain ⟨c, u⟩ := p
    rw [List.lookup_cons]
    cases hb : b == c with
    | true => exact ⟨u, rfl⟩
    | false =>
      rcases List.mem_cons.mp e with z | z
      · cases z
        simp at hb
      · exact ih z
section
variable {X : Cx} {pins : List (Addr × Obj)} {σ : L2.St} {H : Hp} {s : Shared}
theorem cells_of (I : Inv X pins σ H s) : ∃ cs : List (Addr × Obj), (∀ b o, cs.lookup b = some o → s.heap.get? b = some o ∧ (∃ y, X.env.cells.lookup y = some b) ∧ ∃ v, o.data = .cell v) ∧ ∀ y c, X.env.cells.lookup y = some c → ∃ o v, cs.lookup c = some o ∧ o.data = .cell v := by
  have go : ∀ l : List (Str × Addr), (∀ p ∈ l, p ∈ X.env.cells) → ∃ cs : List (Addr × Obj), (∀ q ∈ cs, s.heap.get? q.1 = some q.2 ∧ (∃ y, X.env.cells.lookup y = some q.1) ∧ ∃ v, q.2.data = .cell v) ∧ ∀ p ∈ l, X.env.cells.lookup p.1 = some p.2 → ∃ o, (p.2, o) ∈ cs := by
    intro l
    induction l with
    | nil => exact fun _ => ⟨[], fun q h => (by cases h), fun p h => (by cases h)⟩
    | cons p l ih =>
      intro hl
      obtain ⟨cs, h1, h2⟩ := ih fun q hq => hl q (List.mem_cons_of_mem _ hq)
      by_cases hp : X.env.cells.lookup p.1 = some p.2
      · obtain ⟨v, o, ho, hd⟩ := I.cell p.1 p.2 hp
        refine ⟨(p.2, o) :: cs, fun q hq => ?_, fun q hq e => ?_⟩
        · rcases List.mem_cons.mp hq with rfl | hq
          · exact ⟨ho, ⟨_, hp⟩, v, hd⟩
          · exact h1 q hq
        · rcases List.mem_cons.mp hq with rfl | hq
          · exact ⟨o, List.mem_cons_self⟩
          · obtain ⟨o', ho'⟩ := h2 q hq e
            exact ⟨o', List.mem_cons_of_mem _ ho'⟩
      · refine ⟨cs, h1, fun q hq e => ?_⟩
        rcases List.mem_cons.mp hq with rfl | hq
        · exact absurd e hp
        · exact h2 q hq e
  obtain ⟨cs, h1, h2⟩ := go X.env.cells fun _ h => h
  refine ⟨cs, fun b o e => h1 (b, o) (look_mem e), fun y c e => ?_⟩
  obtain ⟨o, ho⟩ := h2 (y, c) (PySem.mem_of_lookup e) e
  cases q : cs.lookup c with
  | none =>
    exfalso
    obtain ⟨o', e'⟩ := mem_look ho
    rw [q] at e'
    cases e'
  | some o' =>
    obtain ⟨_, _, v, hv⟩ := h1 (c, o') (look_mem q)
    exact ⟨o', v, rfl, hv⟩
theorem kept_of (I : Inv X pins σ H s) {cs : List (Addr × Obj)} (hc : ∀ b o, cs.lookup b = some o → s.heap.get? b = some o) (ha : ∀ y c, X.env.cells.lookup y = some c → ∃ o v, cs.lookup c = some o ∧ o.data = .cell v) {scope : Scope} (L : LamS3 X.N X.env.scope scope) : Kept X σ scope cs := fun y c hy e => by
  obtain ⟨o, v, e1, hd⟩ := ha y c e
  refine ⟨o, v, e1, hd, fun i x hi hs => ?_⟩
  obtain ⟨m, hn, hl⟩ := I.loc
  have hk := L.free _ hy rfl
  have hvis : Vis X.env.scope y := hk.elim (fun k => .inr (.inl k)) fun k => .inr (.inr k)
  obtain ⟨u, r, q⟩ := hl i y x hi hs hvis
  refine ⟨u, r, ?_⟩
  rcases q with ⟨k', _⟩ | ⟨_, c3, e', o2, ho2, hd2⟩
  · have k' : X.env.scope.names.lookup y = some .local := k'
    rcases hk with k2 | k2 <;> rw [show X.env.scope.names.lookup y = _ from k2] at k' <;> cases k'
  · rw [e] at e'
    cases e'
    rw [hc c o e1] at ho2
    cases ho2
    rw [hd] at hd2
    cases hd2
    rfl
/-- with the cells known -/
theorem env0_frost (I : Inv X pins σ H s) (hfn : ∀ x, X.fn x = true) {cs : List (Addr × Obj)} (hc : ∀ b o, cs.lookup b = some o → s.heap.get? b = some o ∧ (∃ y, X.env.cells.lookup y = some b) ∧ ∃ v, o.data = .cell v) : Env0 X.prog X.w X.K X.mg X.base X.A X.stack s (frost cs H) := by
  have co : Cold cs H s.heap := fun b o e => let ⟨h1, ⟨y, hy⟩, _⟩ := hc b o e; ⟨h1, I.freeC y b hy⟩
  have big : ∀ b o, cs.lookup b = some o → X.s_0.heap.objs.size ≤ b := fun b o e => let ⟨_, ⟨y, hy⟩, _⟩ := hc b o e; I.ok.cab y b (hfn y) hy
  have e0 := I.env0
  refine { frames := e0.frames, mod := e0.mod, bs := fun b o e => ⟨(e0.bs b o e).1, ?_⟩, bsz := e0.bsz, funs := e0.funs, frf := fun b hb => ?_, hok := hok_frost e0.hok co, bare := e0.bare }
  · cases q : cs.lookup b with
    | some x =>
      have h1 := big b x q
      have h2 := Heap.lt_size e
      have h3 := I.ok.bsz
      exact absurd (Nat.lt_of_lt_of_le h2 (Nat.le_trans h3 h1)) (Nat.lt_irrefl _)
    | none => rw [frost_out q]; exact (e0.bs b o e).2
  · cases q : cs.lookup b with
    | some x =>
      exfalso
      have h1 := big b x q
      obtain ⟨h2, _, v, hv⟩ := hc b x q
      rcases List.mem_cons.mp (I.stkSub _ hb) with z | z
      · subst z
        obtain ⟨m, ⟨o, es, ep, ho, hd, _⟩, _⟩ := I.loc
        rw [h2] at ho
        cases ho
        rw [hv] at hd
        cases hd
      · obtain ⟨_, o, ho, _⟩ := I.ok.funs.mem z
        have h3 := Heap.lt_size ho
        exact absurd (Nat.lt_of_lt_of_le h3 h1) (Nat.lt_irrefl _)
    | none => rw [frost_out q]; exact e0.frf b hb
end
def dAll (K : PySem.W.Frag) (Λ : List (FnD × (EX → DTE))) (cls : List Addr) (CS : Addr) (sp : Told → DSp) (TR : DTA) : DTE := fun env S P => TR env S fun ds S1 => sp (fun l S' P' => ∃ T, (l, T) ∈ Λ ∧ T (wishW K cls CS P') env S' P') ds S1 P
theorem i_allF {K : PySem.W.Frag} {Λ : List (FnD × (EX → DTE))} {cls : List Addr} {CS : Addr} {sp : Told → DSp} {TR : DTA} {env : Ev} {S : Sto} {P : DP} (q : TR env S fun ds S1 => sp (fun l S' P' => ∃ T, (l, T) ∈ Λ ∧ T (wishW K cls CS P') env S' P') ds S1 P) : dAll K Λ cls CS sp TR env S P := q
instance {K : PySem.W.Frag} {Λ : List (FnD × (EX → DTE))} {cls : List Addr} {CS : Addr} {sp : Told → DSp} {TR : DTA} {env : Ev} {S : Sto} {P : DP} : Wk (dAll K Λ cls CS sp TR env S P) (TR env S fun ds S1 => sp (fun l S' P' => ∃ T, (l, T) ∈ Λ ∧ T (wishW K cls CS P') env S' P') ds S1 P) := ⟨fun q => i_allF q⟩
section
variable {X : Cx} {W0 : Bs} {e : Expr} {es : List Expr} {TR : DTA} {Λ : List (FnD × (EX → DTE))} {cls : List Addr} {CS : Addr} {sp : Told → DSp} {p pos : Pos}
theorem de_all {xA a x : Str} {fA g : Addr} {fdA : FuncData} {ps : List Str} {j k : Nat} {pg : Arguments} {bg : List Stmt} {sg : Scope} {dV kV doc pm cdv ct oc : Value} {an od : Option Addr} {osl : Array (Option Value)} {Ng : List Str} (hfn : ∀ x, X.fn x = true)
    (G : FnOk X.prog X.w X.K X.mg X.base CX0 j fA fdA ps (spV X.prog X.w X.K X.mg X.base (k + 2) g sp)) (hgA : Gl X xA) (hmA : X.mg xA = some (.ref fA)) (hkA : PySem.W.keepIn X.K (.ref fA) = true) (hbA : L2.Binds X.K fdA ps []) (hr : Room j X.A) (hΛ : ∀ l T, (l, T) ∈ Λ → LamOk X k l T)
    (lk : X.K.lookup g = some ⟨oc, od, .func (PySem.W.fnOf x x pg bg sg dV kV doc pm an cdv ct), osl⟩) (hcg : PySem.W.codeIn X.K cdv x = true) (hb : L2.Binds X.K (PySem.W.fnOf x x pg bg sg dV kV doc pm an cdv ct) [a] []) (Sg : FnScope Ng [a] sg) (hNg : Ng[0]? = some a) (hva : Vis sg a)
    (hG : ∀ (A : Around) (outer : List Env), Room (k + 2) A → GivesTo { X with A := A, stack := outer } Ng x sg g cdv bg a (X.env.qual ++ "<lambda>") (TTw X.K cls CS)) (ha : DA X W0 (e :: es) TR)
    (hdb : (xA == ("__debug__" : Str)) = false := by decide) (hd : (a == ("__debug__" : Str)) = false := by decide) (hcd : (a == ("__classdict__" : Str)) = false := by decide)
    (he : starEach (e :: es) X.env = (false, eval e X.env) :: starEach es X.env := by rfl) (hpl : (backTo pos (starEach es X.env)).any (·.1) = false := by rfl) :
    DE X W0 (.Call (.Name xA p) (e :: es) [] pos) (dAll X.K Λ cls CS sp TR) := by
  refine ⟨fun pins s σ H Q I ⟨W, env, S, P, hW, sim, er, ht, post⟩ => ?_⟩
  refine wpAny_Call_Name_kw (ld_glob I hgA hmA ?_ hdb)
  refine PySem.W.callWith_K (h₀ := X.base) I.ok.mod.kin hkA (thn (ha.run pos pins s σ H (fun vs H1 => ∃ W1 ds S1, Sim X.K W1 S1 H1 ∧ Stp W H W1 H1 ∧ Reps X.K W1 vs ds ∧ sp (fun l S' P' => ∃ T, (l, T) ∈ Λ ∧ T (wishW X.K cls CS P') env S' P') ds S1 P) I ⟨W, env, S, _, hW, sim, er, ht, fun ds S1 W1 H1 vs q s1 l1 r1 => ⟨W1, ds, S1, s1, l1, r1, q⟩⟩) fun us s1 hs => ?_) he hpl
  obtain ⟨vs, H1, I1, r1, W1, ds, S1, sim1, l1, rr, hsp⟩ := hs
  refine ⟨I1.kIn, ?_⟩
  obtain ⟨cs, hc, hall⟩ := cells_of I1
  have co : Cold cs H1 s1.heap := fun b o e => let ⟨h1, ⟨y, hy⟩, _⟩ := hc b o e; ⟨h1, I1.freeC y b hy⟩
  have out : Out cs H1 := fun b o e => (co b o e).2
  have far : Far cs W1 := Far.of sim1 out
  have tl := tells_home (H := H1) (cs := cs) (CS := CS) (cls := cls) (Λ := Λ) (env := env) (W := W1) (k := k) I1.ok I1.len (er.mono l1.le) far (fun l T h => ⟨hΛ l T h, kept_of I1 (fun b o e => (hc b o e).1) hall (hΛ l T h).sc⟩) lk hcg hb Sg hNg hva hG hd hcd
  have spec : spV X.prog X.w X.K X.mg X.base (k + 2) g sp vs (frost cs H1) (fun v H' => Icy cs H' → Q v (thaw cs H')) E0 := by
    refine ⟨W1, ds, S1, P, _, sim1.frosted out, rr, tl, hsp, fun d S' W' H' v q s' l' r ic => ?_⟩
    have far' : Far cs W' := Far.step far icy_frost l'
    exact post d S' W' (thaw cs H') v q (s'.thawed far') (l1.trans (l'.thawed out far)) r
  have hl : us.length = ps.length := by rw [← G.len _ _ _ _ spec]; exact r1.length.symm
  have rc := G.run X.A X.stack s1 (frost cs H1) ⟨us, []⟩ us vs _ E0 hr (env0_frost I1 hfn hc) (by have := hbA s1 us I1.kIn (by simpa using hl); rw [List.append_nil] at this; exact this) r1 spec
  refine wpAny_call (codeAny_mono rc fun r s' hq => ?_)
  cases r with
  | error e => exact (show False from hq).elim
  | ok fl =>
    cases fl with
    | ret u => exact I1.after (ce_thawed co hq fun v H' ic q => q ic)
    | next => exact False.elim hq
    | brk => exact False.elim hq
    | cont => exact False.elim hq
end
end DL
namespace DL
open PySem PySem.Spec PyProof.Rows L2 LamX LamV
/-- the n-th statement within one -/
def kB (s : Stmt) (n : Nat) : Stmt := ((match s with
  | .FunctionDef _ _ b _ _ _ _ _ _ _ => b
  | .For _ _ b _ _ => b
  | .If _ b _ _ => b
  | _ => [])[n]?).getD s
/-- the n-th part of an expression -/
def kE (e : Expr) (n : Nat) : Expr := ((match e with
  | .List xs _ => xs
  | .Call _ xs _ _ => xs
  | .BinOp a _ b _ => [a, b]
  | .UnaryOp _ a _ => [a]
  | .BoolOp _ xs _ => xs
  | .Compare a _ xs _ => a :: xs
  | _ => [])[n]?).getD e
/-- a statement's expression, its n-th part -/
def kV (s : Stmt) (n : Nat) : Expr := match s with
  | .Assign _ v _ => kE v n
  | .Return (some v) _ => kE v n
  | .Expr v _ => kE v n
  | .If t _ _ _ => kE t n
  | .For _ t _ _ _ => kE t n
  | _ => .JoinedStr [] ⟨0, 0, 0, 0⟩
/-- the lambda that E makes in X -/
def lamD (X : Cx) (E : Expr) (d : Bool) : FnD := match E with
  | .Lambda params body scope _ => ⟨X.env.qual ++ "<lambda>", params, body, scope, cloFrom X.env.cells scope.names [], d⟩
  | _ => ⟨"", ⟨[], [], none, [], [], none, []⟩, E, X.env.scope, [], d⟩
section
variable {X : Cx} {W0 : Bs} {E : Expr} {Tb : List (Addr × Str)} {c P : Addr} {params : Arguments} {body : Expr} {scope : Scope} {pos : Pos} {k : Nat} {d : Bool}
theorem de_lamE0 (hE : E = .Lambda params body scope pos) (TB : TabB X.base X.mg c P) (hTb : (P, X.env.qual ++ "<lambda>") ∈ Tb) (hTu : ∀ p ∈ Tb, p.1 = P → p.2 = X.env.qual ++ "<lambda>") (hcode : X.env.code = .ref c) (L : LamS3 X.N X.env.scope scope) (hdef : defaultsOf params X.env = ([], [])) :
    DE X W0 E (dFn Tb (lamD X E false)) := by
  subst hE
  exact de_lam0 TB hTb hTu hcode L hdef
theorem de_lamE1 {p0 : Pos} {k0 : Nat} (hE : E = .Lambda params body scope pos) (TB : TabB X.base X.mg c P) (hTb : (P, X.env.qual ++ "<lambda>") ∈ Tb) (hTu : ∀ p ∈ Tb, p.1 = P → p.2 = X.env.qual ++ "<lambda>") (hcode : X.env.code = .ref c) (L : LamS3 X.N X.env.scope scope) (hd : params.defaults = [.Constant (.int 0) k0 p0]) (hk : params.kw_defaults = []) :
    DE X W0 E (dFn Tb (lamD X E true)) := by
  subst hE
  exact de_lam1 TB hTb hTu hcode L hd hk
theorem bind0 (h : ∀ (q : Str) (cl : List (Str × Addr)) (doc pm : Value) (c' : Addr) (ctv : Value), bindArgs (lamFn q params body scope cl .none doc pm c' ctv) ⟨[], []⟩ = pure []) : BindOk params body scope false := ⟨fun _ => h, fun z => Bool.noConfusion z⟩
theorem bind1 {x : Str} (hx : scope.names.lookup x = some .local) (h : ∀ (q : Str) (cl : List (Str × Addr)) (doc pm : Value) (t c' : Addr) (ctv : Value) (tk : Tok), ∃ k : Option (Array Value) → Sem (List (Str × Value)), bindArgs (lamFn q params body scope cl (.ref t) doc pm c' ctv) ⟨[], []⟩ = seqItems? (.ref t) >>= k ∧ k (some #[.int 0 tk]) = pure [(x, .int 0 tk)]) :
    BindOk params body scope true := ⟨fun z => Bool.noConfusion z, fun _ => ⟨x, hx, h⟩⟩
theorem lamOkX {sp : DSpX} {TR : DTA} {ps : List Str} {j : Nat} {y : Str} {e : Expr} {es : List Expr} {p' pos' : Pos} (hE : E = .Lambda params (.Call (.Name y p') (e :: es) [] pos') scope pos) (L : LamS3 X.N X.env.scope scope) (bd : BindOk params (.Call (.Name y p') (e :: es) [] pos') scope d)
    (G : FnX X.prog X.w X.K X.mg X.base y j ps sp) (hj : j ≤ k) (hgy : ∀ (A : Around) (outer : List Env) (s : Shared) (H : Hp) (E : XK) (f c' : Addr), Gl (lamCx X A outer s H E scope f c') y)
    (hbody : ∀ (A : Around) (outer : List Env) (s : Shared) (H : Hp) (E : XK) (f c' : Addr) (B : Bs), Room k (A.deeper (lamEnv X scope s.heap.objs.size f c')) → DA (lamCx X A outer s H E scope f c') B (e :: es) TR)
    (he : ∀ (A : Around) (outer : List Env) (s : Shared) (H : Hp) (E : XK) (f c' : Addr), starEach (e :: es) (lamCx X A outer s H E scope f c').env = (false, eval e (lamCx X A outer s H E scope f c').env) :: starEach es (lamCx X A outer s H E scope f c').env)
    (hpl : ∀ (A : Around) (outer : List Env) (s : Shared) (H : Hp) (E : XK) (f c' : Addr), (backTo pos' (starEach es (lamCx X A outer s H E scope f c').env)).any (·.1) = false) (hdy : (y == ("__debug__" : Str)) = false := by decide) :
    LamOk X k (lamD X E d) (fun R => dCallX sp R TR) := by
  subst hE
  exact ⟨rfl, rfl, L, bd, fun A outer s H E f c' B hr' hR => de_fnX (X := lamCx X A outer s H E scope f c') G hR (hr'.mono hj) (hgy A outer s H E f c') (hbody A outer s H E f c' B hr') hdy (he A outer s H E f c') (hpl A outer s H E f c')⟩
theorem lams_nil : ∀ l T, (l, T) ∈ ([] : List (FnD × (EX → DTE))) → LamOk X k l T := fun _ _ h => by cases h
theorem lams_cons {l : FnD} {T : EX → DTE} {Λ : List (FnD × (EX → DTE))} (h : LamOk X k l T) (t : ∀ l T, (l, T) ∈ Λ → LamOk X k l T) : ∀ l' T', (l', T') ∈ (l, T) :: Λ → LamOk X k l' T' := fun l' T' m => by
  rcases List.mem_cons.mp m with z | z
  · cases z
    exact h
  · exact t l' T' z
end
end DL
namespace DL
open PySem PySem.Spec PyProof.Rows L2 LamX
section
variable {X : Cx} {W0 : Bs}
def dSortI (T : DTE) : DTN := fun env S P => T env S fun x S1 => ∃ ns : List Int, lstOf S1 x = some (ns.map .int) ∧ ∀ ms : List Int, ms.Perm ns → ms.Pairwise (· ≤ ·) → P (ms.map .int) S1
theorem dn_sortI {e : Expr} {T : DTE} {p pos : Pos} (h : DE X W0 e T) (hg : Gl X "sorted") (hm : X.mg "sorted" = none) (hs : starEach [e] X.env = [(false, eval e X.env)] := by rfl) :
    DN X W0 (.Call (.Name "sorted" p) [e] [] pos) (dSortI T) :=
  (pe_callB cr_sortedI hg hm (by decide +kernel) (pa_cons h pa_nil hs) (he := hs)).imp fun σ H Q ⟨W, env, S, P, hW, sim, er, ht, post⟩ =>
    ⟨W, env, S, _, hW, sim, er, ht, fun d S1 W1 H1 v ⟨ns, e1, q⟩ s1 l1 r1 => by
      obtain ⟨a, vs, rfl, hH, rr⟩ := r1.lst_of s1 e1
      refine ⟨a, ns, rfl, by rw [← rr.ints]; exact SqL.of hH, fun ms p hp hpw hn => ?_⟩
      exact (post.mono l1).laid (q ms hp hpw) s1 (reps_ints ms) p hn⟩
theorem i_sortI {T : DTE} {env : Ev} {S : Sto} {Q : List D → Sto → Prop} (q : T env S fun x S1 => ∃ ns : List Int, lstOf S1 x = some (ns.map .int) ∧ ∀ ms : List Int, ms.Perm ns → ms.Pairwise (· ≤ ·) → Q (ms.map .int) S1) : dSortI T env S Q := q
instance {T : DTE} {env : Ev} {S : Sto} {Q : List D → Sto → Prop} : Wk (dSortI T env S Q) (T env S fun x S1 => ∃ ns : List Int, lstOf S1 x = some (ns.map .int) ∧ ∀ ms : List Int, ms.Perm ns → ms.Pairwise (· ≤ ·) → Q (ms.map .int) S1) := ⟨fun q => i_sortI q⟩
end
end DL
namespace DL
open PySem PySem.Spec PyProof.Rows L2 LamX LamV
def MkX (P : Program) (w : World) (K : PySem.W.Frag) (mg : Str → Option Value) (base : Heap) (x : Str) (C : Addr) (k : Nat) (ps : List Str) (sp : DSpX) : Prop :=
  ∃ (f : Addr) (fd : FuncData), mg x = some (.ref C) ∧ Mk K C f ∧ Binds K fd ps [] ∧ FnOk P w K mg base (L2.CX P w) k f fd ps (liftSpX K sp)
theorem mkx_at {P : Program} {w : World} {K : PySem.W.Frag} {mg : Str → Option Value} {base : Heap} {C : Addr} {x qual : Str} {st : Stmt} {ps : List Str} {k : Nat} {sp : DSpX} (h : IAt K mg x C qual st ps) (ok : ∀ f fd, Fun K "__init__" qual st f fd → FnOk P w K mg base (L2.CX P w) k f fd ps (liftSpX K sp)) : MkX P w K mg base x C k ps sp := by
  obtain ⟨f, fd, h0, h1, h2, h3⟩ := h.ex
  exact ⟨f, fd, h0, h1, h3, ok f fd h2⟩
def dMakeX (C : Addr) (sp : DSpX) (R : EX) (TR : DTA) : DTE := fun env S P => TR env S fun ds S1 => sp (.ref S1.length :: ds) (S1 ++ [.ins C []]) (fun d S3 => d = .non ∧ P (.ref S1.length) S3) R
section
variable {X : Cx} {W0 : Bs} {e : Expr} {es : List Expr} {TR : DTA} {C : Addr} {pos p : Pos}
theorem lift_makeX {E : XK} {sp : DSpX} (px : PostX X.K W0.W W0.H W0.R E) {σ : L2.St} {H : Hp} {Q : VK} (h : liftE X.K W0 (dMakeX C sp W0.R TR) σ H Q) : tMake C (liftSpX X.K sp) [] E (liftA X.K W0 TR) σ H Q := by
  obtain ⟨W, env, S, P, hW, sim, er, ht, post⟩ := h
  refine ⟨W, env, S, _, hW, sim, er, ht, fun ds S1 W1 H1 vs q s1 l1 r1 x dx hx hdx hne => ?_⟩
  rw [List.append_nil]
  have hx2 : upd H1 dx (HO.own x) x = none := by rw [upd_ne (Ne.symm hne)]; exact hx
  have s2 : Sim X.K (W1.new x) (S1 ++ [.ins C []]) (upd (upd H1 dx (.own x)) x (.ins C dx [])) := (s1.lay hdx).newO hx2 ⟨s1.free hx, dx, [], upd_same, .nil⟩
  have l2 : Stp W1 H1 (W1.new x) (upd (upd H1 dx (.own x)) x (.ins C dx [])) := (Stp.lay hdx).trans (.newO hx2)
  have hk : (W1.new x).m[S1.length]? = some x := by
    show (W1.m ++ [x])[S1.length]? = some x
    rw [← s1.len, List.getElem?_append_right (Nat.le_refl _), Nat.sub_self]
    rfl
  refine ⟨W1.new x, _, _, _, W0.R, s2, .cons (.ref hk) (r1.mono l2.le), q, fun d S3 W3 H3 v ⟨e, q3⟩ s3 l3 r3 => ?_, px.mono (((hW.trans l1).stp).trans l2)⟩
  subst e
  exact ⟨r3.nonV, post _ _ W3 H3 _ q3 s3 (l1.trans (l2.trans l3)) (.ref (l3.le.pre _ _ hk))⟩
theorem de_makeX {x : Str} {k : Nat} {ps : List Str} {sp : DSpX} (h : MkX X.prog X.w X.K X.mg X.base x C k ps sp) (hR : Rz X W0) (hr : Room (k + 1) X.A) (hg : Gl X x) (ha : DA X W0 (e :: es) TR) (hdb : (x == ("__debug__" : Str)) = false := by decide) (he : starEach (e :: es) X.env = (false, eval e X.env) :: starEach es X.env := by rfl) (hpl : (backTo pos (starEach es X.env)).any (·.1) = false := by rfl) :
    DE X W0 (.Call (.Name x p) (e :: es) [] pos) (dMakeX C sp W0.R TR) := by
  obtain ⟨f, fd, h1, h2, h3, h4⟩ := h
  obtain ⟨E, tk, px⟩ := hR
  exact (pe_make h2 h4 hr hg h1 h3 .nil (pass_of tk) ha hdb he hpl).imp fun _ _ _ q => lift_makeX px q
theorem i_makeX {sp : DSpX} {R : EX} {env : Ev} {S : Sto} {P : DP} (q : TR env S fun ds S1 => sp (.ref S1.length :: ds) (S1 ++ [.ins C []]) (fun d S3 => d = .non ∧ P (.ref S1.length) S3) R) : dMakeX C sp R TR env S P := q
instance {sp : DSpX} {R : EX} {env : Ev} {S : Sto} {P : DP} : Wk (dMakeX C sp R TR env S P) (TR env S fun ds S1 => sp (.ref S1.length :: ds) (S1 ++ [.ins C []]) (fun d S3 => d = .non ∧ P (.ref S1.length) S3) R) := ⟨fun q => i_makeX q⟩
variable {E : Expr} {params : Arguments} {scope : Scope} {k : Nat} {d : Bool}
theorem lamOkC {sp : DSpX} {ps : List Str} {j : Nat} {y : Str} {p' pos' : Pos} (hE : E = .Lambda params (.Call (.Name y p') (e :: es) [] pos') scope pos) (L : LamS3 X.N X.env.scope scope) (bd : BindOk params (.Call (.Name y p') (e :: es) [] pos') scope d)
    (G : MkX X.prog X.w X.K X.mg X.base y C j ps sp) (hj : j + 1 ≤ k) (hgy : ∀ (A : Around) (outer : List Env) (s : Shared) (H : Hp) (E : XK) (f c' : Addr), Gl (lamCx X A outer s H E scope f c') y)
    (hbody : ∀ (A : Around) (outer : List Env) (s : Shared) (H : Hp) (E : XK) (f c' : Addr) (B : Bs), Room k (A.deeper (lamEnv X scope s.heap.objs.size f c')) → DA (lamCx X A outer s H E scope f c') B (e :: es) TR)
    (he : ∀ (A : Around) (outer : List Env) (s : Shared) (H : Hp) (E : XK) (f c' : Addr), starEach (e :: es) (lamCx X A outer s H E scope f c').env = (false, eval e (lamCx X A outer s H E scope f c').env) :: starEach es (lamCx X A outer s H E scope f c').env)
    (hpl : ∀ (A : Around) (outer : List Env) (s : Shared) (H : Hp) (E : XK) (f c' : Addr), (backTo pos' (starEach es (lamCx X A outer s H E scope f c').env)).any (·.1) = false) (hdy : (y == ("__debug__" : Str)) = false := by decide) :
    LamOk X k (lamD X E d) (fun R => dMakeX C sp R TR) := by
  subst hE
  exact ⟨rfl, rfl, L, bd, fun A outer s H E f c' B hr' hR => de_makeX (X := lamCx X A outer s H E scope f c') G hR (hr'.mono hj) (hgy A outer s H E f c') (hbody A outer s H E f c' B hr') hdy (he A outer s H E f c') (hpl A outer s H E f c')⟩
theorem lamOkM {Ta : DTE} {a : Expr} {m : Str} {sp : DSpX} {ps : List Str} {j : Nat} {apos pos' : Pos} {pl : Around → List Env → Shared → Hp → XK → Addr → Addr → Sem Bool} (hE : E = .Lambda params (.Call (.Attribute a m apos) (e :: es) [] pos') scope pos) (L : LamS3 X.N X.env.scope scope) (bd : BindOk params (.Call (.Attribute a m apos) (e :: es) [] pos') scope d)
    (c1 : Cls X.K C) (G : MFnX X.prog X.w X.K X.mg X.base C m j ps sp) (hj : j ≤ k)
    (hob : ∀ (A : Around) (outer : List Env) (s : Shared) (H : Hp) (E : XK) (f c' : Addr) (B : Bs), DE (lamCx X A outer s H E scope f c') B a Ta)
    (hbody : ∀ (A : Around) (outer : List Env) (s : Shared) (H : Hp) (E : XK) (f c' : Addr) (B : Bs), Room k (A.deeper (lamEnv X scope s.heap.objs.size f c')) → DA (lamCx X A outer s H E scope f c') B (e :: es) TR)
    (he : ∀ (A : Around) (outer : List Env) (s : Shared) (H : Hp) (E : XK) (f c' : Addr), starEach (e :: es) (lamCx X A outer s H E scope f c').env = (false, eval e (lamCx X A outer s H E scope f c').env) :: starEach es (lamCx X A outer s H E scope f c').env)
    (hpl : ∀ (A : Around) (outer : List Env) (s : Shared) (H : Hp) (E : XK) (f c' : Addr), (backTo pos' (starEach es (lamCx X A outer s H E scope f c').env)).any (·.1) = false)
    (ht : ∀ (A : Around) (outer : List Env) (s : Shared) (H : Hp) (E : XK) (f c' : Addr), eval (.Call (.Attribute a m apos) (e :: es) [] pos') (lamCx X A outer s H E scope f c').env = (do
      let ov ← eval a (lamCx X A outer s H E scope f c').env
      standAt apos.atName
      let (f', first) ← holding [ov] (getMethod ov m (pl A outer s H E f c'))
      callWith pos' f' first (backTo pos' (starEach (e :: es) (lamCx X A outer s H E scope f c').env)) (backToKw pos' (keywordEach [] (lamCx X A outer s H E scope f c').env)))) :
    LamOk X k (lamD X E d) (fun R => dMethX C m sp R Ta TR) := by
  subst hE
  exact ⟨rfl, rfl, L, bd, fun A outer s H E f c' B hr' hR => de_methX (X := lamCx X A outer s H E scope f c') c1 G hR (hr'.mono hj) (hob A outer s H E f c' B) (hbody A outer s H E f c' B hr') (he A outer s H E f c') (hpl A outer s H E f c') (ht A outer s H E f c')⟩
end
end DL
namespace DL
open PySem PySem.Spec PyProof.Rows L2 LamX
section
variable {K : PySem.W.Frag} {h : Heap} {mg : Str → Option Value} {goal : Prop}
theorem with_xcK (_ : K.In h) (x : Str) {C : Addr} (gC : mg x = some (.ref C)) (ex : PySem.W.excIn K C PySem.HandSPX.veTail "ValueError.__new__" = true) (kC : PySem.W.keepIn K (.ref C) = true) (su : PySem.W.subIn K (.ref C) (.type "BaseException") = some true) (ty : PySem.W.typeIn K (.ref C) = some (.type "type")) (q : XcF K mg x C → goal) : goal := q ⟨ex, gC, kC, su, ty⟩
theorem with_wdK (_ : K.In h) {cs : List Addr} {CS C : Addr} (j : Nat) (ex : ExcC K C) (jl : j < 15) (sl : PySem.W.exmOne K (.ref C) (.ref CS) = some true)
    (is : cs.zipIdx.all (fun p => decide (PySem.W.kitOne K (.ref C) (.ref p.1) = some (decide (p.2 = j)))) = true) (ve : PySem.W.kitOne K (.ref C) (.type "ValueError") = some true)
    (nf : PySem.W.findIn K (.ref C) "function" = some none) (nr : PySem.W.findIn K (.ref C) "row" = some none) (na : PySem.W.findIn K (.ref C) "at" = some none) (q : WdC K cs CS C j → goal) : goal := by
  refine q ⟨ex, jl, sl, fun k c hk => ?_, ve, nf, nr, na⟩
  have := List.all_eq_true.mp is (c, k) (by rw [List.mem_zipIdx_iff_getElem?]; exact hk)
  exact of_decide_eq_true this
end
theorem with_xiK {K : PySem.W.Frag} {h : Heap} {goal : Prop} {P : Program} (_ : K.In h) (C : Addr) {qual : Str} {st : Stmt} {fs : List Str} (S : XiS P qual st fs) {nm q : Str} {N : Addr} {bs bm : List Value} {sn : List Str} {sub : List Value} {ab : Bool} {col : Option Bool} {dd : Option Addr} {k0 k1 k2 k3 k5 : Option Value}
    {fI cda cc : Addr} {oc : Value} {od an : Option Addr} {osl : Array (Option Value)} {kV doc pm ct : Value} {ccl cl : Value} {cdd cld : Option Addr} {vs : Array Value} {ccs csl : Array (Option Value)} {file : Str} {tf : Tok}
    (lC : K.lookup C = some (excClassObj nm q C N bs bm true sn sub ab col dd k0 k1 k2 k3 k5 "ValueError.__new__")) (vb : PySem.HandSPX.refsVE bm = true)
    (sa : PySem.W.findIn K (.ref C) "__setattr__" = some (some (.builtin "object.__setattr__"))) (exC : PySem.W.subIn K (.ref C) (.type "BaseException") = some true) (tyC : PySem.W.typeIn K (.ref C) = some (.type "type")) (kC : PySem.W.keepIn K (.ref C) = true)
    (iC : PySem.W.findIn K (.ref C) "__init__" = some (some (.ref fI))) (tI : PySem.W.typeIn K (.ref fI) = some (.type "function"))
    (lI : K.lookup fI = some ⟨oc, od, .func (PySem.W.ksFn "__init__" qual (defArgs st) (defBody st) (defScope st) .none kV doc pm an (.ref cda) ct cc), osl⟩) (cI : PySem.W.codeIn K (.ref cda) qual = true)
    (lc : K.lookup cda = some ⟨ccl, cdd, .fields vs, ccs⟩) (hv : vs[2]? = some (.str file tf)) (hf : ((P.main.file : Str) == file) = true) (lcc : K.lookup cc = some ⟨cl, cld, .cell (some (.ref C)), csl⟩)
    (mro : PySem.W.mroIn K C (.ref C) = some true) (sub' : PySem.W.subIn K (.ref C) (.type "ValueError") = some true) (opq : PySem.W.nsIn K cStatics "thirdparty.any" = some none)
    (sup : PySem.W.ks_superIn K C C "__init__" = some (some (.builtin "ValueError.__init__"))) (nf : ∀ f ∈ fs, PySem.W.findIn K (.ref C) f = some none) (g : XiC P K C qual st fs → goal) : goal :=
  with_xi qual st fs lC vb sa exC tyC kC iC tI lI cI lc hv hf lcc mro sub' opq sup nf S.bind S.hp S.top S.ks S.kc S.kl S.nc S.co S.gen S.kd S.few S.nd S.body g
end DL
namespace K04
open PySem PySem.Spec PyProof.Rows L2 DL
local macro_rules | `(tactic| walk_at "d1") => `(tactic| first
  | with_reducible refine i_seq ?_
  | with_reducible refine i_asg ?_
  | with_reducible refine i_op ?_
  | with_reducible refine i_opN ?_
  | with_reducible refine i_c ?_
  | with_reducible refine i_call ?_
  | with_reducible refine i_callN ?_
  | with_reducible refine i_cons ?_
  | with_reducible refine i_nil ?_
  | with_reducible refine i_max ?_
  | with_reducible refine i_min ?_
  | with_reducible refine i_nm ?_
  | with_reducible refine i_addI ?_
  | with_reducible refine i_I0 ?_
  | with_reducible refine i_eqI ?_
  | with_reducible refine i_eqS ?_
  | with_reducible refine i_eqB ?_
  | with_reducible refine i_is ?_
  | with_reducible refine i_if ?_
  | with_reducible refine i_ifS ?_
  | with_reducible refine i_B ?_
  | with_reducible refine i_Bx ?_
  | with_reducible refine i_ret ?_
  | with_reducible refine i_next ?_
  | with_reducible refine i_pure ?_
  | with_reducible refine i_new ?_
  | with_reducible refine i_par ?_
  | with_reducible refine i_xpar ?_
  | with_reducible refine i_lst ?_
  | with_reducible refine i_tup ?_
  | with_reducible refine i_sb ?_
  | with_reducible refine i_and ?_
  | with_reducible refine i_or ?_
  | with_reducible refine i_not ?_
  | with_reducible refine i_chain ?_
  | with_reducible refine i_andV ?_
  | with_reducible refine i_orV ?_
  | with_reducible refine i_notV ?_
  | with_reducible refine i_star ?_
  | with_reducible refine i_gc ?_
  | with_reducible refine i_gn ?_
  | with_reducible refine i_drop ?_
  | with_reducible refine i_mt ?_
  | with_reducible refine i_addL ?_
  | with_reducible refine i_addR ?_
  | ((with_reducible refine' i_var ?k1 ?k2); (case k1 => exact rfl))
  | ((with_reducible refine' i_len ?k1 ?k2); (case k1 => exact rfl))
  | ((with_reducible refine' i_list ?k1 ?k2); (case k1 => exact rfl))
  | ((with_reducible refine' i_tuple ?k1 ?k2); (case k1 => exact rfl))
  | ((with_reducible refine' i_tp ?k1 ?k2); (case k1 => exact rfl))
  | ((with_reducible refine' i_mtx ?k1 ?k2); (case k1 => exact rfl))
  | with_reducible refine i_irg1 ?_
  | with_reducible refine i_itp ?_
  | with_reducible refine i_ils ?_
  | with_reducible refine i_ien ?_
  | with_reducible refine i_izp ?_
  | with_reducible refine i_xtp ?_
  | with_reducible refine i_xls ?_
  | with_reducible refine i_xlsS ?_
  | with_reducible refine i_xen ?_
  | with_reducible refine i_xzpL ?_
  | with_reducible refine i_xzpT ?_
  | with_reducible refine i_for ?_
  | with_reducible refine i_lc ?_
  | with_reducible refine i_yes ?_
  | with_reducible refine i_xint ?_
  | with_reducible refine i_neg ?_
  | with_reducible refine i_part ?_
  | with_reducible refine i_nopart ?_
  | with_reducible refine i_sl ?_
  | with_reducible refine i_slT ?_
  | ((with_reducible refine' i_xstar ?k1 ?k2); (case k1 => exact rfl))
  | with_reducible refine i_xslT ?_
  | ((with_reducible refine' i_addT ?k1 ?k2); (case k1 => exact sz_le (by first | decide | (simp; done) | omega)))
  | ((with_reducible refine' i_xslL ?k1 ?k2); (case k1 => exact rfl))
  | ((with_reducible refine' i_cat ?k1 ?k2 ?k3 ?k4); (case k1 => exact rfl); (case k2 => exact rfl); (case k3 => exact sz_le (by first | decide | (simp; done) | omega)))
  | ((with_reducible refine' i_isi ?k1 ?k2 ?k3); (case k1 => exact rfl); (case k2 => first | exact kit_NoneType_int | exact kit_NoneType_bool | exact kit_NoneType_str | exact kit_NoneType_tuple | exact kit_NoneType_list | exact kit_bool_int | exact kit_bool_bool | exact kit_bool_str | exact kit_bool_tuple | exact kit_bool_list | exact kit_int_int | exact kit_int_bool | exact kit_int_str | exact kit_int_tuple | exact kit_int_list | exact kit_str_int | exact kit_str_bool | exact kit_str_str | exact kit_str_tuple | exact kit_str_list | exact kit_tuple_int | exact kit_tuple_bool | exact kit_tuple_str | exact kit_tuple_tuple | exact kit_tuple_list | exact kit_list_int | exact kit_list_bool | exact kit_list_str | exact kit_list_tuple | exact kit_list_list))
  | with_reducible refine i_kix ?_
  | with_reducible refine i_newD ?_
  | with_reducible refine i_dget ?_
  | with_reducible refine i_dget1 ?_
  | with_reducible refine i_dd ?_
  | with_reducible refine i_disp ?_
  | with_reducible refine i_pnil ?_
  | with_reducible refine i_pcons ?_
  | with_reducible refine i_ienT ?_
  | with_reducible refine i_xenT ?_
  | ((with_reducible refine' i_xkix ?k1 ?k2); (case k1 => exact rfl))
  | ((with_reducible refine' i_xdget ?k1 ?k2 ?k3); (case k1 => exact rfl); (case k2 => exact rfl))
  | ((with_reducible refine' i_xdget1 ?k1 ?k2); (case k1 => exact rfl))
  | ((with_reducible refine' i_set ?k1 ?k2 ?k3); (case k1 => exact rfl); (case k2 => exact rfl))
  | ((with_reducible refine' i_ix ?k1 ?k2 ?k3); (case k1 => exact rfl); (case k2 => first | exact rfl | exact at0 _ _))
  | with_reducible refine i_sz rfl ?_
  | ((with_reducible refine' i_I ?k1 ?k2); (case k1 => first | decide | assumption | omega | exact ⟨by decide, by decide, by decide⟩ | exact ⟨by omega, by omega⟩ | exact Or.inr ⟨by decide, by decide⟩ | exact Or.inl ⟨by decide, by decide⟩)))
local macro_rules | `(tactic| walk_at "d") => `(tactic| repeat walk_at "d1")
local macro_rules | `(tactic| walk_at "st") => `(tactic| simp only [startE, List.map_cons, List.map_nil, List.length_cons, List.length_nil, Nat.reduceAdd, Nat.reduceSub, List.replicate, List.cons_append, List.nil_append])
local macro_rules | `(tactic| walk_at "e") => `(tactic| dsimp only [List.set_cons_zero, List.set_cons_succ])
local macro_rules | `(tactic| walk_at "d1") => `(tactic| first
  | with_reducible refine i_fld ?_
  | with_reducible refine i_setF ?_
  | with_reducible refine i_augF ?_
  | with_reducible refine i_meth ?_
  | with_reducible refine i_make ?_
  | with_reducible refine i_augS ?_
  | with_reducible refine i_kget2 ?_
  | with_reducible refine i_kin ?_
  | with_reducible refine i_sget ?_
  | with_reducible refine i_dispS ?_
  | with_reducible refine i_sbD ?_
  | ((with_reducible refine' i_aug ?k1 ?k2); (case k1 => exact rfl)))
local macro_rules | `(tactic| walk_at "so") => `(tactic| first | assumption | (rw [sto_get]; rfl) | (rw [sto_get0]; rfl))
local macro_rules | `(tactic| walk_at "c") => `(tactic| first | exact rfl | decide | assumption | (simp; done) | (simp; omega))
local macro_rules | `(tactic| walk_at "v1") => `(tactic| first
  | walk_at "d1"
  | ((refine' ⟨_, _, _, rfl, ?k1, ?k2, ?k3⟩); (case k1 => walk_at "so"); (case k2 => exact rfl))
  | ((refine' ⟨_, _, rfl, ?k1, ?k2, ?k3⟩); (case k1 => walk_at "so"); (case k2 => exact few rfl))
  | ((refine' ⟨⟨_, _, rfl, ?k1, ?k2⟩, ?k3⟩); (case k1 => walk_at "so"); (case k2 => exact rfl))
  | ((refine' ⟨_, ?k1, ?k2, ?k3⟩); (case k1 => walk_at "so"); (case k2 => exact few rfl))
  | with_reducible refine i_rev ?_)
local macro_rules | `(tactic| walk_at "v") => `(tactic| repeat walk_at "v1")
local macro_rules | `(tactic| walk_at "t") => `(tactic| first
  | ((refine' ite_t ?k1 ?k2); (case k1 => walk_at "c"))
  | ((refine' ite_f ?k1 ?k2); (case k1 => walk_at "c")))
local macro_rules | `(tactic| walk_at "w") => `(tactic| repeat first | walk_at "v1" | walk_at "t")
local macro_rules | `(tactic| walk_at "d1") => `(tactic| first
  | with_reducible refine i_callX ?_
  | with_reducible refine i_rzX ?_
  | with_reducible refine i_rz0 ?_)
local macro_rules | `(tactic| walk_at "d1") => `(tactic| first
  | with_reducible refine i_irg2 ?_
  | with_reducible refine i_irg3 ?_
  | with_reducible refine i_irv ?_
  | with_reducible refine i_dc ?_
  | with_reducible refine i_new0 ?_
  | with_reducible refine i_rvm ?_
  | with_reducible refine i_dget2 ?_
  | with_reducible refine i_isdct ?_
  | ((with_reducible refine' i_xdget2 ?k1 ?k2); (case k1 => exact rfl))
  | with_reducible refine i_sbN ?_)
local macro_rules | `(tactic| walk_at "d1") => `(tactic| first
  | with_reducible refine i_gsl ?_
  | with_reducible refine i_gfl ?_
  | with_reducible refine i_upd ?_
  | with_reducible refine i_cntS ?_)
local macro_rules | `(tactic| walk_at "d1") => `(tactic| with_reducible refine Wk.go ?_)
def topS (i : Nat) : Stmt := PySem.Challenge.pw_slideboxes_k04_codes_refused.main.body.getD i (.Pass ⟨0, 0, 0, 0⟩)
/-- the built-ins that the text leaves as they are -/
def isB (x : Str) : Bool := (["ValueError", "all", "bool", "dict", "enumerate", "int", "isinstance", "len", "list", "max", "min", "range", "set", "sorted", "str", "sum", "super", "tuple", "zip"] : List Str).contains x
/-- the whole numbers of the text's top -/
def isG (x : Str) : Option Int := ([("MOST_FUNCTIONS", 8), ("MOST_ARGUMENTS", 3), ("MOST_PROGRAM_ROWS", 30), ("MOST_CODE_ROWS", 200), ("PROGRAM_BOXES", 8), ("CODE_BOXES", 16), ("NUMBERS", 1000), ("MOST_HANDS", 4), ("MOST_PICKS", 200), ("MOST_STRETCHES", 8), ("MOST_WITHIN", 60), ("FIRST_OWN", 4), ("FIRST_OUT", 12), ("STRETCH", 12), ("INS", 4), ("MOST_ROWS", 40000)] : List (Str × Int)).lookup x
structure Tok where
  cells : List Int
  m : Int
  n : Int
def tabs0 : List (Addr × Str) := [(770, "law.<locals>.<lambda>"), (763, "_law_machine_right.<locals>.<lambda>")]
def hd (t : Tok) : Sto := [.tab 770 "law.<locals>.<lambda>", .tab 763 "_law_machine_right.<locals>.<lambda>", .lst (t.cells.map .int), .lst [.int t.m, .ref 2, .int t.n]]
theorem unders_ints (n : Nat) : ∀ ns : List Int, unders n (ns.map .int) = true
  | [] => rfl
  | _ :: ns => unders_ints n ns
theorem hd_mem {t' : Tok} {o : O} {n : Nat} (ho : o ∈ hd t') (hl : 2 < n) : o.under n = true := by
  simp only [hd, List.mem_cons, List.not_mem_nil, or_false] at ho
  rcases ho with rfl | rfl | rfl | rfl <;> first
    | rfl
    | exact unders_ints _ _
    | (show (true && (decide (2 < n) && (true && true))) = true
       rw [decide_eq_true hl]
       rfl)
theorem hd_len {t : Tok} : (hd t).length = 4 := rfl
theorem exit_hd {t t' : Tok} {T T' S' : Sto} {P : DP} {d : D} (e : S' = hd t' ++ T ++ T') (h : ∀ n, d.under n = true) (q : P d (hd t' ++ T)) : atExit (hd t ++ T) P d S' := by
  refine i_exit (S1 := hd t' ++ T) (T' := T') e (by simp [hd]) (fun o ho => ?_) (h _) q
  rcases List.mem_append.mp ho with ho | ho
  · exact .inr (hd_mem ho (by rw [List.length_append, hd_len]; omega))
  · exact .inl (List.mem_append_right _ ho)
theorem exit_hd0 {t t' : Tok} {T : Sto} {P : DP} {d : D} (h : ∀ n, d.under n = true) (q : P d (hd t' ++ T)) : atExit (hd t ++ T) P d (hd t' ++ T) := exit_hd (T' := []) (List.append_nil _).symm h q
/-- a def that draws nothing -/
theorem exit_pure {S T' S' : Sto} {P : DP} {d : D} (e : S' = S ++ T') (h : ∀ n, d.under n = true) (q : P d S) : atExit S P d S' := i_exit e rfl (fun o ho => .inl ho) (h _) q
theorem exit_pure0 {S : Sto} {P : DP} {d : D} (h : ∀ n, d.under n = true) (q : P d S) : atExit S P d S := exit_pure (T' := []) (List.append_nil _).symm h q
inductive Ar where
  | plus | less | times
def Ar.s : Ar → Str
  | .plus => "plus"
  | .less => "less"
  | .times => "times"
inductive Row where
  | num (b n : Int) | ar (w : Ar) (b c d : Int) | call (b f : Int) (bs : List Int) | skip (b m : Int) | say (b : Int) | rest | tell (b : Int)
def Row.e : Row → D
  | .num b n => .tup [.str "num", .int b, .int n]
  | .ar w b c d => .tup [.str w.s, .int b, .int c, .int d]
  | .call b f bs => .tup [.str "call", .int b, .int f, .tup (bs.map .int)]
  | .skip b m => .tup [.str "skip", .int b, .int m]
  | .say b => .tup [.str "say", .int b]
  | .rest => .tup [.str "rest"]
  | .tell b => .tup [.str "tell", .int b]
structure Func where
  many : Int
  rows : List Row
def Func.e (f : Func) : D := .tup [.int f.many, .tup (f.rows.map Row.e)]
def box (b : Int) : Prop := 0 ≤ b ∧ b < 8
/-- a row that can be: manyOf tells the functions' arguments, left how many rows are behind it -/
def Row.ok (manyOf : Int → Option Nat) (left : Int) : Row → Prop
  | .num b n => box b ∧ 0 ≤ n ∧ n < 1000
  | .ar _ b c d => box b ∧ box c ∧ box d
  | .call b f bs => box b ∧ manyOf f = some bs.length ∧ ∀ x ∈ bs, box x
  | .skip b m => box b ∧ 0 ≤ m ∧ m ≤ left
  | .say b => box b
  | .rest => True
  | .tell b => box b
def rowsOk (manyOf : Int → Option Nat) (rs : List Row) : Prop := ∀ (i : Nat) (r : Row), rs[i]? = some r → r.ok manyOf (rs.length - 1 - i)
structure Func.ok (manyOf : Int → Option Nat) (f : Func) : Prop where
  lo : 0 ≤ f.many
  hi : f.many ≤ 3
  len : f.rows.length ≤ 30
  rows : rowsOk manyOf f.rows
theorem unders_map {α : Type} {f : α → D} (n : Nat) (h : ∀ a, (f a).under n = true) : ∀ xs : List α, unders n (xs.map f) = true
  | [] => rfl
  | x :: xs => by
    show ((f x).under n && unders n (xs.map f)) = true
    rw [h x, unders_map n h xs]
    rfl
def spNext : DSp := fun ds S P => ∃ t T k, ds = [.ref 3, .int k] ∧ S = hd t ++ T ∧ 0 < k ∧ k < 1073741824 ∧ ∀ r t', 0 ≤ r → r < k → P (.int r) (hd t' ++ T)
theorem i_draw {t : Tok} {T : Sto} {k : Int} {P : DP} (h0 : 0 < k) (h1 : k < 1073741824) (q : ∀ r t', 0 ≤ r → r < k → P (.int r) (hd t' ++ T)) : spNext [.ref 3, .int k] (hd t ++ T) P := ⟨t, T, k, rfl, rfl, h0, h1, q⟩
abbrev s_Lnext : Stmt := topS 76
abbrev N_Lnext : List Str := ["_law_h", "_law_many", "_law_at", "_law_cell"]
theorem sc_Lnext : FnScope N_Lnext ["_law_h", "_law_many"] (defScope s_Lnext) := ⟨rfl, rfl, rfl, by decide +kernel, rfl, by decide +kernel, by decide +kernel⟩
section
variable {P : Program} {w : World} {K : PySem.W.Frag} {mg : Str → Option Value} {base : Heap}
theorem ok_Lnext (at_ : At K mg "_law_next" s_Lnext ["_law_h", "_law_many"]) (mb : ∀ x, isB x = true → mg x = none) : Fn P w K mg base "_law_next" 1 ["_law_h", "_law_many"] spNext := by
  refine fn_at at_ fun f fd F => fn_d F sc_Lnext (fun ds S P h => ?_) ?_
  · obtain ⟨t, T, k, rfl, _⟩ := h
    rfl
  · rintro X W0 cdv A outer s H E rfl hr
    have hu := hr.units
    refine ⟨_, (dss_cons (ds_set (i := 2) (de_mod (de_ix (de_var (pv 0)) de_int (fun _ _ => rfl)) (de_b dc_max (da_cons de_int (da_cons (de_b dc_len (da_cons (de_ix (de_var (pv 0)) de_int (fun _ _ => rfl)) da_nil) (fun h => pe_callB call_len_seq (by rfl) (mb "len" rfl) PySem.boot_len h)) da_nil)) (fun h => pe_callB (call_max2 rfl) (by rfl) (mb "max" rfl) (by decide +kernel) h))) (fun h => ps_set sc_Lnext.nd rfl (by first | exact Or.inl rfl | exact Or.inr rfl) h))
      (dss_cons (ds_set (i := 3) (de_if (dt_cmp (op_neA hu) do_ne (de_ix (de_var (pv 0)) de_int (fun _ _ => rfl)) (de_pure (dn_lst da_nil)) (nomark _)) (de_ix (de_ix (de_var (pv 0)) de_int (fun _ _ => rfl)) (de_var (pv 2)) (fun _ _ => rfl)) de_int) (fun h => ps_set sc_Lnext.nd rfl (by first | exact Or.inl rfl | exact Or.inr rfl) h))
      (dss_cons (ds_if (dt_cmp op_ge do_ge (de_var (pv 3)) (de_pow de_int de_int) (nomark _)) (dss_cons (ds_asg (de_fdiv (de_var (pv 3)) (de_var (pv 1))) (dg_sub (de_ix (de_var (pv 0)) de_int (fun _ _ => rfl)) (de_var (pv 2)) (fun h1 h2 => pg_sub h1 h2 set_list)) (fun h1 h2 => ps_asg h1 h2))
      (dss_one (ds_ret (de_mod (de_var (pv 3)) (de_var (pv 1)))))) dss_nil)
      (dss_cons (ds_asg (de_mod (de_add (de_add (de_mul (de_ix (de_var (pv 0)) de_int (fun _ _ => rfl)) de_int) (de_mul (de_var (pv 3)) de_int)) de_int) de_int) (dg_sub (de_var (pv 0)) de_int (fun h1 h2 => pg_sub h1 h2 set_list)) (fun h1 h2 => ps_asg h1 h2))
      (dss_cons (ds_asg (de_add (de_ix (de_var (pv 0)) de_int (fun _ _ => rfl)) de_int) (dg_sub (de_var (pv 0)) de_int (fun h1 h2 => pg_sub h1 h2 set_list)) (fun h1 h2 => ps_asg h1 h2))
      (dss_one (ds_ret (de_mod (de_fdiv (de_ix (de_var (pv 0)) de_int (fun _ _ => rfl)) de_int) (de_var (pv 1)))))))))), ?_⟩
    rintro ds S P ⟨t, T, k, rfl, rfl, hk, hk2, post⟩
    walk_at "st"
    walk_at "d"
    refine i_eqNil (ns := t.cells) rfl ?_
    walk_at "d"
    walk_at "e"
    have fin : ∀ (c m' : Int) (hm : m' = (t.m * 48271 + c * 69621 + 11) % 2147483647), atExit (hd t ++ T) P (.int (m' / 7 % k)) (hd ⟨t.cells, m', t.n + 1⟩ ++ T) := fun c m' _ =>
      exit_hd0 (fun _ => rfl) (post _ _ (Int.emod_nonneg _ (by omega)) (Int.emod_lt_of_pos _ hk))
    by_cases hc : t.cells = []
    · refine ite_f (by rw [hc]; simp) ?_
      walk_at "d"
      walk_at "e"
      refine ite_f (by simp) ?_
      walk_at "d"
      exact fin 0 _ rfl
    · have hl : 0 < t.cells.length := List.length_pos_iff.mpr hc
      refine ite_t (by simp [hc]) ?_
      walk_at "d"
      have hat : ∃ a : Int, 0 ≤ a ∧ a < t.cells.length ∧ (t.n % if ((t.cells.map D.int).length : Int) > 1 then ((t.cells.map D.int).length : Int) else 1) = a := by
        refine ⟨_, ?_, ?_, rfl⟩
        · exact Int.emod_nonneg _ (by rw [List.length_map]; split <;> omega)
        · refine Int.lt_of_lt_of_le (Int.emod_lt_of_pos _ (by rw [List.length_map]; split <;> omega)) ?_
          rw [List.length_map]
          split <;> omega
      obtain ⟨a, a0, a1, ha⟩ := hat
      rw [ha]
      obtain ⟨c, hcell⟩ := at_get (ns := t.cells) a0 a1
      refine i_ix rfl hcell ?_
      walk_at "d"
      walk_at "e"
      by_cases hge : (10 : Int) ^ (18 : Int).toNat ≤ c
      · refine ite_t (decide_eq_true hge) ?_
        walk_at "d"
        have hp : ixN (t.cells.map D.int).length a = some a.toNat := by
          unfold ixN
          rw [if_pos a0, if_pos (by rw [List.length_map]; exact a1)]
        refine i_set rfl hp ?_
        walk_at "d"
        refine exit_hd (t' := ⟨t.cells.set a.toNat (c / k), t.m, t.n⟩) (T' := []) ?_ (fun _ => rfl) (post _ _ (Int.emod_nonneg _ (by omega)) (Int.emod_lt_of_pos _ hk))
        rw [List.append_nil]
        show _ = O.tab 770 "law.<locals>.<lambda>" :: O.tab 763 "_law_machine_right.<locals>.<lambda>" :: O.lst ((t.cells.set a.toNat (c / k)).map D.int) :: _
        rw [List.map_set]
        rfl
      · refine ite_f (by simpa using hge) ?_
        walk_at "d"
        exact fin c _ rfl
end
abbrev s_whole : Stmt := topS 32
abbrev N_whole : List Str := ["value"]
theorem sc_whole : FnScope N_whole ["value"] (defScope s_whole) := ⟨rfl, rfl, rfl, by decide +kernel, rfl, by decide +kernel, by decide +kernel⟩
abbrev s_below : Stmt := topS 33
abbrev N_below : List Str := ["value", "bound"]
theorem sc_below : FnScope N_below ["value", "bound"] (defScope s_below) := ⟨rfl, rfl, rfl, by decide +kernel, rfl, by decide +kernel, by decide +kernel⟩
abbrev s_allbelow : Stmt := topS 34
abbrev N_allbelow : List Str := ["values", "bound", "value"]
theorem sc_allbelow : FnScope N_allbelow ["values", "bound"] (defScope s_allbelow) := ⟨rfl, rfl, rfl, by decide +kernel, rfl, by decide +kernel, by decide +kernel⟩
def isInt : D → Bool
  | .int _ => true
  | _ => false
def inB (b : Int) : D → Bool
  | .int v => decide (0 ≤ v) && decide (v < b)
  | _ => false
def tyd (S : Sto) (d : D) : Prop := ∃ n, tyOf S d = some n
def spWhole : DSp := fun ds S P => ∃ d, ds = [d] ∧ tyd S d ∧ P (.bl (isInt d)) S
def spBelow : DSp := fun ds S P => ∃ d b, ds = [d, .int b] ∧ tyd S d ∧ P (.bl (inB b d)) S
def spAllBelow : DSp := fun ds S P => ∃ xs b, ds = [.tup xs, .int b] ∧ xs.length ≤ 1000 ∧ (∀ x ∈ xs, tyd S x) ∧ P (.bl (xs.all (inB b))) S
section
variable {P : Program} {w : World} {K : PySem.W.Frag} {mg : Str → Option Value} {base : Heap}
theorem ok_whole (at_ : At K mg "whole" s_whole ["value"]) (mb : ∀ x, isB x = true → mg x = none) : Fn P w K mg base "whole" 1 ["value"] spWhole := by
  refine fn_at at_ fun f fd F => fn_d F sc_whole (fun ds S P h => ?_) ?_
  · obtain ⟨d, rfl, _⟩ := h
    rfl
  · rintro X W0 cdv A outer s H E rfl hr
    refine ⟨_, (dss_one (ds_ret (de_and (de_b dc_isi (da_cons (de_var (pv 0)) (da_cons (de_bltn (n := "int") (by rfl) (mb "int" rfl) (by decide +kernel)) da_nil)) (fun h => pe_callB call_isi (by rfl) (mb "isinstance" rfl) (by decide +kernel) h)) (de_one (de_not (de_b dc_isi (da_cons (de_var (pv 0)) (da_cons (de_bltn (n := "bool") (by rfl) (mb "bool" rfl) (by decide +kernel)) da_nil)) (fun h => pe_callB call_isi (by rfl) (mb "isinstance" rfl) (by decide +kernel) h))))))), ?_⟩
    rintro ds S P ⟨d, rfl, ⟨n, hn⟩, post⟩
    walk_at "st"
    walk_at "d"
    have other : ∀ k : Bool, kitB n "int" = some false → isInt d = false → bIsi [d, .ty "int"] S fun x S1 => dBx (fun k => if k = true then dNotV (dCall bIsi (dCons (dVar 0) (dCons (dC (.ty "bool")) dNil))) [some d] S1 (atExit S P) else atExit S P (.bl false) S1) x := fun _ hk hi => by
      refine i_isi hn hk ?_
      refine i_Bx ?_
      refine ite_f Bool.false_ne_true ?_
      rw [hi] at post
      exact exit_pure0 (fun _ => rfl) post
    cases d with
    | int i =>
      cases hn
      walk_at "d"
      refine ite_t rfl ?_
      walk_at "d"
      exact exit_pure0 (fun _ => rfl) post
    | bl b =>
      cases hn
      refine i_isi rfl (show kitB "bool" "int" = some true by decide +kernel) ?_
      walk_at "d"
      refine ite_t rfl ?_
      walk_at "d"
      exact exit_pure0 (fun _ => rfl) post
    | ref i =>
      have e : n = "list" := by
        dsimp only [tyOf] at hn
        split at hn <;> cases hn
        rfl
      subst e
      exact other true (by decide +kernel) rfl
    | non => cases hn; exact other true (by decide +kernel) rfl
    | str x => cases hn; exact other true (by decide +kernel) rfl
    | tup xs => cases hn; exact other true (by decide +kernel) rfl
    | lst xs => cases hn; exact other true (by decide +kernel) rfl
    | _ => cases hn
theorem ok_below (at_ : At K mg "below" s_below ["value", "bound"]) (mb : ∀ x, isB x = true → mg x = none) (G_whole : Fn P w K mg base "whole" 1 ["value"] spWhole) : Fn P w K mg base "below" 2 ["value", "bound"] spBelow := by
  refine fn_at at_ fun f fd F => fn_d F sc_below (fun ds S P h => ?_) ?_
  · obtain ⟨d, b, rfl, _⟩ := h
    rfl
  · rintro X W0 cdv A outer s H E rfl hr
    refine ⟨_, (dss_one (ds_ret (de_and (de_fn G_whole (hr.mono (by decide)) (by rfl) (da_cons (de_var (pv 0)) da_nil)) (de_one (de_chain op_le op_lt do_le do_lt de_int (de_var (pv 0)) (de_var (pv 1))))))), ?_⟩
    rintro ds S P ⟨d, b, rfl, ht, post⟩
    walk_at "st"
    walk_at "d"
    refine ⟨d, rfl, ht, ?_⟩
    walk_at "d"
    cases d with
    | int i =>
      refine ite_t rfl ?_
      walk_at "d"
      refine ite2 (fun e => ?_) (fun e => ?_)
      · walk_at "d"
        have post : P (.bl (decide (0 ≤ i) && decide (i < b))) S := post
        rw [e, Bool.true_and] at post
        exact exit_pure0 (fun _ => rfl) post
      · have post : P (.bl (decide (0 ≤ i) && decide (i < b))) S := post
        rw [Bool.eq_false_iff.mpr e, Bool.false_and] at post
        exact exit_pure0 (fun _ => rfl) post
    | _ =>
      refine ite_f Bool.false_ne_true ?_
      exact exit_pure0 (fun _ => rfl) post
theorem ok_allbelow (at_ : At K mg "all_below" s_allbelow ["values", "bound"]) (mb : ∀ x, isB x = true → mg x = none) (G_below : Fn P w K mg base "below" 2 ["value", "bound"] spBelow) : Fn P w K mg base "all_below" 3 ["values", "bound"] spAllBelow := by
  refine fn_at at_ fun f fd F => fn_d F sc_allbelow (fun ds S P h => ?_) ?_
  · obtain ⟨d, b, rfl, _⟩ := h
    rfl
  · rintro X W0 cdv A outer s H E rfl hr
    refine ⟨_, (dss_one (ds_ret (de_b dc_all (da_cons (de_pure (dn_lc (own := [("value", 2)]) (by decide) rfl sc_allbelow.nd (di_tup (de_var (pv 0))) (blkOk_by (N := N_allbelow) (sc := defScope s_allbelow) (by decide +kernel)) (fun _ _ _ _ _ => (dg_name (pg_name (i := 2) sc_allbelow.nd rfl (Or.inl rfl)))) (fun _ _ _ _ _ => dts_nil) (fun _ _ _ _ _ => (de_fn G_below (hr.mono (by decide)) (by rfl) (da_cons (de_var (pv 2)) (da_cons (de_var (pv 1)) da_nil)))))) da_nil) (fun h => pe_callB (cr_all rfl) (by rfl) (mb "all" rfl) (by decide +kernel) h)))), ?_⟩
    rintro ds S P ⟨xs, b, rfl, hl, ht, post⟩
    walk_at "st"
    walk_at "d"
    refine ⟨fun i acc S' => S' = S ∧ acc = (xs.take i).map fun x => .bl (inB b x), ⟨rfl, rfl⟩, ?_, ?_, ?_⟩
    · rintro i acc S' hi ⟨rfl, rfl⟩
      exact ⟨trivial, sz_lt (by rw [List.length_map, List.length_take]; omega)⟩
    · rintro i x acc S' hx ⟨rfl, rfl⟩
      walk_at "d"
      refine ite_t rfl ?_
      walk_at "d"
      refine ⟨x, b, rfl, ht x (List.mem_of_getElem? hx), rfl, ?_⟩
      rw [List.take_add_one, hx]
      simp
    · rintro acc S' ⟨rfl, rfl⟩
      rw [List.take_length]
      walk_at "d"
      refine i_all (bs := xs.map (inB b)) (by rw [List.map_map]; rfl) ?_
      rw [List.all_map]
      exact exit_pure0 (fun _ => rfl) post
end
theorem cutD_from {α : Type} (xs : List α) (k : Nat) (h : k ≤ xs.length) : DL.cutD xs (some (k : Int)) none = xs.drop k := by
  unfold DL.cutD
  rw [HT.sIx_none, HT.sIx_nat, Nat.min_eq_left h]
  exact List.take_of_length_le (by rw [List.length_drop]; exact Nat.le_refl _)
section
variable {t : Tok} {T G : Sto} {g : Nat} {o : O}
theorem get_g : (hd t ++ (T ++ G))[4 + T.length + g]? = G[g]? := by
  rw [List.getElem?_append_right (by simp [hd]; omega), List.getElem?_append_right (by simp [hd]; omega)]
  congr 1
  simp [hd]
  omega
theorem set_g : (hd t ++ (T ++ G)).set (4 + T.length + g) o = hd t ++ (T ++ G.set g o) := by
  rw [List.set_append_right _ _ (by simp [hd]; omega), List.set_append_right _ _ (by simp [hd]; omega)]
  congr 3
  simp [hd]
  omega
theorem len_g : (hd t ++ (T ++ G)).length = 4 + T.length + G.length := by simp [hd]; omega
theorem app_g : (hd t ++ (T ++ G)) ++ [o] = hd t ++ (T ++ (G ++ [o])) := by simp
end
def Row.boxes : Row → List Int
  | .num b _ => [b]
  | .ar _ b c d => [b, c, d]
  | .call b _ bs => b :: bs
  | .skip b _ => [b]
  | .say b => [b]
  | .rest => []
  | .tell b => [b]
abbrev s_functioncanbe : Stmt := topS 39
abbrev N_functioncanbe : List Str := ["function", "most", "many", "rows"]
theorem sc_functioncanbe : FnScope N_functioncanbe ["function", "most"] (defScope s_functioncanbe) := ⟨rfl, rfl, rfl, by decide +kernel, rfl, by decide +kernel, by decide +kernel⟩
abbrev s_firstbadfunction : Stmt := topS 40
abbrev N_firstbadfunction : List Str := ["functions", "most", "number", "function"]
theorem sc_firstbadfunction : FnScope N_firstbadfunction ["functions", "most"] (defScope s_firstbadfunction) := ⟨rfl, rfl, rfl, by decide +kernel, rfl, by decide +kernel, by decide +kernel⟩
mutual
def dat : D → Bool
  | .non => true
  | .bl _ => true
  | .int _ => true
  | .str _ => true
  | .tup xs => dats xs
  | .lst xs => dats xs
  | _ => false
def dats : List D → Bool
  | [] => true
  | x :: xs => dat x && dats xs
end
theorem dat_ty {S : Sto} {d : D} (h : dat d = true) : tyd S d := by
  cases d <;> first | exact ⟨_, rfl⟩ | (simp [dat] at h)
theorem dats_mem : ∀ {xs : List D}, dats xs = true → ∀ x ∈ xs, dat x = true
  | _ :: _, h, _, .head _ => (Bool.and_eq_true _ _ ▸ h : _ ∧ _).1
  | _ :: _, h, _, .tail _ m => dats_mem (Bool.and_eq_true _ _ ▸ h : _ ∧ _).2 _ m
def isTup : D → Bool
  | .tup _ => true
  | _ => false
theorem isi_tup {S : Sto} {d : D} {P : DP} (h : dat d = true) (q : P (.bl (isTup d)) S) : bIsi [d, .ty "tuple"] S P := by
  cases d <;> first
    | exact i_isi rfl kit_NoneType_tuple q
    | exact i_isi rfl kit_bool_tuple q
    | exact i_isi rfl kit_int_tuple q
    | exact i_isi rfl kit_str_tuple q
    | exact i_isi rfl kit_tuple_tuple q
    | exact i_isi rfl kit_list_tuple q
    | (simp [dat] at h)
def isStr : D → Bool
  | .str _ => true
  | _ => false
theorem isi_str {S : Sto} {d : D} {P : DP} (h : dat d = true) (q : P (.bl (isStr d)) S) : bIsi [d, .ty "str"] S P := by
  cases d <;> first
    | exact i_isi rfl kit_NoneType_str q
    | exact i_isi rfl kit_bool_str q
    | exact i_isi rfl kit_int_str q
    | exact i_isi rfl kit_str_str q
    | exact i_isi rfl kit_tuple_str q
    | exact i_isi rfl kit_list_str q
    | (simp [dat] at h)
def fcan (most : Int) : D → Bool
  | .tup [m, .tup rows] => inB 4 m && decide ((rows.length : Int) ≤ most)
  | _ => false
theorem fcan_long {m : Int} {xs : List D} (h : xs.length ≠ 2) : fcan m (.tup xs) = false := by
  unfold fcan
  split
  · rename_i e
    cases e
    exact absurd rfl h
  · rfl
def fbf (most : Int) : Nat → List D → Option Nat
  | _, [] => none
  | i, f :: fs => if i = 8 ∨ fcan most f = false then some i else fbf most (i + 1) fs
def fbadF (most : Int) : D → Option Nat
  | .tup (f :: fs) => fbf most 0 (f :: fs)
  | _ => some 0
def optE : Option Nat → D
  | none => .non
  | some n => .int n
def spFcb : DSp := fun ds S P => ∃ (d : D) (m : Int), ds = [d, .int m] ∧ dat d = true ∧ P (.bl (fcan m d)) S
def spFbf : DSp := fun ds S P => ∃ (d : D) (m : Int), ds = [d, .int m] ∧ dat d = true ∧ P (optE (fbadF m d)) S
abbrev Shp := List (Str × List Str)
def shKs (sh : Shp) : List Key := sh.map fun p => .inr p.1
def shDs (sh : Shp) : List D := sh.map fun p => .tup (p.2.map .str)
theorem dlook_sh (wd : Str) : ∀ sh : Shp, dlook (shKs sh) (shDs sh) (.inr wd) = (sh.lookup wd).map fun l => .tup (l.map .str)
  | [] => rfl
  | (x, l) :: sh => by
    have ih := dlook_sh wd sh
    show (if (Sum.inr x : Key) = .inr wd then some (D.tup (l.map .str)) else dlook (shKs sh) (shDs sh) (.inr wd)) = _
    rw [List.lookup_cons]
    by_cases h : x = wd
    · subst h
      rw [if_pos rfl]
      simp
    · rw [if_neg fun q => h (inr_inj q), ih]
      have : (wd == x) = false := by simpa using fun e => h e.symm
      rw [this]
def bKs : List Key := [.inr "box", .inr "number", .inr "function", .inr "count"]
def bDs (bx fn cnt : Int) : List D := [.int bx, .int 1000, .int fn, .int cnt]
def bnd (bx fn cnt : Int) (k : Str) : Int := if k = "box" then bx else if k = "number" then 1000 else if k = "function" then fn else cnt
def manyAt (ms : List Int) : List D → Option Int
  | _ :: .int f :: _ => ms[f.toNat]?
  | _ => none
def boxesOk (bx : Int) (ms : List Int) (ps : List D) : D → Bool
  | .tup xs => decide (some (xs.length : Int) = manyAt ms ps) && xs.all (inB bx)
  | _ => false
def partOk (bx cnt : Int) (ms : List Int) (ps : List D) (k : Str) (p : D) : Bool := if k = "boxes" then boxesOk bx ms ps p else inB (bnd bx ms.length cnt k) p
def partsOk (bx cnt : Int) (ms : List Int) (ps : List D) : List Str → List D → Bool
  | k :: ks, q :: qs => partOk bx cnt ms ps k q && partsOk bx cnt ms ps ks qs
  | _, _ => true
def rcan (sh : Shp) (bx cnt : Int) (ms : List Int) : D → Bool
  | .tup (.str wd :: ps) => match sh.lookup wd with
    | some ks => decide (ps.length = ks.length) && partsOk bx cnt ms ps ks ps
    | none => false
  | _ => false
def shOk (sh : Shp) : Prop := ∀ p ∈ sh, (∀ k ∈ p.2, k ∈ (["box", "number", "function", "count"] : List Str)) ∨ p.2 = (["box", "function", "boxes"] : List Str)
def spRcb : DSp := fun ds S P => ∃ (d : D) (sh : Shp) (bx cnt : Int) (ms : List Int), ds = [d, .dct (shKs sh) (shDs sh), .dct bKs (bDs bx ms.length cnt), .lst (ms.map .int)] ∧ shOk sh ∧ dat d = true ∧ (∀ m ∈ ms, 0 ≤ m ∧ m ≤ 3) ∧ P (.bl (rcan sh bx cnt ms d)) S
theorem bnd_look {bx fn cnt : Int} {k : Str} (h : k ∈ (["box", "number", "function", "count"] : List Str)) : dlook bKs (bDs bx fn cnt) (.inr k) = some (.int (bnd bx fn cnt k)) ∧ k ≠ "boxes" := by
  simp only [List.mem_cons, List.not_mem_nil, or_false] at h
  rcases h with rfl | rfl | rfl | rfl
  · exact ⟨rfl, by decide⟩
  · exact ⟨rfl, by decide⟩
  · exact ⟨rfl, by decide⟩
  · exact ⟨rfl, by decide⟩
theorem lookup_mem {wd : Str} {ks : List Str} : ∀ {sh : Shp}, sh.lookup wd = some ks → (wd, ks) ∈ sh
  | (x, l) :: sh, h => by
    rw [List.lookup_cons] at h
    cases e : (wd == x) with
    | true => rw [e] at h; cases h; rw [eq_of_beq e]; exact List.mem_cons_self
    | false => rw [e] at h; exact List.mem_cons_of_mem _ (lookup_mem h)
section
variable {P : Program} {w : World} {K : PySem.W.Frag} {mg : Str → Option Value} {base : Heap}
theorem ok_functioncanbe (at_ : At K mg "function_can_be" s_functioncanbe ["function", "most"]) (mb : ∀ x, isB x = true → mg x = none) (gi : ∀ x n, isG x = some n → ∃ t, mg x = some (.int n t)) (G_below : Fn P w K mg base "below" 2 ["value", "bound"] spBelow) :
    Fn P w K mg base "function_can_be" 3 ["function", "most"] spFcb := by
  refine fn_at at_ fun f fd F => fn_d F sc_functioncanbe (fun ds S P h => ?_) ?_
  · obtain ⟨f, m, rfl, _⟩ := h
    rfl
  · rintro X W0 cdv A outer s H E rfl hr
    have hu := hr.units
    refine ⟨_, (dss_cons (ds_if (dt_w (dw_or (dt_not (dt_val (de_b dc_isi (da_cons (de_var (pv 0)) (da_cons (de_bltn (n := "tuple") (by rfl) (mb "tuple" rfl) (by decide +kernel)) da_nil)) (fun h => pe_callB call_isi (by rfl) (mb "isinstance" rfl) (by decide +kernel) h)))) (dw_or1 (dt_cmp (op_neA hu) do_ne (de_b dc_len (da_cons (de_var (pv 0)) da_nil) (fun h => pe_callB call_len_seq (by rfl) (mb "len" rfl) PySem.boot_len h)) de_int (nomark _))))) (dss_one (ds_ret de_bl)) dss_nil)
      (dss_cons (ds_asg (de_var (pv 0)) (dg_tup (n := 2) rfl (dgs_cons (dg_name (pg_name (i := 2) sc_functioncanbe.nd rfl (by first | exact Or.inl rfl | exact Or.inr rfl))) (dgs_cons (dg_name (pg_name (i := 3) sc_functioncanbe.nd rfl (by first | exact Or.inl rfl | exact Or.inr rfl))) dgs_nil))) (fun h1 h2 => ps_asg h1 h2))
      (dss_one (ds_ret (de_and (de_fn G_below (hr.mono (by decide)) (by rfl) (da_cons (de_var (pv 2)) (da_cons (de_add (de_gint (by rfl) (gi "MOST_ARGUMENTS" 3 rfl)) de_int) da_nil))) (de_and (de_b dc_isi (da_cons (de_var (pv 3)) (da_cons (de_bltn (n := "tuple") (by rfl) (mb "tuple" rfl) (by decide +kernel)) da_nil)) (fun h => pe_callB call_isi (by rfl) (mb "isinstance" rfl) (by decide +kernel) h)) (de_one (de_cmp op_le do_le (de_b dc_len (da_cons (de_var (pv 3)) da_nil) (fun h => pe_callB call_len_seq (by rfl) (mb "len" rfl) PySem.boot_len h)) (de_var (pv 1)) (nomark _))))))))), ?_⟩
    rintro ds S P ⟨d, m, rfl, hd, post⟩
    walk_at "st"
    have no : isTup d = false → fcan m d = false := fun h => by cases d <;> first | rfl | (simp [isTup] at h)
    refine i_seq ?_
    refine i_ifS ?_
    refine i_or ?_
    refine i_not ?_
    refine i_B ?_
    refine i_call ?_
    refine i_cons ?_
    refine i_var rfl ?_
    refine i_cons ?_
    refine i_c ?_
    refine i_nil ?_
    refine isi_tup hd ?_
    walk_at "d"
    cases d with
    | tup xs =>
      refine ite_f Bool.false_ne_true ?_
      walk_at "d"
      match xs, hd, post with
      | [a, b], hd, post =>
        have hab : dat a = true ∧ dat b = true := by simpa [dat, dats] using hd
        refine ite_f (by simp) ?_
        walk_at "d"
        walk_at "e"
        refine ⟨a, 3 + 1, rfl, dat_ty hab.1, ?_⟩
        walk_at "d"
        have e : fcan m (.tup [a, b]) = (inB 4 a && (isTup b && (match b with | .tup rows => decide ((rows.length : Int) ≤ m) | _ => false))) := by
          cases b <;> simp [fcan, isTup]
        cases hi : inB 4 a with
        | false =>
          refine ite_f (by show ¬ inB (3 + 1) a = true; rw [show (3 : Int) + 1 = 4 from rfl, hi]; decide) ?_
          rw [e, hi] at post
          exact exit_pure0 (fun _ => rfl) post
        | true =>
          refine ite_t (by show inB (3 + 1) a = true; exact hi) ?_
          walk_at "d"
          refine isi_tup hab.2 ?_
          walk_at "d"
          cases b with
          | tup rows =>
            refine ite_t rfl ?_
            walk_at "d"
            rw [e, hi] at post
            exact exit_pure0 (fun _ => rfl) post
          | _ =>
            refine ite_f (by simp [isTup]) ?_
            rw [e, hi] at post
            exact exit_pure0 (fun _ => rfl) post
      | [], hd, post =>
        refine ite_t (by decide) ?_
        walk_at "d"
        exact exit_pure0 (fun _ => rfl) post
      | [a], hd, post =>
        refine ite_t (by simp) ?_
        walk_at "d"
        exact exit_pure0 (fun _ => rfl) post
      | a :: b :: c :: r, hd, post =>
        refine ite_t (by simp; omega) ?_
        walk_at "d"
        rw [fcan_long (by simp)] at post
        exact exit_pure0 (fun _ => rfl) post
    | _ =>
      refine ite_t rfl ?_
      walk_at "d"
      exact exit_pure0 (fun _ => rfl) post
theorem fbf_take {most : Int} : ∀ (k : Nat) (fs : List D) (i : Nat) (f : D), fs[i]? = some f → (∀ (j : Nat) g, j < i → fs[j]? = some g → k + j ≠ 8 ∧ fcan most g = true) → k + i = 8 ∨ fcan most f = false → fbf most k fs = some (k + i)
  | k, g :: fs, 0, f, h, _, hb => by
    cases h
    unfold fbf
    exact if_pos hb
  | k, g :: fs, i + 1, f, h, hg, hb => by
    obtain ⟨h1, h2⟩ := hg 0 g (by omega) rfl
    unfold fbf
    rw [if_neg (by rw [h2]; simpa using h1), fbf_take (k + 1) fs i f (by simpa using h) (fun j g' hj e => ?_) (by rw [show k + 1 + i = k + (i + 1) by omega]; exact hb), show k + 1 + i = k + (i + 1) by omega]
    have := hg (j + 1) g' (by omega) (by simpa using e)
    rw [show k + 1 + j = k + (j + 1) by omega]
    exact this
theorem fbf_none {most : Int} : ∀ (k : Nat) (fs : List D), (∀ (j : Nat) g, fs[j]? = some g → k + j ≠ 8 ∧ fcan most g = true) → fbf most k fs = none
  | _, [], _ => rfl
  | k, g :: fs, hg => by
    obtain ⟨h1, h2⟩ := hg 0 g rfl
    unfold fbf
    rw [if_neg (by rw [h2]; simpa using h1)]
    refine fbf_none (k + 1) fs fun j g' e => ?_
    have := hg (j + 1) g' (by simpa using e)
    rw [show k + 1 + j = k + (j + 1) by omega]
    exact this
theorem ok_firstbadfunction (at_ : At K mg "first_bad_function" s_firstbadfunction ["functions", "most"]) (mb : ∀ x, isB x = true → mg x = none) (gi : ∀ x n, isG x = some n → ∃ t, mg x = some (.int n t)) (G_functioncanbe : Fn P w K mg base "function_can_be" 3 ["function", "most"] spFcb) :
    Fn P w K mg base "first_bad_function" 4 ["functions", "most"] spFbf := by
  refine fn_at at_ fun f fd F => fn_d F sc_firstbadfunction (fun ds S P h => ?_) ?_
  · obtain ⟨p, m, rfl, _⟩ := h
    rfl
  · rintro X W0 cdv A outer s H E rfl hr
    have hu := hr.units
    refine ⟨_, (dss_cons (ds_if (dt_w (dw_or (dt_not (dt_val (de_b dc_isi (da_cons (de_var (pv 0)) (da_cons (de_bltn (n := "tuple") (by rfl) (mb "tuple" rfl) (by decide +kernel)) da_nil)) (fun h => pe_callB call_isi (by rfl) (mb "isinstance" rfl) (by decide +kernel) h)))) (dw_or1 (dt_cmp (op_eqA hu) do_eq (de_b dc_len (da_cons (de_var (pv 0)) da_nil) (fun h => pe_callB call_len_seq (by rfl) (mb "len" rfl) PySem.boot_len h)) de_int (nomark _))))) (dss_one (ds_ret de_int)) dss_nil)
      (dss_cons (ds_for PassesOwn.never rfl (di_enumT (by rfl) (mb "enumerate" rfl) (da_cons (de_var (pv 0)) da_nil)) (dg_tup (n := 2) rfl (dgs_cons (dg_name (pg_name (i := 2) sc_firstbadfunction.nd rfl (by first | exact Or.inl rfl | exact Or.inr rfl))) (dgs_cons (dg_name (pg_name (i := 3) sc_firstbadfunction.nd rfl (by first | exact Or.inl rfl | exact Or.inr rfl))) dgs_nil))) (dss_one (ds_if (dt_w (dw_or (dt_cmp (op_eqA hu) do_eq (de_var (pv 2)) (de_gint (by rfl) (gi "MOST_FUNCTIONS" 8 rfl)) (nomark _)) (dw_or1 (dt_not (dt_val (de_fn G_functioncanbe (hr.mono (by decide)) (by rfl) (da_cons (de_var (pv 3)) (da_cons (de_var (pv 1)) da_nil)))))))) (dss_one (ds_ret (de_var (pv 2)))) dss_nil)))
      (dss_one (ds_ret de_non)))), ?_⟩
    rintro ds S P ⟨d, m, rfl, hd, post⟩
    walk_at "st"
    refine i_seq ?_
    refine i_ifS ?_
    refine i_or ?_
    refine i_not ?_
    refine i_B ?_
    refine i_call ?_
    refine i_cons ?_
    refine i_var rfl ?_
    refine i_cons ?_
    refine i_c ?_
    refine i_nil ?_
    refine isi_tup hd ?_
    walk_at "d"
    cases d with
    | tup xs =>
      refine ite_f Bool.false_ne_true ?_
      walk_at "d"
      have hds : ∀ x ∈ xs, dat x = true := dats_mem (show dats xs = true from hd)
      by_cases hx : xs = []
      · subst hx
        refine ite_t (by decide) ?_
        walk_at "d"
        exact exit_pure0 (fun _ => rfl) post
      · have post : P (optE (fbf m 0 xs)) S := by
          cases xs with
          | nil => exact absurd rfl hx
          | cons a r => exact post
        refine ite_f (by simpa using hx) ?_
        walk_at "d"
        refine ⟨fun i env S' => S' = S ∧ (∃ y2 y3, env = [some (.tup xs), some (.int m), y2, y3]) ∧ ∀ (j : Nat) g, j < i → xs[j]? = some g → 0 + j ≠ 8 ∧ fcan m g = true, ⟨rfl, ⟨none, none, rfl⟩, fun j g hj => absurd hj (by omega)⟩, fun _ _ _ _ _ => trivial, ?_, ?_⟩
        · rintro i x env S' hx' ⟨rfl, ⟨y2, y3, rfl⟩, hg⟩
          obtain ⟨f', hf', rfl⟩ := enumD_get 0 _ i x hx'
          have hdf := hds f' (List.mem_of_getElem? hf')
          walk_at "d"
          walk_at "e"
          by_cases h8 : 0 + i = 8
          · refine ite_t (by simpa using congrArg Int.ofNat h8) ?_
            refine ite_t rfl ?_
            walk_at "d"
            rw [fbf_take 0 xs i f' hf' hg (.inl h8)] at post
            exact exit_pure0 (fun _ => rfl) post
          · refine ite_f (by simp; omega) ?_
            walk_at "d"
            refine ⟨f', m, rfl, hdf, ?_⟩
            walk_at "d"
            cases hc : fcan m f' with
            | false =>
              refine ite_t rfl ?_
              walk_at "d"
              rw [fbf_take 0 xs i f' hf' hg (.inr hc)] at post
              exact exit_pure0 (fun _ => rfl) post
            | true =>
              refine ite_f Bool.false_ne_true ?_
              walk_at "d"
              refine ⟨rfl, ⟨_, _, rfl⟩, fun j g hj e => ?_⟩
              rcases Nat.lt_succ_iff_lt_or_eq.mp hj with hj | rfl
              · exact hg j g hj e
              · rw [hf'] at e
                cases e
                exact ⟨h8, hc⟩
        · rintro env S' ⟨rfl, ⟨y2, y3, rfl⟩, hg⟩
          walk_at "d"
          rw [enumD_len] at hg
          rw [fbf_none 0 xs fun j g e => hg j g (List.getElem?_eq_some_iff.mp e).1 e] at post
          exact exit_pure0 (fun _ => rfl) post
    | _ =>
      refine ite_t rfl ?_
      walk_at "d"
      exact exit_pure0 (fun _ => rfl) post
end
abbrev s_rowcanbe : Stmt := topS 41
abbrev N_rowcanbe : List Str := ["row", "shapes", "bounds", "manys", "kinds", "kind", "part"]
theorem sc_rowcanbe : FnScope N_rowcanbe ["row", "shapes", "bounds", "manys"] (defScope s_rowcanbe) := ⟨rfl, rfl, rfl, by decide +kernel, rfl, by decide +kernel, by decide +kernel⟩
theorem partsOk_from {bx cnt : Int} {ms : List Int} {ps : List D} : ∀ {ks : List Str} {qs : List D}, ks.length = qs.length → (partsOk bx cnt ms ps ks qs = true ↔ ∀ (i : Nat) k p, ks[i]? = some k → qs[i]? = some p → partOk bx cnt ms ps k p = true)
  | [], [], _ => by simp [partsOk]
  | k :: ks, q :: qs, h => by
    have ih := partsOk_from (bx := bx) (cnt := cnt) (ms := ms) (ps := ps) (ks := ks) (qs := qs) (by simpa using h)
    unfold partsOk
    rw [Bool.and_eq_true, ih]
    constructor
    · rintro ⟨h1, h2⟩ i k' p' g1 g2
      cases i with
      | zero => cases g1; cases g2; exact h1
      | succ i => exact h2 i k' p' (by simpa using g1) (by simpa using g2)
    · exact fun h => ⟨h 0 k q rfl rfl, fun i k' p' g1 g2 => h (i + 1) k' p' (by simpa using g1) (by simpa using g2)⟩
  | [], _ :: _, h => by simp at h
  | _ :: _, [], h => by simp at h
theorem parts_bad {bx cnt : Int} {ms : List Int} {ps : List D} {ks : List Str} {qs : List D} {i : Nat} {k : Str} {p : D} (h : ks.length = qs.length) (g1 : ks[i]? = some k) (g2 : qs[i]? = some p) (hb : partOk bx cnt ms ps k p = false) : partsOk bx cnt ms ps ks qs = false := by
  cases e : partsOk bx cnt ms ps ks qs with
  | false => rfl
  | true => rw [(partsOk_from h).mp e i k p g1 g2] at hb; cases hb
theorem inB_int {b : Int} {d : D} (h : inB b d = true) : ∃ v, d = .int v ∧ 0 ≤ v ∧ v < b := by
  cases d <;> first
    | (rename_i v; have h : (decide (0 ≤ v) && decide (v < b)) = true := h; rw [Bool.and_eq_true] at h; exact ⟨v, rfl, of_decide_eq_true h.1, of_decide_eq_true h.2⟩)
    | (simp [inB] at h)
section
variable {P : Program} {w : World} {K : PySem.W.Frag} {mg : Str → Option Value} {base : Heap}
theorem ok_rowcanbe (at_ : At K mg "row_can_be" s_rowcanbe ["row", "shapes", "bounds", "manys"]) (mb : ∀ x, isB x = true → mg x = none) (G_below : Fn P w K mg base "below" 2 ["value", "bound"] spBelow) (G_allbelow : Fn P w K mg base "all_below" 3 ["values", "bound"] spAllBelow) :
    Fn P w K mg base "row_can_be" 4 ["row", "shapes", "bounds", "manys"] spRcb := by
  refine fn_at at_ fun f fd F => fn_d F sc_rowcanbe (fun ds S P h => ?_) ?_
  · obtain ⟨d, sh, bx, cnt, ms, rfl, _⟩ := h
    rfl
  · rintro X W0 cdv A outer s H E rfl hr
    have hu := hr.units
    refine ⟨_, (dss_cons (ds_if (dt_w (dw_or (dt_not (dt_val (de_b dc_isi (da_cons (de_var (pv 0)) (da_cons (de_bltn (n := "tuple") (by rfl) (mb "tuple" rfl) (by decide +kernel)) da_nil)) (fun h => pe_callB call_isi (by rfl) (mb "isinstance" rfl) (by decide +kernel) h)))) (dw_or (dt_cmp (op_eqA hu) do_eq (de_b dc_len (da_cons (de_var (pv 0)) da_nil) (fun h => pe_callB call_len_seq (by rfl) (mb "len" rfl) PySem.boot_len h)) de_int (nomark _)) (dw_or1 (dt_not (dt_val (de_b dc_isi (da_cons (de_ix (de_var (pv 0)) de_int (fun _ _ => rfl)) (da_cons (de_bltn (n := "str") (by rfl) (mb "str" rfl) (by decide +kernel)) da_nil)) (fun h => pe_callB call_isi (by rfl) (mb "isinstance" rfl) (by decide +kernel) h)))))))) (dss_one (ds_ret de_bl)) dss_nil)
      (dss_cons (ds_set (i := 4) (de_dget1 (Nat.lt_of_le_of_lt (Nat.add_le_add_left (by decide) _) hu) (de_var (pv 1)) (de_ix (de_var (pv 0)) de_int (fun _ _ => rfl)) ⟨rfl, rfl, rfl, rfl⟩) (fun h => ps_set sc_rowcanbe.nd rfl (by first | exact Or.inl rfl | exact Or.inr rfl) h))
      (dss_cons (ds_if (dt_w (dw_or (dt_cmp op_isN do_isN (de_var (pv 4)) de_non (nomark _)) (dw_or1 (dt_cmp (op_neA hu) do_ne (de_b dc_len (da_cons (de_var (pv 0)) da_nil) (fun h => pe_callB call_len_seq (by rfl) (mb "len" rfl) PySem.boot_len h)) (de_add (de_b dc_len (da_cons (de_var (pv 4)) da_nil) (fun h => pe_callB call_len_seq (by rfl) (mb "len" rfl) PySem.boot_len h)) de_int) (nomark _))))) (dss_one (ds_ret de_bl)) dss_nil)
      (dss_cons (ds_for PassesOwn.never rfl (di_zip (da_cons (de_var (pv 4)) (da_cons (de_sliceT (de_var (pv 0)) (do_some de_int) do_none) da_nil)) (fun h => RZ.pi_zipA (by rfl) (mb "zip" rfl) h)) (dg_tup (n := 2) rfl (dgs_cons (dg_name (pg_name (i := 5) sc_rowcanbe.nd rfl (by first | exact Or.inl rfl | exact Or.inr rfl))) (dgs_cons (dg_name (pg_name (i := 6) sc_rowcanbe.nd rfl (by first | exact Or.inl rfl | exact Or.inr rfl))) dgs_nil))) (dss_one (ds_if (dt_cmp (op_eqA hu) do_eq (de_var (pv 5)) de_str (nomark _)) (dss_one (ds_if (dt_w (dw_or (dt_not (dt_val (de_b dc_isi (da_cons (de_var (pv 6)) (da_cons (de_bltn (n := "tuple") (by rfl) (mb "tuple" rfl) (by decide +kernel)) da_nil)) (fun h => pe_callB call_isi (by rfl) (mb "isinstance" rfl) (by decide +kernel) h)))) (dw_or (dt_cmp (op_neA hu) do_ne (de_b dc_len (da_cons (de_var (pv 6)) da_nil) (fun h => pe_callB call_len_seq (by rfl) (mb "len" rfl) PySem.boot_len h)) (de_ix (de_var (pv 3)) (de_ix (de_var (pv 0)) de_int (fun _ _ => rfl)) (fun _ _ => rfl)) (nomark _)) (dw_or1 (dt_not (dt_val (de_fn G_allbelow (hr.mono (by decide)) (by rfl) (da_cons (de_var (pv 6)) (da_cons (de_dget (Nat.lt_of_le_of_lt (Nat.add_le_add_left (by decide) _) hu) (de_var (pv 2)) de_str (fun _ _ => rfl)) da_nil))))))))) (dss_one (ds_ret de_bl)) dss_nil)) (dss_one (ds_if (dt_not (dt_val (de_fn G_below (hr.mono (by decide)) (by rfl) (da_cons (de_var (pv 6)) (da_cons (de_dget (Nat.lt_of_le_of_lt (Nat.add_le_add_left (by decide) _) hu) (de_var (pv 2)) (de_var (pv 5)) (fun _ _ => rfl)) da_nil))))) (dss_one (ds_ret de_bl)) dss_nil)))))
      (dss_one (ds_ret de_bl)))))), ?_⟩
    rintro ds S P ⟨d, sh, bx, cnt, ms, rfl, hsh, hd, hms, post⟩
    walk_at "st"
    refine i_seq ?_
    refine i_ifS ?_
    refine i_or ?_
    refine i_not ?_
    refine i_B ?_
    refine i_call ?_
    refine i_cons ?_
    refine i_var rfl ?_
    refine i_cons ?_
    refine i_c ?_
    refine i_nil ?_
    refine isi_tup hd ?_
    walk_at "d"
    have nope : P (.bl false) S → atExit S P (.bl false) S := fun q => exit_pure0 (fun _ => rfl) q
    cases d with
    | tup xs =>
      refine ite_f Bool.false_ne_true ?_
      walk_at "d"
      match xs, hd, post with
      | [], hd, post =>
        refine ite_t (by decide) ?_
        refine ite_t rfl ?_
        walk_at "d"
        exact nope post
      | w0 :: ps, hd, post =>
        have hdw : dat w0 = true ∧ dats ps = true := by simpa [dat, dats] using hd
        have hds := dats_mem hdw.2
        refine ite_f (by simp; omega) ?_
        walk_at "d"
        refine isi_str hdw.1 ?_
        walk_at "d"
        cases w0 with
        | str wd =>
          refine ite_f Bool.false_ne_true ?_
          walk_at "d"
          walk_at "e"
          rw [dlook_sh]
          cases hk : sh.lookup wd with
          | none =>
            have e : rcan sh bx cnt ms (.tup (.str wd :: ps)) = false := by simp only [rcan, hk]
            rw [e] at post
            refine ite_t rfl ?_
            refine ite_t rfl ?_
            walk_at "d"
            exact nope post
          | some ks =>
            have e : rcan sh bx cnt ms (.tup (.str wd :: ps)) = (decide (ps.length = ks.length) && partsOk bx cnt ms ps ks ps) := by simp only [rcan, hk]
            rw [e] at post
            rw [Option.map_some, Option.getD_some]
            refine ite_f Bool.false_ne_true ?_
            walk_at "d"
            by_cases hlen : ps.length = ks.length
            · rw [decide_eq_true hlen, Bool.true_and] at post
              refine ite_f (by simp [hlen]) ?_
              walk_at "d"
              rw [show DL.cutD (D.str wd :: ps) (some 1) none = ps from cutD_from (D.str wd :: ps) 1 (by simp)]
              walk_at "d"
              have hkk := hsh _ (lookup_mem hk)
              refine ⟨fun i env S' => S' = S ∧ (∃ y5 y6, env = [some (.tup (.str wd :: ps)), some (.dct (shKs sh) (shDs sh)), some (.dct bKs (bDs bx ms.length cnt)), some (.lst (ms.map .int)), some (.tup (ks.map .str)), y5, y6]) ∧ ∀ (j : Nat) k p, j < i → ks[j]? = some k → ps[j]? = some p → partOk bx cnt ms ps k p = true, ⟨rfl, ⟨none, none, rfl⟩, fun j k p hj => absurd hj (by omega)⟩, fun _ _ _ _ _ => trivial, ?_, ?_⟩
              · rintro i x env S' hx ⟨rfl, ⟨y5, y6, rfl⟩, hg⟩
                obtain ⟨y, z, h1, h2, rfl⟩ := zipD_get _ _ i x hx
                rw [List.getElem?_map] at h1
                cases ek : ks[i]? with
                | none => rw [ek] at h1; cases h1
                | some k =>
                  rw [ek] at h1
                  cases h1
                  have hdz := hds z (List.mem_of_getElem? h2)
                  have next : partOk bx cnt ms ps k z = true → ∀ (j : Nat) k p, j < i + 1 → ks[j]? = some k → ps[j]? = some p → partOk bx cnt ms ps k p = true := fun hp j k' p' hj e1 e2 => by
                    rcases Nat.lt_succ_iff_lt_or_eq.mp hj with hj | rfl
                    · exact hg j k' p' hj e1 e2
                    · rw [ek] at e1
                      rw [h2] at e2
                      cases e1
                      cases e2
                      exact hp
                  walk_at "d"
                  walk_at "e"
                  by_cases hb : k = "boxes"
                  · subst hb
                    rcases hkk with hkk | hkk
                    · exact absurd (hkk _ (List.mem_of_getElem? ek)) (by decide)
                    · subst hkk
                      have h3 : ps.length = 3 := hlen
                      match ps, h3, hg, h2, post, hds, next with
                      | [pa, pb, pc], _, hg, h2, post, hds, next =>
                        have hi : i = 2 := by
                          match i, ek with
                          | 0, ek => exact absurd (Option.some.inj ek) (by decide)
                          | 1, ek => exact absurd (Option.some.inj ek) (by decide)
                          | 2, _ => rfl
                        subst hi
                        cases h2
                        have hf := hg 1 "function" pb (by omega) rfl rfl
                        have hf : inB ms.length pb = true := hf
                        obtain ⟨f', rfl, f0, f1⟩ := inB_int hf
                        have hm : ms[f'.toNat]? = some ms[f'.toNat] := List.getElem?_eq_getElem (by omega)
                        generalize ms[f'.toNat] = mf at hm
                        have hmb := hms mf (List.mem_of_getElem? hm)
                        have hat : L2.atI (ms.map D.int) f' = some (.int mf) := by
                          have e2 : f' = (f'.toNat : Int) := by omega
                          conv => lhs; rw [e2]
                          exact atI_nat (by rw [List.getElem?_map, hm]; rfl)
                        have ep : ∀ z, partOk bx cnt ms [pa, .int f', z] "boxes" z = boxesOk bx ms [pa, .int f', z] z := fun z => if_pos rfl
                        have em : ∀ z, manyAt ms [pa, .int f', z] = some mf := fun z => hm
                        refine ite_t (by decide) ?_
                        walk_at "d"
                        refine isi_tup hdz ?_
                        walk_at "d"
                        cases z with
                        | tup zs =>
                          refine ite_f Bool.false_ne_true ?_
                          walk_at "d"
                          refine i_ix rfl hat ?_
                          walk_at "d"
                          have eb : boxesOk bx ms [pa, .int f', .tup zs] (.tup zs) = (decide ((zs.length : Int) = mf) && zs.all (inB bx)) := by
                            show (decide (some (zs.length : Int) = manyAt ms [pa, .int f', .tup zs]) && zs.all (inB bx)) = _
                            rw [em]
                            simp only [Option.some.injEq]
                          by_cases hz : (zs.length : Int) = mf
                          · refine ite_f (by simp [hz]) ?_
                            walk_at "d"
                            refine ⟨zs, bx, rfl, by omega, fun q hq => dat_ty (dats_mem (show dats zs = true from hdz) q hq), ?_⟩
                            walk_at "d"
                            cases ha : zs.all (inB bx) with
                            | true =>
                              refine ite_f Bool.false_ne_true ?_
                              walk_at "d"
                              exact ⟨rfl, ⟨_, _, rfl⟩, next (by rw [ep, eb, ha, decide_eq_true hz]; rfl)⟩
                            | false =>
                              refine ite_t rfl ?_
                              walk_at "d"
                              rw [parts_bad (k := "boxes") (p := .tup zs) (i := 2) rfl rfl rfl (by rw [ep, eb, ha, Bool.and_false])] at post
                              exact nope post
                          · refine ite_t (by simpa using hz) ?_
                            refine ite_t rfl ?_
                            walk_at "d"
                            rw [parts_bad (k := "boxes") (p := .tup zs) (i := 2) rfl rfl rfl (by rw [ep, eb, decide_eq_false hz, Bool.false_and])] at post
                            exact nope post
                        | _ =>
                          refine ite_t rfl ?_
                          refine ite_t rfl ?_
                          walk_at "d"
                          rw [parts_bad (k := "boxes") (i := 2) rfl rfl rfl (by rw [ep]; rfl)] at post
                          exact nope post
                  · have hin : k ∈ (["box", "number", "function", "count"] : List Str) := by
                      rcases hkk with hkk | hkk
                      · exact hkk k (List.mem_of_getElem? ek)
                      · subst hkk
                        have := List.mem_of_getElem? ek
                        simp only [List.mem_cons, List.not_mem_nil, or_false] at this ⊢
                        rcases this with h | h | h
                        · exact .inl h
                        · exact .inr (.inr (.inl h))
                        · exact absurd h hb
                    have hp : partOk bx cnt ms ps k z = inB (bnd bx ms.length cnt k) z := if_neg hb
                    refine ite_f (by simpa using hb) ?_
                    walk_at "d"
                    refine i_xdget rfl (bnd_look hin).1 ?_
                    walk_at "d"
                    refine ⟨z, _, rfl, dat_ty hdz, ?_⟩
                    walk_at "d"
                    cases hi : inB (bnd bx ms.length cnt k) z with
                    | true =>
                      refine ite_f Bool.false_ne_true ?_
                      walk_at "d"
                      exact ⟨rfl, ⟨_, _, rfl⟩, next (hp.trans hi)⟩
                    | false =>
                      refine ite_t rfl ?_
                      walk_at "d"
                      rw [parts_bad hlen.symm ek h2 (hp.trans hi)] at post
                      exact nope post
              · rintro env S' ⟨rfl, ⟨y5, y6, rfl⟩, hg⟩
                walk_at "d"
                rw [zipD_len, List.length_map, hlen, Nat.min_self] at hg
                rw [(partsOk_from hlen.symm).mpr fun i k p e1 e2 => hg i k p (List.getElem?_eq_some_iff.mp e1).1 e1 e2] at post
                exact exit_pure0 (fun _ => rfl) post
            · rw [decide_eq_false hlen, Bool.false_and] at post
              refine ite_t (by simp; omega) ?_
              walk_at "d"
              exact nope post
        | _ =>
          refine ite_t rfl ?_
          walk_at "d"
          exact nope post
    | _ =>
      refine ite_t rfl ?_
      refine ite_t rfl ?_
      walk_at "d"
      exact nope post
end
abbrev s_firstbad : Stmt := topS 42
abbrev N_firstbad : List Str := ["functions", "shapes", "boxes", "most", "bad", "manys", "many", "rows", "number", "at", "row", "bounds"]
theorem sc_firstbad : FnScope N_firstbad ["functions", "shapes", "boxes", "most"] (defScope s_firstbad) := ⟨rfl, rfl, rfl, by decide +kernel, rfl, by decide +kernel, by decide +kernel⟩
def rowsBad (sh : Shp) (bx : Int) (ms : List Int) (n : Int) : Nat → List D → Option Nat
  | _, [] => none
  | i, r :: rs => if rcan sh bx (n - i) ms r = true then rowsBad sh bx ms n (i + 1) rs else some i
theorem rowsBad_some {sh : Shp} {bx : Int} {ms : List Int} {n : Int} : ∀ (k : Nat) (rs : List D) (i : Nat) (r : D), rs[i]? = some r → (∀ (j : Nat) g, j < i → rs[j]? = some g → rcan sh bx (n - ((k + j : Nat) : Int)) ms g = true) → rcan sh bx (n - ((k + i : Nat) : Int)) ms r = false → rowsBad sh bx ms n k rs = some (k + i)
  | k, g :: rs, 0, r, h, _, hb => by
    cases h
    unfold rowsBad
    exact if_neg (by rw [show ((k + 0 : Nat) : Int) = k from rfl] at hb; rw [hb]; decide)
  | k, g :: rs, i + 1, r, h, hg, hb => by
    unfold rowsBad
    rw [if_pos (show rcan sh bx (n - (k : Int)) ms g = true from hg 0 g (by omega) rfl), rowsBad_some (k + 1) rs i r (by simpa using h) (fun j g' hj e => ?_) (by rw [show k + 1 + i = k + (i + 1) by omega]; exact hb), show k + 1 + i = k + (i + 1) by omega]
    rw [show k + 1 + j = k + (j + 1) by omega]
    exact hg (j + 1) g' (by omega) (by simpa using e)
theorem rowsBad_none {sh : Shp} {bx : Int} {ms : List Int} {n : Int} : ∀ (k : Nat) (rs : List D), (∀ (j : Nat) g, rs[j]? = some g → rcan sh bx (n - ((k + j : Nat) : Int)) ms g = true) → rowsBad sh bx ms n k rs = none
  | _, [], _ => rfl
  | k, g :: rs, hg => by
    unfold rowsBad
    rw [if_pos (show rcan sh bx (n - (k : Int)) ms g = true from hg 0 g rfl)]
    refine rowsBad_none (k + 1) rs fun j g' e => ?_
    rw [show k + 1 + j = k + (j + 1) by omega]
    exact hg (j + 1) g' (by simpa using e)
abbrev Gf := Int × List D
def Gf.e (g : Gf) : D := .tup [.int g.1, .tup g.2]
def fnsBad (sh : Shp) (bx : Int) (ms : List Int) : Nat → List Gf → Option (Nat × Nat)
  | _, [] => none
  | i, g :: gs => match rowsBad sh bx ms g.2.length 0 g.2 with
    | some at_ => some (i, at_)
    | none => fnsBad sh bx ms (i + 1) gs
theorem fnsBad_some {sh : Shp} {bx : Int} {ms : List Int} {a : Nat} : ∀ (k : Nat) (gs : List Gf) (i : Nat) (g : Gf), gs[i]? = some g → (∀ (j : Nat) g, j < i → gs[j]? = some g → rowsBad sh bx ms g.2.length 0 g.2 = none) → rowsBad sh bx ms g.2.length 0 g.2 = some a → fnsBad sh bx ms k gs = some (k + i, a)
  | k, g' :: gs, 0, g, h, _, hb => by
    cases h
    unfold fnsBad
    rw [hb]
    rfl
  | k, g' :: gs, i + 1, g, h, hg, hb => by
    unfold fnsBad
    rw [hg 0 g' (by omega) rfl]
    show fnsBad sh bx ms (k + 1) gs = _
    rw [fnsBad_some (k + 1) gs i g (by simpa using h) (fun j g hj e => hg (j + 1) g (by omega) (by simpa using e)) hb, show k + 1 + i = k + (i + 1) by omega]
theorem fnsBad_none {sh : Shp} {bx : Int} {ms : List Int} : ∀ (k : Nat) (gs : List Gf), (∀ (j : Nat) g, gs[j]? = some g → rowsBad sh bx ms g.2.length 0 g.2 = none) → fnsBad sh bx ms k gs = none
  | _, [], _ => rfl
  | k, g' :: gs, hg => by
    unfold fnsBad
    rw [hg 0 g' rfl]
    exact fnsBad_none (k + 1) gs fun j g e => hg (j + 1) g (by simpa using e)
def gfOf : D → Gf
  | .tup [.int m, .tup rows] => (m, rows)
  | _ => (0, [])
def gfsOf : D → List Gf
  | .tup fs => fs.map gfOf
  | _ => []
def fbad (sh : Shp) (bx most : Int) (d : D) : Option (Int × Int) := match fbadF most d with
  | some n => some ((n : Int), -1)
  | none => (fnsBad sh bx ((gfsOf d).map (·.1)) 0 (gfsOf d)).map fun p => ((p.1 : Int), (p.2 : Int))
def badE : Option (Int × Int) → D
  | none => .non
  | some p => .tup [.int p.1, .int p.2]
theorem fcan_gf {m : Int} {d : D} (h : fcan m d = true) : ∃ g : Gf, d = g.e ∧ gfOf d = g ∧ 0 ≤ g.1 ∧ g.1 ≤ 3 ∧ (g.2.length : Int) ≤ m := by
  unfold fcan at h
  split at h
  · rename_i a rows
    rw [Bool.and_eq_true] at h
    obtain ⟨v, rfl, h0, h1⟩ := inB_int h.1
    exact ⟨(v, rows), rfl, rfl, h0, by omega, of_decide_eq_true h.2⟩
  · cases h
theorem fbf_all {most : Int} : ∀ (k : Nat) (fs : List D), k ≤ 8 → fbf most k fs = none → k + fs.length ≤ 8 ∧ ∀ f ∈ fs, fcan most f = true
  | k, [], hk, _ => ⟨by simpa using hk, fun f h => absurd h List.not_mem_nil⟩
  | k, f :: fs, hk, h => by
    unfold fbf at h
    split at h
    · cases h
    · rename_i hn
      rw [not_or] at hn
      obtain ⟨h1, h2⟩ := fbf_all (k + 1) fs (by omega) h
      refine ⟨by simp only [List.length_cons]; omega, fun g hg => ?_⟩
      rcases List.mem_cons.mp hg with rfl | hg
      · simpa using hn.2
      · exact h2 g hg
theorem gfs_of {most : Int} {d : D} (h : fbadF most d = none) : ∃ gs : List Gf, d = .tup (gs.map Gf.e) ∧ gfsOf d = gs ∧ gs ≠ [] ∧ gs.length ≤ 8 ∧ ∀ g ∈ gs, 0 ≤ g.1 ∧ g.1 ≤ 3 ∧ (g.2.length : Int) ≤ most := by
  unfold fbadF at h
  split at h
  · rename_i f fs
    obtain ⟨h1, h2⟩ := fbf_all 0 (f :: fs) (by omega) h
    refine ⟨(f :: fs).map gfOf, ?_, rfl, by simp, by simpa using h1, fun g hg => ?_⟩
    · rw [List.map_map]
      congr 1
      refine (List.map_id (f :: fs)).symm.trans (List.map_congr_left fun x hx => ?_)
      obtain ⟨g, e1, e2, _⟩ := fcan_gf (h2 x hx)
      show x = Gf.e (gfOf x)
      rw [e2]
      exact e1
    · obtain ⟨x, hx, rfl⟩ := List.mem_map.mp hg
      obtain ⟨g, e1, e2, h3⟩ := fcan_gf (h2 x hx)
      rw [e2]
      exact h3
  · cases h
def spFb : DSp := fun ds S P => ∃ (d : D) (sh : Shp) (bx most : Int), ds = [d, .dct (shKs sh) (shDs sh), .int bx, .int most] ∧ shOk sh ∧ dat d = true ∧ P (badE (fbad sh bx most d)) S
section
variable {P : Program} {w : World} {K : PySem.W.Frag} {mg : Str → Option Value} {base : Heap}
theorem ok_firstbad (at_ : At K mg "first_bad" s_firstbad ["functions", "shapes", "boxes", "most"]) (mb : ∀ x, isB x = true → mg x = none) (gi : ∀ x n, isG x = some n → ∃ t, mg x = some (.int n t)) (G_firstbadfunction : Fn P w K mg base "first_bad_function" 4 ["functions", "most"] spFbf)
    (G_rowcanbe : Fn P w K mg base "row_can_be" 4 ["row", "shapes", "bounds", "manys"] spRcb) : Fn P w K mg base "first_bad" 5 ["functions", "shapes", "boxes", "most"] spFb := by
  refine fn_at at_ fun f fd F => fn_d F sc_firstbad (fun ds S P h => ?_) ?_
  · obtain ⟨d, sh, bx, most, rfl, _⟩ := h
    rfl
  · rintro X W0 cdv A outer s H E rfl hr
    have hu := hr.units
    refine ⟨_, (dss_cons (ds_set (i := 4) (de_fn G_firstbadfunction (hr.mono (by decide)) (by rfl) (da_cons (de_var (pv 0)) (da_cons (de_var (pv 3)) da_nil))) (fun h => ps_set sc_firstbad.nd rfl (by first | exact Or.inl rfl | exact Or.inr rfl) h))
      (dss_cons (ds_if (dt_cmp op_notN do_notN (de_var (pv 4)) de_non (nomark _)) (dss_one (ds_ret (de_tup (da_cons (de_var (pv 4)) (da_cons (de_neg de_int) da_nil))))) dss_nil)
      (dss_cons (ds_setLc (i := 5) (vs := [6, 7]) (by decide) (ps_setLc (own := [("many", 6), ("rows", 7)]) rfl sc_firstbad.nd rfl rfl (sw_true rfl rfl rfl (by decide +kernel)) (di_tup (de_var (pv 0))) (blkOk_by (N := N_firstbad) (sc := defScope s_firstbad) (by decide +kernel)) (fun _ _ _ _ _ => (dg_tup (n := 2) rfl (dgs_cons (dg_name (pg_name (i := 6) sc_firstbad.nd rfl (Or.inl rfl))) (dgs_cons (dg_name (pg_name (i := 7) sc_firstbad.nd rfl (Or.inl rfl))) dgs_nil)))) (fun _ _ _ _ _ => dts_nil) (fun _ _ _ _ _ => (de_var (pv 6)))))
      (dss_cons (ds_for PassesOwn.never rfl (di_enumT (by rfl) (mb "enumerate" rfl) (da_cons (de_var (pv 0)) da_nil)) (dg_tup (n := 2) rfl (dgs_cons (dg_name (pg_name (i := 8) sc_firstbad.nd rfl (by first | exact Or.inl rfl | exact Or.inr rfl))) (dgs_cons (dg_tup (n := 2) rfl (dgs_cons (dg_name (pg_name (i := 6) sc_firstbad.nd rfl (by first | exact Or.inl rfl | exact Or.inr rfl))) (dgs_cons (dg_name (pg_name (i := 7) sc_firstbad.nd rfl (by first | exact Or.inl rfl | exact Or.inr rfl))) dgs_nil))) dgs_nil))) (dss_one (ds_for PassesOwn.never rfl (di_enumT (by rfl) (mb "enumerate" rfl) (da_cons (de_var (pv 7)) da_nil)) (dg_tup (n := 2) rfl (dgs_cons (dg_name (pg_name (i := 9) sc_firstbad.nd rfl (by first | exact Or.inl rfl | exact Or.inr rfl))) (dgs_cons (dg_name (pg_name (i := 10) sc_firstbad.nd rfl (by first | exact Or.inl rfl | exact Or.inr rfl))) dgs_nil))) (dss_cons (ds_set (i := 11) (de_disp (dps_cons de_str (de_var (pv 2)) (dps_cons de_str (de_gint (by rfl) (gi "NUMBERS" 1000 rfl)) (dps_cons de_str (de_b dc_len (da_cons (de_var (pv 0)) da_nil) (fun h => pe_callB call_len_seq (by rfl) (mb "len" rfl) PySem.boot_len h)) (dps_cons de_str (de_sub (de_b dc_len (da_cons (de_var (pv 7)) da_nil) (fun h => pe_callB call_len_seq (by rfl) (mb "len" rfl) PySem.boot_len h)) (de_var (pv 9))) dps_nil)))) (by rfl) (by rfl) (fun z => by cases z) (by decide)) (fun h => ps_set sc_firstbad.nd rfl (by first | exact Or.inl rfl | exact Or.inr rfl) h))
      (dss_one (ds_if (dt_not (dt_val (de_fn G_rowcanbe (hr.mono (by decide)) (by rfl) (da_cons (de_var (pv 10)) (da_cons (de_var (pv 1)) (da_cons (de_var (pv 11)) (da_cons (de_var (pv 5)) da_nil))))))) (dss_one (ds_ret (de_tup (da_cons (de_var (pv 8)) (da_cons (de_var (pv 9)) da_nil))))) dss_nil))))))
      (dss_one (ds_ret de_non)))))), ?_⟩
    rintro ds S P ⟨d, sh, bx, most, rfl, hsh, hd, post⟩
    have exd : ∀ o, P (badE o) S → atExit S P (badE o) S := fun o q => exit_pure0 (fun n => by cases o <;> rfl) q
    walk_at "st"
    walk_at "d"
    refine ⟨d, most, rfl, hd, ?_⟩
    walk_at "d"
    walk_at "e"
    cases hb : fbadF most d with
    | some n =>
      have e : fbad sh bx most d = some ((n : Int), -1) := by unfold fbad; rw [hb]
      rw [e] at post
      refine ite_t rfl ?_
      walk_at "d"
      exact exd _ post
    | none =>
      obtain ⟨gs, rfl, egs, hne, h8, hgs⟩ := gfs_of hb
      have e : fbad sh bx most (.tup (gs.map Gf.e)) = (fnsBad sh bx (gs.map (·.1)) 0 gs).map fun p => ((p.1 : Int), (p.2 : Int)) := by unfold fbad; rw [hb]; show (fnsBad sh bx ((gfsOf _).map (·.1)) 0 (gfsOf _)).map _ = _; rw [egs]
      rw [e] at post
      have hdat : ∀ g ∈ gs, ∀ r ∈ g.2, dat r = true := fun g hg r hr => by
        have h1 : dats (gs.map Gf.e) = true := hd
        have h2 := dats_mem h1 _ (List.mem_map_of_mem (f := Gf.e) hg)
        have h3 : (true && (dats g.2 && true)) = true := h2
        simp only [Bool.true_and, Bool.and_true] at h3
        exact dats_mem h3 r hr
      refine ite_f Bool.false_ne_true ?_
      walk_at "d"
      refine ⟨fun i acc S' => S' = S ∧ acc = ((gs.take i).map (·.1)).map .int, ⟨rfl, rfl⟩, ?_, ?_, ?_⟩
      · rintro i acc S' hi ⟨rfl, rfl⟩
        exact ⟨trivial, sz_lt (by rw [List.length_map, List.length_map, List.length_take]; omega)⟩
      · rintro i x acc S' hx ⟨rfl, rfl⟩
        rw [List.getElem?_map] at hx
        cases ef : gs[i]? with
        | none => rw [ef] at hx; cases hx
        | some g =>
          rw [ef] at hx
          cases hx
          dsimp only [Gf.e]
          walk_at "d"
          refine ite_t rfl ?_
          walk_at "d"
          refine ⟨rfl, ?_⟩
          rw [List.take_add_one, ef]
          simp
      rintro acc S' ⟨rfl, rfl⟩
      rw [List.length_map, List.take_length]
      walk_at "d"
      walk_at "e"
      generalize hms : gs.map (·.1) = ms at post
      have hlm : ms.length = gs.length := by rw [← hms, List.length_map]
      refine ⟨fun i env S2 => S2 = S' ∧ (∃ y6 y7 y8 y9 y10 y11, env = [some (.tup (gs.map Gf.e)), some (.dct (shKs sh) (shDs sh)), some (.int bx), some (.int most), some .non, some (.lst (ms.map .int)), y6, y7, y8, y9, y10, y11]) ∧ ∀ (j : Nat) g, j < i → gs[j]? = some g → rowsBad sh bx ms g.2.length 0 g.2 = none, ⟨rfl, ⟨none, none, none, none, none, none, rfl⟩, fun j g hj => absurd hj (by omega)⟩, fun _ _ _ _ _ => trivial, ?_, ?_⟩
      · rintro i x env S2 hx ⟨rfl, ⟨y6, y7, y8, y9, y10, y11, rfl⟩, hg⟩
        obtain ⟨d, hd', rfl⟩ := enumD_get 0 _ i x hx
        rw [List.getElem?_map] at hd'
        cases ef : gs[i]? with
        | none => rw [ef] at hd'; cases hd'
        | some g =>
          rw [ef] at hd'
          cases hd'
          have hgm := List.mem_of_getElem? ef
          dsimp only [Gf.e]
          walk_at "d"
          walk_at "e"
          refine ⟨fun j env S3 => S3 = S2 ∧ (∃ y9 y10 y11, env = [some (.tup (gs.map Gf.e)), some (.dct (shKs sh) (shDs sh)), some (.int bx), some (.int most), some .non, some (.lst (ms.map .int)), some (.int g.1), some (.tup g.2), some (.int ((0 + i : Nat) : Int)), y9, y10, y11]) ∧ ∀ (k : Nat) r, k < j → g.2[k]? = some r → rcan sh bx ((g.2.length : Int) - ((0 + k : Nat) : Int)) ms r = true, ⟨rfl, ⟨_, _, _, rfl⟩, fun j r hj => absurd hj (by omega)⟩, fun _ _ _ _ _ => trivial, ?_, ?_⟩
          · rintro j x env S3 hx ⟨rfl, ⟨z9, z10, z11, rfl⟩, hrr⟩
            obtain ⟨r, er, rfl⟩ := enumD_get 0 _ j x hx
            walk_at "d"
            walk_at "e"
            refine i_xdisp (ks := bKs) rfl (by decide) (by decide) ?_
            walk_at "d"
            walk_at "e"
            refine ⟨r, sh, bx, (g.2.length : Int) - ((0 + j : Nat) : Int), ms, ?_, hsh, hdat g hgm r (List.mem_of_getElem? er), fun m hm => ?_, ?_⟩
            · rw [hlm, ← List.length_map (f := Gf.e)]
              rfl
            · rw [← hms] at hm
              obtain ⟨g', hg', rfl⟩ := List.mem_map.mp hm
              exact ⟨(hgs g' hg').1, (hgs g' hg').2.1⟩
            walk_at "d"
            cases hc : rcan sh bx ((g.2.length : Int) - ((0 + j : Nat) : Int)) ms r with
            | true =>
              refine ite_f Bool.false_ne_true ?_
              walk_at "d"
              refine ⟨rfl, ⟨_, _, _, rfl⟩, fun k r' hk e' => ?_⟩
              rcases Nat.lt_succ_iff_lt_or_eq.mp hk with hk | rfl
              · exact hrr k r' hk e'
              · rw [er] at e'
                cases e'
                exact hc
            | false =>
              refine ite_t rfl ?_
              walk_at "d"
              rw [fnsBad_some 0 gs i g ef hg (rowsBad_some 0 g.2 j r er hrr hc)] at post
              exact exd _ post
          · rintro env S3 ⟨rfl, ⟨z9, z10, z11, rfl⟩, hrr⟩
            refine ⟨rfl, ⟨_, _, _, _, _, _, rfl⟩, fun j g' hj e' => ?_⟩
            rcases Nat.lt_succ_iff_lt_or_eq.mp hj with hj | rfl
            · exact hg j g' hj e'
            · rw [ef] at e'
              cases e'
              rw [enumD_len] at hrr
              exact rowsBad_none 0 g.2 fun k r' e' => hrr k r' (List.getElem?_eq_some_iff.mp e').1 e'
      · rintro env S2 ⟨rfl, ⟨y6, y7, y8, y9, y10, y11, rfl⟩, hg⟩
        walk_at "d"
        rw [enumD_len, List.length_map] at hg
        rw [fnsBad_none 0 gs fun j g e' => hg j g (List.getElem?_eq_some_iff.mp e').1 e'] at post
        exact exd none post
end
theorem inB_of {b v : Int} (h0 : 0 ≤ v) (h1 : v < b) : inB b (.int v) = true := by
  show (decide (0 ≤ v) && decide (v < b)) = true
  rw [decide_eq_true h0, decide_eq_true h1]
  rfl
theorem dats_of : ∀ {xs : List D}, (∀ x ∈ xs, dat x = true) → dats xs = true
  | [], _ => rfl
  | x :: xs, h => by
    show (dat x && dats xs) = true
    rw [h x List.mem_cons_self, dats_of fun y hy => h y (List.mem_cons_of_mem _ hy)]
    rfl
theorem dat_fn {rs : List D} {m : Int} (h : ∀ r ∈ rs, dat r = true) : dat (.tup [.int m, .tup rs]) = true := by
  show (true && (dats rs && true)) = true
  rw [dats_of h]
  rfl
/-- functions that can be -/
theorem fbad_none {sh : Shp} {bx most : Int} {gs : List Gf} (lo : gs ≠ []) (hi : gs.length ≤ 8) (hf : ∀ g ∈ gs, 0 ≤ g.1 ∧ g.1 ≤ 3 ∧ (g.2.length : Int) ≤ most) (hr : ∀ g ∈ gs, ∀ (j : Nat) r, g.2[j]? = some r → rcan sh bx ((g.2.length : Int) - (j : Int)) (gs.map (·.1)) r = true) : fbad sh bx most (.tup (gs.map Gf.e)) = none := by
  have hfc : ∀ g ∈ gs, fcan most (Gf.e g) = true := fun g hg => by
    obtain ⟨h1, h2, h3⟩ := hf g hg
    show (inB 4 (.int g.1) && decide ((g.2.length : Int) ≤ most)) = true
    rw [inB_of h1 (by omega), decide_eq_true h3]
    rfl
  have e1 : fbadF most (.tup (gs.map Gf.e)) = none := by
    cases gs with
    | nil => exact absurd rfl lo
    | cons g gs =>
      show fbf most 0 ((g :: gs).map Gf.e) = none
      refine fbf_none 0 _ fun j x e => ?_
      have hj := (List.getElem?_eq_some_iff.mp e).1
      rw [List.length_map] at hj
      obtain ⟨g', hg', rfl⟩ := List.mem_map.mp (List.mem_of_getElem? e)
      exact ⟨by omega, hfc g' hg'⟩
  unfold fbad
  rw [e1]
  obtain ⟨gs', e2, e3, _⟩ := gfs_of e1
  have e4 : gfsOf (.tup (gs.map Gf.e)) = gs := by
    show (gs.map Gf.e).map gfOf = gs
    rw [List.map_map]
    exact (List.map_congr_left fun g _ => rfl).trans (List.map_id gs)
  show (fnsBad sh bx ((gfsOf _).map (·.1)) 0 (gfsOf _)).map _ = none
  rw [e4, fnsBad_none 0 gs fun j g e => rowsBad_none 0 g.2 fun k r e' => ?_]
  · rfl
  · rw [Nat.zero_add]
    exact hr g (List.mem_of_getElem? e) k r e'
def lie (m b : Int) : Int := if b < m then b else b + 4
def outs (m : Int) : Nat → List Int → List D
  | _, [] => []
  | k, b :: bs => .tup [.str "copy", .int (12 + (k : Int)), .int (lie m b)] :: outs m (k + 1) bs
/-- the boxes that are no arguments and stand in the rows, in their order -/
def own (m : Int) (rs : List Row) : List Int := ((List.range 8).map fun i : Nat => (i : Int)).filter fun b => decide (m ≤ b) && rs.any fun r => r.boxes.contains b
inductive CRow where
  | num (x n : Int) | copy (x y : Int) | ar (w : Ar) (x y z : Int) | call (f : Int) | skip (x n : Int) | say (x : Int) | rest | back
def CRow.e : CRow → D
  | .num x n => .tup [.str "num", .int x, .int n]
  | .copy x y => .tup [.str "copy", .int x, .int y]
  | .ar w x y z => .tup [.str w.s, .int x, .int y, .int z]
  | .call f => .tup [.str "call", .int f]
  | .skip x n => .tup [.str "skip", .int x, .int n]
  | .say x => .tup [.str "say", .int x]
  | .rest => .tup [.str "rest"]
  | .back => .tup [.str "back"]
def CRow.boxes : CRow → List Int
  | .num x _ => [x]
  | .copy x y => [x, y]
  | .ar _ x y z => [x, y, z]
  | .skip x _ => [x]
  | .say x => [x]
  | _ => []
def cb (x : Int) : Prop := 0 ≤ x ∧ x < 16
def CRow.ok (nf cnt : Int) : CRow → Prop
  | .num x n => cb x ∧ 0 ≤ n ∧ n < 1000
  | .copy x y => cb x ∧ cb y
  | .ar _ x y z => cb x ∧ cb y ∧ cb z
  | .call f => 0 ≤ f ∧ f < nf
  | .skip x n => cb x ∧ 0 ≤ n ∧ n < cnt
  | .say x => cb x
  | _ => True
def cdSh : Shp := [("num", ["box", "number"]), ("copy", ["box", "box"]), ("plus", ["box", "box", "box"]), ("less", ["box", "box", "box"]), ("times", ["box", "box", "box"]), ("call", ["function"]), ("skip", ["box", "count"]), ("say", ["box"]), ("rest", []), ("back", [])]
theorem cdSh_ok : shOk cdSh := by
  intro p hp
  simp only [cdSh, List.mem_cons, List.not_mem_nil, or_false] at hp
  rcases hp with rfl | rfl | rfl | rfl | rfl | rfl | rfl | rfl | rfl | rfl <;> exact .inl (by decide)
theorem rcan_code {cs : List Int} {cnt : Int} {r : CRow} (h : r.ok cs.length cnt) : rcan cdSh 16 cnt cs r.e = true := by
  cases r with
  | num x n =>
    obtain ⟨h1, h2, h3⟩ := h
    show (true && (inB 16 (.int x) && (inB 1000 (.int n) && true))) = true
    rw [inB_of h1.1 h1.2, inB_of h2 h3]
    rfl
  | copy x y =>
    obtain ⟨h1, h2⟩ := h
    show (true && (inB 16 (.int x) && (inB 16 (.int y) && true))) = true
    rw [inB_of h1.1 h1.2, inB_of h2.1 h2.2]
    rfl
  | ar w' x y z =>
    obtain ⟨h1, h2, h3⟩ := h
    have e : rcan cdSh 16 cnt cs (CRow.e (.ar w' x y z)) = (true && (inB 16 (.int x) && (inB 16 (.int y) && (inB 16 (.int z) && true)))) := by cases w' <;> rfl
    rw [e, inB_of h1.1 h1.2, inB_of h2.1 h2.2, inB_of h3.1 h3.2]
    rfl
  | call f =>
    show (true && (inB cs.length (.int f) && true)) = true
    rw [inB_of h.1 h.2]
    rfl
  | skip x n =>
    obtain ⟨h1, h2, h3⟩ := h
    show (true && (inB 16 (.int x) && (inB cnt (.int n) && true))) = true
    rw [inB_of h1.1 h1.2, inB_of h2 h3]
    rfl
  | say x =>
    show (true && (inB 16 (.int x) && true)) = true
    rw [inB_of h.1 h.2]
    rfl
  | rest => rfl
  | back => rfl
theorem dat_crow (r : CRow) : dat r.e = true := by cases r <;> rfl
theorem under_crow (n : Nat) (r : CRow) : r.e.under n = true := by cases r <;> rfl
def goodC (nf : Int) (L : List CRow) : Prop := ∀ (j : Nat) r, L[j]? = some r → r.ok nf ((L.length : Int) - (j : Int))
structure CFn where
  many : Int
  rows : List CRow
def CFn.e (f : CFn) : D := .tup [.int f.many, .tup (f.rows.map CRow.e)]
def cdE (p : List CFn) : D := .tup (p.map CFn.e)
structure CFn.ok (nf : Int) (f : CFn) : Prop where
  lo : 0 ≤ f.many
  hi : f.many ≤ 3
  len : f.rows.length ≤ 200
  rows : goodC nf f.rows
structure codeOk (p : List CFn) : Prop where
  lo : 1 ≤ p.length
  hi : p.length ≤ 8
  fs : ∀ f ∈ p, f.ok p.length
theorem fbad_any {p : List CFn} (hp : codeOk p) : fbad cdSh 16 200 (cdE p) = none := by
  have e : cdE p = .tup ((p.map fun f : CFn => ((f.many, f.rows.map CRow.e) : Gf)).map Gf.e) := by
    unfold cdE
    rw [List.map_map]
    rfl
  have hl := hp.lo
  have ems : (p.map fun f : CFn => ((f.many, f.rows.map CRow.e) : Gf)).map (·.1) = p.map CFn.many := by rw [List.map_map]; rfl
  rw [e, fbad_none (by intro z; rw [List.map_eq_nil_iff] at z; rw [z] at hl; simp at hl) (by rw [List.length_map]; exact hp.hi)]
  · intro g hg
    obtain ⟨f, hf, rfl⟩ := List.mem_map.mp hg
    have fo := hp.fs f hf
    have := fo.len
    exact ⟨fo.lo, fo.hi, by simp only [List.length_map]; omega⟩
  · intro g hg j r hr
    obtain ⟨f, hf, rfl⟩ := List.mem_map.mp hg
    have fo := hp.fs f hf
    have hr : (f.rows.map CRow.e)[j]? = some r := hr
    rw [List.getElem?_map] at hr
    cases er : f.rows[j]? with
    | none => rw [er] at hr; cases hr
    | some q =>
      rw [er] at hr
      cases hr
      rw [ems]
      refine rcan_code ?_
      have := fo.rows j q er
      show q.ok ((p.map CFn.many).length : Int) ((((f.rows.map CRow.e).length : Nat) : Int) - (j : Int))
      rw [List.length_map (f := CRow.e), List.length_map]
      exact this
theorem dat_cd (p : List CFn) : dat (cdE p) = true := dats_of fun x hx => by
  obtain ⟨f, _, rfl⟩ := List.mem_map.mp hx
  exact dat_fn fun r hr => by
    obtain ⟨q, _, rfl⟩ := List.mem_map.mp hr
    exact dat_crow q
def CdTab (P : Program) (w : World) (K : PySem.W.Frag) (mg : Str → Option Value) : Prop := ∃ a, mg "CODE_ROWS" = some (.ref a) ∧ KTab P w K a (shKs cdSh) (shDs cdSh) ∧ KGet w K a (shKs cdSh) (shDs cdSh)
def spCheckC : DSp := fun ds S P => ∃ (p : List CFn), ds = [cdE p] ∧ codeOk p ∧ P .non S
structure Hn where
  f : Nat
  args : List Int
def Hn.e (h : Hn) : D := .tup [.int h.f, .tup (h.args.map .int)]
def Hn.okG (p : List Gf) (h : Hn) : Prop := ∃ fn, p[h.f]? = some fn ∧ (h.args.length : Int) = fn.1 ∧ ∀ a ∈ h.args, 0 ≤ a ∧ a < 1000
def gfOk (p : List Gf) : Prop := ∀ g ∈ p, 0 ≤ g.1 ∧ g.1 ≤ 3
structure handsOkG (p : List Gf) (hs : List Hn) : Prop where
  lo : 1 ≤ hs.length
  hi : hs.length ≤ 4
  ok : ∀ h ∈ hs, h.okG p
def spCheckHandsG : DSp := fun ds S P => ∃ (p : List Gf) (hs : List Hn), ds = [.tup (p.map Gf.e), .lst (hs.map Hn.e)] ∧ gfOk p ∧ handsOkG p hs ∧ P .non S
abbrev s_handcanbe : Stmt := topS 45
abbrev N_handcanbe : List Str := ["functions", "hand", "function", "arguments"]
theorem sc_handcanbe : FnScope N_handcanbe ["functions", "hand"] (defScope s_handcanbe) := ⟨rfl, rfl, rfl, by decide +kernel, rfl, by decide +kernel, by decide +kernel⟩
abbrev s_checkhands : Stmt := topS 46
abbrev N_checkhands : List Str := ["functions", "hands", "at", "hand"]
theorem sc_checkhands : FnScope N_checkhands ["functions", "hands"] (defScope s_checkhands) := ⟨rfl, rfl, rfl, by decide +kernel, rfl, by decide +kernel, by decide +kernel⟩
abbrev s_checkorder : Stmt := topS 47
abbrev N_checkorder : List Str := ["hands", "order", "at", "pick"]
theorem sc_checkorder : FnScope N_checkorder ["hands", "order"] (defScope s_checkorder) := ⟨rfl, rfl, rfl, by decide +kernel, rfl, by decide +kernel, by decide +kernel⟩
def manyF (p : List Gf) : D → Int
  | .int i => ((p[i.toNat]?).map Prod.fst).getD 0
  | _ => 0
def hcan (p : List Gf) : D → Bool
  | .tup [f, .tup xs] => inB p.length f && (decide ((xs.length : Int) = manyF p f) && xs.all (inB 1000))
  | _ => false
theorem small_log {i : Int} (h0 : 0 ≤ i) (h1 : i ≤ 100000) : i.natAbs.log2 < 1920 := by
  have h : i.natAbs < 2 ^ 1920 := Nat.lt_of_lt_of_le (show i.natAbs < 100001 by omega) (by decide +kernel)
  rcases Nat.eq_zero_or_pos i.natAbs with e | e
  · rw [e]; decide
  · exact (Nat.log2_lt (by omega)).mpr h
/-- its tuples are not long -/
def brief : D → Bool
  | .tup [_, .tup xs] => decide (xs.length ≤ 1000)
  | _ => true
/-- the first that is bad, and where -/
def ffst (bad : Nat → D → Bool) : Nat → List D → Option Nat
  | _, [] => none
  | i, x :: xs => if bad i x then some i else ffst bad (i + 1) xs
theorem ffst_drop {bad : Nat → D → Bool} : ∀ {l : List D} {i j : Nat} {x : D}, l[i]? = some x → bad (j + i) x = false → ffst bad (j + i) (l.drop i) = ffst bad (j + i + 1) (l.drop (i + 1))
  | [], _, _, _, h, _ => by simp at h
  | y :: l, 0, j, x, h, b => by
    simp only [List.getElem?_cons_zero, Option.some.injEq] at h
    subst h
    show (if bad (j + 0) y then some (j + 0) else ffst bad (j + 0 + 1) l) = _
    rw [if_neg (by rw [b]; decide)]
    rfl
  | y :: l, i + 1, j, x, h, b => by
    have := ffst_drop (l := l) (i := i) (j := j + 1) (x := x) (by simpa using h) (by rw [show j + 1 + i = j + (i + 1) by omega]; exact b)
    rw [show j + 1 + i = j + (i + 1) by omega] at this
    exact this
theorem ffst_here {bad : Nat → D → Bool} : ∀ {l : List D} {i j : Nat} {x : D}, l[i]? = some x → bad (j + i) x = true → ffst bad (j + i) (l.drop i) = some (j + i)
  | [], _, _, _, h, _ => by simp at h
  | y :: l, 0, j, x, h, b => by
    simp only [List.getElem?_cons_zero, Option.some.injEq] at h
    subst h
    show (if bad (j + 0) y then some (j + 0) else ffst bad (j + 0 + 1) l) = _
    rw [if_pos b]
  | y :: l, i + 1, j, x, h, b => by
    have := ffst_here (l := l) (i := i) (j := j + 1) (x := x) (by simpa using h) (by rw [show j + 1 + i = j + (i + 1) by omega]; exact b)
    rw [show j + 1 + i = j + (i + 1) by omega] at this
    exact this
def badH (p : List Gf) (i : Nat) (h : D) : Bool := decide (i = 4) || !hcan p h
def fbadH (p : List Gf) (hs : List D) : Option Nat := if hs = [] then some 0 else ffst (badH p) 0 hs
def badO (n : Nat) (i : Nat) (k : D) : Bool := decide (i = 200) || !inB n k
def fbadO (n : Nat) (o : List D) : Option Nat := ffst (badO n) 0 o
def spHcbX : DSp := fun ds S P => ∃ (p : List Gf) (h : D), ds = [.tup (p.map Gf.e), h] ∧ gfOk p ∧ dat h = true ∧ brief h = true ∧ P (.bl (hcan p h)) S
def spCheckHandsX (c : Addr) : DSpX := fun ds S P R => ∃ (p : List Gf) (hs : List D), ds = [.tup (p.map Gf.e), .lst hs] ∧ gfOk p ∧ (∀ h ∈ hs, dat h = true ∧ brief h = true) ∧ (fbadH p hs = none → P .non S) ∧ ∀ i, fbadH p hs = some i → R c [("at", .int i)] S
def spCheckOrderX (c : Addr) : DSpX := fun ds S P R => ∃ (hs o : List D), ds = [.lst hs, .lst o] ∧ (∀ k ∈ o, dat k = true) ∧ (fbadO hs.length o = none → P .non S) ∧ ∀ i, fbadO hs.length o = some i → R c [("at", .int i)] S
section
variable {P : Program} {w : World} {K : PySem.W.Frag} {mg : Str → Option Value} {base : Heap} {c_BadHands c_BadOrder : Addr} {s_xh s_xo : Stmt}
theorem ok_handcanbe (at_ : At K mg "hand_can_be" s_handcanbe ["functions", "hand"]) (mb : ∀ x, isB x = true → mg x = none) (gi : ∀ x n, isG x = some n → ∃ t, mg x = some (.int n t)) (G_below : Fn P w K mg base "below" 2 ["value", "bound"] spBelow) (G_allbelow : Fn P w K mg base "all_below" 3 ["values", "bound"] spAllBelow) :
    Fn P w K mg base "hand_can_be" 4 ["functions", "hand"] spHcbX := by
  refine fn_at at_ fun f fd F => fn_d F sc_handcanbe (fun ds S P h => ?_) ?_
  · obtain ⟨p, h, rfl, _⟩ := h
    rfl
  · rintro X W0 cdv A outer s H E rfl hr
    have hu := hr.units
    refine ⟨_, (dss_cons (ds_if (dt_w (dw_or (dt_not (dt_val (de_b dc_isi (da_cons (de_var (pv 1)) (da_cons (de_bltn (n := "tuple") (by rfl) (mb "tuple" rfl) (by decide +kernel)) da_nil)) (fun h => pe_callB call_isi (by rfl) (mb "isinstance" rfl) (by decide +kernel) h)))) (dw_or1 (dt_cmp (op_neA hu) do_ne (de_b dc_len (da_cons (de_var (pv 1)) da_nil) (fun h => pe_callB call_len_seq (by rfl) (mb "len" rfl) PySem.boot_len h)) de_int (nomark _))))) (dss_one (ds_ret de_bl)) dss_nil)
      (dss_cons (ds_asg (de_var (pv 1)) (dg_tup (n := 2) rfl (dgs_cons (dg_name (pg_name (i := 2) sc_handcanbe.nd rfl (by first | exact Or.inl rfl | exact Or.inr rfl))) (dgs_cons (dg_name (pg_name (i := 3) sc_handcanbe.nd rfl (by first | exact Or.inl rfl | exact Or.inr rfl))) dgs_nil))) (fun h1 h2 => ps_asg h1 h2))
      (dss_cons (ds_if (dt_w (dw_or (dt_not (dt_val (de_fn G_below (hr.mono (by decide)) (by rfl) (da_cons (de_var (pv 2)) (da_cons (de_b dc_len (da_cons (de_var (pv 0)) da_nil) (fun h => pe_callB call_len_seq (by rfl) (mb "len" rfl) PySem.boot_len h)) da_nil))))) (dw_or1 (dt_not (dt_val (de_b dc_isi (da_cons (de_var (pv 3)) (da_cons (de_bltn (n := "tuple") (by rfl) (mb "tuple" rfl) (by decide +kernel)) da_nil)) (fun h => pe_callB call_isi (by rfl) (mb "isinstance" rfl) (by decide +kernel) h))))))) (dss_one (ds_ret de_bl)) dss_nil)
      (dss_one (ds_ret (de_and (de_cmp (op_eqA hu) do_eq (de_b dc_len (da_cons (de_var (pv 3)) da_nil) (fun h => pe_callB call_len_seq (by rfl) (mb "len" rfl) PySem.boot_len h)) (de_ix (de_ix (de_var (pv 0)) (de_var (pv 2)) (fun _ _ => rfl)) de_int (fun _ _ => rfl)) (nomark _)) (de_one (de_fn G_allbelow (hr.mono (by decide)) (by rfl) (da_cons (de_var (pv 3)) (da_cons (de_gint (by rfl) (gi "NUMBERS" 1000 rfl)) da_nil)))))))))), ?_⟩
    rintro ds S P ⟨p, d, rfl, hp, hd, hbr, post⟩
    walk_at "st"
    have no : isTup d = false → hcan p d = false := fun h => by cases d <;> first | rfl | (simp [isTup] at h)
    refine i_seq ?_
    refine i_ifS ?_
    refine i_or ?_
    refine i_not ?_
    refine i_B ?_
    refine i_call ?_
    refine i_cons ?_
    refine i_var rfl ?_
    refine i_cons ?_
    refine i_c ?_
    refine i_nil ?_
    refine isi_tup hd ?_
    walk_at "d"
    cases d with
    | tup xs =>
      refine ite_f Bool.false_ne_true ?_
      walk_at "d"
      match xs, hd, hbr, post with
      | [a, b], hd, hbr, post =>
        have hab : dat a = true ∧ dat b = true := by simpa [dat, dats] using hd
        refine ite_f (by simp) ?_
        walk_at "d"
        walk_at "e"
        refine ⟨a, _, rfl, dat_ty hab.1, ?_⟩
        rw [List.length_map]
        walk_at "d"
        cases hi : inB p.length a with
        | false =>
          refine ite_t rfl ?_
          refine ite_t rfl ?_
          walk_at "d"
          have e : hcan p (.tup [a, b]) = false := by cases b <;> simp [hcan, hi]
          rw [e] at post
          exact exit_pure0 (fun _ => rfl) post
        | true =>
          refine ite_f (by decide) ?_
          walk_at "d"
          refine isi_tup hab.2 ?_
          walk_at "d"
          cases b with
          | tup xs =>
            obtain ⟨v, rfl, v0, v1⟩ : ∃ v : Int, a = .int v ∧ 0 ≤ v ∧ v < p.length := by
              cases a with
              | int v =>
                have hi : (decide (0 ≤ v) && decide (v < (p.length : Int))) = true := hi
                obtain ⟨h1, h2⟩ := Bool.and_eq_true_iff.mp hi
                exact ⟨v, rfl, of_decide_eq_true h1, of_decide_eq_true h2⟩
              | _ => cases hi
            obtain ⟨v, rfl⟩ : ∃ k : Nat, v = k := ⟨v.toNat, by omega⟩
            obtain ⟨fn, hf⟩ : ∃ fn, p[v]? = some fn := ⟨_, List.getElem?_eq_getElem (by omega)⟩
            refine ite_f Bool.false_ne_true ?_
            walk_at "d"
            refine i_ix rfl (atI_nat (v := Gf.e fn) (by rw [List.getElem?_map, hf]; rfl)) ?_
            dsimp only [Gf.e]
            walk_at "d"
            have em : hcan p (.tup [.int v, .tup xs]) = (decide ((xs.length : Int) = fn.1) && xs.all (inB 1000)) := by simp [hcan, manyF, hf, hi]
            rw [em] at post
            by_cases eq : ((xs.length : Nat) : Int) = fn.1
            · refine ite_t (by simpa using eq) ?_
              walk_at "d"
              rw [decide_eq_true eq] at post
              refine ⟨xs, 1000, rfl, of_decide_eq_true hbr, fun x hx => dat_ty (dats_mem hab.2 x hx), ?_⟩
              exact exit_pure0 (fun _ => rfl) post
            · refine ite_f (by simpa using eq) ?_
              rw [decide_eq_false eq] at post
              exact exit_pure0 (fun _ => rfl) post
          | _ =>
            refine ite_t rfl ?_
            walk_at "d"
            exact exit_pure0 (fun _ => rfl) post
      | [], hd, hbr, post =>
        refine ite_t (by decide) ?_
        walk_at "d"
        exact exit_pure0 (fun _ => rfl) post
      | [a], hd, hbr, post =>
        refine ite_t (by simp) ?_
        walk_at "d"
        exact exit_pure0 (fun _ => rfl) post
      | a :: b :: c :: r, hd, hbr, post =>
        refine ite_t (by simp; omega) ?_
        walk_at "d"
        rw [show hcan p (.tup (a :: b :: c :: r)) = false by cases b <;> rfl] at post
        exact exit_pure0 (fun _ => rfl) post
    | _ =>
      refine ite_t rfl ?_
      walk_at "d"
      exact exit_pure0 (fun _ => rfl) post
theorem ok_checkhands (at_ : At K mg "check_hands" s_checkhands ["functions", "hands"]) (mb : ∀ x, isB x = true → mg x = none) (gi : ∀ x n, isG x = some n → ∃ t, mg x = some (.int n t)) (z_super : mg "super" = none) (mx_BadHands : mg "BadHands" = some (.ref c_BadHands)) (xi_BadHands : XiC P K c_BadHands "BadHands.__init__" s_xh ["at"]) (G_handcanbe : Fn P w K mg base "hand_can_be" 4 ["functions", "hand"] spHcbX) :
    FnX P w K mg base "check_hands" 5 ["functions", "hands"] (spCheckHandsX c_BadHands) := by
  refine fnX_at at_ fun f fd F => fn_dX F sc_checkhands (fun ds S P R h => ?_) ?_
  · obtain ⟨p, hs, rfl, _⟩ := h
    rfl
  · rintro X W0 cdv A outer s H E rfl hr hR
    have hu := hr.units
    refine ⟨_, (dss_cons (ds_if (dt_cmp (op_eqA hu) do_eq (de_b dc_len (da_cons (de_var (pv 1)) da_nil) (fun h => pe_callB call_len_seq (by rfl) (mb "len" rfl) PySem.boot_len h)) de_int (nomark _)) (dss_one (ds_raiseX rfl hR xi_BadHands (hr.mono (by decide)) z_super mx_BadHands (by rfl) (da_cons de_int da_nil))) dss_nil)
      (dss_one (ds_for (passes_of rfl) rfl (di_enum (by rfl) (mb "enumerate" rfl) (da_cons (de_var (pv 1)) da_nil)) (dg_tup (n := 2) rfl (dgs_cons (dg_name (pg_name (i := 2) sc_checkhands.nd rfl (by first | exact Or.inl rfl | exact Or.inr rfl))) (dgs_cons (dg_name (pg_name (i := 3) sc_checkhands.nd rfl (by first | exact Or.inl rfl | exact Or.inr rfl))) dgs_nil))) (dss_one (ds_if (dt_w (dw_or (dt_cmp (op_eqA hu) do_eq (de_var (pv 2)) (de_gint (by rfl) (gi "MOST_HANDS" 4 rfl)) (nomark _)) (dw_or1 (dt_not (dt_val (de_fn G_handcanbe (hr.mono (by decide)) (by rfl) (da_cons (de_var (pv 0)) (da_cons (de_var (pv 3)) da_nil)))))))) (dss_one (ds_raiseX rfl hR xi_BadHands (hr.mono (by decide)) z_super mx_BadHands (by rfl) (da_cons (de_var (pv 2)) da_nil))) dss_nil))))), ?_⟩
    rintro ds S P R ⟨p, hs, rfl, hp, hd, post, bad⟩ eR
    walk_at "st"
    walk_at "d"
    by_cases h0 : hs = []
    · subst h0
      refine ite_t (by decide) ?_
      walk_at "d"
      refine ⟨[0], rfl, rfl, fun i hi => ?_, ?_⟩
      · rw [List.mem_singleton.mp hi]
        exact small_log (by decide) (by decide)
      · rw [eR]
        exact exitX_id rfl (bad 0 rfl)
    · have h0l : 0 < hs.length := List.length_pos_iff.mpr h0
      have ef : fbadH p hs = ffst (badH p) 0 hs := if_neg h0
      rw [ef] at post bad
      refine ite_f (by simp; omega) ?_
      walk_at "d"
      refine ⟨fun i env S' => S' = S ∧ i ≤ 4 ∧ ffst (badH p) 0 hs = ffst (badH p) i (hs.drop i) ∧ ∃ y2 y3, env = [some (.tup (p.map Gf.e)), some (.lst hs), y2, y3], ⟨rfl, by omega, rfl, none, none, rfl⟩, fun _ _ _ _ _ => trivial, ?_, ?_⟩
      · rintro i x env S' hx ⟨rfl, i4, hb, y2, y3, rfl⟩
        obtain ⟨d, hd', rfl⟩ := enumD_get _ _ _ _ hx
        obtain ⟨q1, q2⟩ := hd d (List.mem_of_getElem? hd')
        have raise : badH p i d = true → W0.R c_BadHands [("at", .int ((0 + i : Nat) : Int))] S' := fun z => by
          rw [eR]
          have := ffst_here (bad := badH p) (j := 0) hd' (by rw [Nat.zero_add]; exact z)
          rw [Nat.zero_add] at this
          rw [this] at hb
          rw [Nat.zero_add]
          exact exitX_id rfl (bad i hb)
        have next : badH p i d = false → ffst (badH p) 0 hs = ffst (badH p) (i + 1) (hs.drop (i + 1)) := fun z => by
          have := ffst_drop (bad := badH p) (j := 0) hd' (by rw [Nat.zero_add]; exact z)
          rw [Nat.zero_add] at this
          rw [hb, this]
        walk_at "d"
        walk_at "e"
        refine ite2 (fun e => ?_) (fun e => ?_)
        · have e4 : i = 4 := by
            have : ((0 + i : Nat) : Int) = 4 := by simpa using e
            omega
          refine ite_t rfl ?_
          walk_at "d"
          refine ⟨[((0 + i : Nat) : Int)], rfl, rfl, fun j hj => ?_, ?_⟩
          · rw [List.mem_singleton.mp hj]
            exact small_log (by omega) (by omega)
          · exact raise (by simp [badH, e4])
        · have e4 : i ≠ 4 := fun z => e (by simp [z])
          walk_at "d"
          refine ⟨p, d, rfl, hp, q1, q2, ?_⟩
          walk_at "d"
          cases hc : hcan p d with
          | false =>
            refine ite_t rfl ?_
            walk_at "d"
            refine ⟨[((0 + i : Nat) : Int)], rfl, rfl, fun j hj => ?_, ?_⟩
            · rw [List.mem_singleton.mp hj]
              exact small_log (by omega) (by omega)
            · exact raise (by simp [badH, hc])
          | true =>
            refine ite_f (by decide) ?_
            exact ⟨rfl, by omega, next (by simp [badH, hc, e4]), _, _, rfl⟩
      · rintro env S' ⟨rfl, i4, hb, y2, y3, rfl⟩
        rw [enumD_len, List.drop_length] at hb
        exact exit_pure0 (fun _ => rfl) (post hb)
theorem ok_checkorder (at_ : At K mg "check_order" s_checkorder ["hands", "order"]) (mb : ∀ x, isB x = true → mg x = none) (gi : ∀ x n, isG x = some n → ∃ t, mg x = some (.int n t)) (z_super : mg "super" = none) (mx_BadOrder : mg "BadOrder" = some (.ref c_BadOrder)) (xi_BadOrder : XiC P K c_BadOrder "BadOrder.__init__" s_xo ["at"]) (G_below : Fn P w K mg base "below" 2 ["value", "bound"] spBelow) :
    FnX P w K mg base "check_order" 3 ["hands", "order"] (spCheckOrderX c_BadOrder) := by
  refine fnX_at at_ fun f fd F => fn_dX F sc_checkorder (fun ds S P R h => ?_) ?_
  · obtain ⟨hs, o, rfl, _⟩ := h
    rfl
  · rintro X W0 cdv A outer s H E rfl hr hR
    have hu := hr.units
    refine ⟨_, (dss_one (ds_for (passes_of rfl) rfl (di_enum (by rfl) (mb "enumerate" rfl) (da_cons (de_var (pv 1)) da_nil)) (dg_tup (n := 2) rfl (dgs_cons (dg_name (pg_name (i := 2) sc_checkorder.nd rfl (by first | exact Or.inl rfl | exact Or.inr rfl))) (dgs_cons (dg_name (pg_name (i := 3) sc_checkorder.nd rfl (by first | exact Or.inl rfl | exact Or.inr rfl))) dgs_nil))) (dss_one (ds_if (dt_w (dw_or (dt_cmp (op_eqA hu) do_eq (de_var (pv 2)) (de_gint (by rfl) (gi "MOST_PICKS" 200 rfl)) (nomark _)) (dw_or1 (dt_not (dt_val (de_fn G_below (hr.mono (by decide)) (by rfl) (da_cons (de_var (pv 3)) (da_cons (de_b dc_len (da_cons (de_var (pv 0)) da_nil) (fun h => pe_callB call_len_seq (by rfl) (mb "len" rfl) PySem.boot_len h)) da_nil)))))))) (dss_one (ds_raiseX rfl hR xi_BadOrder (hr.mono (by decide)) z_super mx_BadOrder (by rfl) (da_cons (de_var (pv 2)) da_nil))) dss_nil)))), ?_⟩
    rintro ds S P R ⟨hs, o, rfl, hd, post, bad⟩ eR
    have ef : fbadO hs.length o = ffst (badO hs.length) 0 o := rfl
    rw [ef] at post bad
    walk_at "st"
    walk_at "d"
    refine ⟨fun i env S' => S' = S ∧ i ≤ 200 ∧ ffst (badO hs.length) 0 o = ffst (badO hs.length) i (o.drop i) ∧ ∃ y2 y3, env = [some (.lst hs), some (.lst o), y2, y3], ⟨rfl, by omega, rfl, none, none, rfl⟩, fun _ _ _ _ _ => trivial, ?_, ?_⟩
    · rintro i x env S' hx ⟨rfl, i4, hb, y2, y3, rfl⟩
      obtain ⟨d, hd', rfl⟩ := enumD_get _ _ _ _ hx
      have q1 := hd d (List.mem_of_getElem? hd')
      have raise : badO hs.length i d = true → W0.R c_BadOrder [("at", .int ((0 + i : Nat) : Int))] S' := fun z => by
        rw [eR]
        have := ffst_here (bad := badO hs.length) (j := 0) hd' (by rw [Nat.zero_add]; exact z)
        rw [Nat.zero_add] at this
        rw [this] at hb
        rw [Nat.zero_add]
        exact exitX_id rfl (bad i hb)
      have next : badO hs.length i d = false → ffst (badO hs.length) 0 o = ffst (badO hs.length) (i + 1) (o.drop (i + 1)) := fun z => by
        have := ffst_drop (bad := badO hs.length) (j := 0) hd' (by rw [Nat.zero_add]; exact z)
        rw [Nat.zero_add] at this
        rw [hb, this]
      walk_at "d"
      walk_at "e"
      refine ite2 (fun e => ?_) (fun e => ?_)
      · have e4 : i = 200 := by
          have : ((0 + i : Nat) : Int) = 200 := by simpa using e
          omega
        refine ite_t rfl ?_
        walk_at "d"
        refine ⟨[((0 + i : Nat) : Int)], rfl, rfl, fun j hj => ?_, ?_⟩
        · rw [List.mem_singleton.mp hj]
          exact small_log (by omega) (by omega)
        · exact raise (by simp [badO, e4])
      · have e4 : i ≠ 200 := fun z => e (by simp [z])
        walk_at "d"
        refine ⟨d, _, rfl, dat_ty q1, ?_⟩
        walk_at "d"
        cases hc : inB hs.length d with
        | false =>
          refine ite_t rfl ?_
          walk_at "d"
          refine ⟨[((0 + i : Nat) : Int)], rfl, rfl, fun j hj => ?_, ?_⟩
          · rw [List.mem_singleton.mp hj]
            exact small_log (by omega) (by omega)
          · exact raise (by simp [badO, hc])
        | true =>
          refine ite_f (by decide) ?_
          exact ⟨rfl, by omega, next (by simp [badO, hc, e4]), _, _, rfl⟩
    · rintro env S' ⟨rfl, i4, hb, y2, y3, rfl⟩
      rw [enumD_len, List.drop_length] at hb
      exact exit_pure0 (fun _ => rfl) (post hb)
end
abbrev s_checkcode : Stmt := topS 44
abbrev N_checkcode : List Str := ["code", "bad", "function", "row"]
theorem sc_checkcode : FnScope N_checkcode ["code"] (defScope s_checkcode) := ⟨rfl, rfl, rfl, by decide +kernel, rfl, by decide +kernel, by decide +kernel⟩
theorem fbf_lt {most : Int} : ∀ (k : Nat) (fs : List D) {i : Nat}, k ≤ 8 → fbf most k fs = some i → i ≤ 8
  | _, [], _, _, h => by cases h
  | k, f :: fs, i, hk, h => by
    unfold fbf at h
    split at h
    · cases h; exact hk
    · rename_i z
      exact fbf_lt (k + 1) fs (by have : k ≠ 8 := fun e => z (.inl e); omega) h
theorem rowsBad_lt {sh : Shp} {bx : Int} {ms : List Int} {n : Int} : ∀ (k : Nat) (rs : List D) {i : Nat}, rowsBad sh bx ms n k rs = some i → i < k + rs.length
  | _, [], _, h => by cases h
  | k, r :: rs, i, h => by
    unfold rowsBad at h
    split at h
    · have := rowsBad_lt (k + 1) rs h
      rw [List.length_cons]
      omega
    · cases h
      rw [List.length_cons]
      omega
theorem fnsBad_lt {sh : Shp} {bx : Int} {ms : List Int} : ∀ (k : Nat) (gs : List Gf) {p : Nat × Nat}, fnsBad sh bx ms k gs = some p → p.1 < k + gs.length ∧ ∃ g ∈ gs, p.2 < g.2.length
  | _, [], _, h => by cases h
  | k, g :: gs, p, h => by
    unfold fnsBad at h
    split at h
    · rename_i a e
      cases h
      have := rowsBad_lt 0 g.2 e
      exact ⟨by rw [List.length_cons]; omega, g, List.mem_cons_self, by omega⟩
    · obtain ⟨h1, g', h2, h3⟩ := fnsBad_lt (k + 1) gs h
      exact ⟨by rw [List.length_cons]; omega, g', List.mem_cons_of_mem _ h2, h3⟩
theorem small_log2 {i : Int} (h0 : -1 ≤ i) (h1 : i ≤ 1000) : i.natAbs.log2 < 1920 := by
  have h : i.natAbs < 2 ^ 1920 := Nat.lt_of_lt_of_le (show i.natAbs < 1001 by omega) (by decide +kernel)
  rcases Nat.eq_zero_or_pos i.natAbs with e | e
  · rw [e]; decide
  · exact (Nat.log2_lt (by omega)).mpr h
theorem fbad_few {sh : Shp} {d : D} {p : Int × Int} (h : fbad sh 16 200 d = some p) : (0 ≤ p.1 ∧ p.1 ≤ 8) ∧ -1 ≤ p.2 ∧ p.2 ≤ 1000 := by
  unfold fbad at h
  split at h
  · rename_i n e
    cases h
    have : n ≤ 8 := by
      unfold fbadF at e
      split at e
      · exact fbf_lt 0 _ (by omega) e
      · cases e; omega
    exact ⟨⟨by omega, by omega⟩, (by decide : (-1 : Int) ≤ -1), (by decide : (-1 : Int) ≤ 1000)⟩
  · rename_i e
    obtain ⟨gs, rfl, e2, _, h8, hg⟩ := gfs_of e
    rw [e2] at h
    cases e3 : fnsBad sh 16 (gs.map (·.1)) 0 gs with
    | none => rw [e3] at h; cases h
    | some q =>
      rw [e3] at h
      cases h
      obtain ⟨h1, g, h2, h3⟩ := fnsBad_lt 0 gs e3
      have := (hg g h2).2.2
      exact ⟨⟨by show (0 : Int) ≤ (q.1 : Int); omega, by show (q.1 : Int) ≤ 8; omega⟩, by show (-1 : Int) ≤ (q.2 : Int); omega, by show (q.2 : Int) ≤ 1000; omega⟩
def spCheckCX (c : Addr) : DSpX := fun ds S P R => ∃ d, ds = [d] ∧ dat d = true ∧ (fbad cdSh 16 200 d = none → P .non S) ∧ ∀ p, fbad cdSh 16 200 d = some p → R c [("row", .int p.2), ("function", .int p.1)] S
section
variable {P : Program} {w : World} {K : PySem.W.Frag} {mg : Str → Option Value} {base : Heap} {c_BadCode : Addr} {s_xi : Stmt}
theorem ok_checkcodeX (at_ : At K mg "check_code" s_checkcode ["code"]) (mb : ∀ x, isB x = true → mg x = none) (gi : ∀ x n, isG x = some n → ∃ t, mg x = some (.int n t)) (z_super : mg "super" = none) (mx_BadCode : mg "BadCode" = some (.ref c_BadCode)) (xi_BadCode : XiC P K c_BadCode "BadCode.__init__" s_xi ["function", "row"]) (cd : CdTab P w K mg) (G_firstbad : Fn P w K mg base "first_bad" 5 ["functions", "shapes", "boxes", "most"] spFb) :
    FnX P w K mg base "check_code" 6 ["code"] (spCheckCX c_BadCode) := by
  obtain ⟨aPR, tab_CODE_ROWS⟩ := cd
  refine fnX_at at_ fun f fd F => fn_dX F sc_checkcode (fun ds S P R h => ?_) ?_
  · obtain ⟨d, rfl, _⟩ := h
    rfl
  · rintro X W0 cdv A outer s H E rfl hr hR
    have hu := hr.units
    refine ⟨_, (dss_cons (ds_set (i := 1) (de_fn G_firstbad (hr.mono (by decide)) (by rfl) (da_cons (de_var (pv 0)) (da_cons (de_kcopy tab_CODE_ROWS.2.1 (by rfl) tab_CODE_ROWS.1 (by rfl) (mb "dict" rfl)) (da_cons (de_gint (by rfl) (gi "CODE_BOXES" 16 rfl)) (da_cons (de_gint (by rfl) (gi "MOST_CODE_ROWS" 200 rfl)) da_nil))))) (fun h => ps_set sc_checkcode.nd rfl (by first | exact Or.inl rfl | exact Or.inr rfl) h))
      (dss_one (ds_if (dt_cmp op_notN do_notN (de_var (pv 1)) de_non (nomark _)) (dss_cons (ds_asg (de_var (pv 1)) (dg_tup (n := 2) rfl (dgs_cons (dg_name (pg_name (i := 2) sc_checkcode.nd rfl (by first | exact Or.inl rfl | exact Or.inr rfl))) (dgs_cons (dg_name (pg_name (i := 3) sc_checkcode.nd rfl (by first | exact Or.inl rfl | exact Or.inr rfl))) dgs_nil))) (fun h1 h2 => ps_asg h1 h2))
      (dss_one (ds_raiseX rfl hR xi_BadCode (hr.mono (by decide)) z_super mx_BadCode (by rfl) (da_cons (de_var (pv 2)) (da_cons (de_var (pv 3)) da_nil))))) dss_nil))), ?_⟩
    rintro ds S P R ⟨d, rfl, hd', post, bad⟩ eR
    walk_at "st"
    walk_at "d"
    refine ⟨d, cdSh, 16, 200, rfl, cdSh_ok, hd', ?_⟩
    cases e : fbad cdSh 16 200 d with
    | none =>
      walk_at "d"
      walk_at "e"
      refine ite_f Bool.false_ne_true ?_
      walk_at "d"
      exact exit_pure0 (fun _ => rfl) (post e)
    | some p =>
      have hf := fbad_few e
      dsimp only [badE]
      walk_at "d"
      walk_at "e"
      refine ite_t rfl ?_
      walk_at "d"
      refine ⟨[p.1, p.2], rfl, rfl, fun i hi => ?_, ?_⟩
      · simp only [List.mem_cons, List.not_mem_nil, or_false] at hi
        rcases hi with rfl | rfl
        · exact small_log2 (by omega) (by omega)
        · exact small_log2 (by omega) (by omega)
      · rw [eR]
        exact exitX_id rfl (bad p e)
end
def spRound : DSp := fun ds S P => ∃ m : Int, ds = [.int m] ∧ 2 ≤ m ∧ m ≤ 8 ∧ P .non S
def spRule : DSp := fun ds S P => ∃ a b m : Int, ds = [.tup [.int a, .int b], .int m] ∧ 1 ≤ a ∧ a < m ∧ 1 ≤ b ∧ b < m ∧ P .non S
abbrev s_checkround : Stmt := topS 48
abbrev N_checkround : List Str := ["many"]
theorem sc_checkround : FnScope N_checkround ["many"] (defScope s_checkround) := ⟨rfl, rfl, rfl, by decide +kernel, rfl, by decide +kernel, by decide +kernel⟩
abbrev s_checkrule : Stmt := topS 49
abbrev N_checkrule : List Str := ["rule", "many"]
theorem sc_checkrule : FnScope N_checkrule ["rule", "many"] (defScope s_checkrule) := ⟨rfl, rfl, rfl, by decide +kernel, rfl, by decide +kernel, by decide +kernel⟩
def spRoundX (c : Addr) : DSpX := fun ds S P R => ∃ m : Int, ds = [.int m] ∧ (2 ≤ m ∧ m ≤ 8 → P .non S) ∧ (¬ (2 ≤ m ∧ m ≤ 8) → R c [] S)
def ruleOk (xs : List Int) (m : Int) : Prop := ∃ a b, xs = [a, b] ∧ 1 ≤ a ∧ a < m ∧ 1 ≤ b ∧ b < m
def spRuleX (c : Addr) : DSpX := fun ds S P R => ∃ (xs : List Int) (m : Int), ds = [.tup (xs.map .int), .int m] ∧ (ruleOk xs m → P .non S) ∧ (¬ ruleOk xs m → R c [] S)
section
variable {P : Program} {w : World} {K : PySem.W.Frag} {mg : Str → Option Value} {base : Heap} {c_BadRound c_BadRule : Addr}
theorem ok_checkroundX (at_ : At K mg "check_round" s_checkround ["many"]) (gi : ∀ x n, isG x = some n → ∃ t, mg x = some (.int n t)) (xc_BadRound : XcF K mg "BadRound" c_BadRound) (G_below : Fn P w K mg base "below" 2 ["value", "bound"] spBelow) : FnX P w K mg base "check_round" 3 ["many"] (spRoundX c_BadRound) := by
  refine fnX_at at_ fun f fd F => fn_dX F sc_checkround (fun ds S P R h => ?_) ?_
  · obtain ⟨m, rfl, _⟩ := h
    rfl
  · rintro X W0 cdv A outer s H E rfl hr hR
    have hu := hr.units
    refine ⟨_, (dss_one (ds_if (dt_w (dw_or (dt_not (dt_val (de_fn G_below (hr.mono (by decide)) (by rfl) (da_cons (de_var (pv 0)) (da_cons (de_add (de_gint (by rfl) (gi "MOST_STRETCHES" 8 rfl)) de_int) da_nil))))) (dw_or1 (dt_cmp op_lt do_lt (de_var (pv 0)) de_int (nomark _))))) (dss_one (ds_raise0 rfl hR xc_BadRound (by rfl))) dss_nil)), ?_⟩
    rintro ds S P R ⟨m, rfl, post, bad⟩ eR
    walk_at "st"
    walk_at "d"
    refine ⟨.int m, 8 + 1, rfl, ⟨_, rfl⟩, ?_⟩
    have raise : ¬ (2 ≤ m ∧ m ≤ 8) → W0.R c_BadRound [] S := fun z => by rw [eR]; exact exitX_id rfl (bad z)
    by_cases h : 0 ≤ m ∧ m ≤ 8
    · have e : inB (8 + 1) (.int m) = true := by
        show (decide (0 ≤ m) && decide (m < 8 + 1)) = true
        rw [decide_eq_true (by omega), decide_eq_true (by omega)]
        rfl
      rw [e]
      walk_at "d"
      refine ite_f Bool.false_ne_true ?_
      walk_at "d"
      by_cases h2 : m < 2
      · refine ite_t (by rw [decide_eq_true_eq]; omega) ?_
        walk_at "d"
        exact raise (by omega)
      · refine ite_f (by rw [decide_eq_true_eq]; omega) ?_
        walk_at "d"
        exact exit_pure0 (fun _ => rfl) (post (by omega))
    · have e : inB (8 + 1) (.int m) = false := by
        show (decide (0 ≤ m) && decide (m < 8 + 1)) = false
        by_cases h0 : 0 ≤ m
        · rw [decide_eq_false (show ¬ m < 8 + 1 by omega), Bool.and_false]
        · rw [decide_eq_false h0, Bool.false_and]
      rw [e]
      walk_at "d"
      refine ite_t rfl ?_
      walk_at "d"
      exact raise (by omega)
theorem ok_checkruleX (at_ : At K mg "check_rule" s_checkrule ["rule", "many"]) (mb : ∀ x, isB x = true → mg x = none) (xc_BadRule : XcF K mg "BadRule" c_BadRule) (G_allbelow : Fn P w K mg base "all_below" 3 ["values", "bound"] spAllBelow) : FnX P w K mg base "check_rule" 4 ["rule", "many"] (spRuleX c_BadRule) := by
  refine fnX_at at_ fun f fd F => fn_dX F sc_checkrule (fun ds S P R h => ?_) ?_
  · obtain ⟨xs, m, rfl, _⟩ := h
    rfl
  · rintro X W0 cdv A outer s H E rfl hr hR
    have hu := hr.units
    refine ⟨_, (dss_one (ds_if (dt_w (dw_or (dt_not (dt_val (de_b dc_isi (da_cons (de_var (pv 0)) (da_cons (de_bltn (n := "tuple") (by rfl) (mb "tuple" rfl) (by decide +kernel)) da_nil)) (fun h => pe_callB call_isi (by rfl) (mb "isinstance" rfl) (by decide +kernel) h)))) (dw_or (dt_cmp (op_neA hu) do_ne (de_b dc_len (da_cons (de_var (pv 0)) da_nil) (fun h => pe_callB call_len_seq (by rfl) (mb "len" rfl) PySem.boot_len h)) de_int (nomark _)) (dw_or (dt_not (dt_val (de_fn G_allbelow (hr.mono (by decide)) (by rfl) (da_cons (de_var (pv 0)) (da_cons (de_var (pv 1)) da_nil))))) (dw_or1 (dt_cmp op_in_seq do_in de_int (de_var (pv 0)) (by rfl))))))) (dss_one (ds_raise0 rfl hR xc_BadRule (by rfl))) dss_nil)), ?_⟩
    rintro ds S P R ⟨xs, m, rfl, post, bad⟩ eR
    walk_at "st"
    walk_at "d"
    have raise : ¬ ruleOk xs m → W0.R c_BadRule [] S := fun z => by rw [eR]; exact exitX_id rfl (bad z)
    refine ite_f Bool.false_ne_true ?_
    walk_at "d"
    rw [List.length_map]
    by_cases h2 : xs.length = 2
    · obtain ⟨a, b, rfl⟩ : ∃ a b, xs = [a, b] := by
        match xs, h2 with
        | [a, b], _ => exact ⟨a, b, rfl⟩
      refine ite_f (by simp) ?_
      walk_at "d"
      refine ⟨[.int a, .int b], m, rfl, by simp, fun x hx => ?_, ?_⟩
      · simp only [List.mem_cons, List.not_mem_nil, or_false] at hx
        rcases hx with rfl | rfl <;> exact ⟨_, rfl⟩
      have ev : [D.int a, D.int b].all (inB m) = decide ((0 ≤ a ∧ a < m) ∧ (0 ≤ b ∧ b < m)) := by
        show ((decide (0 ≤ a) && decide (a < m)) && ((decide (0 ≤ b) && decide (b < m)) && true)) = _
        simp [Bool.decide_and]
      rw [ev]
      by_cases hab : (0 ≤ a ∧ a < m) ∧ (0 ≤ b ∧ b < m)
      · rw [decide_eq_true hab]
        walk_at "d"
        refine ite_f Bool.false_ne_true ?_
        walk_at "d"
        refine i_in rfl rfl rfl ?_
        walk_at "d"
        have e2 : inV (V.int 0) [V.int a, V.int b] = decide (a = 0 ∨ b = 0) := by
          show (decide (a = (0 : Int)) || (decide (b = (0 : Int)) || false)) = _
          simp
        by_cases hz : a = 0 ∨ b = 0
        · refine ite_t (by rw [show inV (V.int 0) [V.int a, V.int b] = _ from e2, decide_eq_true hz]; rfl) ?_
          walk_at "d"
          exact raise (fun ⟨a', b', e, _⟩ => by cases e; omega)
        · refine ite_f (by rw [show inV (V.int 0) [V.int a, V.int b] = _ from e2, decide_eq_false hz]; decide) ?_
          walk_at "d"
          exact exit_pure0 (fun _ => rfl) (post ⟨a, b, rfl, by omega, by omega, by omega, by omega⟩)
      · rw [decide_eq_false hab]
        walk_at "d"
        refine ite_t rfl ?_
        walk_at "d"
        exact raise (fun ⟨a', b', e, _⟩ => by cases e; omega)
    · refine ite_t (by rw [Bool.not_eq_true', decide_eq_false]; omega) ?_
      walk_at "d"
      exact raise (fun ⟨a', b', e, _⟩ => by rw [e] at h2; exact h2 rfl)
theorem checkroundF (G : FnX P w K mg base "check_round" 3 ["many"] (spRoundX c_BadRound)) : Fn P w K mg base "check_round" 3 ["many"] spRound :=
  (FnX.fn G).imp fun ds S P ⟨m, e, h2, h8, post⟩ => ⟨m, e, fun _ => post, fun z => absurd ⟨h2, h8⟩ z⟩
theorem checkruleF (G : FnX P w K mg base "check_rule" 4 ["rule", "many"] (spRuleX c_BadRule)) : Fn P w K mg base "check_rule" 4 ["rule", "many"] spRule :=
  (FnX.fn G).imp fun ds S P ⟨a, b, m, e, a1, a2, b1, b2, post⟩ => ⟨[a, b], m, e, fun _ => post, fun z => absurd ⟨a, b, rfl, a1, a2, b1, b2⟩ z⟩
end
theorem ffst_none {bad : Nat → D → Bool} : ∀ {l : List D} {j : Nat}, (∀ (i : Nat) x, l[i]? = some x → bad (j + i) x = false) → ffst bad j l = none
  | [], _, _ => rfl
  | y :: l, j, h => by
    show (if bad j y then some j else ffst bad (j + 1) l) = _
    rw [if_neg (by have := h 0 y rfl; rw [Nat.add_zero] at this; rw [this]; decide)]
    exact ffst_none fun i x hx => by
      have := h (i + 1) x (by simpa using hx)
      rw [show j + (i + 1) = j + 1 + i by omega] at this
      exact this
theorem inB_of' {b v : Int} (h0 : 0 ≤ v) (h1 : v < b) : inB b (.int v) = true := by
  show (decide (0 ≤ v) && decide (v < b)) = true
  rw [decide_eq_true h0, decide_eq_true h1]
  rfl
theorem hn_can {p : List Gf} (hp : gfOk p) {h : Hn} (ho : h.okG p) : hcan p h.e = true ∧ dat h.e = true ∧ brief h.e = true := by
  obtain ⟨fn, hf, hl, ha⟩ := ho
  have hi := (List.getElem?_eq_some_iff.mp hf).1
  obtain ⟨c0, c3⟩ := hp fn (List.mem_of_getElem? hf)
  have e2 : (h.args.map D.int).all (inB 1000) = true := by
    rw [List.all_eq_true]
    intro x hx
    obtain ⟨a, ha', rfl⟩ := List.mem_map.mp hx
    exact inB_of' (ha a ha').1 (ha a ha').2
  refine ⟨?_, ?_, ?_⟩
  · show (inB p.length (.int h.f) && (decide (((h.args.map D.int).length : Int) = ((p[((h.f : Nat) : Int).toNat]?).map Prod.fst).getD 0) && (h.args.map D.int).all (inB 1000))) = true
    rw [inB_of' (by omega) (by omega), e2, Int.toNat_natCast, hf, List.length_map]
    simpa using hl
  · have : dats (h.args.map D.int) = true := by
      generalize h.args = as
      induction as with
      | nil => rfl
      | cons a as ih => exact Bool.and_eq_true_iff.mpr ⟨rfl, ih⟩
    show (true && (dats (h.args.map .int) && true)) = true
    rw [this]
    rfl
  · show decide ((h.args.map D.int).length ≤ 1000) = true
    rw [List.length_map]
    exact decide_eq_true (by omega)
theorem fbadH_ok {p : List Gf} {hs : List Hn} (hp : gfOk p) (ho : handsOkG p hs) : fbadH p (hs.map Hn.e) = none := by
  have lo := ho.lo
  have hi := ho.hi
  have h0 : hs.map Hn.e ≠ [] := fun z => by
    have := congrArg List.length z
    simp at this
    rw [this] at lo
    simp at lo
  unfold fbadH
  rw [if_neg h0]
  refine ffst_none fun i x hx => ?_
  rw [List.getElem?_map] at hx
  cases e : hs[i]? with
  | none => rw [e] at hx; cases hx
  | some h =>
    rw [e] at hx
    cases hx
    have hl := (List.getElem?_eq_some_iff.mp e).1
    rw [Nat.zero_add]
    show (decide (i = 4) || !hcan p h.e) = false
    rw [(hn_can hp (ho.ok h (List.mem_of_getElem? e))).1, decide_eq_false (by omega)]
    rfl
section
variable {P : Program} {w : World} {K : PySem.W.Frag} {mg : Str → Option Value} {base : Heap} {c : Addr}
theorem checkhandsF (G : FnX P w K mg base "check_hands" 5 ["functions", "hands"] (spCheckHandsX c)) : Fn P w K mg base "check_hands" 5 ["functions", "hands"] spCheckHandsG :=
  (FnX.fn G).imp fun ds S P ⟨p, hs, e, hp, ho, post⟩ => ⟨p, hs.map Hn.e, e, hp, fun h hh => by
    obtain ⟨x, hx, rfl⟩ := List.mem_map.mp hh
    exact (hn_can hp (ho.ok x hx)).2, fun _ => post, fun i z => by rw [fbadH_ok hp ho] at z; cases z⟩
theorem checkcodeF (G : FnX P w K mg base "check_code" 6 ["code"] (spCheckCX c)) : Fn P w K mg base "check_code" 6 ["code"] spCheckC :=
  (FnX.fn G).imp fun ds S P ⟨p, e, hp, post⟩ => ⟨cdE p, e, dat_cd p, fun _ => post, fun q z => by rw [fbad_any hp] at z; cases z⟩
end
/-- a machine's code, round and rule -/
structure Cf where
  p : List CFn
  M : Nat
  rs : Nat
  rf : Nat
structure Cf.ok (c : Cf) : Prop where
  code : codeOk c.p
  m2 : 2 ≤ c.M
  m8 : c.M ≤ 8
  s1 : 1 ≤ c.rs
  s2 : c.rs < c.M
  f1 : 1 ≤ c.rf
  f2 : c.rf < c.M
/-- a call: the function, the place among its rows -/
structure MC where
  f : Nat
  pl : Nat
/-- a machine, one of its hands at work: calls and those laid aside the innermost first -/
structure Mw where
  cells : List Int
  told : List D
  log : List D
  said : List Int
  last : Option Nat
  sp : Int
  ft : Int
  tr : Int
  done : Int
  st : List MC
  as : List (List Int)
  outs : List Int
def lastD : Option Nat → D
  | none => .non
  | some k => .int k
def crows (c : Cf) (f : Nat) : List CRow := ((c.p[f]?).map CFn.rows).getD []
def Mw.ev (w : Mw) (d : D) : Mw := { w with log := w.log ++ [d] }
def Mw.spot (w : Mw) (b : Int) : Nat := ((w.st.length - 1) * 12 + b.toNat) % w.cells.length
def Mw.held (w : Mw) (b : Int) : Int := (w.cells[w.spot b]?).getD 0
def Mw.put (w : Mw) (b n : Int) : Mw := { w with cells := w.cells.set (w.spot b) n }
def vok (x : Int) : Prop := 0 ≤ x ∧ x < 1000
def blk (b : List Int) : Prop := b.length = 12 ∧ ∀ x ∈ b, vok x
/-- a hand's run that can be; one: at least one of its calls is in -/
structure Mok (c : Cf) (k : Nat) (w : Mw) : Prop where
  len : w.cells.length = 12 * c.M
  vals : ∀ x ∈ w.cells, vok x
  fs : ∀ q ∈ w.st, q.f < c.p.length
  bl : ∀ b ∈ w.as, blk b
  le : w.as.length ≤ w.st.length
  most : w.st.length - w.as.length ≤ c.M - 1
  dep : w.st.length ≤ 61
  ol : w.outs.length = 4
  ov : ∀ x ∈ w.outs, vok x
  lo : 0 ≤ w.done
  hi : w.done ≤ 40000
  last : w.last = some k
  told : k < w.told.length
section
variable {c : Cf} {k : Nat} {w : Mw}
theorem Mok.pos (h : Mok c k w) (hc : c.ok) : 0 < w.cells.length := by have := h.len; have := hc.m2; omega
theorem Mok.held (h : Mok c k w) (b : Int) : vok (w.held b) := by
  unfold Mw.held
  cases e : w.cells[w.spot b]? with
  | none => exact ⟨by decide, by decide⟩
  | some x => exact h.vals x (List.mem_of_getElem? e)
theorem Mok.ev (h : Mok c k w) (d : D) : Mok c k (w.ev d) := ⟨h.len, h.vals, h.fs, h.bl, h.le, h.most, h.dep, h.ol, h.ov, h.lo, h.hi, h.last, h.told⟩
theorem Mok.log (h : Mok c k w) (l : List D) : Mok c k { w with log := l } := ⟨h.len, h.vals, h.fs, h.bl, h.le, h.most, h.dep, h.ol, h.ov, h.lo, h.hi, h.last, h.told⟩
theorem Mok.put (h : Mok c k w) (b : Int) {n : Int} (hn : vok n) : Mok c k (w.put b n) :=
  ⟨(List.length_set ..).trans h.len, fun x hx => (List.mem_or_eq_of_mem_set hx).elim (h.vals x) fun e => e ▸ hn, h.fs, h.bl, h.le, h.most, h.dep, h.ol, h.ov, h.lo, h.hi, h.last, h.told⟩
theorem crows_at {f : Nat} {fn : CFn} (h : c.p[f]? = some fn) : crows c f = fn.rows := by unfold crows; rw [h]; rfl
/-- what a step may add -/
structure GrowM (w w' : Mw) : Prop where
  dn : w.done ≤ w'.done
  sd : (w'.said.length : Int) - w'.done ≤ w.said.length - w.done
  ev : (w'.log.length : Int) - 9 * w'.done ≤ w.log.length - 9 * w.done
theorem GrowM.refl (w : Mw) : GrowM w w := ⟨Int.le_refl _, Int.le_refl _, Int.le_refl _⟩
theorem GrowM.trans {a b d : Mw} (h : GrowM a b) (k : GrowM b d) : GrowM a d := ⟨Int.le_trans h.dn k.dn, Int.le_trans k.sd h.sd, Int.le_trans k.ev h.ev⟩
end
structure MH where
  st : List MC
  as : List (List Int)
  outs : List Int
structure Ms where
  cells : List Int
  told : List D
  log : List D
  last : Option Nat
  sp : Int
  ft : Int
  tr : Int
  done : Int
  hs : List MH
def Ms.of (s : Ms) (k : Nat) (w : Mw) : Ms := ⟨w.cells, w.told, w.log, w.last, w.sp, w.ft, w.tr, w.done, s.hs.set k ⟨w.st, w.as, w.outs⟩⟩
/-- what a hand told, if it is over -/
structure Tel (k : Nat) (w : Mw) : Prop where
  go : w.st ≠ [] → w.told[k]? = some .non
  ov : w.st = [] → ∃ n, w.told[k]? = some (.int n)
structure HOk (c : Cf) (s : Ms) (k : Nat) (h : MH) : Prop where
  fs : ∀ q ∈ h.st, q.f < c.p.length
  bl : ∀ b ∈ h.as, blk b
  le : h.as.length ≤ h.st.length
  most : h.st.length - h.as.length ≤ c.M - 1
  dep : h.st.length ≤ 61
  ol : h.outs.length = 4
  ov : ∀ x ∈ h.outs, vok x
  out : s.last ≠ some k → h.as.length = h.st.length
  inn : s.last = some k → h.st ≠ [] → h.as.length < h.st.length
  go : h.st ≠ [] → s.told[k]? = some .non
  over : h.st = [] → ∃ n, s.told[k]? = some (.int n)
section
variable {c : Cf} {k : Nat} {w : Mw}
/-- nothing else is touched -/
structure Only (k : Nat) (w w' : Mw) : Prop where
  len : w'.told.length = w.told.length
  oth : ∀ j, j ≠ k → w'.told[j]? = w.told[j]?
  last : w'.last = w.last
theorem Only.refl (k : Nat) (w : Mw) : Only k w w := ⟨rfl, fun _ _ => rfl, rfl⟩
theorem Only.trans {a b d : Mw} (h : Only k a b) (g : Only k b d) : Only k a d := ⟨g.len.trans h.len, fun j hj => (g.oth j hj).trans (h.oth j hj), g.last.trans h.last⟩
theorem Only.of {w w' : Mw} (e : w'.told = w.told) (l : w'.last = w.last) : Only k w w' := ⟨by rw [e], fun _ _ => by rw [e], l⟩
theorem Tel.of {w w' : Mw} (t : Tel k w) (e : w'.told = w.told) (hn : w.st ≠ []) (hn' : w'.st ≠ []) : Tel k w' := ⟨fun _ => by rw [e]; exact t.go hn, fun z => absurd z hn'⟩
def Ms.bare (s : Ms) : Ms := ⟨s.cells, s.told, [], none, s.sp, s.ft, s.tr, s.done, s.hs⟩
end
structure MLoc where
  r : Nat
  cl : Nat
  rn : Nat
  rs : Nat
  ev : Nat
  sd : Nat
  h : Nat
  hc : Nat
  ha : Nat
structure Ad where
  MA : Addr
  HA : Addr
  CA : Addr
def macFields : List Str := ["code", "many", "spill_many", "fetch_many", "cells", "runs", "results", "last", "events", "spilled", "fetched", "traps", "done"]
def hrFields : List Str := ["calls", "aside", "outs"]
def ccFields : List Str := ["rows", "place"]
def machO (A : Addr) (c : Cf) (L : MLoc) (last : Option Nat) (sp ft tr done : Int) : O :=
  .ins A [("code", cdE c.p), ("many", .int c.M), ("spill_many", .int c.rs), ("fetch_many", .int c.rf), ("cells", .ref L.cl), ("runs", .ref L.rn), ("results", .ref L.rs), ("last", lastD last), ("events", .ref L.ev), ("spilled", .int sp), ("fetched", .int ft), ("traps", .int tr), ("done", .int done)]
def handO (A : Addr) (hc ha : Nat) (outs : List Int) : O := .ins A [("calls", .ref hc), ("aside", .ref ha), ("outs", .lst (outs.map .int))]
def ccO (A : Addr) (c : Cf) (q : MC) : O := .ins A [("rows", .tup ((crows c q.f).map CRow.e)), ("place", .int (q.pl : Int))]
abbrev blkD (b : List Int) : D := .lst (b.map .int)
def asE (as : List (List Int)) : List D := (as.map blkD).reverse
def refsM (cs : List Nat) : List D := (cs.map D.ref).reverse
def callsM (A : Addr) (c : Cf) : List Nat → List MC → Pl
  | q :: cs, m :: st => (q, ccO A c m) :: callsM A c cs st
  | _, _ => []
def coreM (A : Ad) (c : Cf) (L : MLoc) (cs : List Nat) (w : Mw) : Pl :=
  (L.r, machO A.MA c L w.last w.sp w.ft w.tr w.done) :: (L.cl, .lst (w.cells.map .int)) :: (L.rs, .lst w.told) :: (L.ev, .lst w.log) :: (L.sd, .lst (w.said.map .int)) :: (L.h, handO A.HA L.hc L.ha w.outs) :: (L.hc, .lst (refsM cs)) :: (L.ha, .lst (asE w.as)) :: callsM A.CA c cs w.st
structure MCore (A : Ad) (c : Cf) (F : Pl) (L : MLoc) (S : Sto) (cs : List Nat) (w : Mw) : Prop where
  hd : Hd S (coreM A c L cs w ++ F)
  len : cs.length = w.st.length
theorem refsM_cons (q : Nat) (cs : List Nat) : refsM (q :: cs) = refsM cs ++ [.ref q] := by unfold refsM; rw [List.map_cons, List.reverse_cons]
theorem callsM_plain (A : Addr) (c : Cf) : ∀ (cs : List Nat) (st : List MC), ∀ p ∈ callsM A c cs st, plainO p.2 = true
  | [], _, p, h => by cases h
  | _ :: _, [], p, h => by cases h
  | q :: cs, m :: st, p, h => by
    rcases List.mem_cons.mp h with rfl | h
    · rfl
    · exact callsM_plain A c cs st p h
section
variable {A : Ad} {c : Cf} {F : Pl} {L : MLoc} {S : Sto} {cs : List Nat} {w : Mw} {q : Nat} {m : MC} {st : List MC}
theorem MCore.top (h : MCore A c F L S cs w) : S[L.r]? = some (machO A.MA c L w.last w.sp w.ft w.tr w.done) := h.hd.get (by simp [coreM])
theorem MCore.cl (h : MCore A c F L S cs w) : S[L.cl]? = some (.lst (w.cells.map .int)) := h.hd.get (by simp [coreM])
theorem MCore.rs (h : MCore A c F L S cs w) : S[L.rs]? = some (.lst w.told) := h.hd.get (by simp [coreM])
theorem MCore.ev (h : MCore A c F L S cs w) : S[L.ev]? = some (.lst w.log) := h.hd.get (by simp [coreM])
theorem MCore.sd (h : MCore A c F L S cs w) : S[L.sd]? = some (.lst (w.said.map .int)) := h.hd.get (by simp [coreM])
theorem MCore.h (h : MCore A c F L S cs w) : S[L.h]? = some (handO A.HA L.hc L.ha w.outs) := h.hd.get (by simp [coreM])
theorem MCore.hc (h : MCore A c F L S cs w) : S[L.hc]? = some (.lst (refsM cs)) := h.hd.get (by simp [coreM])
theorem MCore.ha (h : MCore A c F L S cs w) : S[L.ha]? = some (.lst (asE w.as)) := h.hd.get (by simp [coreM])
theorem MCore.call (h : MCore A c F L S (q :: cs) w) (e : w.st = m :: st) : S[q]? = some (ccO A.CA c m) := by
  have hd := h.hd
  unfold coreM at hd
  rw [e] at hd
  exact hd.get (by simp [callsM])
theorem MCore.push (h : MCore A c F L S cs w) (m : MC) : MCore A c F L ((S ++ [ccO A.CA c m]).set L.hc (.lst (refsM cs ++ [.ref S.length]))) (S.length :: cs) { w with st := m :: w.st } := by
  refine ⟨?_, by simp [h.len]⟩
  have h1 := Hd.new (A := [(L.r, machO A.MA c L w.last w.sp w.ft w.tr w.done), (L.cl, .lst (w.cells.map .int)), (L.rs, .lst w.told), (L.ev, .lst w.log), (L.sd, .lst (w.said.map .int)), (L.h, handO A.HA L.hc L.ha w.outs), (L.hc, .lst (refsM cs)), (L.ha, .lst (asE w.as))]) (B := callsM A.CA c cs w.st ++ F) h.hd (ccO A.CA c m)
  have h3 := h1.setN 6 rfl (.lst (refsM cs ++ [.ref S.length]))
  unfold coreM
  rw [refsM_cons]
  exact h3
end
abbrev s_CodeCallinit : Stmt := inClass (topS 70) 0
abbrev N_CodeCallinit : List Str := ["self", "rows"]
theorem sc_CodeCallinit : FnScope N_CodeCallinit ["self", "rows"] (defScope s_CodeCallinit) := ⟨rfl, rfl, rfl, by decide +kernel, rfl, by decide +kernel, by decide +kernel⟩
def spCCInit (CA : Addr) : DSp := fun ds S P => ∃ (S0 : Sto) (c : Cf) (f : Nat), ds = [.ref S0.length, .tup ((crows c f).map CRow.e)] ∧ S = S0 ++ [.ins CA []] ∧ P .non (S0 ++ [ccO CA c ⟨f, 0⟩])
section
variable {P : Program} {w : World} {K : PySem.W.Frag} {mg : Str → Option Value} {base : Heap} {A : Ad} {CA CL : Addr}
theorem ok_CodeCallinit (at_ : IAt K mg "CodeCall" CA "CodeCall.__init__" s_CodeCallinit ["self", "rows"]) (T_CodeCall : ClsF K CA ccFields) : MkF P w K mg base "CodeCall" CA 1 ["self", "rows"] (spCCInit CA) := by
  refine mkf_at at_ fun f fd F => fn_dKN F sc_CodeCallinit (fun ds S P h => ?_) ?_
  · obtain ⟨S0, c, f, rfl, _⟩ := h
    rfl
  · rintro X W0 cdv AA outer s H E rfl hr
    have hu := hr.units
    refine ⟨_, (dss_cons (ds_fld T_CodeCall.cl (T_CodeCall.na "rows" rfl) (de_var (pv 0)) (de_var (pv 1)))
      (dss_one (ds_fld T_CodeCall.cl (T_CodeCall.na "place" rfl) (de_var (pv 0)) de_int))), ?_⟩
    rintro ds S P ⟨S0, c, f, rfl, rfl, post⟩
    have hl : ∀ o : O, (S0 ++ [o])[S0.length]? = some o := fun o => by rw [List.getElem?_append_right (Nat.le_refl _), Nat.sub_self]; rfl
    have hs : ∀ o o' : O, (S0 ++ [o]).set S0.length o' = S0 ++ [o'] := fun o o' => by rw [List.set_append_right _ _ (Nat.le_refl _), Nat.sub_self]; rfl
    walk_at "st"
    walk_at "d"
    refine ⟨_, _, rfl, hl _, by decide, ?_⟩
    rw [hs]
    walk_at "d"
    refine ⟨_, _, rfl, hl _, few rfl, ?_⟩
    rw [hs]
    exact post
end
local macro_rules | `(tactic| walk_at "row") => `(tactic| repeat (first | refine i_hit (by simp [okD]) rfl ?_ | refine i_miss (by simp [okD]) rfl ?_))
structure HLoc where
  h : Nat
  hc : Nat
  ha : Nat
  cs : List Nat
structure TLoc where
  r : Nat
  cl : Nat
  rn : Nat
  rs : Nat
  ev : Nat
def TLoc.loc (T : TLoc) (q : HLoc) (sd : Nat) : MLoc := ⟨T.r, T.cl, T.rn, T.rs, T.ev, sd, q.h, q.hc, q.ha⟩
def TLoc.lo0 (T : TLoc) : MLoc := ⟨T.r, T.cl, T.rn, T.rs, T.ev, 0, 0, 0, 0⟩
def hrunL (A : Ad) (c : Cf) (q : HLoc) (x : MH) : Pl := (q.h, handO A.HA q.hc q.ha x.outs) :: (q.hc, .lst (refsM q.cs)) :: (q.ha, .lst (asE x.as)) :: callsM A.CA c q.cs x.st
def hrunsL (A : Ad) (c : Cf) : List HLoc → List MH → Pl
  | q :: hs, x :: xs => hrunL A c q x ++ hrunsL A c hs xs
  | _, _ => []
def topM (A : Ad) (c : Cf) (T : TLoc) (s : Ms) : Pl := [(T.r, machO A.MA c T.lo0 s.last s.sp s.ft s.tr s.done), (T.cl, .lst (s.cells.map .int)), (T.rs, .lst s.told), (T.ev, .lst s.log)]
def runsE (hs : List HLoc) : List D := hs.map fun q => D.ref q.h
structure MAll (A : Ad) (c : Cf) (T : TLoc) (F : Pl) (S : Sto) (hs : List HLoc) (s : Ms) : Prop where
  hd : Hd S (topM A c T s ++ ((T.rn, O.lst (runsE hs)) :: hrunsL A c hs s.hs ++ F))
  len : hs.length = s.hs.length
  lens : ∀ (k : Nat) q x, hs[k]? = some q → s.hs[k]? = some x → q.cs.length = x.st.length
theorem hrunsL_app {A : Ad} {c : Cf} : ∀ {H : List HLoc} {H' : List MH} {B : List HLoc} {B' : List MH}, H.length = H'.length → hrunsL A c (H ++ B) (H' ++ B') = hrunsL A c H H' ++ hrunsL A c B B'
  | [], [], _, _, _ => rfl
  | [], _ :: _, _, _, h => by cases h
  | _ :: _, [], _, _, h => by cases h
  | q :: H, x :: H', B, B', e => by
    show hrunL A c q x ++ hrunsL A c (H ++ B) (H' ++ B') = (hrunL A c q x ++ hrunsL A c H H') ++ hrunsL A c B B'
    rw [hrunsL_app (by simpa using e), List.append_assoc]
theorem hrunL_plain (A : Ad) (c : Cf) (q : HLoc) (x : MH) : ∀ p ∈ hrunL A c q x, plainO p.2 = true := fun p h => by
  unfold hrunL at h
  simp only [List.mem_cons] at h
  rcases h with h | h | h | h
  · rw [h]; rfl
  · rw [h]; rfl
  · rw [h]; rfl
  · exact callsM_plain _ _ _ _ p h
theorem hrunsL_plain (A : Ad) (c : Cf) : ∀ (hs : List HLoc) (xs : List MH), ∀ p ∈ hrunsL A c hs xs, plainO p.2 = true
  | [], _, p, h => by cases h
  | _ :: _, [], p, h => by cases h
  | q :: hs, x :: xs, p, h => (List.mem_append.mp h).elim (hrunL_plain A c q x p) (hrunsL_plain A c hs xs p)
theorem split_at {α : Type} {l : List α} {k : Nat} {x : α} (h : l[k]? = some x) : l = l.take k ++ x :: l.drop (k + 1) := by
  obtain ⟨h1, h2⟩ := List.getElem?_eq_some_iff.mp h
  have := List.take_append_drop k l
  rw [List.drop_eq_getElem_cons h1, h2] at this
  exact this.symm
/-- what stands beside one hand -/
def restM (A : Ad) (c : Cf) (T : TLoc) (F : Pl) (hs : List HLoc) (s : Ms) (k : Nat) : Pl :=
  (T.rn, O.lst (runsE hs)) :: hrunsL A c (hs.take k) (s.hs.take k) ++ (hrunsL A c (hs.drop (k + 1)) (s.hs.drop (k + 1)) ++ F)
section
variable {A : Ad} {c : Cf} {T : TLoc} {F : Pl} {S : Sto} {hs : List HLoc} {s : Ms} {k : Nat} {q : HLoc} {x : MH} {sd : Nat} {sa : List Int}
theorem runs_perm {G : Pl} (len : hs.length = s.hs.length) (e1 : hs[k]? = some q) (e2 : s.hs[k]? = some x) :
    ((T.rn, O.lst (runsE hs)) :: hrunsL A c hs s.hs ++ G).Perm (hrunL A c q x ++ restM A c T G hs s k) := by
  have l1 : (hs.take k).length = (s.hs.take k).length := by rw [List.length_take, List.length_take, len]
  have e : hrunsL A c hs s.hs = hrunsL A c (hs.take k) (s.hs.take k) ++ (hrunL A c q x ++ hrunsL A c (hs.drop (k + 1)) (s.hs.drop (k + 1))) := by
    conv => lhs; rw [split_at e1, split_at e2]
    rw [hrunsL_app l1]
    rfl
  rw [e]
  unfold restM
  generalize hrunL A c q x = U
  generalize hrunsL A c (hs.take k) (s.hs.take k) = B
  generalize hrunsL A c (hs.drop (k + 1)) (s.hs.drop (k + 1)) = D
  generalize (T.rn, O.lst (runsE hs)) = z
  have p1 : (z :: (B ++ (U ++ D)) ++ G) = (z :: B ++ U) ++ (D ++ G) := by simp
  have p2 : (U ++ (z :: B ++ (D ++ G))) = (U ++ z :: B) ++ (D ++ G) := by simp
  rw [p1, p2]
  exact List.Perm.append_right _ List.perm_append_comm
theorem rest_said (o : O) : (hrunL A c q x ++ restM A c T ((sd, o) :: F) hs s k).Perm ((sd, o) :: (hrunL A c q x ++ restM A c T F hs s k)) := by
  unfold restM
  have p1 : hrunL A c q x ++ ((T.rn, O.lst (runsE hs)) :: hrunsL A c (hs.take k) (s.hs.take k) ++ (hrunsL A c (hs.drop (k + 1)) (s.hs.drop (k + 1)) ++ (sd, o) :: F)) = (hrunL A c q x ++ ((T.rn, O.lst (runsE hs)) :: hrunsL A c (hs.take k) (s.hs.take k) ++ hrunsL A c (hs.drop (k + 1)) (s.hs.drop (k + 1)))) ++ (sd, o) :: F := by simp
  have p2 : hrunL A c q x ++ ((T.rn, O.lst (runsE hs)) :: hrunsL A c (hs.take k) (s.hs.take k) ++ (hrunsL A c (hs.drop (k + 1)) (s.hs.drop (k + 1)) ++ F)) = (hrunL A c q x ++ ((T.rn, O.lst (runsE hs)) :: hrunsL A c (hs.take k) (s.hs.take k) ++ hrunsL A c (hs.drop (k + 1)) (s.hs.drop (k + 1)))) ++ F := by simp
  rw [p1, p2]
  exact List.perm_middle
theorem runsE_set {hc ha : Nat} {cs : List Nat} (e1 : hs[k]? = some q) : runsE (hs.set k ⟨q.h, hc, ha, cs⟩) = runsE hs := by
  have k1 := (List.getElem?_eq_some_iff.mp e1).1
  unfold runsE
  refine List.ext_getElem? fun j => ?_
  rw [List.getElem?_map, List.getElem?_map]
  by_cases hj : j = k
  · subst hj
    rw [List.getElem?_set_self k1, e1]
    rfl
  · rw [List.getElem?_set_ne (Ne.symm hj)]
theorem MAll.top (a : MAll A c T F S hs s) : S[T.r]? = some (machO A.MA c T.lo0 s.last s.sp s.ft s.tr s.done) := a.hd.get (by simp [topM])
theorem MAll.cl (a : MAll A c T F S hs s) : S[T.cl]? = some (.lst (s.cells.map .int)) := a.hd.get (by simp [topM])
theorem MAll.rs (a : MAll A c T F S hs s) : S[T.rs]? = some (.lst s.told) := a.hd.get (by simp [topM])
theorem MAll.ev (a : MAll A c T F S hs s) : S[T.ev]? = some (.lst s.log) := a.hd.get (by simp [topM])
theorem MAll.rn (a : MAll A c T F S hs s) : S[T.rn]? = some (.lst (runsE hs)) := a.hd.get (by simp [topM])
theorem MAll.back {S' : Sto} {cs' : List Nat} {w : Mw} (a : MAll A c T ((sd, .lst (sa.map .int)) :: F) S hs s) (e1 : hs[k]? = some q) (e2 : s.hs[k]? = some x)
    (m : MCore A c (restM A c T F hs s k) (T.loc q sd) S' cs' w) : MAll A c T ((sd, .lst (w.said.map .int)) :: F) S' (hs.set k ⟨q.h, q.hc, q.ha, cs'⟩) (s.of k w) := by
  have k1 := (List.getElem?_eq_some_iff.mp e1).1
  have k2 := (List.getElem?_eq_some_iff.mp e2).1
  have len' : (hs.set k ⟨q.h, q.hc, q.ha, cs'⟩).length = (s.of k w).hs.length := by
    show _ = (s.hs.set k _).length
    rw [List.length_set, List.length_set, a.len]
  have f1 : (hs.set k ⟨q.h, q.hc, q.ha, cs'⟩)[k]? = some ⟨q.h, q.hc, q.ha, cs'⟩ := List.getElem?_set_self k1
  have f2 : (s.of k w).hs[k]? = some ⟨w.st, w.as, w.outs⟩ := List.getElem?_set_self k2
  have em : runsE (hs.set k ⟨q.h, q.hc, q.ha, cs'⟩) = runsE hs := runsE_set e1
  have er : restM A c T F (hs.set k ⟨q.h, q.hc, q.ha, cs'⟩) (s.of k w) k = restM A c T F hs s k := by
    unfold restM Ms.of
    rw [em]
    dsimp only
    rw [List.take_set_of_le (Nat.le_refl k), List.take_set_of_le (Nat.le_refl k), List.drop_set_of_lt (Nat.lt_succ_self k), List.drop_set_of_lt (Nat.lt_succ_self k)]
  refine ⟨?_, len', fun j q' x' g1 g2 => ?_⟩
  · have p := (runs_perm (A := A) (c := c) (T := T) (G := (sd, .lst (w.said.map .int)) :: F) len' f1 f2).trans (rest_said (.lst (w.said.map .int)))
    rw [er] at p
    have hm : Hd S' (topM A c T (s.of k w) ++ ((sd, .lst (w.said.map .int)) :: (hrunL A c ⟨q.h, q.hc, q.ha, cs'⟩ ⟨w.st, w.as, w.outs⟩ ++ restM A c T F hs s k))) := m.hd
    exact hm.perm (List.Perm.append_left (topM A c T (s.of k w)) p.symm)
  · by_cases hj : j = k
    · subst hj
      rw [f1] at g1
      rw [f2] at g2
      cases g1
      cases g2
      exact m.len
    · rw [List.getElem?_set_ne (Ne.symm hj)] at g1
      have g2 : (s.hs.set k _)[j]? = some x' := g2
      rw [List.getElem?_set_ne (Ne.symm hj)] at g2
      exact a.lens j q' x' g1 g2
theorem MAll.new (a : MAll A c T F S hs s) (o : O) : MAll A c T ((S.length, o) :: F) (S ++ [o]) hs s := by
  refine ⟨?_, a.len, a.lens⟩
  have := Hd.new (A := topM A c T s ++ ((T.rn, O.lst (runsE hs)) :: hrunsL A c hs s.hs)) (B := F) (by rw [List.append_assoc]; exact a.hd) o
  rw [List.append_assoc] at this
  exact this
theorem MAll.frame (a : MAll A c T F S hs s) : Hd S F := by
  refine a.hd.sub ?_ fun p hp => ?_
  · rw [← List.append_assoc]
    exact List.sublist_append_right _ _
  · rcases List.mem_append.mp hp with hp | hp
    · refine .inr ?_
      unfold topM at hp
      simp only [List.mem_cons, List.not_mem_nil, or_false] at hp
      rcases hp with h | h | h | h <;> (rw [h]; rfl)
    · rcases List.mem_append.mp (show p ∈ ((T.rn, O.lst (runsE hs)) :: hrunsL A c hs s.hs) ++ F from hp) with hp | hp
      · rcases List.mem_cons.mp hp with rfl | hp
        · exact .inr rfl
        · exact .inr (hrunsL_plain _ _ _ _ p hp)
      · exact .inl hp
theorem MCore.frame {L : MLoc} {cs : List Nat} {w : Mw} (m : MCore A c (restM A c T F hs s k) L S cs w) : Hd S F := by
  refine m.hd.sub ?_ fun p hp => ?_
  · unfold restM
    rw [← List.append_assoc, ← List.append_assoc]
    exact List.sublist_append_right _ _
  · rcases List.mem_append.mp hp with hp | hp
    · refine .inr ?_
      unfold coreM at hp
      simp only [List.mem_cons] at hp
      rcases hp with h | h | h | h | h | h | h | h | h
      · rw [h]; rfl
      · rw [h]; rfl
      · rw [h]; rfl
      · rw [h]; rfl
      · rw [h]; rfl
      · rw [h]; rfl
      · rw [h]; rfl
      · rw [h]; rfl
      · exact callsM_plain _ _ _ _ p h
    · unfold restM at hp
      rcases List.mem_append.mp hp with hp | hp
      · rcases List.mem_cons.mp hp with rfl | hp
        · exact .inr rfl
        · exact .inr (hrunsL_plain _ _ _ _ p hp)
      · rcases List.mem_append.mp hp with hp | hp
        · exact .inr (hrunsL_plain _ _ _ _ p hp)
        · exact .inl hp
end
abbrev s_Machinepick : Stmt := inClass (topS 72) 1
abbrev N_Machinepick : List Str := ["self", "hand", "said", "going"]
theorem sc_Machinepick : FnScope N_Machinepick ["self", "hand"] (defScope s_Machinepick) := ⟨rfl, rfl, rfl, by decide +kernel, rfl, by decide +kernel, by decide +kernel⟩
abbrev s_Machinetold : Stmt := inClass (topS 72) 2
abbrev N_Machinetold : List Str := ["self"]
theorem sc_Machinetold : FnScope N_Machinetold ["self"] (defScope s_Machinetold) := ⟨rfl, rfl, rfl, by decide +kernel, rfl, by decide +kernel, by decide +kernel⟩
abbrev s_Machineboxes : Stmt := inClass (topS 72) 3
abbrev N_Machineboxes : List Str := ["self"]
theorem sc_Machineboxes : FnScope N_Machineboxes ["self"] (defScope s_Machineboxes) := ⟨rfl, rfl, rfl, by decide +kernel, rfl, by decide +kernel, by decide +kernel⟩
abbrev s_Machinelog : Stmt := inClass (topS 72) 6
abbrev N_Machinelog : List Str := ["self"]
theorem sc_Machinelog : FnScope N_Machinelog ["self"] (defScope s_Machinelog) := ⟨rfl, rfl, rfl, by decide +kernel, rfl, by decide +kernel, by decide +kernel⟩
def spTold (A : Ad) : DSp := fun ds S P => ∃ c T F hs s, ds = [.ref T.r] ∧ MAll A c T F S hs s ∧ P (.ref S.length) (S ++ [.lst s.told])
def spBoxes (A : Ad) : DSp := fun ds S P => ∃ c T F hs s, ds = [.ref T.r] ∧ MAll A c T F S hs s ∧ P (.ref S.length) (S ++ [.lst (s.cells.map .int)])
def spLog (A : Ad) : DSp := fun ds S P => ∃ c T F hs s, ds = [.ref T.r] ∧ MAll A c T F S hs s ∧ P (.ref S.length) (S ++ [.lst s.log])
section
variable {P : Program} {w : World} {K : PySem.W.Frag} {mg : Str → Option Value} {base : Heap} {A : Ad}
theorem ok_told (at_ : MAt K A.MA "told" "Machine.told" s_Machinetold ["self"]) (mb : ∀ x, isB x = true → mg x = none) (T_Machine : ClsF K A.MA macFields) : MFn P w K mg base A.MA "told" 1 ["self"] (spTold A) := by
  refine mfn_at at_ fun f fd F => fn_dKN F sc_Machinetold (fun ds S P h => ?_) ?_
  · obtain ⟨c, T, F, hs, s, rfl, _⟩ := h
    rfl
  · rintro X W0 cdv AA outer s H E rfl hr
    have hu := hr.units
    refine ⟨_, (dss_one (ds_ret (de_new (dn_b dc_list (da_cons (de_fld T_Machine.cl (T_Machine.na "results" rfl) (de_var (pv 0))) da_nil) (fun h => pe_callTy call_list_of (by rfl) (mb "list" rfl) (by decide +kernel) h))))), ?_⟩
    rintro ds S P ⟨c, T, F, hs, s, rfl, ha, post⟩
    walk_at "st"
    walk_at "d"
    refine ⟨_, _, _, rfl, ha.top, rfl, ?_⟩
    walk_at "d"
    refine i_list (xs := s.told) (by show itemsOf S (.ref T.rs) = _; simp only [itemsOf, seqOf, lstOf]; rw [show S[T.rs]? = _ from ha.rs]) ?_
    exact post
theorem ok_boxes (at_ : MAt K A.MA "boxes" "Machine.boxes" s_Machineboxes ["self"]) (mb : ∀ x, isB x = true → mg x = none) (T_Machine : ClsF K A.MA macFields) : MFn P w K mg base A.MA "boxes" 1 ["self"] (spBoxes A) := by
  refine mfn_at at_ fun f fd F => fn_dKN F sc_Machineboxes (fun ds S P h => ?_) ?_
  · obtain ⟨c, T, F, hs, s, rfl, _⟩ := h
    rfl
  · rintro X W0 cdv AA outer s H E rfl hr
    have hu := hr.units
    refine ⟨_, (dss_one (ds_ret (de_new (dn_b dc_list (da_cons (de_fld T_Machine.cl (T_Machine.na "cells" rfl) (de_var (pv 0))) da_nil) (fun h => pe_callTy call_list_of (by rfl) (mb "list" rfl) (by decide +kernel) h))))), ?_⟩
    rintro ds S P ⟨c, T, F, hs, s, rfl, ha, post⟩
    walk_at "st"
    walk_at "d"
    refine ⟨_, _, _, rfl, ha.top, rfl, ?_⟩
    walk_at "d"
    refine i_list (xs := s.cells.map .int) (by show itemsOf S (.ref T.cl) = _; simp only [itemsOf, seqOf, lstOf]; rw [show S[T.cl]? = _ from ha.cl]) ?_
    exact post
theorem ok_log (at_ : MAt K A.MA "log" "Machine.log" s_Machinelog ["self"]) (mb : ∀ x, isB x = true → mg x = none) (T_Machine : ClsF K A.MA macFields) : MFn P w K mg base A.MA "log" 1 ["self"] (spLog A) := by
  refine mfn_at at_ fun f fd F => fn_dKN F sc_Machinelog (fun ds S P h => ?_) ?_
  · obtain ⟨c, T, F, hs, s, rfl, _⟩ := h
    rfl
  · rintro X W0 cdv AA outer s H E rfl hr
    have hu := hr.units
    refine ⟨_, (dss_one (ds_ret (de_new (dn_b dc_list (da_cons (de_fld T_Machine.cl (T_Machine.na "events" rfl) (de_var (pv 0))) da_nil) (fun h => pe_callTy call_list_of (by rfl) (mb "list" rfl) (by decide +kernel) h))))), ?_⟩
    rintro ds S P ⟨c, T, F, hs, s, rfl, ha, post⟩
    walk_at "st"
    walk_at "d"
    refine ⟨_, _, _, rfl, ha.top, rfl, ?_⟩
    walk_at "d"
    refine i_list (xs := s.log) (by show itemsOf S (.ref T.ev) = _; simp only [itemsOf, seqOf, lstOf]; rw [show S[T.ev]? = _ from ha.ev]) ?_
    exact post
end
abbrev s_HandRuninit : Stmt := inClass (topS 71) 0
abbrev N_HandRuninit : List Str := ["self", "code", "hand", "function", "arguments"]
theorem sc_HandRuninit : FnScope N_HandRuninit ["self", "code", "hand"] (defScope s_HandRuninit) := ⟨rfl, rfl, rfl, by decide +kernel, rfl, by decide +kernel, by decide +kernel⟩
theorem gr0 {S0 R : Sto} {o : O} : (S0 ++ o :: R)[S0.length]? = some o := by rw [List.getElem?_append_right (Nat.le_refl _), Nat.sub_self]; rfl
theorem gs0 {S0 R : Sto} {o o' : O} : (S0 ++ o :: R).set S0.length o' = S0 ++ o' :: R := by rw [List.set_append_right _ _ (Nat.le_refl _), Nat.sub_self]; rfl
def mh0 (h : Hn) : MH := ⟨[⟨h.f, 0⟩], [h.args ++ List.replicate (12 - h.args.length) 0], List.replicate 4 0⟩
def gfs (p : List CFn) : List Gf := p.map fun f => ((f.many, f.rows.map CRow.e) : Gf)
theorem gfs_e (p : List CFn) : cdE p = .tup ((gfs p).map Gf.e) := by
  unfold cdE gfs
  rw [List.map_map]
  rfl
theorem gfs_ok {p : List CFn} (h : codeOk p) : gfOk (gfs p) := fun g hg => by
  obtain ⟨f, hf, rfl⟩ := List.mem_map.mp hg
  exact ⟨(h.fs f hf).lo, (h.fs f hf).hi⟩
def spHRInit (A : Ad) : DSp := fun ds S P => ∃ (S0 : Sto) (c : Cf) (h : Hn), ds = [.ref S0.length, cdE c.p, h.e] ∧ S = S0 ++ [.ins A.HA []] ∧ codeOk c.p ∧ h.okG (gfs c.p) ∧
  P .non (S0 ++ [handO A.HA (S0.length + 2) (S0.length + 3) (List.replicate 4 0), ccO A.CA c ⟨h.f, 0⟩, .lst [.ref (S0.length + 1)], .lst [blkD (h.args ++ List.replicate (12 - h.args.length) 0)]])
section
variable {P : Program} {w : World} {K : PySem.W.Frag} {mg : Str → Option Value} {base : Heap} {A : Ad}
theorem ok_HandRuninit (at_ : IAt K mg "HandRun" A.HA "HandRun.__init__" s_HandRuninit ["self", "code", "hand"]) (mb : ∀ x, isB x = true → mg x = none) (gi : ∀ x n, isG x = some n → ∃ t, mg x = some (.int n t)) (T_HandRun : ClsF K A.HA hrFields)
    (Mk_CodeCall : MkF P w K mg base "CodeCall" A.CA 1 ["self", "rows"] (spCCInit A.CA)) : MkF P w K mg base "HandRun" A.HA 3 ["self", "code", "hand"] (spHRInit A) := by
  refine mkf_at at_ fun f fd F => fn_dKN F sc_HandRuninit (fun ds S P h => ?_) ?_
  · obtain ⟨S0, c, h, rfl, _⟩ := h
    rfl
  · rintro X W0 cdv AA outer s H E rfl hr
    have hu := hr.units
    refine ⟨_, (dss_cons (ds_asg (de_var (pv 2)) (dg_tup (n := 2) rfl (dgs_cons (dg_name (pg_name (i := 3) sc_HandRuninit.nd rfl (by first | exact Or.inl rfl | exact Or.inr rfl))) (dgs_cons (dg_name (pg_name (i := 4) sc_HandRuninit.nd rfl (by first | exact Or.inl rfl | exact Or.inr rfl))) dgs_nil))) (fun h1 h2 => ps_asg h1 h2))
      (dss_cons (ds_fld T_HandRun.cl (T_HandRun.na "calls" rfl) (de_var (pv 0)) (de_new (dn_lst (da_cons (de_make Mk_CodeCall (hr.mono (by decide)) (by rfl) (da_cons (de_ix (de_ix (de_var (pv 1)) (de_var (pv 3)) (fun _ _ => rfl)) de_int (fun _ _ => rfl)) da_nil)) da_nil))))
      (dss_cons (ds_fld T_HandRun.cl (T_HandRun.na "aside" rfl) (de_var (pv 0)) (de_new (dn_lst (da_cons (de_pure (dn_add (de_pure (dn_b dc_list (da_cons (de_var (pv 4)) da_nil) (fun h => pe_callTy call_list_of (by rfl) (mb "list" rfl) (by decide +kernel) h))) (de_pure (dn_rep (de_pure (dn_lst (da_cons de_int da_nil))) (de_sub (de_gint (by rfl) (gi "STRETCH" 12 rfl)) (de_b dc_len (da_cons (de_var (pv 4)) da_nil) (fun h => pe_callB call_len_seq (by rfl) (mb "len" rfl) PySem.boot_len h))))))) da_nil))))
      (dss_one (ds_fld T_HandRun.cl (T_HandRun.na "outs" rfl) (de_var (pv 0)) (de_pure (dn_rep (de_pure (dn_lst (da_cons de_int da_nil))) (de_gint (by rfl) (gi "INS" 4 rfl))))))))), ?_⟩
    rintro ds S P ⟨S0, c, h, rfl, rfl, ok, ⟨g, hg, hal, hav⟩, post⟩
    have hg' := hg
    unfold gfs at hg'
    rw [List.getElem?_map] at hg'
    cases ef : c.p[h.f]? with
    | none => rw [ef] at hg'; cases hg'
    | some fn =>
      rw [ef] at hg'
      cases hg'
      have fo := ok.fs fn (List.mem_of_getElem? ef)
      have h3 : h.args.length ≤ 3 := by have := fo.hi; have : (h.args.length : Int) = fn.many := hal; omega
      walk_at "st"
      dsimp only [Hn.e, cdE]
      walk_at "d"
      refine i_ix (xs := c.p.map CFn.e) rfl (atI_nat (v := fn.e) (by rw [List.getElem?_map, ef]; rfl)) ?_
      dsimp only [CFn.e]
      walk_at "e"
      walk_at "d"
      refine ⟨S0 ++ [.ins A.HA []], c, h.f, by rw [crows_at ef], rfl, rfl, ?_⟩
      walk_at "d"
      simp only [List.append_assoc, List.cons_append, List.nil_append, List.length_append, List.length_cons, List.length_nil, Nat.zero_add, Nat.add_assoc, Nat.reduceAdd]
      refine ⟨_, _, rfl, gr0, few rfl, ?_⟩
      rw [gs0]
      walk_at "d"
      have hk : ((12 : Int) - ((h.args.map D.int).length : Int)).toNat = 12 - h.args.length := by rw [List.length_map]; omega
      have fl : (List.replicate ((12 : Int) - ((h.args.map D.int).length : Int)).toNat [D.int 0]).flatten = (List.replicate (12 - h.args.length) (0 : Int)).map .int := by
        rw [hk, List.map_replicate, List.flatten_replicate_singleton]
      have b0 : (h.args.map D.int).length = h.args.length := List.length_map ..
      refine i_rep rfl (by omega) (by omega) (Nat.le_trans (by rw [hk, List.length_singleton]; omega) (sz_le (n := 12) (by decide))) ?_
      rw [fl]
      refine i_cat rfl rfl (Nat.le_trans (by simp; omega) (sz_le (n := 12) (by decide))) ?_
      rw [← List.map_append]
      walk_at "d"
      simp only [List.append_assoc, List.cons_append, List.nil_append, List.length_append, List.length_cons, List.length_nil, Nat.zero_add, Nat.add_assoc, Nat.reduceAdd]
      refine ⟨_, _, rfl, gr0, few rfl, ?_⟩
      rw [gs0]
      walk_at "d"
      refine i_rep rfl (by decide) (by decide) (sz_le (by decide)) ?_
      walk_at "d"
      refine ⟨_, _, rfl, gr0, few rfl, ?_⟩
      rw [gs0]
      exact post
end
abbrev s_Machineinit : Stmt := inClass (topS 72) 0
abbrev N_Machineinit : List Str := ["self", "code", "hands", "many", "rule", "hand"]
theorem sc_Machineinit : FnScope N_Machineinit ["self", "code", "hands", "many", "rule"] (defScope s_Machineinit) := ⟨rfl, rfl, rfl, by decide +kernel, rfl, by decide +kernel, by decide +kernel⟩
def ms0 (c : Cf) (hs : List Hn) : Ms := ⟨List.replicate (12 * c.M) 0, List.replicate hs.length .non, [], none, 0, 0, 0, 0, hs.map mh0⟩
def spMacInit (A : Ad) : DSp := fun ds S P => ∃ (S0 : Sto) (c : Cf) (hs : List Hn), ds = [.ref S0.length, cdE c.p, .lst (hs.map Hn.e), .int c.M, .tup [.int c.rs, .int c.rf]] ∧ S = S0 ++ [.ins A.MA []] ∧ c.ok ∧ handsOkG (gfs c.p) hs ∧
  ∀ S' T hl, T.r = S0.length → MAll A c T (allPl S0) S' hl (ms0 c hs) → P .non S'
section
variable {P : Program} {w : World} {K : PySem.W.Frag} {mg : Str → Option Value} {base : Heap} {A : Ad}
theorem ok_Machineinit (at_ : IAt K mg "Machine" A.MA "Machine.__init__" s_Machineinit ["self", "code", "hands", "many", "rule"]) (mb : ∀ x, isB x = true → mg x = none) (gi : ∀ x n, isG x = some n → ∃ t, mg x = some (.int n t)) (T_Machine : ClsF K A.MA macFields)
    (G_checkcode : Fn P w K mg base "check_code" 6 ["code"] spCheckC) (G_checkhands : Fn P w K mg base "check_hands" 5 ["functions", "hands"] spCheckHandsG) (G_checkround : Fn P w K mg base "check_round" 3 ["many"] spRound) (G_checkrule : Fn P w K mg base "check_rule" 4 ["rule", "many"] spRule)
    (Mk_HandRun : MkF P w K mg base "HandRun" A.HA 3 ["self", "code", "hand"] (spHRInit A)) : MkF P w K mg base "Machine" A.MA 7 ["self", "code", "hands", "many", "rule"] (spMacInit A) := by
  refine mkf_at at_ fun f fd F => fn_dKN F sc_Machineinit (fun ds S P h => ?_) ?_
  · obtain ⟨S0, c, hs, rfl, _⟩ := h
    rfl
  · rintro X W0 cdv AA outer s H E rfl hr
    have hu := hr.units
    refine ⟨_, (dss_cons (ds_expr (de_fn G_checkcode (hr.mono (by decide)) (by rfl) (da_cons (de_var (pv 1)) da_nil)))
      (dss_cons (ds_expr (de_fn G_checkhands (hr.mono (by decide)) (by rfl) (da_cons (de_var (pv 1)) (da_cons (de_var (pv 2)) da_nil))))
      (dss_cons (ds_expr (de_fn G_checkround (hr.mono (by decide)) (by rfl) (da_cons (de_var (pv 3)) da_nil)))
      (dss_cons (ds_expr (de_fn G_checkrule (hr.mono (by decide)) (by rfl) (da_cons (de_var (pv 4)) (da_cons (de_var (pv 3)) da_nil))))
      (dss_cons (ds_fld T_Machine.cl (T_Machine.na "code" rfl) (de_var (pv 0)) (de_var (pv 1)))
      (dss_cons (ds_fld T_Machine.cl (T_Machine.na "many" rfl) (de_var (pv 0)) (de_var (pv 3)))
      (dss_cons (ds_asg (de_var (pv 4)) (dg_tup (n := 2) rfl (dgs_cons (dg_fld T_Machine.cl (T_Machine.na "spill_many" rfl) (de_var (pv 0))) (dgs_cons (dg_fld T_Machine.cl (T_Machine.na "fetch_many" rfl) (de_var (pv 0))) dgs_nil))) (fun h1 h2 => ps_asg h1 h2))
      (dss_cons (ds_fld T_Machine.cl (T_Machine.na "cells" rfl) (de_var (pv 0)) (de_new (dn_rep (de_pure (dn_lst (da_cons de_int da_nil))) (de_mul (de_gint (by rfl) (gi "STRETCH" 12 rfl)) (de_var (pv 3))))))
      (dss_cons (ds_fld T_Machine.cl (T_Machine.na "runs" rfl) (de_var (pv 0)) (de_new (dn_lc (own := [("hand", 5)]) (by decide) rfl sc_Machineinit.nd (di_list (de_var (pv 2))) (blkOk_by (N := N_Machineinit) (sc := defScope s_Machineinit) (by decide +kernel)) (fun _ _ _ _ _ => (dg_name (pg_name (i := 5) sc_Machineinit.nd rfl (Or.inl rfl)))) (fun _ _ _ _ _ => dts_nil) (fun _ _ _ _ _ => (de_make Mk_HandRun (hr.mono (by decide)) (by rfl) (da_cons (de_var (pv 1)) (da_cons (de_var (pv 5)) da_nil)))))))
      (dss_cons (ds_fld T_Machine.cl (T_Machine.na "results" rfl) (de_var (pv 0)) (de_new (dn_rep (de_pure (dn_lst (da_cons de_non da_nil))) (de_b dc_len (da_cons (de_var (pv 2)) da_nil) (fun h => pe_callB call_len_seq (by rfl) (mb "len" rfl) PySem.boot_len h)))))
      (dss_cons (ds_fld T_Machine.cl (T_Machine.na "last" rfl) (de_var (pv 0)) de_non)
      (dss_cons (ds_fld T_Machine.cl (T_Machine.na "events" rfl) (de_var (pv 0)) (de_new (dn_lst da_nil)))
      (dss_cons (ds_fld T_Machine.cl (T_Machine.na "spilled" rfl) (de_var (pv 0)) de_int)
      (dss_cons (ds_fld T_Machine.cl (T_Machine.na "fetched" rfl) (de_var (pv 0)) de_int)
      (dss_cons (ds_fld T_Machine.cl (T_Machine.na "traps" rfl) (de_var (pv 0)) de_int)
      (dss_one (ds_fld T_Machine.cl (T_Machine.na "done" rfl) (de_var (pv 0)) de_int))))))))))))))))), ?_⟩
    rintro ds S P ⟨S0, c, hs, rfl, rfl, ok, hh, post⟩
    have h4 := hh.hi
    have m2 := ok.m2
    have m8 := ok.m8
    walk_at "st"
    walk_at "d"
    refine ⟨c.p, rfl, ok.code, ?_⟩
    walk_at "d"
    refine ⟨gfs c.p, hs, by rw [gfs_e], gfs_ok ok.code, hh, ?_⟩
    walk_at "d"
    refine ⟨c.M, rfl, by omega, by omega, ?_⟩
    walk_at "d"
    refine ⟨c.rs, c.rf, c.M, rfl, by have := ok.s1; omega, by have := ok.s2; omega, by have := ok.f1; omega, by have := ok.f2; omega, ?_⟩
    walk_at "d"
    refine ⟨_, _, rfl, gr0, few rfl, ?_⟩
    rw [gs0]
    walk_at "d"
    refine ⟨_, _, rfl, gr0, few rfl, ?_⟩
    rw [gs0]
    walk_at "d"
    refine ⟨_, _, rfl, gr0, few rfl, ?_⟩
    rw [gs0]
    walk_at "d"
    refine ⟨_, _, rfl, gr0, few rfl, ?_⟩
    rw [gs0]
    walk_at "d"
    have hk : ((12 : Int) * (c.M : Int)).toNat = 12 * c.M := by omega
    have fl : (List.replicate ((12 : Int) * (c.M : Int)).toNat [D.int 0]).flatten = (List.replicate (12 * c.M) (0 : Int)).map .int := by
      rw [hk, List.map_replicate, List.flatten_replicate_singleton]
    refine i_rep rfl (by omega) (by omega) (Nat.le_trans (by rw [hk, List.length_singleton]; omega) (sz_le (n := 96) (by decide))) ?_
    rw [fl]
    walk_at "d"
    simp only [List.append_assoc, List.cons_append, List.nil_append, List.length_append, List.length_cons, List.length_nil, Nat.zero_add, Nat.add_assoc, Nat.reduceAdd]
    refine ⟨_, _, rfl, gr0, few rfl, ?_⟩
    rw [gs0]
    have hd0 : Hd (S0 ++ [O.ins A.MA (putD "cells" (D.ref (List.length S0 + 1)) (putD "fetch_many" (D.int (c.rf : Int)) (putD "spill_many" (D.int (c.rs : Int)) (putD "many" (D.int (c.M : Int)) (putD "code" (cdE c.p) []))))), O.lst ((List.replicate (12 * c.M) 0).map D.int)]) ([(S0.length, O.ins A.MA (putD "cells" (D.ref (List.length S0 + 1)) (putD "fetch_many" (D.int (c.rf : Int)) (putD "spill_many" (D.int (c.rs : Int)) (putD "many" (D.int (c.M : Int)) (putD "code" (cdE c.p) [])))))), (S0.length + 1, O.lst ((List.replicate (12 * c.M) 0).map D.int))] ++ allPl S0) := by
      have h1 := Hd.new (A := []) (allPl_hd S0) (O.ins A.MA (putD "cells" (D.ref (List.length S0 + 1)) (putD "fetch_many" (D.int (c.rf : Int)) (putD "spill_many" (D.int (c.rs : Int)) (putD "many" (D.int (c.M : Int)) (putD "code" (cdE c.p) []))))))
      have h2 := Hd.new (A := [(S0.length, O.ins A.MA (putD "cells" (D.ref (List.length S0 + 1)) (putD "fetch_many" (D.int (c.rf : Int)) (putD "spill_many" (D.int (c.rs : Int)) (putD "many" (D.int (c.M : Int)) (putD "code" (cdE c.p) []))))))]) h1 (O.lst ((List.replicate (12 * c.M) 0).map D.int))
      rw [List.append_assoc, List.length_append, List.length_singleton] at h2
      exact h2
    generalize hO : O.ins A.MA (putD "cells" (D.ref (List.length S0 + 1)) (putD "fetch_many" (D.int (c.rf : Int)) (putD "spill_many" (D.int (c.rs : Int)) (putD "many" (D.int (c.M : Int)) (putD "code" (cdE c.p) []))))) = o5 at hd0 ⊢
    generalize S0 ++ [o5, O.lst ((List.replicate (12 * c.M) 0).map D.int)] = S1 at hd0 ⊢
    walk_at "d"
    refine ⟨fun i acc S' => ∃ hl : List HLoc, Hd S' (((S0.length, o5) :: (S0.length + 1, O.lst ((List.replicate (12 * c.M) 0).map D.int)) :: hrunsL A c hl ((hs.map mh0).take i)) ++ allPl S0) ∧ hl.length = i ∧ acc = runsE hl ∧ ∀ q ∈ hl, q.cs.length = 1,
      ⟨[], hd0, rfl, rfl, fun _ z => by cases z⟩, fun i acc S' hi ⟨hl, _, z1, z2, _⟩ => ⟨trivial, ?_⟩, ?_, ?_⟩
    · rw [z2]
      unfold runsE
      rw [List.length_map, z1]
      rw [List.length_map] at hi
      exact Nat.lt_of_le_of_lt (Nat.le_trans hi hh.hi) (by decide)
    · rintro i x acc S' hx ⟨hl, hd1, z1, rfl, z3⟩
      rw [List.getElem?_map] at hx
      cases eh : hs[i]? with
      | none => rw [eh] at hx; cases hx
      | some h =>
        rw [eh] at hx
        cases hx
        have hk := hh.ok h (List.mem_of_getElem? eh)
        walk_at "d"
        refine ite_t rfl ?_
        walk_at "d"
        refine ⟨S', c, h, rfl, rfl, ok.code, hk, ?_⟩
        have hil : i ≤ hs.length := Nat.le_of_lt (List.getElem?_eq_some_iff.mp eh).1
        have lt : hl.length = ((hs.map mh0).take i).length := by rw [z1, List.length_take, List.length_map]; omega
        have et : (hs.map mh0).take (i + 1) = (hs.map mh0).take i ++ [mh0 h] := by rw [List.take_add_one, List.getElem?_map, eh]; rfl
        refine ⟨rfl, hl ++ [⟨S'.length, S'.length + 2, S'.length + 3, [S'.length + 1]⟩], ?_, by simp [z1], by simp [runsE], ?_⟩
        · rw [et, hrunsL_app lt]
          generalize hA : (S0.length, o5) :: (S0.length + 1, O.lst ((List.replicate (12 * c.M) 0).map D.int)) :: hrunsL A c hl ((hs.map mh0).take i) = B at hd1
          have n1 := Hd.new (A := B) (B := allPl S0) hd1 (handO A.HA (S'.length + 2) (S'.length + 3) (List.replicate 4 0))
          have n2 := Hd.new (A := B ++ [(S'.length, handO A.HA (S'.length + 2) (S'.length + 3) (List.replicate 4 0))]) (B := allPl S0) (by rw [List.append_assoc]; exact n1) (ccO A.CA c ⟨h.f, 0⟩)
          have n3 := Hd.new (A := B ++ [(S'.length, handO A.HA (S'.length + 2) (S'.length + 3) (List.replicate 4 0))]) n2 (.lst [.ref (S'.length + 1)])
          rw [List.length_append (as := S' ++ _), List.length_append, List.length_singleton, List.length_singleton] at n3
          have n4 := Hd.new (A := B ++ [(S'.length, handO A.HA (S'.length + 2) (S'.length + 3) (List.replicate 4 0)), (S'.length + 1 + 1, O.lst [.ref (S'.length + 1)])]) (by simpa using n3) (.lst [blkD (h.args ++ List.replicate (12 - h.args.length) 0)])
          show Hd _ (((S0.length, o5) :: (S0.length + 1, O.lst ((List.replicate (12 * c.M) 0).map D.int)) :: (hrunsL A c hl ((hs.map mh0).take i) ++ (hrunL A c ⟨S'.length, S'.length + 2, S'.length + 3, [S'.length + 1]⟩ (mh0 h) ++ []))) ++ allPl S0)
          rw [← List.cons_append, ← List.cons_append, hA]
          have hx : hrunL A c ⟨S'.length, S'.length + 2, S'.length + 3, [S'.length + 1]⟩ (mh0 h) = [(S'.length, handO A.HA (S'.length + 2) (S'.length + 3) (List.replicate 4 0)), (S'.length + 2, O.lst [.ref (S'.length + 1)]), (S'.length + 3, O.lst [blkD (h.args ++ List.replicate (12 - h.args.length) 0)]), (S'.length + 1, ccO A.CA c ⟨h.f, 0⟩)] := rfl
          rw [hx]
          simpa using n4
        · intro h' hm
          rcases List.mem_append.mp hm with hm | hm
          · exact z3 h' hm
          · rw [List.mem_singleton.mp hm]
            rfl
    · rintro acc S' ⟨hl, hd1, z1, rfl, z3⟩
      subst hO
      rw [List.length_map, ← List.length_map (f := mh0), List.take_length, List.cons_append, List.cons_append] at hd1
      rw [List.length_map] at z1
      generalize hG : hrunsL A c hl (hs.map mh0) ++ allPl S0 = G at hd1
      walk_at "d"
      have h1 := Hd.new (A := [_, _]) (B := G) hd1 (.lst (runsE hl))
      refine ⟨_, _, rfl, h1.get (by simp; exact .inl rfl), few rfl, ?_⟩
      have h2 := h1.setN 0 rfl (O.ins A.MA (putD "runs" (.ref S'.length) (putD "cells" (D.ref (List.length S0 + 1)) (putD "fetch_many" (D.int (c.rf : Int)) (putD "spill_many" (D.int (c.rs : Int)) (putD "many" (D.int (c.M : Int)) (putD "code" (cdE c.p) [])))))))
      generalize hk : S'.length = rn at h1 h2 ⊢
      generalize List.set (S' ++ [O.lst (runsE hl)]) S0.length _ = S2 at h2 ⊢
      have h4 := hh.hi
      walk_at "d"
      refine i_rep rfl (by omega) (by rw [List.length_map]; omega) (Nat.le_trans (show 1 * _ ≤ 4 by rw [List.length_map]; omega) (sz_le (n := 4) (by decide))) ?_
      rw [List.length_map, Int.toNat_natCast, List.flatten_replicate_singleton]
      walk_at "d"
      have h3 := Hd.new (A := [_, _, _]) h2 (.lst (List.replicate hs.length .non))
      refine ⟨_, _, rfl, h3.get (by simp; exact .inl rfl), few rfl, ?_⟩
      have h5 := h3.setN 0 rfl (O.ins A.MA (putD "results" (.ref S2.length) (putD "runs" (.ref rn) (putD "cells" (D.ref (List.length S0 + 1)) (putD "fetch_many" (D.int (c.rf : Int)) (putD "spill_many" (D.int (c.rs : Int)) (putD "many" (D.int (c.M : Int)) (putD "code" (cdE c.p) []))))))))
      generalize hk2 : S2.length = rs at h3 h5 ⊢
      generalize List.set (S2 ++ [O.lst (List.replicate hs.length D.non)]) S0.length _ = S3 at h5 ⊢
      walk_at "d"
      refine ⟨_, _, rfl, h5.get (by simp; exact .inl rfl), few rfl, ?_⟩
      have h6 := h5.setN 0 rfl (O.ins A.MA (putD "last" .non (putD "results" (.ref rs) (putD "runs" (.ref rn) (putD "cells" (D.ref (List.length S0 + 1)) (putD "fetch_many" (D.int (c.rf : Int)) (putD "spill_many" (D.int (c.rs : Int)) (putD "many" (D.int (c.M : Int)) (putD "code" (cdE c.p) [])))))))))
      generalize List.set S3 S0.length _ = S4 at h6 ⊢
      walk_at "d"
      have h7 := Hd.new (A := [_, _, _, _]) h6 (.lst [])
      refine ⟨_, _, rfl, h7.get (by simp; exact .inl rfl), few rfl, ?_⟩
      have h8 := h7.setN 0 rfl (O.ins A.MA (putD "events" (.ref S4.length) (putD "last" .non (putD "results" (.ref rs) (putD "runs" (.ref rn) (putD "cells" (D.ref (List.length S0 + 1)) (putD "fetch_many" (D.int (c.rf : Int)) (putD "spill_many" (D.int (c.rs : Int)) (putD "many" (D.int (c.M : Int)) (putD "code" (cdE c.p) []))))))))))
      generalize hk3 : S4.length = ev at h7 h8 ⊢
      generalize List.set (S4 ++ [O.lst []]) S0.length _ = S5 at h8 ⊢
      walk_at "d"
      refine ⟨_, _, rfl, h8.get (by simp; exact .inl rfl), few rfl, ?_⟩
      have h9 := h8.setN 0 rfl (O.ins A.MA (putD "spilled" (.int 0) (putD "events" (.ref ev) (putD "last" .non (putD "results" (.ref rs) (putD "runs" (.ref rn) (putD "cells" (D.ref (List.length S0 + 1)) (putD "fetch_many" (D.int (c.rf : Int)) (putD "spill_many" (D.int (c.rs : Int)) (putD "many" (D.int (c.M : Int)) (putD "code" (cdE c.p) [])))))))))))
      generalize List.set S5 S0.length _ = S6 at h9 ⊢
      walk_at "d"
      refine ⟨_, _, rfl, h9.get (by simp; exact .inl rfl), few rfl, ?_⟩
      have h10 := h9.setN 0 rfl (O.ins A.MA (putD "fetched" (.int 0) (putD "spilled" (.int 0) (putD "events" (.ref ev) (putD "last" .non (putD "results" (.ref rs) (putD "runs" (.ref rn) (putD "cells" (D.ref (List.length S0 + 1)) (putD "fetch_many" (D.int (c.rf : Int)) (putD "spill_many" (D.int (c.rs : Int)) (putD "many" (D.int (c.M : Int)) (putD "code" (cdE c.p) []))))))))))))
      generalize List.set S6 S0.length _ = S7 at h10 ⊢
      walk_at "d"
      refine ⟨_, _, rfl, h10.get (by simp; exact .inl rfl), few rfl, ?_⟩
      have h11 := h10.setN 0 rfl (O.ins A.MA (putD "traps" (.int 0) (putD "fetched" (.int 0) (putD "spilled" (.int 0) (putD "events" (.ref ev) (putD "last" .non (putD "results" (.ref rs) (putD "runs" (.ref rn) (putD "cells" (D.ref (List.length S0 + 1)) (putD "fetch_many" (D.int (c.rf : Int)) (putD "spill_many" (D.int (c.rs : Int)) (putD "many" (D.int (c.M : Int)) (putD "code" (cdE c.p) [])))))))))))))
      generalize List.set S7 S0.length _ = S8 at h11 ⊢
      walk_at "d"
      refine ⟨_, _, rfl, h11.get (by simp; exact .inl rfl), few rfl, ?_⟩
      have h12 := h11.setN 0 rfl (O.ins A.MA (putD "done" (.int 0) (putD "traps" (.int 0) (putD "fetched" (.int 0) (putD "spilled" (.int 0) (putD "events" (.ref ev) (putD "last" .non (putD "results" (.ref rs) (putD "runs" (.ref rn) (putD "cells" (D.ref (List.length S0 + 1)) (putD "fetch_many" (D.int (c.rf : Int)) (putD "spill_many" (D.int (c.rs : Int)) (putD "many" (D.int (c.M : Int)) (putD "code" (cdE c.p) []))))))))))))))
      generalize List.set S8 S0.length _ = S9 at h12 ⊢
      subst hG
      refine post _ ⟨S0.length, S0.length + 1, rn, rs, ev⟩ hl rfl ⟨?_, ?_, ?_⟩
      · exact h12.perm (.cons _ (.cons _ ((List.Perm.swap _ _ _).trans (.cons _ (List.Perm.swap _ _ _)))))
      · show hl.length = (hs.map mh0).length
        rw [z1, List.length_map]
      · intro k q x e1 e2
        rw [z3 q (List.mem_of_getElem? e1)]
        have e2 : (hs.map mh0)[k]? = some x := e2
        rw [List.getElem?_map] at e2
        cases e3 : hs[k]? with
        | none => rw [e3] at e2; cases e2
        | some h' => rw [e3] at e2; cases e2; rfl
end
abbrev s_slid : Stmt := topS 73
abbrev N_slid : List Str := ["code", "hands", "order", "many", "rule", "machine", "said", "hand", "number"]
theorem sc_slid : FnScope N_slid ["code", "hands", "order", "many", "rule"] (defScope s_slid) := ⟨rfl, rfl, rfl, by decide +kernel, rfl, by decide +kernel, by decide +kernel⟩
abbrev s_unmade : Stmt := topS 65
abbrev N_unmade : List Str := ["code", "program", "function", "again"]
theorem sc_unmade : FnScope N_unmade ["code"] (defScope s_unmade) := ⟨rfl, rfl, rfl, by decide +kernel, rfl, by decide +kernel, by decide +kernel⟩
def rBC (c : Addr) (R : EX) (p : Int × Int) (S : Sto) : Prop := R c [("row", .int p.2), ("function", .int p.1)] S
def spMacBad (cB cH cR cU : Addr) : DSpX := fun ds S P R => ∃ (x d hd md rd : D), ds = [x, d, hd, md, rd] ∧ dat d = true ∧ ((∃ p, fbad cdSh 16 200 d = some p ∧ rBC cB R p S) ∨
  (∃ p hs, d = cdE p ∧ codeOk p ∧ hd = .lst hs ∧ (∀ h ∈ hs, dat h = true ∧ brief h = true) ∧ ((∃ i : Nat, fbadH (gfs p) hs = some i ∧ R cH [("at", .int i)] S) ∨
    (fbadH (gfs p) hs = none ∧ ∃ m : Int, md = .int m ∧ ((¬ (2 ≤ m ∧ m ≤ 8) ∧ R cR [] S) ∨ ((2 ≤ m ∧ m ≤ 8) ∧ ∃ xs : List Int, rd = .tup (xs.map .int) ∧ ¬ ruleOk xs m ∧ R cU [] S))))))
def spSlidBad (cB cH cO cR cU : Addr) : DSpX := fun ds S P R => ∃ (d hd od md rd : D), ds = [d, hd, od, md, rd] ∧ dat d = true ∧ ((∃ p, fbad cdSh 16 200 d = some p ∧ rBC cB R p S) ∨
  (∃ p hs, d = cdE p ∧ codeOk p ∧ hd = .lst hs ∧ (∀ h ∈ hs, dat h = true ∧ brief h = true) ∧ ((∃ i : Nat, fbadH (gfs p) hs = some i ∧ R cH [("at", .int i)] S) ∨
    (fbadH (gfs p) hs = none ∧ ∃ o, od = .lst o ∧ (∀ k ∈ o, dat k = true) ∧ ((∃ i : Nat, fbadO hs.length o = some i ∧ R cO [("at", .int i)] S) ∨
      (fbadO hs.length o = none ∧ ∃ m : Int, md = .int m ∧ ((¬ (2 ≤ m ∧ m ≤ 8) ∧ R cR [] S) ∨ ((2 ≤ m ∧ m ≤ 8) ∧ ∃ xs : List Int, rd = .tup (xs.map .int) ∧ ¬ ruleOk xs m ∧ R cU [] S))))))))
def spCdBad (cB : Addr) : DSpX := fun ds S P R => ∃ d, ds = [d] ∧ dat d = true ∧ ∃ p, fbad cdSh 16 200 d = some p ∧ rBC cB R p S
section
variable {P : Program} {w : World} {K : PySem.W.Frag} {mg : Str → Option Value} {base : Heap} {A : Ad} {c_BadCode c_BadHands c_BadOrder c_BadRound c_BadRule : Addr}
theorem ok_MachineinitX (at_ : IAt K mg "Machine" A.MA "Machine.__init__" s_Machineinit ["self", "code", "hands", "many", "rule"])
    (G_checkcode : FnX P w K mg base "check_code" 6 ["code"] (spCheckCX c_BadCode)) (G_checkhands : FnX P w K mg base "check_hands" 5 ["functions", "hands"] (spCheckHandsX c_BadHands)) (G_checkround : FnX P w K mg base "check_round" 3 ["many"] (spRoundX c_BadRound)) (G_checkrule : FnX P w K mg base "check_rule" 4 ["rule", "many"] (spRuleX c_BadRule)) :
    MkX P w K mg base "Machine" A.MA 7 ["self", "code", "hands", "many", "rule"] (spMacBad c_BadCode c_BadHands c_BadRound c_BadRule) := by
  refine mkx_at at_ fun f fd F => fn_dX F sc_Machineinit (fun ds S P R h => ?_) ?_
  · obtain ⟨x, d, hd, md, rd, rfl, _⟩ := h
    rfl
  · rintro X W0 cdv AA outer s H E rfl hr hR
    have hu := hr.units
    refine ⟨_, (dss_cons (ds_expr (de_fnX G_checkcode hR (hr.mono (by decide)) (by rfl) (da_cons (de_var (pv 1)) da_nil)))
      (dss_cons (ds_expr (de_fnX G_checkhands hR (hr.mono (by decide)) (by rfl) (da_cons (de_var (pv 1)) (da_cons (de_var (pv 2)) da_nil))))
      (dss_cons (ds_expr (de_fnX G_checkround hR (hr.mono (by decide)) (by rfl) (da_cons (de_var (pv 3)) da_nil)))
      (dss_cons (ds_expr (de_fnX G_checkrule hR (hr.mono (by decide)) (by rfl) (da_cons (de_var (pv 4)) (da_cons (de_var (pv 3)) da_nil))))
      dss_never)))), ?_⟩
    rintro ds S P R ⟨x, d, hd, md, rd, rfl, hdd, cases⟩ eR
    walk_at "st"
    walk_at "d"
    rcases cases with ⟨q, e, hr'⟩ | ⟨p, hs, rfl, hp, rfl, hh, cases⟩
    · refine ⟨d, rfl, hdd, (fun z => by rw [e] at z; cases z), fun q' e' => ?_⟩
      rw [e] at e'
      cases e'
      rw [eR]
      exact exitX_id rfl hr'
    · refine ⟨cdE p, rfl, hdd, fun _ => ?_, (fun q e' => by rw [fbad_any hp] at e'; cases e')⟩
      walk_at "d"
      rcases cases with ⟨i, e, hr'⟩ | ⟨e, m, rfl, cases⟩
      · refine ⟨gfs p, hs, by rw [gfs_e], gfs_ok hp, hh, (fun z => by rw [e] at z; cases z), fun q e' => ?_⟩
        rw [e] at e'
        cases e'
        rw [eR]
        exact exitX_id rfl hr'
      · refine ⟨gfs p, hs, by rw [gfs_e], gfs_ok hp, hh, fun _ => ?_, (fun q e' => by rw [e] at e'; cases e')⟩
        walk_at "d"
        rcases cases with ⟨hm, hr'⟩ | ⟨hm, xs, rfl, hx, hr'⟩
        · refine ⟨m, rfl, fun z => absurd z hm, fun _ => ?_⟩
          rw [eR]
          exact exitX_id rfl hr'
        · refine ⟨m, rfl, fun _ => ?_, fun z => absurd hm z⟩
          walk_at "d"
          refine ⟨xs, m, rfl, fun z => absurd z hx, fun _ => ?_⟩
          rw [eR]
          exact exitX_id rfl hr'
theorem ok_slidX (at_ : At K mg "slid" s_slid ["code", "hands", "order", "many", "rule"]) (G_checkcode : FnX P w K mg base "check_code" 6 ["code"] (spCheckCX c_BadCode)) (G_checkhands : FnX P w K mg base "check_hands" 5 ["functions", "hands"] (spCheckHandsX c_BadHands)) (G_checkorder : FnX P w K mg base "check_order" 3 ["hands", "order"] (spCheckOrderX c_BadOrder))
    (MkX_Machine : MkX P w K mg base "Machine" A.MA 7 ["self", "code", "hands", "many", "rule"] (spMacBad c_BadCode c_BadHands c_BadRound c_BadRule)) : FnX P w K mg base "slid" 9 ["code", "hands", "order", "many", "rule"] (spSlidBad c_BadCode c_BadHands c_BadOrder c_BadRound c_BadRule) := by
  refine fnX_at at_ fun f fd F => fn_dX F sc_slid (fun ds S P R h => ?_) ?_
  · obtain ⟨d, hd, od, md, rd, rfl, _⟩ := h
    rfl
  · rintro X W0 cdv AA outer s H E rfl hr hR
    have hu := hr.units
    refine ⟨_, (dss_cons (ds_expr (de_fnX G_checkcode hR (hr.mono (by decide)) (by rfl) (da_cons (de_var (pv 0)) da_nil)))
      (dss_cons (ds_expr (de_fnX G_checkhands hR (hr.mono (by decide)) (by rfl) (da_cons (de_var (pv 0)) (da_cons (de_var (pv 1)) da_nil))))
      (dss_cons (ds_expr (de_fnX G_checkorder hR (hr.mono (by decide)) (by rfl) (da_cons (de_var (pv 1)) (da_cons (de_var (pv 2)) da_nil))))
      (dss_cons (ds_set (i := 5) (de_makeX MkX_Machine hR (hr.mono (by decide)) (by rfl) (da_cons (de_var (pv 0)) (da_cons (de_var (pv 1)) (da_cons (de_var (pv 3)) (da_cons (de_var (pv 4)) da_nil))))) (fun h => ps_set sc_slid.nd rfl (by first | exact Or.inl rfl | exact Or.inr rfl) h))
      dss_never)))), ?_⟩
    rintro ds S P R ⟨d, hd, od, md, rd, rfl, hdd, cases⟩ eR
    walk_at "st"
    walk_at "d"
    rcases cases with ⟨q, e, hr'⟩ | ⟨p, hs, rfl, hp, rfl, hh, cases⟩
    · refine ⟨d, rfl, hdd, (fun z => by rw [e] at z; cases z), fun q' e' => ?_⟩
      rw [e] at e'
      cases e'
      rw [eR]
      exact exitX_id rfl hr'
    · refine ⟨cdE p, rfl, hdd, fun _ => ?_, (fun q e' => by rw [fbad_any hp] at e'; cases e')⟩
      walk_at "d"
      rcases cases with ⟨i, e, hr'⟩ | ⟨e, o, rfl, ho, cases⟩
      · refine ⟨gfs p, hs, by rw [gfs_e], gfs_ok hp, hh, (fun z => by rw [e] at z; cases z), fun q e' => ?_⟩
        rw [e] at e'
        cases e'
        rw [eR]
        exact exitX_id rfl hr'
      · refine ⟨gfs p, hs, by rw [gfs_e], gfs_ok hp, hh, fun _ => ?_, (fun q e' => by rw [e] at e'; cases e')⟩
        walk_at "d"
        rcases cases with ⟨i, eo, hr'⟩ | ⟨eo, m, rfl, cases⟩
        · refine ⟨hs, o, rfl, ho, (fun z => by rw [eo] at z; cases z), fun q e' => ?_⟩
          rw [eo] at e'
          cases e'
          rw [eR]
          exact exitX_id rfl hr'
        · refine ⟨hs, o, rfl, ho, fun _ => ?_, (fun q e' => by rw [eo] at e'; cases e')⟩
          walk_at "d"
          refine ⟨_, cdE p, _, _, _, rfl, hdd, .inr ⟨p, hs, rfl, hp, rfl, hh, .inr ⟨e, m, rfl, ?_⟩⟩⟩
          rcases cases with ⟨hm, hr'⟩ | ⟨hm, xs, rfl, hx, hr'⟩
          · refine .inl ⟨hm, ?_⟩
            rw [eR]
            exact exitX_same rfl hr'
          · refine .inr ⟨hm, xs, rfl, hx, ?_⟩
            rw [eR]
            exact exitX_same rfl hr'
theorem ok_unmadeX (at_ : At K mg "unmade" s_unmade ["code"]) (G_checkcode : FnX P w K mg base "check_code" 6 ["code"] (spCheckCX c_BadCode)) : FnX P w K mg base "unmade" 7 ["code"] (spCdBad c_BadCode) := by
  refine fnX_at at_ fun f fd F => fn_dX F sc_unmade (fun ds S P R h => ?_) ?_
  · obtain ⟨d, rfl, _⟩ := h
    rfl
  · rintro X W0 cdv A outer s H E rfl hr hR
    have hu := hr.units
    refine ⟨_, (dss_cons (ds_expr (de_fnX G_checkcode hR (hr.mono (by decide)) (by rfl) (da_cons (de_var (pv 0)) da_nil)))
      dss_never), ?_⟩
    rintro ds S P R ⟨d, rfl, hd, p, e, hr'⟩ eR
    walk_at "st"
    walk_at "d"
    refine ⟨d, rfl, hd, (fun z => by rw [e] at z; cases z), fun q e' => ?_⟩
    rw [e] at e'
    cases e'
    rw [eR]
    exact exitX_id rfl hr'
end
abbrev s_Lalike : Stmt := topS 80
abbrev N_Lalike : List Str := ["_law_found", "_law_due", "_law_k"]
theorem sc_Lalike : FnScope N_Lalike ["_law_found", "_law_due"] (defScope s_Lalike) := ⟨rfl, rfl, rfl, by decide +kernel, rfl, by decide +kernel, by decide +kernel⟩
theorem k2_tup : kit2 "tuple" "tuple" "list" = some true := by unfold kit2; rw [kit_tuple_tuple]
theorem k2_int : kit2 "int" "tuple" "list" = some false := by unfold kit2; rw [kit_int_tuple]; exact kit_int_list
theorem k2_str : kit2 "str" "tuple" "list" = some false := by unfold kit2; rw [kit_str_tuple]; exact kit_str_list
theorem k2_lst : kit2 "list" "tuple" "list" = some true := by unfold kit2; rw [kit_list_tuple]; exact kit_list_list
theorem k2_non : kit2 "NoneType" "tuple" "list" = some false := by unfold kit2; rw [kit_NoneType_tuple]; exact kit_NoneType_list
theorem k2_bl : kit2 "bool" "tuple" "list" = some false := by unfold kit2; rw [kit_bool_tuple]; exact kit_bool_list
/-- x, wherever its lists lie, reads as the plain y -/
def sameD (S : Sto) : Nat → D → D → Prop
  | 0, _, _ => False
  | _ + 1, x, .non => x = .non
  | _ + 1, x, .bl b => x = .bl b
  | _ + 1, x, .int i => x = .int i
  | _ + 1, x, .str z => x = .str z
  | n + 1, x, .tup ys => ∃ xs, x = .tup xs ∧ xs.length = ys.length ∧ ys.length ≤ 1000000 ∧ ∀ (i : Nat) a b, xs[i]? = some a → ys[i]? = some b → sameD S n a b
  | n + 1, x, .lst ys => ∃ xs, lstOf S x = some xs ∧ xs.length = ys.length ∧ ys.length ≤ 1000000 ∧ ∀ (i : Nat) a b, xs[i]? = some a → ys[i]? = some b → sameD S n a b
  | n + 1, x, .ref j => ∃ xs ys, lstOf S x = some xs ∧ lstOf S (.ref j) = some ys ∧ xs.length = ys.length ∧ ys.length ≤ 1000000 ∧ ∀ (i : Nat) a b, xs[i]? = some a → ys[i]? = some b → sameD S n a b
  | _ + 1, _, _ => False
theorem lst_facts {S : Sto} {x : D} {xs : List D} (h : lstOf S x = some xs) : tyOf S x = some "list" ∧ seqOf S x = some xs ∧ itemsOf S x = some xs := by
  cases x with
  | lst ys => cases h; exact ⟨rfl, rfl, rfl⟩
  | ref i =>
    dsimp only [lstOf] at h
    cases e : S[i]? with
    | none => rw [e] at h; cases h
    | some o =>
      rw [e] at h
      cases o with
      | lst ys =>
        cases h
        refine ⟨?_, ?_, ?_⟩
        · simp only [tyOf, e]
        · simp only [seqOf, lstOf, e]
        · simp only [itemsOf, seqOf, lstOf, e]
      | _ => cases h
  | _ => cases h
theorem sameD_pln {S : Sto} : ∀ (n : Nat) {d : D}, pln n d = true → sameD S n d d
  | 0, _, h => by simp [pln] at h
  | n + 1, .non, _ => rfl
  | n + 1, .bl _, _ => rfl
  | n + 1, .int _, _ => rfl
  | n + 1, .str _, _ => rfl
  | n + 1, .tup ds, h => by
    rw [pln, Bool.and_eq_true_iff] at h
    refine ⟨ds, rfl, rfl, Nat.le_trans (of_decide_eq_true h.1) (by decide), fun i a b ha hb => ?_⟩
    rw [ha] at hb
    cases hb
    exact sameD_pln n (plns_mem h.2 _ (List.mem_of_getElem? ha))
  | n + 1, .lst ds, h => by
    rw [pln, Bool.and_eq_true_iff] at h
    refine ⟨ds, rfl, rfl, Nat.le_trans (of_decide_eq_true h.1) (by decide), fun i a b ha hb => ?_⟩
    rw [ha] at hb
    cases hb
    exact sameD_pln n (plns_mem h.2 _ (List.mem_of_getElem? ha))
  | n + 1, .ref _, h => by simp [pln] at h
  | n + 1, .dct _ _, h => by simp [pln] at h
  | n + 1, .ty _, h => by simp [pln] at h
  | n + 1, .scr _, h => by simp [pln] at h
  | n + 1, .adr _, h => by simp [pln] at h
def spAlike (n : Nat) : DSp := fun ds S P => ∃ x y, ds = [x, y] ∧ sameD S n x y ∧ P (.bl true) S
section
variable {P : Program} {w : World} {K : PySem.W.Frag} {mg : Str → Option Value} {base : Heap}
theorem ok_Lalike {k n : Nat} (at_ : At K mg "_law_alike" s_Lalike ["_law_found", "_law_due"]) (mb : ∀ x, isB x = true → mg x = none) (G_Lalike : Fn P w K mg base "_law_alike" k ["_law_found", "_law_due"] (spAlike n)) :
    Fn P w K mg base "_law_alike" (k + 1) ["_law_found", "_law_due"] (spAlike (n + 1)) := by
  refine fn_at at_ fun f fd F => fn_d F sc_Lalike (fun ds S P h => ?_) ?_
  · obtain ⟨x, y, rfl, _⟩ := h
    rfl
  · rintro X W0 cdv A outer s H E rfl hr
    have hu := hr.units
    refine ⟨_, (dss_cons (ds_if (dt_val (de_isi2 (n1 := "tuple") (n2 := "list") (de_var (pv 1)) (by rfl) (mb "isinstance" rfl) (by decide +kernel) (by rfl) (mb "tuple" rfl) (by decide +kernel) (by rfl) (mb "list" rfl) (by decide +kernel))) (dss_cons (ds_if (dt_w (dw_or (dt_not (dt_val (de_isi2 (n1 := "tuple") (n2 := "list") (de_var (pv 0)) (by rfl) (mb "isinstance" rfl) (by decide +kernel) (by rfl) (mb "tuple" rfl) (by decide +kernel) (by rfl) (mb "list" rfl) (by decide +kernel)))) (dw_or1 (dt_cmp (op_neA hu) do_ne (de_b dc_isi (da_cons (de_var (pv 0)) (da_cons (de_bltn (n := "list") (by rfl) (mb "list" rfl) (by decide +kernel)) da_nil)) (fun h => pe_callB call_isi (by rfl) (mb "isinstance" rfl) (by decide +kernel) h)) (de_b dc_isi (da_cons (de_var (pv 1)) (da_cons (de_bltn (n := "list") (by rfl) (mb "list" rfl) (by decide +kernel)) da_nil)) (fun h => pe_callB call_isi (by rfl) (mb "isinstance" rfl) (by decide +kernel) h)) (nomark _))))) (dss_one (ds_ret de_bl)) dss_nil)
      (dss_cons (ds_if (dt_cmp (op_neA hu) do_ne (de_b dc_len (da_cons (de_var (pv 0)) da_nil) (fun h => pe_callB call_len_seq (by rfl) (mb "len" rfl) PySem.boot_len h)) (de_b dc_len (da_cons (de_var (pv 1)) da_nil) (fun h => pe_callB call_len_seq (by rfl) (mb "len" rfl) PySem.boot_len h)) (nomark _)) (dss_one (ds_ret de_bl)) dss_nil)
      (dss_one (ds_ret (de_cmp (op_eqA hu) do_eq (de_pure (dn_lc (own := [("_law_k", 2)]) (by decide) rfl sc_Lalike.nd (di_range1 (by rfl) (mb "range" rfl) (da_cons (de_b dc_len (da_cons (de_var (pv 1)) da_nil) (fun h => pe_callB call_len_seq (by rfl) (mb "len" rfl) PySem.boot_len h)) da_nil)) (blkOk_by (N := N_Lalike) (sc := defScope s_Lalike) (by decide +kernel)) (fun _ _ _ _ _ => (dg_name (pg_name (i := 2) sc_Lalike.nd rfl (Or.inl rfl)))) (fun _ _ _ _ _ => (dts_one (dt_not (dt_val (de_fn G_Lalike (hr.mono (Nat.le_refl _)) (by rfl) (da_cons (de_ix (de_var (pv 0)) (de_var (pv 2)) (fun _ _ => rfl)) (da_cons (de_ix (de_var (pv 1)) (de_var (pv 2)) (fun _ _ => rfl)) da_nil))))))) (fun _ _ _ _ _ => (de_var (pv 2))))) (de_pure (dn_lst da_nil)) (nomark _)))))) dss_nil)
      (dss_cons (ds_if (dt_cmp op_isN do_isN (de_var (pv 1)) de_non (nomark _)) (dss_one (ds_ret (de_cmp op_isN do_isN (de_var (pv 0)) de_non (nomark _)))) dss_nil)
      (dss_cons (ds_if (dt_val (de_b dc_isi (da_cons (de_var (pv 1)) (da_cons (de_bltn (n := "str") (by rfl) (mb "str" rfl) (by decide +kernel)) da_nil)) (fun h => pe_callB call_isi (by rfl) (mb "isinstance" rfl) (by decide +kernel) h))) (dss_one (ds_ret (de_and (de_b dc_isi (da_cons (de_var (pv 0)) (da_cons (de_bltn (n := "str") (by rfl) (mb "str" rfl) (by decide +kernel)) da_nil)) (fun h => pe_callB call_isi (by rfl) (mb "isinstance" rfl) (by decide +kernel) h)) (de_one (de_cmp (op_eqA hu) do_eq (de_var (pv 0)) (de_var (pv 1)) (nomark _)))))) dss_nil)
      (dss_cons (ds_if (dt_w (dw_or (dt_val (de_b dc_isi (da_cons (de_var (pv 1)) (da_cons (de_bltn (n := "bool") (by rfl) (mb "bool" rfl) (by decide +kernel)) da_nil)) (fun h => pe_callB call_isi (by rfl) (mb "isinstance" rfl) (by decide +kernel) h))) (dw_or1 (dt_val (de_b dc_isi (da_cons (de_var (pv 0)) (da_cons (de_bltn (n := "bool") (by rfl) (mb "bool" rfl) (by decide +kernel)) da_nil)) (fun h => pe_callB call_isi (by rfl) (mb "isinstance" rfl) (by decide +kernel) h)))))) (dss_one (ds_ret (de_and (de_b dc_isi (da_cons (de_var (pv 1)) (da_cons (de_bltn (n := "bool") (by rfl) (mb "bool" rfl) (by decide +kernel)) da_nil)) (fun h => pe_callB call_isi (by rfl) (mb "isinstance" rfl) (by decide +kernel) h)) (de_and (de_b dc_isi (da_cons (de_var (pv 0)) (da_cons (de_bltn (n := "bool") (by rfl) (mb "bool" rfl) (by decide +kernel)) da_nil)) (fun h => pe_callB call_isi (by rfl) (mb "isinstance" rfl) (by decide +kernel) h)) (de_one (de_cmp (op_eqA hu) do_eq (de_var (pv 0)) (de_var (pv 1)) (nomark _))))))) dss_nil)
      (dss_one (ds_ret (de_and (de_b dc_isi (da_cons (de_var (pv 0)) (da_cons (de_bltn (n := "int") (by rfl) (mb "int" rfl) (by decide +kernel)) da_nil)) (fun h => pe_callB call_isi (by rfl) (mb "isinstance" rfl) (by decide +kernel) h)) (de_one (de_cmp (op_eqA hu) do_eq (de_var (pv 0)) (de_var (pv 1)) (nomark _)))))))))), ?_⟩
    rintro ds S P ⟨x, y, rfl, hd, post⟩
    have fin : atExit S P (.bl true) S := exit_pure0 (fun _ => rfl) post
    walk_at "st"
    cases y with
    | tup ys =>
      obtain ⟨xs, rfl, hlen, hl, hds⟩ := hd
      refine i_seq (i_ifS (i_B (i_isi2 ?_)))
      walk_at "d"
      refine ⟨_, _, rfl, k2_tup, ?_⟩
      walk_at "d"
      refine ite_t rfl ?_
      refine i_seq (i_seq (i_ifS (i_or (i_not (i_B (i_isi2 ?_))))))
      walk_at "d"
      refine ⟨_, _, rfl, k2_tup, ?_⟩
      walk_at "d"
      refine ite_f (by decide) ?_
      walk_at "d"
      refine ite_f (by decide) ?_
      walk_at "d"
      refine ite_f (by simp [hlen]) ?_
      walk_at "d"
      refine i_rg1 (by omega) (by omega) ?_
      refine ⟨fun _ acc S2 => S2 = S ∧ acc = [], ⟨rfl, rfl⟩, ?_, ?_, ?_⟩
      · rintro i acc S2 hi ⟨rfl, rfl⟩
        exact ⟨trivial, sz_lt (by simp)⟩
      · rintro i x acc S2 hx ⟨rfl, rfl⟩
        obtain ⟨hi, rfl⟩ := rangeD_get hx
        have hi : i < ys.length := by simpa using hi
        have hi2 : i < xs.length := by omega
        have hix : L2.atI ys (0 + (i : Int)) = some ys[i] := by rw [Int.zero_add]; exact atI_nat (List.getElem?_eq_getElem hi)
        have hix2 : L2.atI xs (0 + (i : Int)) = some xs[i] := by rw [Int.zero_add]; exact atI_nat (List.getElem?_eq_getElem hi2)
        walk_at "d"
        refine i_ix rfl hix2 ?_
        walk_at "d"
        refine i_ix rfl hix ?_
        walk_at "d"
        refine ⟨_, _, rfl, hds i _ _ (List.getElem?_eq_getElem hi2) (List.getElem?_eq_getElem hi), ?_⟩
        walk_at "d"
        refine ite_f (by decide) ?_
        exact ⟨rfl, rfl⟩
      · rintro acc S2 ⟨rfl, rfl⟩
        walk_at "d"
        refine i_eqNil (ns := []) rfl ?_
        exact fin
    | lst ys =>
      obtain ⟨xs, hlst, hlen, hl, hds⟩ := hd
      obtain ⟨hty, hseq, hits⟩ := lst_facts hlst
      refine i_seq (i_ifS (i_B (i_isi2 ?_)))
      walk_at "d"
      refine ⟨_, _, rfl, k2_lst, ?_⟩
      walk_at "d"
      refine ite_t rfl ?_
      refine i_seq (i_seq (i_ifS (i_or (i_not (i_B (i_isi2 ?_))))))
      walk_at "d"
      refine ⟨_, _, hty, k2_lst, ?_⟩
      walk_at "d"
      refine ite_f (by decide) ?_
      walk_at "d"
      refine i_isi hty kit_list_list ?_
      walk_at "d"
      refine ite_f (by decide) ?_
      walk_at "d"
      refine i_len hits ?_
      walk_at "d"
      refine ite_f (by simp [hlen]) ?_
      walk_at "d"
      refine i_rg1 (by omega) (by omega) ?_
      refine ⟨fun _ acc S2 => S2 = S ∧ acc = [], ⟨rfl, rfl⟩, ?_, ?_, ?_⟩
      · rintro i acc S2 hi ⟨rfl, rfl⟩
        exact ⟨trivial, sz_lt (by simp)⟩
      · rintro i x acc S2 hx ⟨rfl, rfl⟩
        obtain ⟨hi, rfl⟩ := rangeD_get hx
        have hi : i < ys.length := by simpa using hi
        have hi2 : i < xs.length := by omega
        have hix : L2.atI ys (0 + (i : Int)) = some ys[i] := by rw [Int.zero_add]; exact atI_nat (List.getElem?_eq_getElem hi)
        have hix2 : L2.atI xs (0 + (i : Int)) = some xs[i] := by rw [Int.zero_add]; exact atI_nat (List.getElem?_eq_getElem hi2)
        walk_at "d"
        refine i_ix hseq hix2 ?_
        walk_at "d"
        refine i_ix rfl hix ?_
        walk_at "d"
        refine ⟨_, _, rfl, hds i _ _ (List.getElem?_eq_getElem hi2) (List.getElem?_eq_getElem hi), ?_⟩
        walk_at "d"
        refine ite_f (by decide) ?_
        exact ⟨rfl, rfl⟩
      · rintro acc S2 ⟨rfl, rfl⟩
        walk_at "d"
        refine i_eqNil (ns := []) rfl ?_
        exact fin
    | ref j =>
      obtain ⟨xs, ys, hlst, hlst', hlen, hl, hds⟩ := hd
      obtain ⟨hty, hseq, hits⟩ := lst_facts hlst
      obtain ⟨hty', hseq', hits'⟩ := lst_facts hlst'
      refine i_seq (i_ifS (i_B (i_isi2 ?_)))
      walk_at "d"
      refine ⟨_, _, hty', k2_lst, ?_⟩
      walk_at "d"
      refine ite_t rfl ?_
      refine i_seq (i_seq (i_ifS (i_or (i_not (i_B (i_isi2 ?_))))))
      walk_at "d"
      refine ⟨_, _, hty, k2_lst, ?_⟩
      walk_at "d"
      refine ite_f (by decide) ?_
      walk_at "d"
      refine i_isi hty kit_list_list ?_
      walk_at "d"
      refine i_isi hty' kit_list_list ?_
      walk_at "d"
      refine ite_f (by decide) ?_
      walk_at "d"
      refine i_len hits ?_
      walk_at "d"
      refine i_len hits' ?_
      walk_at "d"
      refine ite_f (by simp [hlen]) ?_
      walk_at "d"
      refine i_len hits' ?_
      walk_at "d"
      refine i_rg1 (by omega) (by omega) ?_
      refine ⟨fun _ acc S2 => S2 = S ∧ acc = [], ⟨rfl, rfl⟩, ?_, ?_, ?_⟩
      · rintro i acc S2 hi ⟨rfl, rfl⟩
        exact ⟨trivial, sz_lt (by simp)⟩
      · rintro i x acc S2 hx ⟨rfl, rfl⟩
        obtain ⟨hi, rfl⟩ := rangeD_get hx
        have hi : i < ys.length := by simpa using hi
        have hi2 : i < xs.length := by omega
        have hix : L2.atI ys (0 + (i : Int)) = some ys[i] := by rw [Int.zero_add]; exact atI_nat (List.getElem?_eq_getElem hi)
        have hix2 : L2.atI xs (0 + (i : Int)) = some xs[i] := by rw [Int.zero_add]; exact atI_nat (List.getElem?_eq_getElem hi2)
        walk_at "d"
        refine i_ix hseq hix2 ?_
        walk_at "d"
        refine i_ix hseq' hix ?_
        walk_at "d"
        refine ⟨_, _, rfl, hds i _ _ (List.getElem?_eq_getElem hi2) (List.getElem?_eq_getElem hi), ?_⟩
        walk_at "d"
        refine ite_f (by decide) ?_
        exact ⟨rfl, rfl⟩
      · rintro acc S2 ⟨rfl, rfl⟩
        walk_at "d"
        refine i_eqNil (ns := []) rfl ?_
        exact fin
    | int i =>
      obtain rfl : x = .int i := hd
      refine i_seq (i_ifS (i_B (i_isi2 ?_)))
      walk_at "d"
      refine ⟨_, _, rfl, k2_int, ?_⟩
      walk_at "d"
      refine ite_f (by decide) ?_
      walk_at "d"
      refine ite_f (fun z => nomatch (show false = true from z)) ?_
      walk_at "d"
      refine ite_f (by decide) ?_
      walk_at "d"
      refine ite_f (by decide) ?_
      walk_at "d"
      refine ite_f (by decide) ?_
      walk_at "d"
      refine ite_t (by decide) ?_
      walk_at "d"
      rw [show (id (decide (i = i)) : Bool) = true from decide_eq_true rfl]
      exact fin
    | str z =>
      obtain rfl : x = .str z := hd
      refine i_seq (i_ifS (i_B (i_isi2 ?_)))
      walk_at "d"
      refine ⟨_, _, rfl, k2_str, ?_⟩
      walk_at "d"
      refine ite_f (by decide) ?_
      walk_at "d"
      refine ite_f (fun z => nomatch (show false = true from z)) ?_
      walk_at "d"
      refine ite_t (by decide) ?_
      walk_at "d"
      refine ite_t (by decide) ?_
      walk_at "d"
      rw [show (id (decide (z = z)) : Bool) = true from decide_eq_true rfl]
      exact fin
    | non =>
      obtain rfl : x = .non := hd
      refine i_seq (i_ifS (i_B (i_isi2 ?_)))
      walk_at "d"
      refine ⟨_, _, rfl, k2_non, ?_⟩
      walk_at "d"
      refine ite_f (by decide) ?_
      walk_at "d"
      refine ite_t (by exact rfl) ?_
      walk_at "d"
      exact fin
    | bl b =>
      obtain rfl : x = .bl b := hd
      refine i_seq (i_ifS (i_B (i_isi2 ?_)))
      walk_at "d"
      refine ⟨_, _, rfl, k2_bl, ?_⟩
      walk_at "d"
      refine ite_f (by decide) ?_
      walk_at "d"
      refine ite_f (fun z => nomatch (show false = true from z)) ?_
      walk_at "d"
      refine ite_f (by decide) ?_
      walk_at "d"
      refine ite_t (by decide) ?_
      refine ite_t (by decide) ?_
      walk_at "d"
      refine ite_t (by decide) ?_
      walk_at "d"
      refine ite_t (by decide) ?_
      walk_at "d"
      rw [show (id (decide (b = b)) : Bool) = true from decide_eq_true rfl]
      exact fin
    | _ => exact hd.elim
/-- nothing is promised at depth 0 -/
theorem ok_Lalike0 (at_ : At K mg "_law_alike" s_Lalike ["_law_found", "_law_due"]) : Fn P w K mg base "_law_alike" 0 ["_law_found", "_law_due"] (spAlike 0) := by
  have no : ∀ {vs : List V} {H : Hp} {Q : VK} {E : XK}, ¬ liftSp K (spAlike 0) vs H Q E := fun ⟨_, _, _, _, _, _, ⟨_, _, _, hd, _⟩, _⟩ => hd
  exact fn_at at_ fun f fd F => ⟨fun vs H Q E h => (no h).elim, fun _ _ _ _ _ _ _ _ _ _ _ _ _ h => (no h).elim⟩
end
abbrev s_Lmix : Stmt := topS 75
abbrev N_Lmix : List Str := ["_law_script", "_law_seed", "_law_mixed", "_law_cell"]
theorem sc_Lmix : FnScope N_Lmix ["_law_script", "_law_seed"] (defScope s_Lmix) := ⟨rfl, rfl, rfl, by decide +kernel, rfl, by decide +kernel, by decide +kernel⟩
def spMix : DSp := fun ds S P => ∃ (ns : List Int) (k : Int), ds = [.scr ns, .int k] ∧ S = [.tab 770 "law.<locals>.<lambda>", .tab 763 "_law_machine_right.<locals>.<lambda>"] ∧ ∀ m, P (.ref 3) (hd ⟨ns, m, 0⟩)
def spLaw : DSp := fun ds S P => ∃ (ns : List Int), ds = [.scr ns] ∧ S = [.tab 770 "law.<locals>.<lambda>", .tab 763 "_law_machine_right.<locals>.<lambda>"] ∧ P (.bl true) [.tab 770 "law.<locals>.<lambda>", .tab 763 "_law_machine_right.<locals>.<lambda>"]
section
variable {P : Program} {w : World} {K : PySem.W.Frag} {mg : Str → Option Value} {base : Heap}
theorem ok_Lmix (at_ : At K mg "_law_mix" s_Lmix ["_law_script", "_law_seed"]) (mb : ∀ x, isB x = true → mg x = none) : Fn P w K mg base "_law_mix" 1 ["_law_script", "_law_seed"] spMix := by
  refine fn_at at_ fun f fd F => fn_dK F sc_Lmix (fun ds S P h => ?_) ?_
  · obtain ⟨ns, k, rfl, _⟩ := h
    rfl
  · rintro X W0 cdv A outer s H E rfl hr
    have hu := hr.units
    refine ⟨_, (dss_cons (ds_set (i := 2) (de_var (pv 1)) (fun h => ps_set sc_Lmix.nd rfl (by first | exact Or.inl rfl | exact Or.inr rfl) h))
      (dss_cons (ds_for PassesOwn.never rfl (di_list (de_var (pv 0))) (dg_name (pg_name (i := 3) sc_Lmix.nd rfl (by first | exact Or.inl rfl | exact Or.inr rfl))) (dss_one (ds_set (i := 2) (de_mod (de_add (de_add (de_mul (de_var (pv 2)) de_int) (de_mod (de_var (pv 3)) de_int)) de_int) de_int) (fun h => ps_set sc_Lmix.nd rfl (by first | exact Or.inl rfl | exact Or.inr rfl) h))))
      (dss_one (ds_ret (de_new (dn_lst (da_cons (de_var (pv 2)) (da_cons (de_new (dn_b dc_list (da_cons (de_var (pv 0)) da_nil) (fun h => pe_callTy call_list_of (by rfl) (mb "list" rfl) (by decide +kernel) h))) (da_cons de_int da_nil))))))))), ?_⟩
    rintro ds S P ⟨ns, k, rfl, rfl, post⟩
    walk_at "st"
    walk_at "d"
    walk_at "e"
    refine ⟨fun i env S' => S' = [.tab 770 "law.<locals>.<lambda>", .tab 763 "_law_machine_right.<locals>.<lambda>"] ∧ ∃ m y3, env = [some (.scr ns), some (.int k), some (.int m), y3], ⟨rfl, k, none, rfl⟩, fun _ _ _ _ _ => trivial, ?_, ?_⟩
    · rintro i x env S' hx ⟨rfl, m, y3, rfl⟩
      rw [List.getElem?_map] at hx
      cases ec : ns[i]? with
      | none => rw [ec] at hx; cases hx
      | some c =>
        rw [ec] at hx
        cases hx
        walk_at "d"
        walk_at "e"
        walk_at "d"
        exact ⟨rfl, _, _, rfl⟩
    · rintro env S' ⟨rfl, m, y3, rfl⟩
      walk_at "d"
      exact post m
end
abbrev s_Lword : Stmt := topS 81
abbrev N_Lword : List Str := ["_law_work", "_law_kinds", "_law_words", "_law_word_here", "e"]
theorem sc_Lword : FnScope N_Lword ["_law_work"] (defScope s_Lword) := ⟨rfl, rfl, rfl, by decide +kernel, rfl, by decide +kernel, by decide +kernel⟩
theorem cntW (j : Nat) (h : j < 15) : ([decide (0 = j), decide (1 = j), decide (2 = j), decide (3 = j), decide (4 = j), decide (5 = j), decide (6 = j), decide (7 = j), decide (8 = j), decide (9 = j), decide (10 = j), decide (11 = j), decide (12 = j), decide (13 = j), decide (14 = j)] : List Bool).count true = 1 := by
  rcases (show j = 0 ∨ j = 1 ∨ j = 2 ∨ j = 3 ∨ j = 4 ∨ j = 5 ∨ j = 6 ∨ j = 7 ∨ j = 8 ∨ j = 9 ∨ j = 10 ∨ j = 11 ∨ j = 12 ∨ j = 13 ∨ j = 14 by omega) with rfl | rfl | rfl | rfl | rfl | rfl | rfl | rfl | rfl | rfl | rfl | rfl | rfl | rfl | rfl <;> decide
theorem idxW (j : Nat) (h : j < 15) : ([decide (0 = j), decide (1 = j), decide (2 = j), decide (3 = j), decide (4 = j), decide (5 = j), decide (6 = j), decide (7 = j), decide (8 = j), decide (9 = j), decide (10 = j), decide (11 = j), decide (12 = j), decide (13 = j), decide (14 = j)] : List Bool)[j]? = some true ∧ ∀ m, m < j → ([decide (0 = j), decide (1 = j), decide (2 = j), decide (3 = j), decide (4 = j), decide (5 = j), decide (6 = j), decide (7 = j), decide (8 = j), decide (9 = j), decide (10 = j), decide (11 = j), decide (12 = j), decide (13 = j), decide (14 = j)] : List Bool)[m]? = some false := by
  refine ⟨?_, fun m hm => ?_⟩
  · rcases (show j = 0 ∨ j = 1 ∨ j = 2 ∨ j = 3 ∨ j = 4 ∨ j = 5 ∨ j = 6 ∨ j = 7 ∨ j = 8 ∨ j = 9 ∨ j = 10 ∨ j = 11 ∨ j = 12 ∨ j = 13 ∨ j = 14 by omega) with rfl | rfl | rfl | rfl | rfl | rfl | rfl | rfl | rfl | rfl | rfl | rfl | rfl | rfl | rfl <;> rfl
  · rcases (show m = 0 ∨ m = 1 ∨ m = 2 ∨ m = 3 ∨ m = 4 ∨ m = 5 ∨ m = 6 ∨ m = 7 ∨ m = 8 ∨ m = 9 ∨ m = 10 ∨ m = 11 ∨ m = 12 ∨ m = 13 ∨ m = 14 by omega) with rfl | rfl | rfl | rfl | rfl | rfl | rfl | rfl | rfl | rfl | rfl | rfl | rfl | rfl | rfl <;> (show some (decide (_ = j)) = _; rw [decide_eq_false (by omega)])
/-- where the classes stand -/
structure ClsAt (mg : Str → Option Value) (CS c_BadProgram c_BadCode c_BadHands c_BadOrder c_BadTrace c_BadPlan c_BadLog c_BadText c_BadRound c_BadRule c_BadCost c_NoHand c_NotMade c_NoRound c_Long : Addr) : Prop where
  sl : mg "SlideError" = some (.ref CS)
  m_BadProgram : mg "BadProgram" = some (.ref c_BadProgram)
  m_BadCode : mg "BadCode" = some (.ref c_BadCode)
  m_BadHands : mg "BadHands" = some (.ref c_BadHands)
  m_BadOrder : mg "BadOrder" = some (.ref c_BadOrder)
  m_BadTrace : mg "BadTrace" = some (.ref c_BadTrace)
  m_BadPlan : mg "BadPlan" = some (.ref c_BadPlan)
  m_BadLog : mg "BadLog" = some (.ref c_BadLog)
  m_BadText : mg "BadText" = some (.ref c_BadText)
  m_BadRound : mg "BadRound" = some (.ref c_BadRound)
  m_BadRule : mg "BadRule" = some (.ref c_BadRule)
  m_BadCost : mg "BadCost" = some (.ref c_BadCost)
  m_NoHand : mg "NoHand" = some (.ref c_NoHand)
  m_NotMade : mg "NotMade" = some (.ref c_NotMade)
  m_NoRound : mg "NoRound" = some (.ref c_NoRound)
  m_Long : mg "Long" = some (.ref c_Long)
theorem de_never {X : Cx} {W0 : Bs} {e : Expr} : DE X W0 e (fun _ _ _ => False) := ⟨fun _ _ _ _ _ _ ⟨_, _, _, _, _, _, _, h, _⟩ => h.elim⟩
abbrev suiteW : List Stmt := match defBody s_Lword with
  | [.Try _ [.ExceptHandler _ _ b _] _ _ _] => b
  | _ => []
abbrev cxW (P : Program) (w : World) (K : PySem.W.Frag) (mg : Str → Option Value) (base : Heap) (g : Addr) (cdg : Value) (A : Around) (outer : List Env) (s : Shared) (H : Hp) : Cx := (cxOf C8.CX0 P w K mg base N_Lword "_law_word" (defScope s_Lword) g cdg A outer s H C8.E0).nox
section
variable {P : Program} {w : World} {K : PySem.W.Frag} {mg : Str → Option Value} {base : Heap} {g a C CS c_BadProgram c_BadCode c_BadHands c_BadOrder c_BadTrace c_BadPlan c_BadLog c_BadText c_BadRound c_BadRule c_BadCost c_NoHand c_NotMade c_NoRound c_Long : Addr} {cdg : Value} {A : Around} {outer : List Env} {s : Shared} {H : Hp} {j : Nat} {oe : Obj} {d : Option Addr} {pn : List (Addr × Obj)} {fs : Fs} {y : D} {W0 : Bs}
theorem suite_A (hu : (cxW P w K mg base g cdg A outer s H).A.units + 64 < cLine) (mb : ∀ x, isB x = true → mg x = none) (ca : ClsAt mg CS c_BadProgram c_BadCode c_BadHands c_BadOrder c_BadTrace c_BadPlan c_BadLog c_BadText c_BadRound c_BadRule c_BadCost c_NoHand c_NotMade c_NoRound c_Long) (wf : WdC K [c_BadProgram, c_BadCode, c_BadHands, c_BadOrder, c_BadTrace, c_BadPlan, c_BadLog, c_BadText, c_BadRound, c_BadRule, c_BadCost, c_NoHand, c_NotMade, c_NoRound, c_Long] CS C j) (hz : Zc (.ref C) d oe) (hf : ∃ vs, oe.data = .fields vs) (hx : ExR K W0.W d fs) (hy : wordOf j fs = some y) (hj : j < 2) :
    ∃ T : DTS, DSs ((cxW P w K mg base g cdg A outer s H).suite a ((a, oe) :: pn)) W0 suiteW T ∧ ∀ S P', P' y S → T { nx := fun _ _ => False, rt := P' } [none, none, none, none, some (.adr a)] S := by
  have jl := wf.jl
  obtain ⟨_, m_BadProgram, m_BadCode, m_BadHands, m_BadOrder, m_BadTrace, m_BadPlan, m_BadLog, m_BadText, m_BadRound, m_BadRule, m_BadCost, m_NoHand, m_NotMade, m_NoRound, m_Long⟩ := ca
  obtain ⟨y1, y2, x, hk, hy_function, hy_row, rfl⟩ : ∃ y1 y2 x, kindsW[j]? = some x ∧ fs.lookup ("function" : Str) = some y1 ∧ fs.lookup ("row" : Str) = some y2 ∧ y = .tup [.str x, y1, y2] := by
    unfold wordOf at hy
    cases hk : kindsW[j]? with
    | none => rw [hk] at hy; cases hy
    | some x =>
      rw [hk] at hy
      have hy : formW j x fs = some y := hy
      unfold formW at hy
      rw [if_pos hj] at hy
      cases h1 : fs.lookup ("function" : Str) with
      | none => rw [h1] at hy; cases hy
      | some y1 =>
        cases h2 : fs.lookup ("row" : Str) with
        | none => rw [h1, h2] at hy; cases hy
        | some y2 => rw [h1, h2] at hy; cases hy; exact ⟨y1, y2, x, rfl, rfl, rfl, rfl⟩
  refine ⟨_, (dss_cons (ds_set (i := 1) (de_pure (dn_lst (da_cons (de_isE wf.ex hz hf hx.held (by rfl) (mb "isinstance" rfl) (da_cons (de_var (pv 4)) (da_cons (de_glob (v := .ref c_BadProgram) (d := .adr c_BadProgram) (by rfl) m_BadProgram rfl (fun _ => .adr _)) da_nil))) (da_cons (de_isE wf.ex hz hf hx.held (by rfl) (mb "isinstance" rfl) (da_cons (de_var (pv 4)) (da_cons (de_glob (v := .ref c_BadCode) (d := .adr c_BadCode) (by rfl) m_BadCode rfl (fun _ => .adr _)) da_nil))) (da_cons (de_isE wf.ex hz hf hx.held (by rfl) (mb "isinstance" rfl) (da_cons (de_var (pv 4)) (da_cons (de_glob (v := .ref c_BadHands) (d := .adr c_BadHands) (by rfl) m_BadHands rfl (fun _ => .adr _)) da_nil))) (da_cons (de_isE wf.ex hz hf hx.held (by rfl) (mb "isinstance" rfl) (da_cons (de_var (pv 4)) (da_cons (de_glob (v := .ref c_BadOrder) (d := .adr c_BadOrder) (by rfl) m_BadOrder rfl (fun _ => .adr _)) da_nil))) da_nil)))))) (fun h => ps_set sc_Lword.nd rfl (by first | exact Or.inl rfl | exact Or.inr rfl) h))
      (dss_cons (ds_set (i := 1) (de_pure (dn_add (de_var (pv 1)) (de_pure (dn_lst (da_cons (de_isE wf.ex hz hf hx.held (by rfl) (mb "isinstance" rfl) (da_cons (de_var (pv 4)) (da_cons (de_glob (v := .ref c_BadTrace) (d := .adr c_BadTrace) (by rfl) m_BadTrace rfl (fun _ => .adr _)) da_nil))) (da_cons (de_isE wf.ex hz hf hx.held (by rfl) (mb "isinstance" rfl) (da_cons (de_var (pv 4)) (da_cons (de_glob (v := .ref c_BadPlan) (d := .adr c_BadPlan) (by rfl) m_BadPlan rfl (fun _ => .adr _)) da_nil))) (da_cons (de_isE wf.ex hz hf hx.held (by rfl) (mb "isinstance" rfl) (da_cons (de_var (pv 4)) (da_cons (de_glob (v := .ref c_BadLog) (d := .adr c_BadLog) (by rfl) m_BadLog rfl (fun _ => .adr _)) da_nil))) (da_cons (de_isE wf.ex hz hf hx.held (by rfl) (mb "isinstance" rfl) (da_cons (de_var (pv 4)) (da_cons (de_glob (v := .ref c_BadText) (d := .adr c_BadText) (by rfl) m_BadText rfl (fun _ => .adr _)) da_nil))) da_nil)))))))) (fun h => ps_set sc_Lword.nd rfl (by first | exact Or.inl rfl | exact Or.inr rfl) h))
      (dss_cons (ds_set (i := 1) (de_pure (dn_add (de_var (pv 1)) (de_pure (dn_lst (da_cons (de_isE wf.ex hz hf hx.held (by rfl) (mb "isinstance" rfl) (da_cons (de_var (pv 4)) (da_cons (de_glob (v := .ref c_BadRound) (d := .adr c_BadRound) (by rfl) m_BadRound rfl (fun _ => .adr _)) da_nil))) (da_cons (de_isE wf.ex hz hf hx.held (by rfl) (mb "isinstance" rfl) (da_cons (de_var (pv 4)) (da_cons (de_glob (v := .ref c_BadRule) (d := .adr c_BadRule) (by rfl) m_BadRule rfl (fun _ => .adr _)) da_nil))) (da_cons (de_isE wf.ex hz hf hx.held (by rfl) (mb "isinstance" rfl) (da_cons (de_var (pv 4)) (da_cons (de_glob (v := .ref c_BadCost) (d := .adr c_BadCost) (by rfl) m_BadCost rfl (fun _ => .adr _)) da_nil))) (da_cons (de_isE wf.ex hz hf hx.held (by rfl) (mb "isinstance" rfl) (da_cons (de_var (pv 4)) (da_cons (de_glob (v := .ref c_NoHand) (d := .adr c_NoHand) (by rfl) m_NoHand rfl (fun _ => .adr _)) da_nil))) da_nil)))))))) (fun h => ps_set sc_Lword.nd rfl (by first | exact Or.inl rfl | exact Or.inr rfl) h))
      (dss_cons (ds_set (i := 1) (de_pure (dn_add (de_var (pv 1)) (de_pure (dn_lst (da_cons (de_isE wf.ex hz hf hx.held (by rfl) (mb "isinstance" rfl) (da_cons (de_var (pv 4)) (da_cons (de_glob (v := .ref c_NotMade) (d := .adr c_NotMade) (by rfl) m_NotMade rfl (fun _ => .adr _)) da_nil))) (da_cons (de_isE wf.ex hz hf hx.held (by rfl) (mb "isinstance" rfl) (da_cons (de_var (pv 4)) (da_cons (de_glob (v := .ref c_NoRound) (d := .adr c_NoRound) (by rfl) m_NoRound rfl (fun _ => .adr _)) da_nil))) (da_cons (de_isE wf.ex hz hf hx.held (by rfl) (mb "isinstance" rfl) (da_cons (de_var (pv 4)) (da_cons (de_glob (v := .ref c_Long) (d := .adr c_Long) (by rfl) m_Long rfl (fun _ => .adr _)) da_nil))) da_nil))))))) (fun h => ps_set sc_Lword.nd rfl (by first | exact Or.inl rfl | exact Or.inr rfl) h))
      (dss_cons (ds_set (i := 2) (de_pure (dn_lst (da_cons de_str (da_cons de_str (da_cons de_str (da_cons de_str (da_cons de_str (da_cons de_str (da_cons de_str (da_cons de_str da_nil)))))))))) (fun h => ps_set sc_Lword.nd rfl (by first | exact Or.inl rfl | exact Or.inr rfl) h))
      (dss_cons (ds_set (i := 2) (de_pure (dn_add (de_var (pv 2)) (de_pure (dn_lst (da_cons de_str (da_cons de_str (da_cons de_str (da_cons de_str (da_cons de_str (da_cons de_str (da_cons de_str da_nil))))))))))) (fun h => ps_set sc_Lword.nd rfl (by first | exact Or.inl rfl | exact Or.inr rfl) h))
      (dss_cons (ds_if (dt_w (dw_or (dt_cmp (op_neA hu) do_ne (de_cntB (fun h1 h2 => pe_bm PySem.F.plainAttrs_list PySem.F.slot_list_count PySem.F.type_list_count mt_cntF h1 h2) (de_var (pv 1))) de_int (nomark _)) (dw_or1 (dt_not (dt_val (de_isE wf.ex hz hf hx.held (by rfl) (mb "isinstance" rfl) (da_cons (de_var (pv 4)) (da_cons (de_bltn (n := "ValueError") (by rfl) (mb "ValueError" rfl) (by decide +kernel)) da_nil)))))))) (dss_one (ds_ret (de_tup (da_cons de_str da_nil)))) dss_nil)
      (dss_cons (ds_set (i := 3) (de_ix (de_var (pv 2)) (de_idxB (fun h1 h2 => pe_bm PySem.F.plainAttrs_list PySem.F.slot_list_index PySem.F.type_list_index mt_index h1 h2) (de_var (pv 1))) (fun _ _ => rfl)) (fun h => ps_set sc_Lword.nd rfl (by first | exact Or.inl rfl | exact Or.inr rfl) h))
      (dss_cons (ds_if (dt_w (dw_or (dt_val (de_ix (de_var (pv 1)) de_int (fun _ _ => rfl))) (dw_or1 (dt_val (de_ix (de_var (pv 1)) de_int (fun _ _ => rfl)))))) (dss_one (ds_ret (de_tup (da_cons (de_var (pv 3)) (da_cons (de_xf wf.xf wf.nf hz hf hx hy_function (pv 4)) (da_cons (de_xf wf.xf wf.nr hz hf hx hy_row (pv 4)) da_nil)))))) dss_nil)
      dss_never))))))))), ?_⟩
  intro S P' post
  walk_at "v"
  refine i_isE rfl (wf.is 0 _ rfl) ?_
  walk_at "v"
  refine i_isE rfl (wf.is 1 _ rfl) ?_
  walk_at "v"
  refine i_isE rfl (wf.is 2 _ rfl) ?_
  walk_at "v"
  refine i_isE rfl (wf.is 3 _ rfl) ?_
  walk_at "v"
  walk_at "e"
  refine i_isE rfl (wf.is 4 _ rfl) ?_
  walk_at "v"
  refine i_isE rfl (wf.is 5 _ rfl) ?_
  walk_at "v"
  refine i_isE rfl (wf.is 6 _ rfl) ?_
  walk_at "v"
  refine i_isE rfl (wf.is 7 _ rfl) ?_
  walk_at "v"
  walk_at "e"
  refine i_isE rfl (wf.is 8 _ rfl) ?_
  walk_at "v"
  refine i_isE rfl (wf.is 9 _ rfl) ?_
  walk_at "v"
  refine i_isE rfl (wf.is 10 _ rfl) ?_
  walk_at "v"
  refine i_isE rfl (wf.is 11 _ rfl) ?_
  walk_at "v"
  walk_at "e"
  refine i_isE rfl (wf.is 12 _ rfl) ?_
  walk_at "v"
  refine i_isE rfl (wf.is 13 _ rfl) ?_
  walk_at "v"
  refine i_isE rfl (wf.is 14 _ rfl) ?_
  walk_at "v"
  walk_at "e"
  refine i_cntB ?_
  walk_at "v"
  refine ⟨[decide (0 = j), decide (1 = j), decide (2 = j), decide (3 = j), decide (4 = j), decide (5 = j), decide (6 = j), decide (7 = j), decide (8 = j), decide (9 = j), decide (10 = j), decide (11 = j), decide (12 = j), decide (13 = j), decide (14 = j)], rfl, ?_⟩
  rw [cntW j jl]
  walk_at "v"
  refine ite_f (by decide) ?_
  walk_at "v"
  refine i_isE rfl wf.ve ?_
  walk_at "v"
  refine ite_f (by decide) ?_
  walk_at "v"
  refine i_idxB ?_
  walk_at "v"
  refine ⟨[decide (0 = j), decide (1 = j), decide (2 = j), decide (3 = j), decide (4 = j), decide (5 = j), decide (6 = j), decide (7 = j), decide (8 = j), decide (9 = j), decide (10 = j), decide (11 = j), decide (12 = j), decide (13 = j), decide (14 = j)], j, rfl, (idxW j jl).1, (idxW j jl).2, ?_⟩
  refine i_ix rfl (d := .str x) ?_ ?_
  · rcases (show j = 0 ∨ j = 1 ∨ j = 2 ∨ j = 3 ∨ j = 4 ∨ j = 5 ∨ j = 6 ∨ j = 7 ∨ j = 8 ∨ j = 9 ∨ j = 10 ∨ j = 11 ∨ j = 12 ∨ j = 13 ∨ j = 14 by omega) with rfl | rfl | rfl | rfl | rfl | rfl | rfl | rfl | rfl | rfl | rfl | rfl | rfl | rfl | rfl <;> (cases hk; rfl)
  walk_at "v"
  walk_at "e"
  walk_at "v"
  rcases (show j = 0 ∨ j = 1 by omega) with rfl | rfl
  · refine ite_t (by decide) ?_
    refine ite_t rfl ?_
    walk_at "v"
    refine ⟨rfl, ?_⟩
    refine ⟨rfl, ?_⟩
    walk_at "v"
    exact post
  · refine ite_f (by decide) ?_
    walk_at "v"
    refine ite_t (by decide) ?_
    walk_at "v"
    refine ⟨rfl, ?_⟩
    refine ⟨rfl, ?_⟩
    walk_at "v"
    exact post
theorem suite_B (hu : (cxW P w K mg base g cdg A outer s H).A.units + 64 < cLine) (mb : ∀ x, isB x = true → mg x = none) (ca : ClsAt mg CS c_BadProgram c_BadCode c_BadHands c_BadOrder c_BadTrace c_BadPlan c_BadLog c_BadText c_BadRound c_BadRule c_BadCost c_NoHand c_NotMade c_NoRound c_Long) (wf : WdC K [c_BadProgram, c_BadCode, c_BadHands, c_BadOrder, c_BadTrace, c_BadPlan, c_BadLog, c_BadText, c_BadRound, c_BadRule, c_BadCost, c_NoHand, c_NotMade, c_NoRound, c_Long] CS C j) (hz : Zc (.ref C) d oe) (hf : ∃ vs, oe.data = .fields vs) (hx : ExR K W0.W d fs) (hy : wordOf j fs = some y) (hj : 2 ≤ j ∧ j < 7) :
    ∃ T : DTS, DSs ((cxW P w K mg base g cdg A outer s H).suite a ((a, oe) :: pn)) W0 suiteW T ∧ ∀ S P', P' y S → T { nx := fun _ _ => False, rt := P' } [none, none, none, none, some (.adr a)] S := by
  have jl := wf.jl
  obtain ⟨_, m_BadProgram, m_BadCode, m_BadHands, m_BadOrder, m_BadTrace, m_BadPlan, m_BadLog, m_BadText, m_BadRound, m_BadRule, m_BadCost, m_NoHand, m_NotMade, m_NoRound, m_Long⟩ := ca
  obtain ⟨y1, x, hk, hy_at, rfl⟩ : ∃ y1 x, kindsW[j]? = some x ∧ fs.lookup ("at" : Str) = some y1 ∧ y = .tup [.str x, y1] := by
    unfold wordOf at hy
    cases hk : kindsW[j]? with
    | none => rw [hk] at hy; cases hy
    | some x =>
      rw [hk] at hy
      have hy : formW j x fs = some y := hy
      unfold formW at hy
      rw [if_neg (by omega), if_pos (by omega)] at hy
      cases h1 : fs.lookup ("at" : Str) with
      | none => rw [h1] at hy; cases hy
      | some y1 => rw [h1] at hy; cases hy; exact ⟨y1, x, rfl, rfl, rfl⟩
  refine ⟨_, (dss_cons (ds_set (i := 1) (de_pure (dn_lst (da_cons (de_isE wf.ex hz hf hx.held (by rfl) (mb "isinstance" rfl) (da_cons (de_var (pv 4)) (da_cons (de_glob (v := .ref c_BadProgram) (d := .adr c_BadProgram) (by rfl) m_BadProgram rfl (fun _ => .adr _)) da_nil))) (da_cons (de_isE wf.ex hz hf hx.held (by rfl) (mb "isinstance" rfl) (da_cons (de_var (pv 4)) (da_cons (de_glob (v := .ref c_BadCode) (d := .adr c_BadCode) (by rfl) m_BadCode rfl (fun _ => .adr _)) da_nil))) (da_cons (de_isE wf.ex hz hf hx.held (by rfl) (mb "isinstance" rfl) (da_cons (de_var (pv 4)) (da_cons (de_glob (v := .ref c_BadHands) (d := .adr c_BadHands) (by rfl) m_BadHands rfl (fun _ => .adr _)) da_nil))) (da_cons (de_isE wf.ex hz hf hx.held (by rfl) (mb "isinstance" rfl) (da_cons (de_var (pv 4)) (da_cons (de_glob (v := .ref c_BadOrder) (d := .adr c_BadOrder) (by rfl) m_BadOrder rfl (fun _ => .adr _)) da_nil))) da_nil)))))) (fun h => ps_set sc_Lword.nd rfl (by first | exact Or.inl rfl | exact Or.inr rfl) h))
      (dss_cons (ds_set (i := 1) (de_pure (dn_add (de_var (pv 1)) (de_pure (dn_lst (da_cons (de_isE wf.ex hz hf hx.held (by rfl) (mb "isinstance" rfl) (da_cons (de_var (pv 4)) (da_cons (de_glob (v := .ref c_BadTrace) (d := .adr c_BadTrace) (by rfl) m_BadTrace rfl (fun _ => .adr _)) da_nil))) (da_cons (de_isE wf.ex hz hf hx.held (by rfl) (mb "isinstance" rfl) (da_cons (de_var (pv 4)) (da_cons (de_glob (v := .ref c_BadPlan) (d := .adr c_BadPlan) (by rfl) m_BadPlan rfl (fun _ => .adr _)) da_nil))) (da_cons (de_isE wf.ex hz hf hx.held (by rfl) (mb "isinstance" rfl) (da_cons (de_var (pv 4)) (da_cons (de_glob (v := .ref c_BadLog) (d := .adr c_BadLog) (by rfl) m_BadLog rfl (fun _ => .adr _)) da_nil))) (da_cons (de_isE wf.ex hz hf hx.held (by rfl) (mb "isinstance" rfl) (da_cons (de_var (pv 4)) (da_cons (de_glob (v := .ref c_BadText) (d := .adr c_BadText) (by rfl) m_BadText rfl (fun _ => .adr _)) da_nil))) da_nil)))))))) (fun h => ps_set sc_Lword.nd rfl (by first | exact Or.inl rfl | exact Or.inr rfl) h))
      (dss_cons (ds_set (i := 1) (de_pure (dn_add (de_var (pv 1)) (de_pure (dn_lst (da_cons (de_isE wf.ex hz hf hx.held (by rfl) (mb "isinstance" rfl) (da_cons (de_var (pv 4)) (da_cons (de_glob (v := .ref c_BadRound) (d := .adr c_BadRound) (by rfl) m_BadRound rfl (fun _ => .adr _)) da_nil))) (da_cons (de_isE wf.ex hz hf hx.held (by rfl) (mb "isinstance" rfl) (da_cons (de_var (pv 4)) (da_cons (de_glob (v := .ref c_BadRule) (d := .adr c_BadRule) (by rfl) m_BadRule rfl (fun _ => .adr _)) da_nil))) (da_cons (de_isE wf.ex hz hf hx.held (by rfl) (mb "isinstance" rfl) (da_cons (de_var (pv 4)) (da_cons (de_glob (v := .ref c_BadCost) (d := .adr c_BadCost) (by rfl) m_BadCost rfl (fun _ => .adr _)) da_nil))) (da_cons (de_isE wf.ex hz hf hx.held (by rfl) (mb "isinstance" rfl) (da_cons (de_var (pv 4)) (da_cons (de_glob (v := .ref c_NoHand) (d := .adr c_NoHand) (by rfl) m_NoHand rfl (fun _ => .adr _)) da_nil))) da_nil)))))))) (fun h => ps_set sc_Lword.nd rfl (by first | exact Or.inl rfl | exact Or.inr rfl) h))
      (dss_cons (ds_set (i := 1) (de_pure (dn_add (de_var (pv 1)) (de_pure (dn_lst (da_cons (de_isE wf.ex hz hf hx.held (by rfl) (mb "isinstance" rfl) (da_cons (de_var (pv 4)) (da_cons (de_glob (v := .ref c_NotMade) (d := .adr c_NotMade) (by rfl) m_NotMade rfl (fun _ => .adr _)) da_nil))) (da_cons (de_isE wf.ex hz hf hx.held (by rfl) (mb "isinstance" rfl) (da_cons (de_var (pv 4)) (da_cons (de_glob (v := .ref c_NoRound) (d := .adr c_NoRound) (by rfl) m_NoRound rfl (fun _ => .adr _)) da_nil))) (da_cons (de_isE wf.ex hz hf hx.held (by rfl) (mb "isinstance" rfl) (da_cons (de_var (pv 4)) (da_cons (de_glob (v := .ref c_Long) (d := .adr c_Long) (by rfl) m_Long rfl (fun _ => .adr _)) da_nil))) da_nil))))))) (fun h => ps_set sc_Lword.nd rfl (by first | exact Or.inl rfl | exact Or.inr rfl) h))
      (dss_cons (ds_set (i := 2) (de_pure (dn_lst (da_cons de_str (da_cons de_str (da_cons de_str (da_cons de_str (da_cons de_str (da_cons de_str (da_cons de_str (da_cons de_str da_nil)))))))))) (fun h => ps_set sc_Lword.nd rfl (by first | exact Or.inl rfl | exact Or.inr rfl) h))
      (dss_cons (ds_set (i := 2) (de_pure (dn_add (de_var (pv 2)) (de_pure (dn_lst (da_cons de_str (da_cons de_str (da_cons de_str (da_cons de_str (da_cons de_str (da_cons de_str (da_cons de_str da_nil))))))))))) (fun h => ps_set sc_Lword.nd rfl (by first | exact Or.inl rfl | exact Or.inr rfl) h))
      (dss_cons (ds_if (dt_w (dw_or (dt_cmp (op_neA hu) do_ne (de_cntB (fun h1 h2 => pe_bm PySem.F.plainAttrs_list PySem.F.slot_list_count PySem.F.type_list_count mt_cntF h1 h2) (de_var (pv 1))) de_int (nomark _)) (dw_or1 (dt_not (dt_val (de_isE wf.ex hz hf hx.held (by rfl) (mb "isinstance" rfl) (da_cons (de_var (pv 4)) (da_cons (de_bltn (n := "ValueError") (by rfl) (mb "ValueError" rfl) (by decide +kernel)) da_nil)))))))) (dss_one (ds_ret (de_tup (da_cons de_str da_nil)))) dss_nil)
      (dss_cons (ds_set (i := 3) (de_ix (de_var (pv 2)) (de_idxB (fun h1 h2 => pe_bm PySem.F.plainAttrs_list PySem.F.slot_list_index PySem.F.type_list_index mt_index h1 h2) (de_var (pv 1))) (fun _ _ => rfl)) (fun h => ps_set sc_Lword.nd rfl (by first | exact Or.inl rfl | exact Or.inr rfl) h))
      (dss_cons (ds_if (dt_w (dw_or (dt_val (de_ix (de_var (pv 1)) de_int (fun _ _ => rfl))) (dw_or1 (dt_val (de_ix (de_var (pv 1)) de_int (fun _ _ => rfl)))))) (dss_one ds_never) dss_nil)
      (dss_cons (ds_if (dt_cmp op_in_seq do_in de_bl (de_pure (dn_slice (de_var (pv 1)) (do_some de_int) (do_some de_int))) (by rfl)) (dss_one (ds_ret (de_tup (da_cons (de_var (pv 3)) (da_cons (de_xf wf.xf wf.na hz hf hx hy_at (pv 4)) da_nil))))) dss_nil)
      dss_never)))))))))), ?_⟩
  intro S P' post
  walk_at "v"
  refine i_isE rfl (wf.is 0 _ rfl) ?_
  walk_at "v"
  refine i_isE rfl (wf.is 1 _ rfl) ?_
  walk_at "v"
  refine i_isE rfl (wf.is 2 _ rfl) ?_
  walk_at "v"
  refine i_isE rfl (wf.is 3 _ rfl) ?_
  walk_at "v"
  walk_at "e"
  refine i_isE rfl (wf.is 4 _ rfl) ?_
  walk_at "v"
  refine i_isE rfl (wf.is 5 _ rfl) ?_
  walk_at "v"
  refine i_isE rfl (wf.is 6 _ rfl) ?_
  walk_at "v"
  refine i_isE rfl (wf.is 7 _ rfl) ?_
  walk_at "v"
  walk_at "e"
  refine i_isE rfl (wf.is 8 _ rfl) ?_
  walk_at "v"
  refine i_isE rfl (wf.is 9 _ rfl) ?_
  walk_at "v"
  refine i_isE rfl (wf.is 10 _ rfl) ?_
  walk_at "v"
  refine i_isE rfl (wf.is 11 _ rfl) ?_
  walk_at "v"
  walk_at "e"
  refine i_isE rfl (wf.is 12 _ rfl) ?_
  walk_at "v"
  refine i_isE rfl (wf.is 13 _ rfl) ?_
  walk_at "v"
  refine i_isE rfl (wf.is 14 _ rfl) ?_
  walk_at "v"
  walk_at "e"
  refine i_cntB ?_
  walk_at "v"
  refine ⟨[decide (0 = j), decide (1 = j), decide (2 = j), decide (3 = j), decide (4 = j), decide (5 = j), decide (6 = j), decide (7 = j), decide (8 = j), decide (9 = j), decide (10 = j), decide (11 = j), decide (12 = j), decide (13 = j), decide (14 = j)], rfl, ?_⟩
  rw [cntW j jl]
  walk_at "v"
  refine ite_f (by decide) ?_
  walk_at "v"
  refine i_isE rfl wf.ve ?_
  walk_at "v"
  refine ite_f (by decide) ?_
  walk_at "v"
  refine i_idxB ?_
  walk_at "v"
  refine ⟨[decide (0 = j), decide (1 = j), decide (2 = j), decide (3 = j), decide (4 = j), decide (5 = j), decide (6 = j), decide (7 = j), decide (8 = j), decide (9 = j), decide (10 = j), decide (11 = j), decide (12 = j), decide (13 = j), decide (14 = j)], j, rfl, (idxW j jl).1, (idxW j jl).2, ?_⟩
  refine i_ix rfl (d := .str x) ?_ ?_
  · rcases (show j = 0 ∨ j = 1 ∨ j = 2 ∨ j = 3 ∨ j = 4 ∨ j = 5 ∨ j = 6 ∨ j = 7 ∨ j = 8 ∨ j = 9 ∨ j = 10 ∨ j = 11 ∨ j = 12 ∨ j = 13 ∨ j = 14 by omega) with rfl | rfl | rfl | rfl | rfl | rfl | rfl | rfl | rfl | rfl | rfl | rfl | rfl | rfl | rfl <;> (cases hk; rfl)
  walk_at "v"
  walk_at "e"
  walk_at "v"
  refine ite_f (by rw [decide_eq_false (by omega)]; decide) ?_
  walk_at "v"
  refine ite_f (by rw [decide_eq_false (by omega)]; decide) ?_
  walk_at "v"
  refine i_in rfl rfl rfl ?_
  walk_at "v"
  refine ite_t ?_ ?_
  · rcases (show j = 2 ∨ j = 3 ∨ j = 4 ∨ j = 5 ∨ j = 6 by omega) with rfl | rfl | rfl | rfl | rfl <;> decide
  walk_at "v"
  refine ⟨rfl, ?_⟩
  walk_at "v"
  exact post
theorem suite_C (hu : (cxW P w K mg base g cdg A outer s H).A.units + 64 < cLine) (mb : ∀ x, isB x = true → mg x = none) (ca : ClsAt mg CS c_BadProgram c_BadCode c_BadHands c_BadOrder c_BadTrace c_BadPlan c_BadLog c_BadText c_BadRound c_BadRule c_BadCost c_NoHand c_NotMade c_NoRound c_Long) (wf : WdC K [c_BadProgram, c_BadCode, c_BadHands, c_BadOrder, c_BadTrace, c_BadPlan, c_BadLog, c_BadText, c_BadRound, c_BadRule, c_BadCost, c_NoHand, c_NotMade, c_NoRound, c_Long] CS C j) (hz : Zc (.ref C) d oe) (hf : ∃ vs, oe.data = .fields vs) (hx : ExR K W0.W d fs) (hy : wordOf j fs = some y) (hj : j = 7) :
    ∃ T : DTS, DSs ((cxW P w K mg base g cdg A outer s H).suite a ((a, oe) :: pn)) W0 suiteW T ∧ ∀ S P', P' y S → T { nx := fun _ _ => False, rt := P' } [none, none, none, none, some (.adr a)] S := by
  have jl := wf.jl
  obtain ⟨_, m_BadProgram, m_BadCode, m_BadHands, m_BadOrder, m_BadTrace, m_BadPlan, m_BadLog, m_BadText, m_BadRound, m_BadRule, m_BadCost, m_NoHand, m_NotMade, m_NoRound, m_Long⟩ := ca
  obtain ⟨y1, x, hk, hy_row, rfl⟩ : ∃ y1 x, kindsW[j]? = some x ∧ fs.lookup ("row" : Str) = some y1 ∧ y = .tup [.str x, y1] := by
    unfold wordOf at hy
    cases hk : kindsW[j]? with
    | none => rw [hk] at hy; cases hy
    | some x =>
      rw [hk] at hy
      have hy : formW j x fs = some y := hy
      unfold formW at hy
      rw [if_neg (by omega), if_neg (by omega), if_pos hj] at hy
      cases h1 : fs.lookup ("row" : Str) with
      | none => rw [h1] at hy; cases hy
      | some y1 => rw [h1] at hy; cases hy; exact ⟨y1, x, rfl, rfl, rfl⟩
  refine ⟨_, (dss_cons (ds_set (i := 1) (de_pure (dn_lst (da_cons (de_isE wf.ex hz hf hx.held (by rfl) (mb "isinstance" rfl) (da_cons (de_var (pv 4)) (da_cons (de_glob (v := .ref c_BadProgram) (d := .adr c_BadProgram) (by rfl) m_BadProgram rfl (fun _ => .adr _)) da_nil))) (da_cons (de_isE wf.ex hz hf hx.held (by rfl) (mb "isinstance" rfl) (da_cons (de_var (pv 4)) (da_cons (de_glob (v := .ref c_BadCode) (d := .adr c_BadCode) (by rfl) m_BadCode rfl (fun _ => .adr _)) da_nil))) (da_cons (de_isE wf.ex hz hf hx.held (by rfl) (mb "isinstance" rfl) (da_cons (de_var (pv 4)) (da_cons (de_glob (v := .ref c_BadHands) (d := .adr c_BadHands) (by rfl) m_BadHands rfl (fun _ => .adr _)) da_nil))) (da_cons (de_isE wf.ex hz hf hx.held (by rfl) (mb "isinstance" rfl) (da_cons (de_var (pv 4)) (da_cons (de_glob (v := .ref c_BadOrder) (d := .adr c_BadOrder) (by rfl) m_BadOrder rfl (fun _ => .adr _)) da_nil))) da_nil)))))) (fun h => ps_set sc_Lword.nd rfl (by first | exact Or.inl rfl | exact Or.inr rfl) h))
      (dss_cons (ds_set (i := 1) (de_pure (dn_add (de_var (pv 1)) (de_pure (dn_lst (da_cons (de_isE wf.ex hz hf hx.held (by rfl) (mb "isinstance" rfl) (da_cons (de_var (pv 4)) (da_cons (de_glob (v := .ref c_BadTrace) (d := .adr c_BadTrace) (by rfl) m_BadTrace rfl (fun _ => .adr _)) da_nil))) (da_cons (de_isE wf.ex hz hf hx.held (by rfl) (mb "isinstance" rfl) (da_cons (de_var (pv 4)) (da_cons (de_glob (v := .ref c_BadPlan) (d := .adr c_BadPlan) (by rfl) m_BadPlan rfl (fun _ => .adr _)) da_nil))) (da_cons (de_isE wf.ex hz hf hx.held (by rfl) (mb "isinstance" rfl) (da_cons (de_var (pv 4)) (da_cons (de_glob (v := .ref c_BadLog) (d := .adr c_BadLog) (by rfl) m_BadLog rfl (fun _ => .adr _)) da_nil))) (da_cons (de_isE wf.ex hz hf hx.held (by rfl) (mb "isinstance" rfl) (da_cons (de_var (pv 4)) (da_cons (de_glob (v := .ref c_BadText) (d := .adr c_BadText) (by rfl) m_BadText rfl (fun _ => .adr _)) da_nil))) da_nil)))))))) (fun h => ps_set sc_Lword.nd rfl (by first | exact Or.inl rfl | exact Or.inr rfl) h))
      (dss_cons (ds_set (i := 1) (de_pure (dn_add (de_var (pv 1)) (de_pure (dn_lst (da_cons (de_isE wf.ex hz hf hx.held (by rfl) (mb "isinstance" rfl) (da_cons (de_var (pv 4)) (da_cons (de_glob (v := .ref c_BadRound) (d := .adr c_BadRound) (by rfl) m_BadRound rfl (fun _ => .adr _)) da_nil))) (da_cons (de_isE wf.ex hz hf hx.held (by rfl) (mb "isinstance" rfl) (da_cons (de_var (pv 4)) (da_cons (de_glob (v := .ref c_BadRule) (d := .adr c_BadRule) (by rfl) m_BadRule rfl (fun _ => .adr _)) da_nil))) (da_cons (de_isE wf.ex hz hf hx.held (by rfl) (mb "isinstance" rfl) (da_cons (de_var (pv 4)) (da_cons (de_glob (v := .ref c_BadCost) (d := .adr c_BadCost) (by rfl) m_BadCost rfl (fun _ => .adr _)) da_nil))) (da_cons (de_isE wf.ex hz hf hx.held (by rfl) (mb "isinstance" rfl) (da_cons (de_var (pv 4)) (da_cons (de_glob (v := .ref c_NoHand) (d := .adr c_NoHand) (by rfl) m_NoHand rfl (fun _ => .adr _)) da_nil))) da_nil)))))))) (fun h => ps_set sc_Lword.nd rfl (by first | exact Or.inl rfl | exact Or.inr rfl) h))
      (dss_cons (ds_set (i := 1) (de_pure (dn_add (de_var (pv 1)) (de_pure (dn_lst (da_cons (de_isE wf.ex hz hf hx.held (by rfl) (mb "isinstance" rfl) (da_cons (de_var (pv 4)) (da_cons (de_glob (v := .ref c_NotMade) (d := .adr c_NotMade) (by rfl) m_NotMade rfl (fun _ => .adr _)) da_nil))) (da_cons (de_isE wf.ex hz hf hx.held (by rfl) (mb "isinstance" rfl) (da_cons (de_var (pv 4)) (da_cons (de_glob (v := .ref c_NoRound) (d := .adr c_NoRound) (by rfl) m_NoRound rfl (fun _ => .adr _)) da_nil))) (da_cons (de_isE wf.ex hz hf hx.held (by rfl) (mb "isinstance" rfl) (da_cons (de_var (pv 4)) (da_cons (de_glob (v := .ref c_Long) (d := .adr c_Long) (by rfl) m_Long rfl (fun _ => .adr _)) da_nil))) da_nil))))))) (fun h => ps_set sc_Lword.nd rfl (by first | exact Or.inl rfl | exact Or.inr rfl) h))
      (dss_cons (ds_set (i := 2) (de_pure (dn_lst (da_cons de_str (da_cons de_str (da_cons de_str (da_cons de_str (da_cons de_str (da_cons de_str (da_cons de_str (da_cons de_str da_nil)))))))))) (fun h => ps_set sc_Lword.nd rfl (by first | exact Or.inl rfl | exact Or.inr rfl) h))
      (dss_cons (ds_set (i := 2) (de_pure (dn_add (de_var (pv 2)) (de_pure (dn_lst (da_cons de_str (da_cons de_str (da_cons de_str (da_cons de_str (da_cons de_str (da_cons de_str (da_cons de_str da_nil))))))))))) (fun h => ps_set sc_Lword.nd rfl (by first | exact Or.inl rfl | exact Or.inr rfl) h))
      (dss_cons (ds_if (dt_w (dw_or (dt_cmp (op_neA hu) do_ne (de_cntB (fun h1 h2 => pe_bm PySem.F.plainAttrs_list PySem.F.slot_list_count PySem.F.type_list_count mt_cntF h1 h2) (de_var (pv 1))) de_int (nomark _)) (dw_or1 (dt_not (dt_val (de_isE wf.ex hz hf hx.held (by rfl) (mb "isinstance" rfl) (da_cons (de_var (pv 4)) (da_cons (de_bltn (n := "ValueError") (by rfl) (mb "ValueError" rfl) (by decide +kernel)) da_nil)))))))) (dss_one (ds_ret (de_tup (da_cons de_str da_nil)))) dss_nil)
      (dss_cons (ds_set (i := 3) (de_ix (de_var (pv 2)) (de_idxB (fun h1 h2 => pe_bm PySem.F.plainAttrs_list PySem.F.slot_list_index PySem.F.type_list_index mt_index h1 h2) (de_var (pv 1))) (fun _ _ => rfl)) (fun h => ps_set sc_Lword.nd rfl (by first | exact Or.inl rfl | exact Or.inr rfl) h))
      (dss_cons (ds_if (dt_w (dw_or (dt_val (de_ix (de_var (pv 1)) de_int (fun _ _ => rfl))) (dw_or1 (dt_val (de_ix (de_var (pv 1)) de_int (fun _ _ => rfl)))))) (dss_one ds_never) dss_nil)
      (dss_cons (ds_if (dt_cmp op_in_seq do_in de_bl (de_pure (dn_slice (de_var (pv 1)) (do_some de_int) (do_some de_int))) (by rfl)) (dss_one ds_never) dss_nil)
      (dss_one (ds_ret (de_if (dt_val (de_ix (de_var (pv 1)) de_int (fun _ _ => rfl))) (de_tup (da_cons (de_var (pv 3)) (da_cons (de_xf wf.xf wf.nr hz hf hx hy_row (pv 4)) da_nil))) (de_tup (da_cons (de_var (pv 3)) da_nil))))))))))))))), ?_⟩
  intro S P' post
  walk_at "v"
  refine i_isE rfl (wf.is 0 _ rfl) ?_
  walk_at "v"
  refine i_isE rfl (wf.is 1 _ rfl) ?_
  walk_at "v"
  refine i_isE rfl (wf.is 2 _ rfl) ?_
  walk_at "v"
  refine i_isE rfl (wf.is 3 _ rfl) ?_
  walk_at "v"
  walk_at "e"
  refine i_isE rfl (wf.is 4 _ rfl) ?_
  walk_at "v"
  refine i_isE rfl (wf.is 5 _ rfl) ?_
  walk_at "v"
  refine i_isE rfl (wf.is 6 _ rfl) ?_
  walk_at "v"
  refine i_isE rfl (wf.is 7 _ rfl) ?_
  walk_at "v"
  walk_at "e"
  refine i_isE rfl (wf.is 8 _ rfl) ?_
  walk_at "v"
  refine i_isE rfl (wf.is 9 _ rfl) ?_
  walk_at "v"
  refine i_isE rfl (wf.is 10 _ rfl) ?_
  walk_at "v"
  refine i_isE rfl (wf.is 11 _ rfl) ?_
  walk_at "v"
  walk_at "e"
  refine i_isE rfl (wf.is 12 _ rfl) ?_
  walk_at "v"
  refine i_isE rfl (wf.is 13 _ rfl) ?_
  walk_at "v"
  refine i_isE rfl (wf.is 14 _ rfl) ?_
  walk_at "v"
  walk_at "e"
  refine i_cntB ?_
  walk_at "v"
  refine ⟨[decide (0 = j), decide (1 = j), decide (2 = j), decide (3 = j), decide (4 = j), decide (5 = j), decide (6 = j), decide (7 = j), decide (8 = j), decide (9 = j), decide (10 = j), decide (11 = j), decide (12 = j), decide (13 = j), decide (14 = j)], rfl, ?_⟩
  rw [cntW j jl]
  walk_at "v"
  refine ite_f (by decide) ?_
  walk_at "v"
  refine i_isE rfl wf.ve ?_
  walk_at "v"
  refine ite_f (by decide) ?_
  walk_at "v"
  refine i_idxB ?_
  walk_at "v"
  refine ⟨[decide (0 = j), decide (1 = j), decide (2 = j), decide (3 = j), decide (4 = j), decide (5 = j), decide (6 = j), decide (7 = j), decide (8 = j), decide (9 = j), decide (10 = j), decide (11 = j), decide (12 = j), decide (13 = j), decide (14 = j)], j, rfl, (idxW j jl).1, (idxW j jl).2, ?_⟩
  refine i_ix rfl (d := .str x) ?_ ?_
  · rcases (show j = 0 ∨ j = 1 ∨ j = 2 ∨ j = 3 ∨ j = 4 ∨ j = 5 ∨ j = 6 ∨ j = 7 ∨ j = 8 ∨ j = 9 ∨ j = 10 ∨ j = 11 ∨ j = 12 ∨ j = 13 ∨ j = 14 by omega) with rfl | rfl | rfl | rfl | rfl | rfl | rfl | rfl | rfl | rfl | rfl | rfl | rfl | rfl | rfl <;> (cases hk; rfl)
  walk_at "v"
  walk_at "e"
  walk_at "v"
  subst hj
  refine ite_f (by decide) ?_
  walk_at "v"
  refine ite_f (by decide) ?_
  walk_at "v"
  refine i_in rfl rfl rfl ?_
  walk_at "v"
  refine ite_f (by decide) ?_
  walk_at "v"
  refine ite_t (by decide) ?_
  walk_at "v"
  refine ⟨rfl, ?_⟩
  walk_at "v"
  exact post
theorem suite_D (hu : (cxW P w K mg base g cdg A outer s H).A.units + 64 < cLine) (mb : ∀ x, isB x = true → mg x = none) (ca : ClsAt mg CS c_BadProgram c_BadCode c_BadHands c_BadOrder c_BadTrace c_BadPlan c_BadLog c_BadText c_BadRound c_BadRule c_BadCost c_NoHand c_NotMade c_NoRound c_Long) (wf : WdC K [c_BadProgram, c_BadCode, c_BadHands, c_BadOrder, c_BadTrace, c_BadPlan, c_BadLog, c_BadText, c_BadRound, c_BadRule, c_BadCost, c_NoHand, c_NotMade, c_NoRound, c_Long] CS C j) (hz : Zc (.ref C) d oe) (hf : ∃ vs, oe.data = .fields vs) (hx : ExR K W0.W d fs) (hy : wordOf j fs = some y) (hj : 8 ≤ j) :
    ∃ T : DTS, DSs ((cxW P w K mg base g cdg A outer s H).suite a ((a, oe) :: pn)) W0 suiteW T ∧ ∀ S P', P' y S → T { nx := fun _ _ => False, rt := P' } [none, none, none, none, some (.adr a)] S := by
  have jl := wf.jl
  obtain ⟨_, m_BadProgram, m_BadCode, m_BadHands, m_BadOrder, m_BadTrace, m_BadPlan, m_BadLog, m_BadText, m_BadRound, m_BadRule, m_BadCost, m_NoHand, m_NotMade, m_NoRound, m_Long⟩ := ca
  obtain ⟨x, hk, rfl⟩ : ∃ x, kindsW[j]? = some x ∧ y = .tup [.str x] := by
    unfold wordOf at hy
    cases hk : kindsW[j]? with
    | none => rw [hk] at hy; cases hy
    | some x =>
      rw [hk] at hy
      have hy : formW j x fs = some y := hy
      unfold formW at hy
      rw [if_neg (by omega), if_neg (by omega), if_neg (by omega)] at hy
      cases hy
      exact ⟨x, rfl, rfl⟩
  refine ⟨_, (dss_cons (ds_set (i := 1) (de_pure (dn_lst (da_cons (de_isE wf.ex hz hf hx.held (by rfl) (mb "isinstance" rfl) (da_cons (de_var (pv 4)) (da_cons (de_glob (v := .ref c_BadProgram) (d := .adr c_BadProgram) (by rfl) m_BadProgram rfl (fun _ => .adr _)) da_nil))) (da_cons (de_isE wf.ex hz hf hx.held (by rfl) (mb "isinstance" rfl) (da_cons (de_var (pv 4)) (da_cons (de_glob (v := .ref c_BadCode) (d := .adr c_BadCode) (by rfl) m_BadCode rfl (fun _ => .adr _)) da_nil))) (da_cons (de_isE wf.ex hz hf hx.held (by rfl) (mb "isinstance" rfl) (da_cons (de_var (pv 4)) (da_cons (de_glob (v := .ref c_BadHands) (d := .adr c_BadHands) (by rfl) m_BadHands rfl (fun _ => .adr _)) da_nil))) (da_cons (de_isE wf.ex hz hf hx.held (by rfl) (mb "isinstance" rfl) (da_cons (de_var (pv 4)) (da_cons (de_glob (v := .ref c_BadOrder) (d := .adr c_BadOrder) (by rfl) m_BadOrder rfl (fun _ => .adr _)) da_nil))) da_nil)))))) (fun h => ps_set sc_Lword.nd rfl (by first | exact Or.inl rfl | exact Or.inr rfl) h))
      (dss_cons (ds_set (i := 1) (de_pure (dn_add (de_var (pv 1)) (de_pure (dn_lst (da_cons (de_isE wf.ex hz hf hx.held (by rfl) (mb "isinstance" rfl) (da_cons (de_var (pv 4)) (da_cons (de_glob (v := .ref c_BadTrace) (d := .adr c_BadTrace) (by rfl) m_BadTrace rfl (fun _ => .adr _)) da_nil))) (da_cons (de_isE wf.ex hz hf hx.held (by rfl) (mb "isinstance" rfl) (da_cons (de_var (pv 4)) (da_cons (de_glob (v := .ref c_BadPlan) (d := .adr c_BadPlan) (by rfl) m_BadPlan rfl (fun _ => .adr _)) da_nil))) (da_cons (de_isE wf.ex hz hf hx.held (by rfl) (mb "isinstance" rfl) (da_cons (de_var (pv 4)) (da_cons (de_glob (v := .ref c_BadLog) (d := .adr c_BadLog) (by rfl) m_BadLog rfl (fun _ => .adr _)) da_nil))) (da_cons (de_isE wf.ex hz hf hx.held (by rfl) (mb "isinstance" rfl) (da_cons (de_var (pv 4)) (da_cons (de_glob (v := .ref c_BadText) (d := .adr c_BadText) (by rfl) m_BadText rfl (fun _ => .adr _)) da_nil))) da_nil)))))))) (fun h => ps_set sc_Lword.nd rfl (by first | exact Or.inl rfl | exact Or.inr rfl) h))
      (dss_cons (ds_set (i := 1) (de_pure (dn_add (de_var (pv 1)) (de_pure (dn_lst (da_cons (de_isE wf.ex hz hf hx.held (by rfl) (mb "isinstance" rfl) (da_cons (de_var (pv 4)) (da_cons (de_glob (v := .ref c_BadRound) (d := .adr c_BadRound) (by rfl) m_BadRound rfl (fun _ => .adr _)) da_nil))) (da_cons (de_isE wf.ex hz hf hx.held (by rfl) (mb "isinstance" rfl) (da_cons (de_var (pv 4)) (da_cons (de_glob (v := .ref c_BadRule) (d := .adr c_BadRule) (by rfl) m_BadRule rfl (fun _ => .adr _)) da_nil))) (da_cons (de_isE wf.ex hz hf hx.held (by rfl) (mb "isinstance" rfl) (da_cons (de_var (pv 4)) (da_cons (de_glob (v := .ref c_BadCost) (d := .adr c_BadCost) (by rfl) m_BadCost rfl (fun _ => .adr _)) da_nil))) (da_cons (de_isE wf.ex hz hf hx.held (by rfl) (mb "isinstance" rfl) (da_cons (de_var (pv 4)) (da_cons (de_glob (v := .ref c_NoHand) (d := .adr c_NoHand) (by rfl) m_NoHand rfl (fun _ => .adr _)) da_nil))) da_nil)))))))) (fun h => ps_set sc_Lword.nd rfl (by first | exact Or.inl rfl | exact Or.inr rfl) h))
      (dss_cons (ds_set (i := 1) (de_pure (dn_add (de_var (pv 1)) (de_pure (dn_lst (da_cons (de_isE wf.ex hz hf hx.held (by rfl) (mb "isinstance" rfl) (da_cons (de_var (pv 4)) (da_cons (de_glob (v := .ref c_NotMade) (d := .adr c_NotMade) (by rfl) m_NotMade rfl (fun _ => .adr _)) da_nil))) (da_cons (de_isE wf.ex hz hf hx.held (by rfl) (mb "isinstance" rfl) (da_cons (de_var (pv 4)) (da_cons (de_glob (v := .ref c_NoRound) (d := .adr c_NoRound) (by rfl) m_NoRound rfl (fun _ => .adr _)) da_nil))) (da_cons (de_isE wf.ex hz hf hx.held (by rfl) (mb "isinstance" rfl) (da_cons (de_var (pv 4)) (da_cons (de_glob (v := .ref c_Long) (d := .adr c_Long) (by rfl) m_Long rfl (fun _ => .adr _)) da_nil))) da_nil))))))) (fun h => ps_set sc_Lword.nd rfl (by first | exact Or.inl rfl | exact Or.inr rfl) h))
      (dss_cons (ds_set (i := 2) (de_pure (dn_lst (da_cons de_str (da_cons de_str (da_cons de_str (da_cons de_str (da_cons de_str (da_cons de_str (da_cons de_str (da_cons de_str da_nil)))))))))) (fun h => ps_set sc_Lword.nd rfl (by first | exact Or.inl rfl | exact Or.inr rfl) h))
      (dss_cons (ds_set (i := 2) (de_pure (dn_add (de_var (pv 2)) (de_pure (dn_lst (da_cons de_str (da_cons de_str (da_cons de_str (da_cons de_str (da_cons de_str (da_cons de_str (da_cons de_str da_nil))))))))))) (fun h => ps_set sc_Lword.nd rfl (by first | exact Or.inl rfl | exact Or.inr rfl) h))
      (dss_cons (ds_if (dt_w (dw_or (dt_cmp (op_neA hu) do_ne (de_cntB (fun h1 h2 => pe_bm PySem.F.plainAttrs_list PySem.F.slot_list_count PySem.F.type_list_count mt_cntF h1 h2) (de_var (pv 1))) de_int (nomark _)) (dw_or1 (dt_not (dt_val (de_isE wf.ex hz hf hx.held (by rfl) (mb "isinstance" rfl) (da_cons (de_var (pv 4)) (da_cons (de_bltn (n := "ValueError") (by rfl) (mb "ValueError" rfl) (by decide +kernel)) da_nil)))))))) (dss_one (ds_ret (de_tup (da_cons de_str da_nil)))) dss_nil)
      (dss_cons (ds_set (i := 3) (de_ix (de_var (pv 2)) (de_idxB (fun h1 h2 => pe_bm PySem.F.plainAttrs_list PySem.F.slot_list_index PySem.F.type_list_index mt_index h1 h2) (de_var (pv 1))) (fun _ _ => rfl)) (fun h => ps_set sc_Lword.nd rfl (by first | exact Or.inl rfl | exact Or.inr rfl) h))
      (dss_cons (ds_if (dt_w (dw_or (dt_val (de_ix (de_var (pv 1)) de_int (fun _ _ => rfl))) (dw_or1 (dt_val (de_ix (de_var (pv 1)) de_int (fun _ _ => rfl)))))) (dss_one ds_never) dss_nil)
      (dss_cons (ds_if (dt_cmp op_in_seq do_in de_bl (de_pure (dn_slice (de_var (pv 1)) (do_some de_int) (do_some de_int))) (by rfl)) (dss_one ds_never) dss_nil)
      (dss_one (ds_ret (de_if (dt_val (de_ix (de_var (pv 1)) de_int (fun _ _ => rfl))) de_never (de_tup (da_cons (de_var (pv 3)) da_nil))))))))))))))), ?_⟩
  intro S P' post
  walk_at "v"
  refine i_isE rfl (wf.is 0 _ rfl) ?_
  walk_at "v"
  refine i_isE rfl (wf.is 1 _ rfl) ?_
  walk_at "v"
  refine i_isE rfl (wf.is 2 _ rfl) ?_
  walk_at "v"
  refine i_isE rfl (wf.is 3 _ rfl) ?_
  walk_at "v"
  walk_at "e"
  refine i_isE rfl (wf.is 4 _ rfl) ?_
  walk_at "v"
  refine i_isE rfl (wf.is 5 _ rfl) ?_
  walk_at "v"
  refine i_isE rfl (wf.is 6 _ rfl) ?_
  walk_at "v"
  refine i_isE rfl (wf.is 7 _ rfl) ?_
  walk_at "v"
  walk_at "e"
  refine i_isE rfl (wf.is 8 _ rfl) ?_
  walk_at "v"
  refine i_isE rfl (wf.is 9 _ rfl) ?_
  walk_at "v"
  refine i_isE rfl (wf.is 10 _ rfl) ?_
  walk_at "v"
  refine i_isE rfl (wf.is 11 _ rfl) ?_
  walk_at "v"
  walk_at "e"
  refine i_isE rfl (wf.is 12 _ rfl) ?_
  walk_at "v"
  refine i_isE rfl (wf.is 13 _ rfl) ?_
  walk_at "v"
  refine i_isE rfl (wf.is 14 _ rfl) ?_
  walk_at "v"
  walk_at "e"
  refine i_cntB ?_
  walk_at "v"
  refine ⟨[decide (0 = j), decide (1 = j), decide (2 = j), decide (3 = j), decide (4 = j), decide (5 = j), decide (6 = j), decide (7 = j), decide (8 = j), decide (9 = j), decide (10 = j), decide (11 = j), decide (12 = j), decide (13 = j), decide (14 = j)], rfl, ?_⟩
  rw [cntW j jl]
  walk_at "v"
  refine ite_f (by decide) ?_
  walk_at "v"
  refine i_isE rfl wf.ve ?_
  walk_at "v"
  refine ite_f (by decide) ?_
  walk_at "v"
  refine i_idxB ?_
  walk_at "v"
  refine ⟨[decide (0 = j), decide (1 = j), decide (2 = j), decide (3 = j), decide (4 = j), decide (5 = j), decide (6 = j), decide (7 = j), decide (8 = j), decide (9 = j), decide (10 = j), decide (11 = j), decide (12 = j), decide (13 = j), decide (14 = j)], j, rfl, (idxW j jl).1, (idxW j jl).2, ?_⟩
  refine i_ix rfl (d := .str x) ?_ ?_
  · rcases (show j = 0 ∨ j = 1 ∨ j = 2 ∨ j = 3 ∨ j = 4 ∨ j = 5 ∨ j = 6 ∨ j = 7 ∨ j = 8 ∨ j = 9 ∨ j = 10 ∨ j = 11 ∨ j = 12 ∨ j = 13 ∨ j = 14 by omega) with rfl | rfl | rfl | rfl | rfl | rfl | rfl | rfl | rfl | rfl | rfl | rfl | rfl | rfl | rfl <;> (cases hk; rfl)
  walk_at "v"
  walk_at "e"
  walk_at "v"
  refine ite_f (by rw [decide_eq_false (by omega)]; decide) ?_
  walk_at "v"
  refine ite_f (by rw [decide_eq_false (by omega)]; decide) ?_
  walk_at "v"
  refine i_in rfl rfl rfl ?_
  walk_at "v"
  refine ite_f ?_ ?_
  · rcases (show j = 8 ∨ j = 9 ∨ j = 10 ∨ j = 11 ∨ j = 12 ∨ j = 13 ∨ j = 14 by omega) with rfl | rfl | rfl | rfl | rfl | rfl | rfl <;> decide
  walk_at "v"
  refine ite_f (by rw [decide_eq_false (by omega)]; decide) ?_
  walk_at "v"
  exact post
end
section
variable {P : Program} {w : World} {K : PySem.W.Frag} {mg : Str → Option Value} {base : Heap} {g a C CS c_BadProgram c_BadCode c_BadHands c_BadOrder c_BadTrace c_BadPlan c_BadLog c_BadText c_BadRound c_BadRule c_BadCost c_NoHand c_NotMade c_NoRound c_Long : Addr} {cdg : Value} {A : Around} {outer : List Env} {s : Shared} {H : Hp} {j : Nat} {oe : Obj} {d : Option Addr} {pn : List (Addr × Obj)} {fs : Fs} {y : D} {W0 : Bs}
theorem suite_any (hu : (cxW P w K mg base g cdg A outer s H).A.units + 64 < cLine) (mb : ∀ x, isB x = true → mg x = none) (ca : ClsAt mg CS c_BadProgram c_BadCode c_BadHands c_BadOrder c_BadTrace c_BadPlan c_BadLog c_BadText c_BadRound c_BadRule c_BadCost c_NoHand c_NotMade c_NoRound c_Long) (wf : WdC K [c_BadProgram, c_BadCode, c_BadHands, c_BadOrder, c_BadTrace, c_BadPlan, c_BadLog, c_BadText, c_BadRound, c_BadRule, c_BadCost, c_NoHand, c_NotMade, c_NoRound, c_Long] CS C j) (hz : Zc (.ref C) d oe) (hf : ∃ vs, oe.data = .fields vs) (hx : ExR K W0.W d fs) (hy : wordOf j fs = some y) :
    ∃ T : DTS, DSs ((cxW P w K mg base g cdg A outer s H).suite a ((a, oe) :: pn)) W0 suiteW T ∧ ∀ S P', P' y S → T { nx := fun _ _ => False, rt := P' } [none, none, none, none, some (.adr a)] S := by
  rcases (show j < 2 ∨ (2 ≤ j ∧ j < 7) ∨ j = 7 ∨ 8 ≤ j by omega) with h | h | h | h
  · exact suite_A hu mb ca wf hz hf hx hy h
  · exact suite_B hu mb ca wf hz hf hx hy h
  · exact suite_C hu mb ca wf hz hf hx hy h
  · exact suite_D hu mb ca wf hz hf hx hy h
end
theorem word_gives {X : Cx} {g CS c_BadProgram c_BadCode c_BadHands c_BadOrder c_BadTrace c_BadPlan c_BadLog c_BadText c_BadRound c_BadRule c_BadCost c_NoHand c_NotMade c_NoRound c_Long : Addr} {cdg : Value} {q : Str} {k : Nat} (hr : Room (k + 1) X.A) (mb : ∀ x, isB x = true → X.mg x = none) (ca : ClsAt X.mg CS c_BadProgram c_BadCode c_BadHands c_BadOrder c_BadTrace c_BadPlan c_BadLog c_BadText c_BadRound c_BadRule c_BadCost c_NoHand c_NotMade c_NoRound c_Long) : LamX.GivesTo X N_Lword "_law_word" (defScope s_Lword) g cdg (defBody s_Lword) "_law_work" q (TTw X.K [c_BadProgram, c_BadCode, c_BadHands, c_BadOrder, c_BadTrace, c_BadPlan, c_BadLog, c_BadText, c_BadRound, c_BadRule, c_BadCost, c_NoHand, c_NotMade, c_NoRound, c_Long] CS) := by
  intro f c' s H Q tl act hc ⟨E, hE, h⟩
  have hu : (cxW X.prog X.w X.K X.mg X.base g cdg X.A X.stack s H).A.units + 64 < cLine := (hr.deeper _).units
  refine ⟨_, pss_one (ps_try_as (X := cxW X.prog X.w X.K X.mg X.base g cdg X.A X.stack s H) (i := 4) (c := .ref CS)
    (tb := fun W D σ H => ∃ Ech : XK, (∀ cls d σ' H', σ'.length = 5 → Ech cls d H' → W cls d σ' H') ∧ σ[0]? = some (some (.ref f)) ∧ H c' = some (LamX.CodeO c' q) ∧ tl Ech H D.rt)
    (ts := fun a cls d D σ H' => σ.length = 5 ∧ σ[4]? = some (some (.ref a)) ∧ SuOk X.K [c_BadProgram, c_BadCode, c_BadHands, c_BadOrder, c_BadTrace, c_BadPlan, c_BadLog, c_BadText, c_BadRound, c_BadRule, c_BadCost, c_NoHand, c_NotMade, c_NoRound, c_Long] CS cls d H' D.rt) (Wout := fun _ _ _ _ => False) rfl rfl sc_Lword.nd rfl rfl ⟨by rfl, by decide, .inl ca.sl⟩ LamX.takes0 (fun W pn xe tk _ => ?_) (fun a oe cls d pn hz hf => ?_)), ?_⟩
  · refine ⟨fun pins s' σ H' D I h' => ?_⟩
    obtain ⟨Ech, hW, h1, h2, h3⟩ := h'
    have tk' : Takes ((cxW X.prog X.w X.K X.mg X.base g cdg X.A X.stack s H).tr pn xe) (fun cls d σ' H' => σ'.length = 5 → W cls d σ' H') := fun u s2 ⟨a2, B2, sI2, pins2, σ2, H2, cls2, d2, e2, I2, nb2, up2, sky2, na2, os2, ag2, w2⟩ => tk u s2 ⟨a2, B2, sI2, pins2, σ2, H2, cls2, d2, e2, I2, nb2, up2, sky2, na2, os2, ag2, w2 I2.len⟩
    exact (pss_one (ps_ret (act (fun cls d σ' H' => σ'.length = 5 → W cls d σ' H') pn xe Ech _ _ tk' (fun cls d σ' H' he hl => hW cls d σ' H' hl he)))).run pins s' σ H' D I ⟨h1, h2, h3⟩
  · refine ⟨fun pins s' σ H' D I h' => ?_⟩
    obtain ⟨hl, he, C, j, fs, y, W', S', P', rfl, wf, sim, ex, hy, hp, post⟩ := h'
    obtain ⟨T, hT, hq⟩ := suite_any (W0 := { W := W', H := H' }) (a := a) (pn := pn) hu mb ca wf hz hf ex hy
    refine hT.run pins s' σ H' D I ⟨W', [none, none, none, none, some (.adr a)], S', _, Stp.refl, sim, ⟨hl, fun i dd hi => ?_⟩, hq S' P' hp, ⟨fun _ _ _ _ _ z => z.elim, post, fun _ _ _ _ _ z => z.elim, fun _ _ _ _ _ z => z.elim⟩⟩
    rcases (show i = 0 ∨ i = 1 ∨ i = 2 ∨ i = 3 ∨ i = 4 ∨ 5 ≤ i by omega) with rfl | rfl | rfl | rfl | rfl | hi5
    · cases hi
    · cases hi
    · cases hi
    · cases hi
    · cases hi
      exact ⟨.ref a, he, .adr a⟩
    · rw [List.getElem?_eq_none (by simpa using hi5)] at hi
      cases hi
  · refine ⟨E, fun cls d σ' H' hl he => ?_, rfl, hc, h⟩
    have su := hE cls d H' he
    obtain ⟨C, j, fs, y, W', S', P', rfl, wf, _⟩ := id su
    refine ⟨true, wf.sl, fun _ a _ => ⟨by rw [List.length_set]; exact hl, ?_, su⟩, fun z => nomatch z⟩
    rw [List.getElem?_set_self (by omega)]
abbrev s_Lall : Stmt := topS 82
abbrev N_Lall : List Str := ["_law_works", "_law_due", "_law_work"]
theorem sc_Lall : FnScope N_Lall ["_law_works", "_law_due"] (defScope s_Lall) := ⟨rfl, rfl, rfl, by decide +kernel, rfl, by decide +kernel, by decide +kernel⟩
def isFns (S : Sto) (d : D) (ls : List LamV.FnD) : Prop := d = .lst (ls.map .fn) ∨ ∃ m, d = .ref m ∧ S[m]? = some (.lst (ls.map .fn))
def spAllL (told : Told) : DSp := fun ds S P => ∃ (d due : D) (ls : List LamV.FnD), ds = [d, due] ∧ isFns S d ls ∧ pln 4 due = true ∧ (∀ l ∈ ls, ∀ J : Sto, J.all plainO = true → ∀ P' : DP, (∀ J' : Sto, J'.all plainO = true → P' due (S ++ J')) → told l (S ++ J) P') ∧ P (.bl true) S
/-- a def that gets functions, by its name -/
def FnV (P : Program) (w : World) (K : PySem.W.Frag) (mg : Str → Option Value) (base : Heap) (x : Str) (k : Nat) (ps : List Str) (kg : Nat) (g : Addr) (sp : Told → DSp) : Prop :=
  ∃ (f : Addr) (fd : FuncData), mg x = some (.ref f) ∧ PySem.W.keepIn K (.ref f) = true ∧ Binds K fd ps [] ∧ FnOk P w K mg base CX0 k f fd ps (spV P w K mg base kg g sp)
section
variable {P : Program} {w : World} {K : PySem.W.Frag} {mg : Str → Option Value} {base : Heap} {g : Addr}
theorem ok_Lall (at_ : At K mg "_law_all" s_Lall ["_law_works", "_law_due"]) (mb : ∀ x, isB x = true → mg x = none) (hmw : mg "_law_word" = some (.ref g)) (kpw : PySem.W.keepIn K (.ref g) = true) (G_Lalike : Fn P w K mg base "_law_alike" 4 ["_law_found", "_law_due"] (spAlike 4)) : FnV P w K mg base "_law_all" 13 ["_law_works", "_law_due"] 12 g spAllL := by
  obtain ⟨f, fd, h1, F, h3⟩ := at_.ex
  obtain ⟨oc, od, kV, doc, pm, an, cdv, ct, osl, rfl, lk, hc⟩ := F.ex
  refine ⟨f, _, h1, F.kp, h3, fn_dV lk hc sc_Lall (fun told ds S P h => ?_) ?_⟩
  · obtain ⟨d, due, ls, rfl, _⟩ := h
    rfl
  · rintro X W0 A outer s H E rfl hr told tl
    have hu := hr.units
    refine ⟨_, (dss_one (ds_ret (de_cmp (op_eqA hu) do_eq (de_pure (dn_lc (own := [("_law_work", 2)]) (by decide) rfl sc_Lall.nd (di_list (de_var (pv 0))) (blkOk_by (N := N_Lall) (sc := defScope s_Lall) (by decide +kernel)) (fun _ _ _ _ _ => (dg_name (pg_name (i := 2) sc_Lall.nd rfl (Or.inl rfl)))) (fun _ _ _ _ _ => (dts_one (dt_not (dt_val (de_fn G_Lalike (hr.mono (by decide)) (by rfl) (da_cons (de_wordV (by rfl) hmw kpw (hr.mono (by decide)) tl (da_cons (de_var (pv 2)) da_nil)) (da_cons (de_var (pv 1)) da_nil))))))) (fun _ _ _ _ _ => (de_var (pv 2))))) (de_pure (dn_lst da_nil)) (nomark _)))), ?_⟩
    rintro ds S P ⟨d, due, ls, rfl, hd, hp, hl, post⟩
    walk_at "st"
    walk_at "d"
    have main : ∀ ok : Sto → Prop, (∀ J, ok (S ++ J)) → xLc (ls.map .fn) ok S (gNm 2) (dNot (dB (dCall (spAlike 4) (dCons (dWV told (dCons (dVar 2) dNil)) (dCons (dVar 1) dNil))))) (dVar 2) [2] [some d, some due, none] fun ds S' =>
        dPure (dLst dNil) [some d, some due, none] S' fun d2 S2 => dEq (D.lst ds) d2 S2 (exitE S P).rt := fun ok hok => by
      refine ⟨fun i acc S' => acc = [] ∧ ∃ J : Sto, J.all plainO = true ∧ S' = S ++ J, ⟨rfl, [], rfl, by rw [List.append_nil]⟩, ?_, ?_, ?_⟩
      · rintro i acc S' hi ⟨rfl, J, hJ, rfl⟩
        exact ⟨hok J, by decide⟩
      · rintro i x acc S' hx ⟨rfl, J, hJ, rfl⟩
        rw [List.getElem?_map] at hx
        cases el : ls[i]? with
        | none => rw [el] at hx; cases hx
        | some l =>
          rw [el] at hx
          cases hx
          walk_at "d"
          refine ⟨l, rfl, hl l (List.mem_of_getElem? el) J hJ _ fun J' hJ' => ?_⟩
          walk_at "d"
          refine ⟨due, due, rfl, sameD_pln 4 hp, ?_⟩
          walk_at "d"
          refine ite_f Bool.false_ne_true ?_
          exact ⟨rfl, J', hJ', rfl⟩
      · rintro acc S' ⟨rfl, J, hJ, rfl⟩
        walk_at "d"
        refine i_eqP 2 rfl rfl ?_
        exact exit_pure (S := S) (T' := J) rfl (fun _ => rfl) post
    rcases hd with rfl | ⟨m, rfl, hm⟩
    · exact i_xls (main _ fun _ => trivial)
    · exact i_xlsR hm (main _ fun J => by rw [List.getElem?_append_left (List.getElem?_eq_some_iff.mp hm).1]; exact hm)
end
abbrev s_Lcoderow : Stmt := topS 77
abbrev N_Lcoderow : List Str := ["_law_h", "_law_left", "_law_many", "_law_way", "_law_x", "_law_y", "_law_z"]
theorem sc_Lcoderow : FnScope N_Lcoderow ["_law_h", "_law_left", "_law_many"] (defScope s_Lcoderow) := ⟨rfl, rfl, rfl, by decide +kernel, rfl, by decide +kernel, by decide +kernel⟩
abbrev s_Lanycode : Stmt := topS 78
abbrev N_Lanycode : List Str := ["_law_h", "_law_many", "_law_found", "_law_me", "_law_rows", "_law_count", "_law_k", "_law_row"]
theorem sc_Lanycode : FnScope N_Lanycode ["_law_h"] (defScope s_Lanycode) := ⟨rfl, rfl, rfl, by decide +kernel, rfl, by decide +kernel, by decide +kernel⟩
def spCodeRow : DSp := fun ds S P => ∃ (t : Tok) (T : Sto) (l m : Int), ds = [.ref 3, .int l, .int m] ∧ S = hd t ++ T ∧ 0 ≤ l ∧ 1 ≤ m ∧ m ≤ 8 ∧ ∀ (r : CRow) t', r.ok m (l + 1) → P r.e (hd t' ++ T)
def spAnyCode : DSp := fun ds S P => ∃ (t : Tok) (T : Sto), ds = [.ref 3] ∧ S = hd t ++ T ∧ ∀ (p : List CFn) t', codeOk p → (∀ f ∈ p, f.rows.length ≤ 30) → P (cdE p) (hd t' ++ T)
section
variable {P : Program} {w : World} {K : PySem.W.Frag} {mg : Str → Option Value} {base : Heap}
theorem ok_Lcoderow (at_ : At K mg "_law_code_row" s_Lcoderow ["_law_h", "_law_left", "_law_many"]) (mb : ∀ x, isB x = true → mg x = none) (G_Lnext : Fn P w K mg base "_law_next" 1 ["_law_h", "_law_many"] spNext) : Fn P w K mg base "_law_code_row" 2 ["_law_h", "_law_left", "_law_many"] spCodeRow := by
  refine fn_at at_ fun f fd F => fn_d F sc_Lcoderow (fun ds S P h => ?_) ?_
  · obtain ⟨t, T, l, m, rfl, _⟩ := h
    rfl
  · rintro X W0 cdv A outer s H E rfl hr
    have hu := hr.units
    refine ⟨_, (dss_cons (ds_asg (de_tup (da_cons (de_fn G_Lnext (hr.mono (by decide)) (by rfl) (da_cons (de_var (pv 0)) (da_cons de_int da_nil))) (da_cons (de_fn G_Lnext (hr.mono (by decide)) (by rfl) (da_cons (de_var (pv 0)) (da_cons de_int da_nil))) (da_cons (de_fn G_Lnext (hr.mono (by decide)) (by rfl) (da_cons (de_var (pv 0)) (da_cons de_int da_nil))) (da_cons (de_fn G_Lnext (hr.mono (by decide)) (by rfl) (da_cons (de_var (pv 0)) (da_cons de_int da_nil))) da_nil))))) (dg_tup (n := 4) rfl (dgs_cons (dg_name (pg_name (i := 3) sc_Lcoderow.nd rfl (by first | exact Or.inl rfl | exact Or.inr rfl))) (dgs_cons (dg_name (pg_name (i := 4) sc_Lcoderow.nd rfl (by first | exact Or.inl rfl | exact Or.inr rfl))) (dgs_cons (dg_name (pg_name (i := 5) sc_Lcoderow.nd rfl (by first | exact Or.inl rfl | exact Or.inr rfl))) (dgs_cons (dg_name (pg_name (i := 6) sc_Lcoderow.nd rfl (by first | exact Or.inl rfl | exact Or.inr rfl))) dgs_nil))))) (fun h1 h2 => ps_asg h1 h2))
      (dss_cons (ds_if (dt_cmp op_lt do_lt (de_var (pv 3)) de_int (nomark _)) (dss_one (ds_ret (de_tup (da_cons de_str (da_cons (de_var (pv 4)) da_nil))))) dss_nil)
      (dss_cons (ds_if (dt_cmp op_lt do_lt (de_var (pv 3)) de_int (nomark _)) (dss_one (ds_ret (de_tup (da_cons de_str (da_cons (de_var (pv 4)) (da_cons (de_ix (de_pure (dn_lst (da_cons de_int (da_cons (de_fn G_Lnext (hr.mono (by decide)) (by rfl) (da_cons (de_var (pv 0)) (da_cons de_int da_nil))) da_nil)))) (de_fn G_Lnext (hr.mono (by decide)) (by rfl) (da_cons (de_var (pv 0)) (da_cons de_int da_nil))) (fun _ _ => rfl)) da_nil)))))) dss_nil)
      (dss_cons (ds_if (dt_cmp op_lt do_lt (de_var (pv 3)) de_int (nomark _)) (dss_one (ds_ret (de_tup (da_cons de_str (da_cons (de_var (pv 4)) (da_cons (de_var (pv 5)) da_nil)))))) dss_nil)
      (dss_cons (ds_if (dt_cmp op_lt do_lt (de_var (pv 3)) de_int (nomark _)) (dss_one (ds_ret (de_tup (da_cons (de_ix (de_pure (dn_lst (da_cons de_str (da_cons de_str (da_cons de_str da_nil))))) (de_sub (de_var (pv 3)) de_int) (fun _ _ => rfl)) (da_cons (de_var (pv 4)) (da_cons (de_var (pv 5)) (da_cons (de_var (pv 6)) da_nil))))))) dss_nil)
      (dss_cons (ds_if (dt_cmp (op_eqA hu) do_eq (de_var (pv 3)) de_int (nomark _)) (dss_one (ds_ret (de_ix (de_pure (dn_lst (da_cons (de_tup (da_cons de_str da_nil)) (da_cons (de_tup (da_cons de_str da_nil)) da_nil)))) (de_fdiv (de_fn G_Lnext (hr.mono (by decide)) (by rfl) (da_cons (de_var (pv 0)) (da_cons de_int da_nil))) de_int) (fun _ _ => rfl)))) dss_nil)
      (dss_one (ds_ret (de_if (dt_cmp (op_eqA hu) do_eq (de_var (pv 3)) de_int (nomark _)) (de_tup (da_cons de_str (da_cons (de_fn G_Lnext (hr.mono (by decide)) (by rfl) (da_cons (de_var (pv 0)) (da_cons (de_var (pv 2)) da_nil))) da_nil))) (de_tup (da_cons de_str (da_cons (de_var (pv 4)) (da_cons (de_b dc_min (da_cons (de_var (pv 1)) (da_cons (de_fn G_Lnext (hr.mono (by decide)) (by rfl) (da_cons (de_var (pv 0)) (da_cons de_int da_nil))) da_nil)) (fun h => pe_callB (call_min2 rfl) (by rfl) (mb "min" rfl) (by decide +kernel) h)) da_nil))))))))))))), ?_⟩
    rintro ds S P ⟨t, T, l, m, rfl, rfl, l0, m1, m8, post⟩
    walk_at "st"
    walk_at "d"
    refine i_draw (by decide) (by decide) fun way t1 w0 w1 => ?_
    walk_at "d"
    refine i_draw (by decide) (by decide) fun x t2 x0 x1 => ?_
    walk_at "d"
    refine i_draw (by decide) (by decide) fun y t3 y0 y1 => ?_
    walk_at "d"
    refine i_draw (by decide) (by decide) fun z t4 z0 z1 => ?_
    walk_at "d"
    walk_at "e"
    have bx : cb x := ⟨x0, x1⟩
    have bY : cb y := ⟨y0, y1⟩
    have bz : cb z := ⟨z0, z1⟩
    refine ite2 (fun e => ?_) (fun e => ?_)
    · walk_at "d"
      exact exit_hd0 (under_crow · (.say x)) (post (.say x) t4 bx)
    · walk_at "d"
      refine ite2 (fun e => ?_) (fun e => ?_)
      · walk_at "d"
        refine i_draw (by decide) (by decide) fun n t5 n0 n1 => ?_
        walk_at "d"
        refine i_draw (by decide) (by decide) fun j t6 j0 j1 => ?_
        have at_ : ∃ k : Int, L2.atI [D.int 0, D.int n] j = some (.int k) ∧ 0 ≤ k ∧ k < 1000 := by
          rcases (show j = 0 ∨ j = 1 by omega) with rfl | rfl
          · exact ⟨0, rfl, by decide, by decide⟩
          · exact ⟨n, rfl, n0, n1⟩
        obtain ⟨k, hk, k0, k1⟩ := at_
        refine i_ix rfl hk ?_
        walk_at "d"
        exact exit_hd0 (under_crow · (.num x k)) (post (.num x k) t6 ⟨bx, k0, k1⟩)
      · walk_at "d"
        refine ite2 (fun e => ?_) (fun e => ?_)
        · walk_at "d"
          exact exit_hd0 (under_crow · (.copy x y)) (post (.copy x y) t4 ⟨bx, bY⟩)
        · have w7 : ¬ way < 7 := by simpa using e
          walk_at "d"
          refine ite2 (fun e => ?_) (fun e => ?_)
          · have w10 : way < 10 := by simpa using e
            walk_at "d"
            have at_ : ∃ w : Ar, L2.atI [D.str "plus", D.str "less", D.str "times"] (way - 7) = some (.str w.s) := by
              rcases (show way - 7 = 0 ∨ way - 7 = 1 ∨ way - 7 = 2 by omega) with q | q | q <;> rw [q]
              · exact ⟨.plus, rfl⟩
              · exact ⟨.less, rfl⟩
              · exact ⟨.times, rfl⟩
            obtain ⟨w', hw⟩ := at_
            refine i_ix rfl hw ?_
            walk_at "d"
            exact exit_hd0 (under_crow · (.ar w' x y z)) (post (.ar w' x y z) t4 ⟨bx, bY, bz⟩)
          · walk_at "d"
            refine ite2 (fun e => ?_) (fun e => ?_)
            · walk_at "d"
              refine i_draw (by decide) (by decide) fun j t5 j0 j1 => ?_
              walk_at "d"
              have at_ : ∃ r : CRow, L2.atI [D.tup [D.str "rest"], D.tup [D.str "back"]] (j / 3) = some r.e ∧ r.ok m (l + 1) := by
                rcases (show j / 3 = 0 ∨ j / 3 = 1 by omega) with q | q <;> rw [q]
                · exact ⟨.rest, rfl, trivial⟩
                · exact ⟨.back, rfl, trivial⟩
              obtain ⟨r, hr', ro⟩ := at_
              refine i_ix rfl hr' ?_
              exact exit_hd0 (under_crow · r) (post r t5 ro)
            · walk_at "d"
              refine ite2 (fun e => ?_) (fun e => ?_)
              · walk_at "d"
                refine i_draw (by omega) (by omega) fun f t5 f0 f1 => ?_
                walk_at "d"
                exact exit_hd0 (under_crow · (.call f)) (post (.call f) t5 ⟨f0, f1⟩)
              · walk_at "d"
                refine i_draw (by decide) (by decide) fun n t5 n0 n1 => ?_
                walk_at "d"
                refine exit_hd0 (under_crow · (.skip x _)) (post (.skip x _) t5 ⟨bx, ?_, ?_⟩)
                · split <;> omega
                · split <;> omega
theorem ok_Lanycode (at_ : At K mg "_law_any_code" s_Lanycode ["_law_h"]) (mb : ∀ x, isB x = true → mg x = none) (G_Lnext : Fn P w K mg base "_law_next" 1 ["_law_h", "_law_many"] spNext) (G_Lcoderow : Fn P w K mg base "_law_code_row" 2 ["_law_h", "_law_left", "_law_many"] spCodeRow) : Fn P w K mg base "_law_any_code" 3 ["_law_h"] spAnyCode := by
  refine fn_at at_ fun f fd F => fn_d F sc_Lanycode (fun ds S P h => ?_) ?_
  · obtain ⟨t, T, rfl, _⟩ := h
    rfl
  · rintro X W0 cdv A outer s H E rfl hr
    have hu := hr.units
    refine ⟨_, (dss_cons (ds_par (i := 1) (j := 2) (da_cons (de_add de_int (de_fn G_Lnext (hr.mono (by decide)) (by rfl) (da_cons (de_var (pv 0)) (da_cons de_int da_nil)))) (da_cons (de_new (dn_lst da_nil)) da_nil)) (fun h => ps_par (by rfl) sc_Lanycode.nd rfl rfl (by decide) rfl rfl h (by rfl)))
      (dss_cons (ds_for PassesOwn.never rfl (di_range1 (by rfl) (mb "range" rfl) (da_cons (de_var (pv 1)) da_nil)) (dg_name (pg_name (i := 3) sc_Lanycode.nd rfl (by first | exact Or.inl rfl | exact Or.inr rfl))) (dss_cons (ds_par (i := 4) (j := 5) (da_cons (de_new (dn_lst da_nil)) (da_cons (de_fn G_Lnext (hr.mono (by decide)) (by rfl) (da_cons (de_var (pv 0)) (da_cons (de_ix (de_pure (dn_lst (da_cons de_int (da_cons de_int da_nil)))) (de_fn G_Lnext (hr.mono (by decide)) (by rfl) (da_cons (de_var (pv 0)) (da_cons de_int da_nil))) (fun _ _ => rfl)) da_nil))) da_nil)) (fun h => ps_par (by rfl) sc_Lanycode.nd rfl rfl (by decide) rfl rfl h (by rfl)))
      (dss_cons (ds_for PassesOwn.never rfl (di_range1 (by rfl) (mb "range" rfl) (da_cons (de_var (pv 5)) da_nil)) (dg_name (pg_name (i := 6) sc_Lanycode.nd rfl (by first | exact Or.inl rfl | exact Or.inr rfl))) (dss_cons (ds_set (i := 7) (de_fn G_Lcoderow (hr.mono (by decide)) (by rfl) (da_cons (de_var (pv 0)) (da_cons (de_sub (de_sub (de_var (pv 5)) de_int) (de_var (pv 6))) (da_cons (de_var (pv 1)) da_nil)))) (fun h => ps_set sc_Lanycode.nd rfl (by first | exact Or.inl rfl | exact Or.inr rfl) h))
      (dss_cons (ds_if (dt_cmp (op_eqA hu) do_eq (de_ix (de_var (pv 7)) de_int (fun _ _ => rfl)) de_str (nomark _)) (dss_one (ds_set (i := 7) (de_if (dt_cmp op_lt do_lt (de_add (de_var (pv 3)) de_int) (de_var (pv 1)) (nomark _)) (de_tup (da_cons de_str (da_cons (de_add (de_add (de_var (pv 3)) de_int) (de_mod (de_ix (de_var (pv 7)) de_int (fun _ _ => rfl)) (de_sub (de_sub (de_var (pv 1)) (de_var (pv 3))) de_int))) da_nil))) (de_tup (da_cons de_str (da_cons de_int da_nil)))) (fun h => ps_set sc_Lanycode.nd rfl (by first | exact Or.inl rfl | exact Or.inr rfl) h))) dss_nil)
      (dss_one (ds_expr (de_mt dm_append (de_var (pv 4)) (da_cons (de_var (pv 7)) da_nil) (fun h1 h2 => pe_bm PySem.F.plainAttrs_list PySem.F.slot_list_append PySem.F.type_list_append mt_append h1 h2)))))))
      (dss_one (ds_expr (de_mt dm_append (de_var (pv 2)) (da_cons (de_tup (da_cons (de_fn G_Lnext (hr.mono (by decide)) (by rfl) (da_cons (de_var (pv 0)) (da_cons de_int da_nil))) (da_cons (de_b dc_tuple (da_cons (de_var (pv 4)) da_nil) (fun h => pe_callTy call_tuple_of (by rfl) (mb "tuple" rfl) (by decide +kernel) h)) da_nil))) da_nil) (fun h1 h2 => pe_bm PySem.F.plainAttrs_list PySem.F.slot_list_append PySem.F.type_list_append mt_append h1 h2)))))))
      (dss_cons (ds_if (dt_cmp (op_eqA hu) do_eq (de_fn G_Lnext (hr.mono (by decide)) (by rfl) (da_cons (de_var (pv 0)) (da_cons de_int da_nil))) de_int (nomark _)) (dss_cons (ds_set (i := 4) (de_tup (da_cons (de_tup (da_cons de_str (da_cons de_int da_nil))) (da_cons (de_tup (da_cons de_str (da_cons de_int (da_cons de_int da_nil)))) (da_cons (de_tup (da_cons de_str (da_cons de_int (da_cons de_int da_nil)))) (da_cons (de_tup (da_cons de_str (da_cons de_int (da_cons de_int (da_cons de_int da_nil))))) (da_cons (de_tup (da_cons de_str (da_cons de_int (da_cons de_int da_nil)))) (da_cons (de_tup (da_cons de_str (da_cons (de_sub (de_var (pv 1)) de_int) da_nil))) da_nil))))))) (fun h => ps_set sc_Lanycode.nd rfl (by first | exact Or.inl rfl | exact Or.inr rfl) h))
      (dss_one (ds_asg (de_tup (da_cons de_int (da_cons (de_add (de_var (pv 4)) (de_tup (da_cons (de_tup (da_cons de_str (da_cons de_int (da_cons de_int (da_cons de_int da_nil))))) (da_cons (de_tup (da_cons de_str (da_cons de_int da_nil))) (da_cons (de_tup (da_cons de_str (da_cons de_int (da_cons de_int da_nil)))) da_nil))))) da_nil))) (dg_sub (de_var (pv 2)) (de_neg de_int) (fun h1 h2 => pg_sub h1 h2 set_list)) (fun h1 h2 => ps_asg h1 h2)))) dss_nil)
      (dss_one (ds_ret (de_b dc_tuple (da_cons (de_var (pv 2)) da_nil) (fun h => pe_callTy call_tuple_of (by rfl) (mb "tuple" rfl) (by decide +kernel) h))))))), ?_⟩
    rintro ds S P ⟨t, T, rfl, rfl, post⟩
    walk_at "st"
    walk_at "d"
    refine i_draw (by decide) (by decide) fun m t1 m0 m1 => ?_
    walk_at "d"
    walk_at "e"
    rw [show (hd t1 ++ T ++ [O.lst []] : Sto) = hd t1 ++ (T ++ [O.lst []]) by simp, show (hd t1 ++ T).length = 4 + T.length + 0 by simp [hd]; omega]
    refine i_rg1 (by omega) (by omega) ?_
    refine ⟨fun i env S => ∃ (fs : List CFn) (t' : Tok) (G : Sto) (y3 y4 y5 y6 y7 : Option D), env = [some (.ref 3), some (.int (1 + m)), some (.ref (4 + T.length + 0)), y3, y4, y5, y6, y7] ∧ S = hd t' ++ (T ++ G) ∧ G[0]? = some (.lst (fs.map CFn.e)) ∧ fs.length = i ∧ ∀ f ∈ fs, (f.ok (1 + m) ∧ f.rows.length ≤ 30), ⟨[], t1, [O.lst []], none, none, none, none, none, rfl, rfl, rfl, rfl, fun _ h => nomatch h⟩, fun _ _ _ _ _ => trivial, ?_, ?_⟩
    · rintro i x env S hx ⟨fs, t2, G, y3, y4, y5, y6, y7, rfl, rfl, hG, hl, hf⟩
      obtain ⟨hi, rfl⟩ := rangeD_get hx
      have hgl := (List.getElem?_eq_some_iff.mp hG).1
      walk_at "d"
      walk_at "e"
      rw [app_g, len_g]
      refine i_draw (by decide) (by decide) fun j t3 j0 j1 => ?_
      have at1 : ∃ n : Int, L2.atI [D.int 6, D.int 20] j = some (.int n) ∧ 0 < n ∧ n ≤ 20 := by
        rcases (show j = 0 ∨ j = 1 by omega) with rfl | rfl
        · exact ⟨6, rfl, by decide, by decide⟩
        · exact ⟨20, rfl, by decide, by decide⟩
      obtain ⟨n, hn, n0, n1⟩ := at1
      refine i_ix rfl hn ?_
      walk_at "d"
      refine i_draw n0 (by omega) fun c t4 c0 c1 => ?_
      walk_at "d"
      walk_at "e"
      refine i_rg1 (by omega) (by omega) ?_
      have hR : ∀ (t' : Tok) (xs : List D), (hd t' ++ (T ++ (G ++ [O.lst xs])))[4 + T.length + G.length]? = some (O.lst xs) := fun t' xs => by
        rw [get_g, List.getElem?_append_right (Nat.le_refl _), Nat.sub_self]
        rfl
      refine ⟨fun k env S => ∃ (rs : List CRow) (t' : Tok) (z6 z7 : Option D), env = [some (.ref 3), some (.int (1 + m)), some (.ref (4 + T.length + 0)), some (.int (0 + (i : Int))), some (.ref (4 + T.length + G.length)), some (.int c), z6, z7] ∧ S = hd t' ++ (T ++ (G ++ [O.lst (rs.map CRow.e)])) ∧ rs.length = k ∧ ∀ (j : Nat) r, rs[j]? = some r → r.ok (1 + m) (c - j), ⟨[], t4, _, _, rfl, rfl, rfl, fun j r h => by simp at h⟩, fun _ _ _ _ _ => trivial, ?_, ?_⟩
      · rintro k x env S hx ⟨rs, t5, z6, z7, rfl, rfl, hk, hrs⟩
        obtain ⟨hkc, rfl⟩ := rangeD_get hx
        have grow : ∀ (t' : Tok) (q : CRow) (z6 z7 : Option D), q.ok (1 + m) (c - k) → mAppend (.ref (4 + T.length + G.length)) [q.e] (hd t' ++ (T ++ (G ++ [O.lst (rs.map CRow.e)]))) fun _ S1 => ∃ (rs : List CRow) (t'' : Tok) (z6' z7' : Option D),
            [some (D.ref 3), some (.int (1 + m)), some (.ref (4 + T.length + 0)), some (.int (0 + (i : Int))), some (.ref (4 + T.length + G.length)), some (.int c), z6, z7] = [some (D.ref 3), some (.int (1 + m)), some (.ref (4 + T.length + 0)), some (.int (0 + (i : Int))), some (.ref (4 + T.length + G.length)), some (.int c), z6', z7'] ∧ S1 = hd t'' ++ (T ++ (G ++ [O.lst (rs.map CRow.e)])) ∧ rs.length = k + 1 ∧ ∀ (j : Nat) r, rs[j]? = some r → r.ok (1 + m) (c - j) := fun t' q z6 z7 hq => by
          refine i_append (hR _ _) (sz_lt (by rw [List.length_map]; omega)) ?_
          rw [set_g, List.set_append_right _ _ (Nat.le_refl _), Nat.sub_self]
          refine ⟨rs ++ [q], t', z6, z7, rfl, by simp, by simp [hk], fun j r hj => ?_⟩
          by_cases hjl : j < rs.length
          · rw [List.getElem?_append_left hjl] at hj
            exact hrs j r hj
          · have : j = k := by
              have := (List.getElem?_eq_some_iff.mp hj).1
              simp at this
              omega
            subst this
            rw [List.getElem?_append_right (by omega), hk, Nat.sub_self] at hj
            cases hj
            exact hq
        walk_at "d"
        walk_at "e"
        refine ⟨t5, T ++ (G ++ [O.lst (rs.map CRow.e)]), _, _, rfl, rfl, by omega, by omega, by omega, fun r t6 hr => ?_⟩
        rw [show c - 1 - (0 + (k : Int)) + 1 = c - k by omega] at hr
        walk_at "d"
        walk_at "e"
        cases r with
        | call f =>
          dsimp only [CRow.e]
          walk_at "d"
          refine ite_t (by decide) ?_
          walk_at "d"
          refine ite2 (fun e => ?_) (fun e => ?_)
          · have e : (0 + (i : Int)) + 1 < 1 + m := by simpa using e
            walk_at "d"
            refine i_mtx (hR _ _) ?_
            walk_at "d"
            have q0 := Int.emod_nonneg f (show 1 + m - (0 + (i : Int)) - 1 ≠ 0 by omega)
            have q1 := Int.emod_lt_of_pos f (show 0 < 1 + m - (0 + (i : Int)) - 1 by omega)
            exact grow t6 (.call _) _ _ ⟨by omega, by omega⟩
          · walk_at "d"
            refine i_mtx (hR _ _) ?_
            walk_at "d"
            exact grow t6 (.say 15) _ _ ⟨by decide, by decide⟩
        | ar w' b c' d' =>
          dsimp only [CRow.e]
          walk_at "d"
          refine ite_f (by cases w' <;> decide) ?_
          walk_at "d"
          refine i_mtx (hR _ _) ?_
          walk_at "d"
          exact grow t6 (.ar w' b c' d') _ _ hr
        | _ =>
          dsimp only [CRow.e]
          walk_at "d"
          refine ite_f (by decide) ?_
          walk_at "d"
          refine i_mtx (hR _ _) ?_
          walk_at "d"
          exact grow t6 _ _ _ hr
      · rintro env S ⟨rs, t5, z6, z7, rfl, rfl, hk, hrs⟩
        rw [rangeD_len] at hk
        walk_at "d"
        have hF : ∀ (t' : Tok), (hd t' ++ (T ++ (G ++ [O.lst (rs.map CRow.e)])))[4 + T.length + 0]? = some (O.lst (fs.map CFn.e)) := fun t' => by
          rw [get_g, List.getElem?_append_left hgl, hG]
        refine i_mtx (hF _) ?_
        walk_at "d"
        refine i_draw (by decide) (by decide) fun a t6 a0 a1 => ?_
        walk_at "d"
        refine i_tuple (show seqOf _ _ = some (rs.map CRow.e) by simp only [seqOf, lstOf, hR]) ?_
        walk_at "d"
        refine i_append (hF _) (sz_lt (by rw [List.length_map]; omega)) ?_
        rw [set_g, List.set_append_left _ _ hgl]
        refine ⟨fs ++ [⟨a, rs⟩], t6, _, _, _, _, _, _, rfl, rfl, ?_, by simp [hl], fun f hf' => ?_⟩
        · rw [List.getElem?_append_left (by rw [List.length_set]; exact hgl), List.getElem?_set_self hgl, List.map_append]
          rfl
        · rcases List.mem_append.mp hf' with hf' | hf'
          · exact hf f hf'
          · rw [List.mem_singleton.mp hf']
            refine ⟨⟨a0, by show a ≤ 3; omega, by show rs.length ≤ 200; omega, fun j r hj => ?_⟩, by show rs.length ≤ 30; omega⟩
            have := hrs j r hj
            have e : ((rs.length : Nat) : Int) = c := by omega
            show r.ok (1 + m) ((rs.length : Int) - j)
            rw [e]
            exact this
    · rintro env S ⟨fs, t2, G, y3, y4, y5, y6, y7, rfl, rfl, hG, hl, hf⟩
      rw [rangeD_len] at hl
      have hgl := (List.getElem?_eq_some_iff.mp hG).1
      have hF : ∀ (t' : Tok), (hd t' ++ (T ++ G))[4 + T.length + 0]? = some (O.lst (fs.map CFn.e)) := fun t' => by rw [get_g, hG]
      have fe : ((fs.length : Nat) : Int) = 1 + m := by omega
      walk_at "d"
      refine i_draw (by decide) (by decide) fun r0 t3 r00 r01 => ?_
      walk_at "d"
      refine ite2 (fun e => ?_) (fun e => ?_)
      · walk_at "d"
        walk_at "e"
        walk_at "d"
        refine i_set (hF _) (show ixN (fs.map CFn.e).length (-1) = some (fs.length - 1) from ?_) ?_
        · unfold ixN
          rw [List.length_map, if_neg (by decide), if_pos (by omega)]
          congr 1
          omega
        rw [set_g]
        walk_at "d"
        have hF2 : ∀ xs : List D, (hd t3 ++ (T ++ G.set 0 (O.lst xs)))[4 + T.length + 0]? = some (O.lst xs) := fun xs => by rw [get_g, List.getElem?_set_self hgl]
        refine i_tuple (show seqOf _ _ = some _ by simp only [seqOf, lstOf]; rw [hF2]) ?_
        show atExit (hd t ++ T) P (.tup ((fs.map CFn.e).set (fs.length - 1) (CFn.e ⟨1, [.say 0, .num 11 1, .copy 12 0, .ar .less 12 12 11, .skip 0 1, .call (1 + m - 1), .ar .plus 0 0 12, .say 5, .copy 13 6]⟩))) _
        rw [← List.map_set]
        refine exit_hd (t' := t3) (T' := G.set 0 (O.lst ((fs.set (fs.length - 1) ⟨1, [.say 0, .num 11 1, .copy 12 0, .ar .less 12 12 11, .skip 0 1, .call (1 + m - 1), .ar .plus 0 0 12, .say 5, .copy 13 6]⟩).map CFn.e))) (by rw [List.append_assoc, List.map_set]; rfl) (fun n => unders_map n (fun f => ?_) _) (post (fs.set (fs.length - 1) ⟨1, [.say 0, .num 11 1, .copy 12 0, .ar .less 12 12 11, .skip 0 1, .call (1 + m - 1), .ar .plus 0 0 12, .say 5, .copy 13 6]⟩) t3 ⟨by rw [List.length_set]; omega, by rw [List.length_set]; omega, fun f hf' => ?_⟩ (fun f hf' => (by
          rcases List.mem_or_eq_of_mem_set hf' with hf' | rfl
          · exact (hf f hf').2
          · exact (by decide : 9 ≤ 30))))
        · show (true && (unders n (f.rows.map CRow.e) && true)) = true
          rw [unders_map n (under_crow n)]
          rfl
        · rw [List.length_set, fe]
          rcases List.mem_or_eq_of_mem_set hf' with hf' | rfl
          · exact (hf f hf').1
          · refine ⟨(by show (0 : Int) ≤ 1; decide), (by show (1 : Int) ≤ 3; decide), (by show 9 ≤ 200; decide), fun j r hj => ?_⟩
            have hj9 := (List.getElem?_eq_some_iff.mp hj).1
            simp only [List.length_cons, List.length_nil] at hj9
            have cc : ∀ x : Int, (x = 0 ∨ x = 11 ∨ x = 12 ∨ x = 5 ∨ x = 13 ∨ x = 6) → cb x := fun x h => by rcases h with rfl | rfl | rfl | rfl | rfl | rfl <;> exact ⟨by decide, by decide⟩
            rcases (show j = 0 ∨ j = 1 ∨ j = 2 ∨ j = 3 ∨ j = 4 ∨ j = 5 ∨ j = 6 ∨ j = 7 ∨ j = 8 by omega) with rfl | rfl | rfl | rfl | rfl | rfl | rfl | rfl | rfl <;> cases hj
            · exact cc _ (by decide)
            · exact ⟨cc _ (by decide), by decide, by decide⟩
            · exact ⟨cc _ (by decide), cc _ (by decide)⟩
            · exact ⟨cc _ (by decide), cc _ (by decide), cc _ (by decide)⟩
            · exact ⟨cc _ (by decide), by decide, (by show (1 : Int) < 9 - 4; decide)⟩
            · exact ⟨by omega, by omega⟩
            · exact ⟨cc _ (by decide), cc _ (by decide), cc _ (by decide)⟩
            · exact cc _ (by decide)
            · exact ⟨cc _ (by decide), cc _ (by decide)⟩
      · walk_at "d"
        refine i_tuple (show seqOf _ _ = some (fs.map CFn.e) by simp only [seqOf, lstOf, hF]) ?_
        refine exit_hd (t' := t3) (T' := G) (by simp) (fun n => unders_map n (fun f => ?_) fs) (post fs t3 ⟨by omega, by omega, fun f hf' => ?_⟩ (fun f hf' => (hf f hf').2))
        · show (true && (unders n (f.rows.map CRow.e) && true)) = true
          rw [unders_map n (under_crow n)]
          rfl
        · rw [fe]
          exact (hf f hf').1
end
abbrev s_Lrounds : Stmt := topS 79
abbrev N_Lrounds : List Str := ["_law_h", "_law_many"]
theorem sc_Lrounds : FnScope N_Lrounds ["_law_h"] (defScope s_Lrounds) := ⟨rfl, rfl, rfl, by decide +kernel, rfl, by decide +kernel, by decide +kernel⟩
def spRounds : DSp := fun ds S P => ∃ t T, ds = [.ref 3] ∧ S = hd t ++ T ∧ ∀ m a b t', 2 ≤ m → m ≤ 8 → 1 ≤ a → a < m → 1 ≤ b → b < m → P (.tup [.int m, .tup [.int a, .int b]]) (hd t' ++ T)
section
variable {P : Program} {w : World} {K : PySem.W.Frag} {mg : Str → Option Value} {base : Heap}
theorem ok_Lrounds (at_ : At K mg "_law_rounds" s_Lrounds ["_law_h"]) (G_Lnext : Fn P w K mg base "_law_next" 1 ["_law_h", "_law_many"] spNext) : Fn P w K mg base "_law_rounds" 2 ["_law_h"] spRounds := by
  refine fn_at at_ fun f fd F => fn_d F sc_Lrounds (fun ds S P h => ?_) ?_
  · obtain ⟨t, T, rfl, _⟩ := h
    rfl
  · rintro X W0 cdv A outer s H E rfl hr
    have hu := hr.units
    refine ⟨_, (dss_cons (ds_set (i := 1) (de_ix (de_pure (dn_lst (da_cons de_int (da_cons de_int (da_cons (de_add de_int (de_fn G_Lnext (hr.mono (by decide)) (by rfl) (da_cons (de_var (pv 0)) (da_cons de_int da_nil)))) da_nil))))) (de_fn G_Lnext (hr.mono (by decide)) (by rfl) (da_cons (de_var (pv 0)) (da_cons de_int da_nil))) (fun _ _ => rfl)) (fun h => ps_set sc_Lrounds.nd rfl (by first | exact Or.inl rfl | exact Or.inr rfl) h))
      (dss_one (ds_ret (de_tup (da_cons (de_var (pv 1)) (da_cons (de_tup (da_cons (de_add de_int (de_fn G_Lnext (hr.mono (by decide)) (by rfl) (da_cons (de_var (pv 0)) (da_cons (de_sub (de_var (pv 1)) de_int) da_nil)))) (da_cons (de_add de_int (de_fn G_Lnext (hr.mono (by decide)) (by rfl) (da_cons (de_var (pv 0)) (da_cons (de_sub (de_var (pv 1)) de_int) da_nil)))) da_nil))) da_nil)))))), ?_⟩
    rintro ds S P ⟨t, T, rfl, rfl, post⟩
    walk_at "st"
    walk_at "d"
    refine i_draw (by decide) (by decide) fun r1 t1 r10 r11 => ?_
    walk_at "d"
    refine i_draw (by decide) (by decide) fun r2 t2 r20 r21 => ?_
    walk_at "d"
    have key : ∃ m : Int, 2 ≤ m ∧ m ≤ 8 ∧ L2.atI [D.int 2, .int 3, .int (2 + r1)] r2 = some (.int m) := by
      rcases (show r2 = 0 ∨ r2 = 1 ∨ r2 = 2 by omega) with rfl | rfl | rfl
      · exact ⟨2, by decide, by decide, rfl⟩
      · exact ⟨3, by decide, by decide, rfl⟩
      · exact ⟨2 + r1, by omega, by omega, rfl⟩
    obtain ⟨m, m2, m8, hm⟩ := key
    refine i_ix rfl hm ?_
    walk_at "d"
    refine i_draw (by omega) (by omega) fun r3 t3 r30 r31 => ?_
    walk_at "d"
    refine i_draw (by omega) (by omega) fun r4 t4 r40 r41 => ?_
    walk_at "d"
    exact exit_hd0 (fun _ => rfl) (post m (1 + r3) (1 + r4) t4 m2 m8 (by omega) (by omega) (by omega) (by omega))
end
/-- the drawing state, what stands behind it, and a list that is made -/
def lS (t : Tok) (T : Sto) (xs : List D) : Sto := hd t ++ (T ++ [.lst xs])
section
variable {t : Tok} {T : Sto} {xs : List D}
theorem ls_at : (lS t T xs)[T.length + 4]? = some (.lst xs) := by
  show (T ++ [O.lst xs])[T.length]? = _
  rw [List.getElem?_append_right (Nat.le_refl _), Nat.sub_self]
  rfl
theorem ls_its : itemsOf (lS t T xs) (.ref (T.length + 4)) = some xs := by simp only [itemsOf, seqOf, lstOf, ls_at]
theorem ls_seq : seqOf (lS t T xs) (.ref (T.length + 4)) = some xs := by simp only [seqOf, lstOf, ls_at]
theorem ls_put {ys : List D} : (lS t T xs).set (T.length + 4) (.lst ys) = lS t T ys := by
  show O.tab 770 "law.<locals>.<lambda>" :: O.tab 763 "_law_machine_right.<locals>.<lambda>" :: O.lst (t.cells.map .int) :: O.lst [.int t.m, .ref 2, .int t.n] :: (T ++ [O.lst xs]).set T.length _ = _
  rw [List.set_append_right _ _ (Nat.le_refl _), Nat.sub_self]
  rfl
theorem ls_draw {k : Int} {P : DP} (h0 : 0 < k) (h1 : k < 1073741824) (q : ∀ r t', 0 ≤ r → r < k → P (.int r) (lS t' T xs)) : spNext [.ref 3, .int k] (lS t T xs) P := i_draw h0 h1 q
theorem ls_new : hd t ++ T ++ [O.lst xs] = lS t T xs := by unfold lS; rw [List.append_assoc]
theorem ls_len : (hd t ++ T).length = T.length + 4 := by rw [List.length_append, hd_len]; omega
end
abbrev s_Lodd : Stmt := topS 83
abbrev N_Lodd : List Str := ["_law_h", "_law_row", "_law_left", "_law_many", "_law_far", "_law_some"]
theorem sc_Lodd : FnScope N_Lodd ["_law_h", "_law_row", "_law_left", "_law_many"] (defScope s_Lodd) := ⟨rfl, rfl, rfl, by decide +kernel, rfl, by decide +kernel, by decide +kernel⟩
def isOdd (left : Int) (ms : List Int) (d : D) : Prop := dat d = true ∧ rcan cdSh 16 (left + 1) ms d = false ∧ ∀ n, d.under n = true
def spOdd : DSp := fun ds S P => ∃ (t : Tok) (T : Sto) (r : CRow) (left : Int) (ms : List Int), ds = [.ref 3, r.e, .int left, .int ms.length] ∧ S = hd t ++ T ∧ 0 ≤ left ∧ left < 1000 ∧ 0 < ms.length ∧ ms.length ≤ 8 ∧
  ∀ d t', isOdd left ms d → P d (hd t' ++ T)
theorem row_form (r : CRow) : ∃ (w : Str) (ps : List D) (ks : List Str), r.e = .tup (.str w :: ps) ∧ cdSh.lookup w = some ks ∧ ps.length = ks.length ∧ dats ps = true ∧ ps.length ≤ 3 ∧ ∀ n, unders n ps = true := by
  cases r with
  | num x y => exact ⟨"num", [.int x, .int y], ["box", "number"], rfl, rfl, rfl, rfl, by simp, fun _ => rfl⟩
  | copy x y => exact ⟨"copy", [.int x, .int y], ["box", "box"], rfl, rfl, rfl, rfl, by simp, fun _ => rfl⟩
  | ar w' x y z => cases w' <;> exact ⟨_, [.int x, .int y, .int z], ["box", "box", "box"], rfl, rfl, rfl, rfl, by simp, fun _ => rfl⟩
  | call f => exact ⟨"call", [.int f], ["function"], rfl, rfl, rfl, rfl, by simp, fun _ => rfl⟩
  | skip x y => exact ⟨"skip", [.int x, .int y], ["box", "count"], rfl, rfl, rfl, rfl, by simp, fun _ => rfl⟩
  | say x => exact ⟨"say", [.int x], ["box"], rfl, rfl, rfl, rfl, by simp, fun _ => rfl⟩
  | rest => exact ⟨"rest", [], [], rfl, rfl, rfl, rfl, by simp, fun _ => rfl⟩
  | back => exact ⟨"back", [], [], rfl, rfl, rfl, rfl, by simp, fun _ => rfl⟩
def oddL (w : Str) (ps : List D) (far left many : Int) : List D :=
  [.tup [], .tup (.str w :: ps ++ [.int 0]), .tup (.str "none" :: ps), .tup [.str "rest", .int 0], .tup [.str "back", .int 0], .tup [.str "num", .int (16 + far), .int 0], .tup [.str "num", .int 0, .int (1000 + far)],
   .tup [.str "copy", .int 0, .int 16], .tup [.str "copy", .int (-1), .int 0], .tup [.str "plus", .int 0, .int 16, .int 0], .tup [.str "less", .int 0, .int 0, .int (-1)], .tup [.str "times", .int 16, .int 0, .int 0],
   .tup [.str "call", .int (many + far)], .tup [.str "call", .int (-1)], .tup [.str "call"], .tup [.str "skip", .int 0, .int (left + 1)], .tup [.str "skip", .int 16, .int 0], .tup [.str "say", .int 16],
   .tup [.str "tell", .int 0], .tup [.str "skip", .int 0, .int (-1)]]
theorem inB_no {b v : Int} (h : ¬ (0 ≤ v ∧ v < b)) : inB b (.int v) = false := by
  show (decide (0 ≤ v) && decide (v < b)) = false
  by_cases h0 : 0 ≤ v
  · rw [decide_eq_false fun z => h ⟨h0, z⟩, Bool.and_false]
  · rw [decide_eq_false h0, Bool.false_and]
theorem dats_snoc {ps : List D} (hd : dats ps = true) : dats (ps ++ [.int 0]) = true := by
  induction ps with
  | nil => rfl
  | cons x xs ih =>
    obtain ⟨h1, h2⟩ := Bool.and_eq_true_iff.mp (show (dat x && dats xs) = true from hd)
    exact Bool.and_eq_true_iff.mpr ⟨h1, ih h2⟩
theorem unders_snoc {n : Nat} : ∀ {ps : List D}, unders n ps = true → unders n (ps ++ [.int 0]) = true
  | [], _ => rfl
  | x :: xs, h => by
    obtain ⟨h1, h2⟩ := Bool.and_eq_true_iff.mp (show (x.under n && unders n xs) = true from h)
    exact Bool.and_eq_true_iff.mpr ⟨h1, unders_snoc h2⟩
theorem oddL_bad {w : Str} {ps : List D} {ks : List Str} {far left : Int} {ms : List Int} (hw : cdSh.lookup w = some ks) (hl : ps.length = ks.length) (hd : dats ps = true) (hu : ∀ n, unders n ps = true) (f0 : 0 ≤ far) (l0 : 0 ≤ left) : ∀ d ∈ oddL w ps far left ms.length, isOdd left ms d := by
  intro d hd'
  simp only [oddL, List.mem_cons, List.not_mem_nil, or_false] at hd'
  rcases hd' with rfl | rfl | rfl | rfl | rfl | rfl | rfl | rfl | rfl | rfl | rfl | rfl | rfl | rfl | rfl | rfl | rfl | rfl | rfl | rfl
  · exact ⟨rfl, rfl, fun _ => rfl⟩
  · refine ⟨dats_snoc hd, ?_, fun n => unders_snoc (hu n)⟩
    show (match cdSh.lookup w with | some ks => decide ((ps ++ [D.int 0]).length = ks.length) && partsOk 16 (left + 1) ms (ps ++ [.int 0]) ks (ps ++ [.int 0]) | none => false) = false
    rw [hw]
    dsimp only
    rw [decide_eq_false (by rw [List.length_append, List.length_cons, List.length_nil]; omega), Bool.false_and]
  · exact ⟨hd, rfl, hu⟩
  · exact ⟨rfl, rfl, fun _ => rfl⟩
  · exact ⟨rfl, rfl, fun _ => rfl⟩
  · refine ⟨rfl, ?_, fun _ => rfl⟩
    show (true && (inB 16 (.int (16 + far)) && (inB 1000 (.int 0) && true))) = false
    rw [inB_no (by omega)]
    rfl
  · refine ⟨rfl, ?_, fun _ => rfl⟩
    show (true && (true && (inB 1000 (.int (1000 + far)) && true))) = false
    rw [inB_no (by omega)]
    rfl
  · exact ⟨rfl, rfl, fun _ => rfl⟩
  · exact ⟨rfl, rfl, fun _ => rfl⟩
  · exact ⟨rfl, rfl, fun _ => rfl⟩
  · exact ⟨rfl, rfl, fun _ => rfl⟩
  · exact ⟨rfl, rfl, fun _ => rfl⟩
  · refine ⟨rfl, ?_, fun _ => rfl⟩
    show (true && (inB (ms.length : Int) (.int (ms.length + far)) && true)) = false
    rw [inB_no (by omega)]
    rfl
  · refine ⟨rfl, ?_, fun _ => rfl⟩
    show (true && (inB (ms.length : Int) (.int (-1)) && true)) = false
    rw [inB_no (by omega)]
    rfl
  · exact ⟨rfl, rfl, fun _ => rfl⟩
  · refine ⟨rfl, ?_, fun _ => rfl⟩
    show (true && (true && (inB (left + 1) (.int (left + 1)) && true))) = false
    rw [inB_no (by omega)]
    rfl
  · exact ⟨rfl, rfl, fun _ => rfl⟩
  · exact ⟨rfl, rfl, fun _ => rfl⟩
  · exact ⟨rfl, rfl, fun _ => rfl⟩
  · refine ⟨rfl, ?_, fun _ => rfl⟩
    show (true && (true && (inB (left + 1) (.int (-1)) && true))) = false
    rw [inB_no (by omega)]
    rfl
section
variable {P : Program} {w : World} {K : PySem.W.Frag} {mg : Str → Option Value} {base : Heap}
theorem ok_Lodd (at_ : At K mg "_law_odd" s_Lodd ["_law_h", "_law_row", "_law_left", "_law_many"]) (mb : ∀ x, isB x = true → mg x = none) (G_Lnext : Fn P w K mg base "_law_next" 1 ["_law_h", "_law_many"] spNext) : Fn P w K mg base "_law_odd" 2 ["_law_h", "_law_row", "_law_left", "_law_many"] spOdd := by
  refine fn_at at_ fun f fd F => fn_d F sc_Lodd (fun ds S P h => ?_) ?_
  · obtain ⟨t, T, r, left, ms, rfl, _⟩ := h
    rfl
  · rintro X W0 cdv A outer s H E rfl hr
    have hu := hr.units
    refine ⟨_, (dss_cons (ds_set (i := 4) (de_fn G_Lnext (hr.mono (by decide)) (by rfl) (da_cons (de_var (pv 0)) (da_cons (de_pow de_int de_int) da_nil))) (fun h => ps_set sc_Lodd.nd rfl (by first | exact Or.inl rfl | exact Or.inr rfl) h))
      (dss_cons (ds_set (i := 5) (de_pure (dn_lst (da_cons (de_tup da_nil) (da_cons (de_add (de_var (pv 1)) (de_tup (da_cons de_int da_nil))) (da_cons (de_add (de_tup (da_cons de_str da_nil)) (de_sliceT (de_var (pv 1)) (do_some de_int) do_none)) (da_cons (de_tup (da_cons de_str (da_cons de_int da_nil))) (da_cons (de_tup (da_cons de_str (da_cons de_int da_nil))) (da_cons (de_tup (da_cons de_str (da_cons (de_add de_int (de_var (pv 4))) (da_cons de_int da_nil)))) (da_cons (de_tup (da_cons de_str (da_cons de_int (da_cons (de_add de_int (de_var (pv 4))) da_nil)))) da_nil))))))))) (fun h => ps_set sc_Lodd.nd rfl (by first | exact Or.inl rfl | exact Or.inr rfl) h))
      (dss_cons (ds_set (i := 5) (de_pure (dn_add (de_var (pv 5)) (de_pure (dn_lst (da_cons (de_tup (da_cons de_str (da_cons de_int (da_cons de_int da_nil)))) (da_cons (de_tup (da_cons de_str (da_cons (de_neg de_int) (da_cons de_int da_nil)))) (da_cons (de_tup (da_cons de_str (da_cons de_int (da_cons de_int (da_cons de_int da_nil))))) (da_cons (de_tup (da_cons de_str (da_cons de_int (da_cons de_int (da_cons (de_neg de_int) da_nil))))) (da_cons (de_tup (da_cons de_str (da_cons de_int (da_cons de_int (da_cons de_int da_nil))))) da_nil))))))))) (fun h => ps_set sc_Lodd.nd rfl (by first | exact Or.inl rfl | exact Or.inr rfl) h))
      (dss_cons (ds_set (i := 5) (de_pure (dn_add (de_var (pv 5)) (de_pure (dn_lst (da_cons (de_tup (da_cons de_str (da_cons (de_add (de_var (pv 3)) (de_var (pv 4))) da_nil))) (da_cons (de_tup (da_cons de_str (da_cons (de_neg de_int) da_nil))) (da_cons (de_tup (da_cons de_str da_nil)) (da_cons (de_tup (da_cons de_str (da_cons de_int (da_cons (de_add (de_var (pv 2)) de_int) da_nil)))) (da_cons (de_tup (da_cons de_str (da_cons de_int (da_cons de_int da_nil)))) (da_cons (de_tup (da_cons de_str (da_cons de_int da_nil))) da_nil)))))))))) (fun h => ps_set sc_Lodd.nd rfl (by first | exact Or.inl rfl | exact Or.inr rfl) h))
      (dss_one (ds_ret (de_ix (de_pure (dn_add (de_var (pv 5)) (de_pure (dn_lst (da_cons (de_tup (da_cons de_str (da_cons de_int da_nil))) (da_cons (de_tup (da_cons de_str (da_cons de_int (da_cons (de_neg de_int) da_nil)))) da_nil)))))) (de_fn G_Lnext (hr.mono (by decide)) (by rfl) (da_cons (de_var (pv 0)) (da_cons (de_add (de_b dc_len (da_cons (de_var (pv 5)) da_nil) (fun h => pe_callB call_len_seq (by rfl) (mb "len" rfl) PySem.boot_len h)) de_int) da_nil))) (fun _ _ => rfl)))))))), ?_⟩
    rintro ds S P ⟨t, T, r, left, ms, rfl, rfl, l0, l1, ml0, ml8, post⟩
    walk_at "st"
    walk_at "d"
    refine i_draw (by decide) (by decide) fun far t1 f0 f1 => ?_
    obtain ⟨w', ps, ks, er, hw, hl, hdp, h3, hun⟩ := row_form r
    rw [er]
    walk_at "d"
    refine i_addT (sz_le (by rw [List.length_cons, List.length_cons, List.length_nil]; omega)) ?_
    walk_at "d"
    have c1 : DL.cutD (.str w' :: ps) (some 1) none = ps := by rw [show (1 : Int) = ((1 : Nat) : Int) from rfl, c_lo]; rfl
    rw [c1]
    refine i_addT (sz_le (by rw [List.length_cons, List.length_nil]; omega)) ?_
    walk_at "d"
    show spNext [.ref 3, .int 20] (hd t1 ++ T) fun d2 S2 => dIx (.lst (oddL w' ps far left ms.length)) d2 S2 (exitE (hd t ++ T) P).rt
    refine i_draw (by decide) (by decide) fun j t3 j0 j1 => ?_
    obtain ⟨j, rfl⟩ : ∃ n : Nat, j = n := ⟨j.toNat, by omega⟩
    obtain ⟨d, ed⟩ : ∃ d, (oddL w' ps far left ms.length)[j]? = some d := ⟨_, List.getElem?_eq_getElem (by show j < 20; omega)⟩
    have q := oddL_bad (far := far) (left := left) (ms := ms) hw hl hdp hun f0 l0 d (List.mem_of_getElem? ed)
    refine i_ix rfl (atI_nat ed) ?_
    exact exit_hd0 q.2.2 (post d t3 q)
end
theorem fbad_at {sh : Shp} {bx most : Int} {gs : List Gf} {f a : Nat} {g : Gf} (hi : gs.length ≤ 8) (hf : ∀ g ∈ gs, 0 ≤ g.1 ∧ g.1 ≤ 3 ∧ (g.2.length : Int) ≤ most) (eg : gs[f]? = some g) (before : ∀ (i : Nat) g', i < f → gs[i]? = some g' → rowsBad sh bx (gs.map (·.1)) g'.2.length 0 g'.2 = none) (ha : rowsBad sh bx (gs.map (·.1)) g.2.length 0 g.2 = some a) :
    fbad sh bx most (.tup (gs.map Gf.e)) = some ((f : Int), (a : Int)) := by
  have hfc : ∀ g ∈ gs, fcan most (Gf.e g) = true := fun g hg => by
    obtain ⟨h1, h2, h3⟩ := hf g hg
    show (inB 4 (.int g.1) && decide ((g.2.length : Int) ≤ most)) = true
    rw [inB_of h1 (by omega), decide_eq_true h3]
    rfl
  have e1 : fbadF most (.tup (gs.map Gf.e)) = none := by
    cases gs with
    | nil => cases eg
    | cons g gs =>
      show fbf most 0 ((g :: gs).map Gf.e) = none
      refine fbf_none 0 _ fun j x e => ?_
      have hj := (List.getElem?_eq_some_iff.mp e).1
      rw [List.length_map] at hj
      obtain ⟨g', hg', rfl⟩ := List.mem_map.mp (List.mem_of_getElem? e)
      exact ⟨by omega, hfc g' hg'⟩
  have e4 : gfsOf (.tup (gs.map Gf.e)) = gs := by
    show (gs.map Gf.e).map gfOf = gs
    rw [List.map_map]
    exact (List.map_congr_left fun g _ => rfl).trans (List.map_id gs)
  unfold fbad
  rw [e1]
  show (fnsBad sh bx ((gfsOf _).map (·.1)) 0 (gfsOf _)).map _ = _
  rw [e4, fnsBad_some 0 gs f g eg before ha, Nat.zero_add]
  rfl
/-- rows told otherwise at some places, the first of them a -/
theorem rows_spoilt {ms : List Int} {rs : List CRow} {qs : List D} {a : Nat} (hl : qs.length = rs.length) (ok : ∀ (j : Nat) r, rs[j]? = some r → rcan cdSh 16 ((rs.length : Int) - (j : Int)) ms r.e = true) (same : ∀ (j : Nat) r, j < a → rs[j]? = some r → qs[j]? = some r.e) {d : D} (ea : qs[a]? = some d) (bad : rcan cdSh 16 ((rs.length : Int) - (a : Int)) ms d = false) :
    rowsBad cdSh 16 ms qs.length 0 qs = some a := by
  have := rowsBad_some (sh := cdSh) (bx := 16) (ms := ms) (n := (qs.length : Int)) 0 qs a d ea (fun j g hj e => ?_) (by rw [Nat.zero_add, hl]; exact bad)
  · rw [Nat.zero_add] at this
    exact this
  · have hjl := (List.getElem?_eq_some_iff.mp e).1
    obtain ⟨r, er⟩ : ∃ r, rs[j]? = some r := ⟨_, List.getElem?_eq_getElem (by omega)⟩
    have e2 := same j r hj er
    rw [e2] at e
    cases e
    rw [Nat.zero_add, hl]
    exact ok j r er
abbrev s_Lspoilt : Stmt := topS 84
abbrev N_Lspoilt : List Str := ["_law_h", "_law_code", "_law_f", "_law_many", "_law_rows", "_law_good", "_law_places", "_law_k", "_law_at"]
theorem sc_Lspoilt : FnScope N_Lspoilt ["_law_h", "_law_code"] (defScope s_Lspoilt) := ⟨rfl, rfl, rfl, by decide +kernel, rfl, by decide +kernel, by decide +kernel⟩
def spSpoilt : DSp := fun ds S P => ∃ (t : Tok) (T : Sto) (p : List CFn), ds = [.ref 3, cdE p] ∧ S = hd t ++ T ∧ codeOk p ∧ (∀ f ∈ p, f.rows.length ≤ 30) ∧ ∀ (d : D) (i j : Nat) t', dat d = true → fbad cdSh 16 200 d = some ((i : Int), (j : Int)) → (∀ n, d.under n = true) → P (.tup [d, .tup [.int i, .int j]]) (hd t' ++ T)
section
variable {P : Program} {w : World} {K : PySem.W.Frag} {mg : Str → Option Value} {base : Heap}
theorem ok_Lspoilt (at_ : At K mg "_law_spoilt" s_Lspoilt ["_law_h", "_law_code"]) (mb : ∀ x, isB x = true → mg x = none) (G_Lnext : Fn P w K mg base "_law_next" 1 ["_law_h", "_law_many"] spNext) (G_Lodd : Fn P w K mg base "_law_odd" 2 ["_law_h", "_law_row", "_law_left", "_law_many"] spOdd) : Fn P w K mg base "_law_spoilt" 4 ["_law_h", "_law_code"] spSpoilt := by
  refine fn_at at_ fun f fd F => fn_d F sc_Lspoilt (fun ds S P h => ?_) ?_
  · obtain ⟨t, T, p, rfl, _⟩ := h
    rfl
  · rintro X W0 cdv A outer s H E rfl hr
    have hu := hr.units
    refine ⟨_, (dss_cons (ds_set (i := 2) (de_fn G_Lnext (hr.mono (by decide)) (by rfl) (da_cons (de_var (pv 0)) (da_cons (de_b dc_len (da_cons (de_var (pv 1)) da_nil) (fun h => pe_callB call_len_seq (by rfl) (mb "len" rfl) PySem.boot_len h)) da_nil))) (fun h => ps_set sc_Lspoilt.nd rfl (by first | exact Or.inl rfl | exact Or.inr rfl) h))
      (dss_cons (ds_asg (de_ix (de_var (pv 1)) (de_var (pv 2)) (fun _ _ => rfl)) (dg_tup (n := 2) rfl (dgs_cons (dg_name (pg_name (i := 3) sc_Lspoilt.nd rfl (by first | exact Or.inl rfl | exact Or.inr rfl))) (dgs_cons (dg_name (pg_name (i := 4) sc_Lspoilt.nd rfl (by first | exact Or.inl rfl | exact Or.inr rfl))) dgs_nil))) (fun h1 h2 => ps_asg h1 h2))
      (dss_cons (ds_set (i := 5) (de_pure (dn_add (de_pure (dn_b dc_list (da_cons (de_var (pv 4)) da_nil) (fun h => pe_callTy call_list_of (by rfl) (mb "list" rfl) (by decide +kernel) h))) (de_pure (dn_lst (da_cons (de_tup (da_cons de_str (da_cons de_int da_nil))) da_nil))))) (fun h => ps_set sc_Lspoilt.nd rfl (by first | exact Or.inl rfl | exact Or.inr rfl) h))
      (dss_cons (ds_set (i := 4) (de_new (dn_b dc_list (da_cons (de_var (pv 5)) da_nil) (fun h => pe_callTy call_list_of (by rfl) (mb "list" rfl) (by decide +kernel) h))) (fun h => ps_set sc_Lspoilt.nd rfl (by first | exact Or.inl rfl | exact Or.inr rfl) h))
      (dss_cons (ds_set (i := 6) (de_pure (dn_sortI (de_pure (dn_lc (own := [("_law_k", 7)]) (by decide) rfl sc_Lspoilt.nd (di_range1 (by rfl) (mb "range" rfl) (da_cons (de_add de_int (de_fn G_Lnext (hr.mono (by decide)) (by rfl) (da_cons (de_var (pv 0)) (da_cons de_int da_nil)))) da_nil)) (blkOk_by (N := N_Lspoilt) (sc := defScope s_Lspoilt) (by decide +kernel)) (fun _ _ _ _ _ => (dg_name (pg_name (i := 7) sc_Lspoilt.nd rfl (Or.inl rfl)))) (fun _ _ _ _ _ => dts_nil) (fun _ _ _ _ _ => (de_fn G_Lnext (hr.mono (by decide)) (by rfl) (da_cons (de_var (pv 0)) (da_cons (de_b dc_len (da_cons (de_var (pv 4)) da_nil) (fun h => pe_callB call_len_seq (by rfl) (mb "len" rfl) PySem.boot_len h)) da_nil)))))) (by rfl) (mb "sorted" rfl))) (fun h => ps_set sc_Lspoilt.nd rfl (by first | exact Or.inl rfl | exact Or.inr rfl) h))
      (dss_cons (ds_for PassesOwn.never rfl (di_list (de_var (pv 6))) (dg_name (pg_name (i := 8) sc_Lspoilt.nd rfl (by first | exact Or.inl rfl | exact Or.inr rfl))) (dss_one (ds_asg (de_fn G_Lodd (hr.mono (by decide)) (by rfl) (da_cons (de_var (pv 0)) (da_cons (de_ix (de_var (pv 5)) (de_var (pv 8)) (fun _ _ => rfl)) (da_cons (de_sub (de_sub (de_b dc_len (da_cons (de_var (pv 4)) da_nil) (fun h => pe_callB call_len_seq (by rfl) (mb "len" rfl) PySem.boot_len h)) de_int) (de_var (pv 8))) (da_cons (de_b dc_len (da_cons (de_var (pv 1)) da_nil) (fun h => pe_callB call_len_seq (by rfl) (mb "len" rfl) PySem.boot_len h)) da_nil))))) (dg_sub (de_var (pv 4)) (de_var (pv 8)) (fun h1 h2 => pg_sub h1 h2 set_list)) (fun h1 h2 => ps_asg h1 h2))))
      (dss_one (ds_ret (de_tup (da_cons (de_add (de_add (de_sliceT (de_var (pv 1)) do_none (do_some (de_var (pv 2)))) (de_tup (da_cons (de_tup (da_cons (de_var (pv 3)) (da_cons (de_b dc_tuple (da_cons (de_var (pv 4)) da_nil) (fun h => pe_callTy call_tuple_of (by rfl) (mb "tuple" rfl) (by decide +kernel) h)) da_nil))) da_nil))) (de_sliceT (de_var (pv 1)) (do_some (de_add (de_var (pv 2)) de_int)) do_none)) (da_cons (de_tup (da_cons (de_var (pv 2)) (da_cons (de_ix (de_var (pv 6)) de_int (fun _ _ => rfl)) da_nil))) da_nil))))))))))), ?_⟩
    rintro ds S P ⟨t, T, p, rfl, rfl, hp, h30, post⟩
    have hlo := hp.lo
    have hhi := hp.hi
    have hlo := hp.lo
    have hhi := hp.hi
    walk_at "st"
    walk_at "d"
    dsimp only [cdE]
    walk_at "d"
    rw [List.length_map]
    refine i_draw (by omega) (by omega) fun fi t1 f0 f1 => ?_
    obtain ⟨fi, rfl⟩ : ∃ k : Nat, fi = k := ⟨fi.toNat, by omega⟩
    obtain ⟨fn, ef⟩ : ∃ c, p[fi]? = some c := ⟨_, List.getElem?_eq_getElem (by omega)⟩
    have fo := hp.fs fn (List.mem_of_getElem? ef)
    have hf30 := h30 fn (List.mem_of_getElem? ef)
    walk_at "d"
    refine i_ix rfl (atI_nat (by rw [List.getElem?_map, ef]; rfl)) ?_
    dsimp only [CFn.e]
    walk_at "d"
    walk_at "e"
    refine i_cat rfl rfl (sz_le (by simp; omega)) ?_
    walk_at "d"
    have hgood : goodC p.length (fn.rows ++ [.say 0]) := fun j r hj => by
      have l1 : (fn.rows ++ [CRow.say 0]).length = fn.rows.length + 1 := by rw [List.length_append, List.length_singleton]
      rw [l1]
      by_cases hl : j < fn.rows.length
      · rw [List.getElem?_append_left hl] at hj
        have q := fo.rows j r hj
        cases r with
        | skip x n => exact ⟨q.1, q.2.1, by have := q.2.2; omega⟩
        | _ => exact q
      · rw [List.getElem?_append_right (by omega)] at hj
        have : j - fn.rows.length = 0 := by
          have := (List.getElem?_eq_some_iff.mp hj).1
          simp at this
          omega
        rw [this] at hj
        cases hj
        exact ⟨by decide, by decide⟩
    have hrl : (fn.rows ++ [CRow.say 0]).length = fn.rows.length + 1 := by rw [List.length_append, List.length_singleton]
    rw [show fn.rows.map CRow.e ++ [D.tup [D.str "say", D.int 0]] = (fn.rows ++ [CRow.say 0]).map CRow.e by rw [List.map_append]; rfl]
    generalize fn.rows ++ [CRow.say 0] = rs at hgood hrl
    have rok : ∀ (j : Nat) r, rs[j]? = some r → rcan cdSh 16 ((rs.length : Int) - (j : Int)) (p.map CFn.many) r.e = true := fun j r hj => rcan_code (by rw [List.length_map]; exact hgood j r hj)
    have ms8 : (p.map CFn.many).length = p.length := List.length_map ..
    walk_at "e"
    rw [ls_new, ls_len]
    refine ls_draw (by decide) (by decide) fun k t2 k0 k1 => ?_
    walk_at "d"
    refine i_rg1 (by omega) (by omega) ?_
    refine ⟨fun i acc S' => ∃ (t' : Tok) (ns : List Int), acc = ns.map .int ∧ ns.length = i ∧ (∀ v ∈ ns, 0 ≤ v ∧ v < rs.length) ∧ S' = lS t' T (rs.map CRow.e), ⟨t2, [], rfl, rfl, (fun v hv => by cases hv), rfl⟩, ?_, ?_, ?_⟩
    · rintro i acc S' hi ⟨t', ns, rfl, hb, _, rfl⟩
      rw [rangeD_len] at hi
      exact ⟨trivial, sz_lt (by rw [List.length_map]; omega)⟩
    · rintro i x acc S' hx ⟨t', ns, rfl, hb, hv, rfl⟩
      walk_at "d"
      refine ite_t rfl ?_
      walk_at "d"
      refine i_len ls_its ?_
      walk_at "d"
      rw [List.length_map]
      refine ls_draw (by omega) (by omega) fun b t3 b0 b1 => ?_
      refine ⟨t3, ns ++ [b], by rw [List.map_append]; rfl, by rw [List.length_append, hb]; rfl, fun v h => ?_, rfl⟩
      rcases List.mem_append.mp h with h | h
      · exact hv v h
      · rw [List.mem_singleton.mp h]
        exact ⟨b0, b1⟩
    rintro acc S' ⟨t3, ns, rfl, hb, hv, rfl⟩
    rw [rangeD_len] at hb
    refine ⟨ns, rfl, fun ms hpm hso => ?_⟩
    have hml : ms.length = (1 + k).toNat := by rw [hpm.length_eq, hb]
    have hmv : ∀ v ∈ ms, 0 ≤ v ∧ v < rs.length := fun v h => hv v (hpm.mem_iff.mp h)
    walk_at "d"
    walk_at "e"
    refine ⟨fun i env S => ∃ (t' : Tok) (qs : List D) (y8 : Option D), S = lS t' T qs ∧ qs.length = rs.length ∧ (∀ (j : Nat) r, rs[j]? = some r → (∀ v ∈ ms.take i, v ≠ (j : Int)) → qs[j]? = some r.e) ∧
      (∀ v ∈ ms.take i, ∃ d, qs[v.toNat]? = some d ∧ rcan cdSh 16 ((rs.length : Int) - v) (p.map CFn.many) d = false) ∧ (∀ q ∈ qs, dat q = true ∧ ∀ m, q.under m = true) ∧
      env = [some (.ref 3), some (.tup (p.map CFn.e)), some (.int fi), some (.int fn.many), some (.ref (T.length + 4)), some (.lst (rs.map CRow.e)), some (.lst (ms.map .int)), none, y8], ?_, fun _ _ _ _ _ => trivial, ?_, ?_⟩
    · refine ⟨t3, rs.map CRow.e, none, rfl, by rw [List.length_map], fun j r hj _ => by rw [List.getElem?_map, hj]; rfl, (fun v hv => by cases hv), fun q hq => ?_, rfl⟩
      obtain ⟨r, hr, rfl⟩ := List.mem_map.mp hq
      exact ⟨dat_crow r, fun m => under_crow m r⟩
    · rintro i x env S hx ⟨t', qs, y8, rfl, hq, hsame, hodd, hall, rfl⟩
      rw [List.getElem?_map] at hx
      cases ev : ms[i]? with
      | none => rw [ev] at hx; cases hx
      | some v =>
        rw [ev] at hx
        cases hx
        obtain ⟨v0, v1⟩ := hmv v (List.mem_of_getElem? ev)
        obtain ⟨v, rfl⟩ : ∃ n : Nat, v = n := ⟨v.toNat, by omega⟩
        obtain ⟨r, er⟩ : ∃ r, rs[v]? = some r := ⟨_, List.getElem?_eq_getElem (by omega)⟩
        walk_at "d"
        refine i_ix rfl (atI_nat (by rw [List.getElem?_map, er]; rfl)) ?_
        walk_at "d"
        refine i_len ls_its ?_
        walk_at "d"
        rw [List.length_map, hq]
        refine ⟨t', T ++ [O.lst qs], r, (rs.length : Int) - 1 - (v : Nat), p.map CFn.many, by rw [ms8], rfl, by omega, by omega, by rw [ms8]; omega, by rw [ms8]; omega, fun d t4 ⟨hdd, hb, hu'⟩ => ?_⟩
        show gSb _ _ _ _ (lS t4 T qs) _
        walk_at "d"
        refine i_set ls_at (p := v) (by unfold ixN; rw [if_pos (by omega), if_pos (by omega), Int.toNat_natCast]) ?_
        rw [ls_put]
        have tk : ms.take (i + 1) = ms.take i ++ [(v : Int)] := by rw [List.take_add_one, ev]; rfl
        refine ⟨t4, qs.set v d, _, rfl, by rw [List.length_set]; exact hq, fun j r' hj hne => ?_, fun u hu2 => ?_, fun q hq2 => ?_, rfl⟩
        · rw [tk] at hne
          have h1 : v ≠ j := fun z => hne v (List.mem_append_right _ List.mem_cons_self) (by rw [z])
          rw [List.getElem?_set_ne h1]
          exact hsame j r' hj fun u hu2 => hne u (List.mem_append_left _ hu2)
        · rw [tk] at hu2
          rcases List.mem_append.mp hu2 with h | h
          · obtain ⟨d', h1, h2⟩ := hodd u h
            obtain ⟨u0, u1⟩ := hmv u (List.mem_of_mem_take h)
            by_cases z : v = u.toNat
            · refine ⟨d, by rw [← z, List.getElem?_set_self (by omega)], ?_⟩
              have : u = (v : Int) := by omega
              rw [this, show (rs.length : Int) - v = rs.length - 1 - v + 1 by omega]
              exact hb
            · exact ⟨d', by rw [List.getElem?_set_ne z]; exact h1, h2⟩
          · rw [List.mem_singleton.mp h]
            refine ⟨d, by rw [Int.toNat_natCast, List.getElem?_set_self (by omega)], ?_⟩
            rw [show (rs.length : Int) - v = rs.length - 1 - v + 1 by omega]
            exact hb
        · rcases List.mem_or_eq_of_mem_set hq2 with h | rfl
          · exact hall q h
          · exact ⟨hdd, hu'⟩
    · rintro env S ⟨t', qs, y8, rfl, hq, hsame, hodd, hall, rfl⟩
      rw [List.length_map, List.take_length] at hsame hodd
      walk_at "d"
      refine i_tuple ls_seq ?_
      walk_at "d"
      rw [c_map, c_hi]
      refine i_addT (sz_le (by simp only [List.length_map, List.length_take, List.length_cons, List.length_nil]; omega)) ?_
      walk_at "d"
      rw [c_map, show ((fi : Int) + 1) = ((fi + 1 : Nat) : Int) from rfl, c_lo]
      refine i_addT (sz_le (by simp only [List.length_append, List.length_map, List.length_take, List.length_drop, List.length_cons, List.length_nil]; omega)) ?_
      walk_at "d"
      obtain ⟨a, ms', em⟩ : ∃ a ms', ms = a :: ms' := by
        cases ms with
        | nil => simp at hml; omega
        | cons a ms' => exact ⟨a, ms', rfl⟩
      subst em
      obtain ⟨a0, a1⟩ := hmv a List.mem_cons_self
      obtain ⟨a, rfl⟩ : ∃ n : Nat, a = n := ⟨a.toNat, by omega⟩
      have hle := (List.pairwise_cons.mp hso).1
      refine i_ix rfl (show L2.atI _ ((0 : Nat) : Int) = some (.int (a : Nat)) from atI_nat rfl) ?_
      walk_at "d"
      have hlt : fi < p.length := by omega
      have e3 : p.take fi ++ ([fn] ++ p.drop (fi + 1)) = p := by
        have : p.drop fi = fn :: p.drop (fi + 1) := by
          rw [List.drop_eq_getElem_cons hlt]
          rw [List.getElem?_eq_getElem hlt] at ef
          rw [Option.some.inj ef]
        rw [List.singleton_append, ← this, List.take_append_drop]
      let gf : CFn → Gf := fun f => (f.many, f.rows.map CRow.e)
      have ht : (p.take fi).length = fi := by rw [List.length_take]; omega
      have hgl : ((p.take fi).map gf ++ ([((fn.many, qs) : Gf)] ++ (p.drop (fi + 1)).map gf)).length = p.length := by
        simp only [List.length_append, List.length_map, List.length_take, List.length_drop, List.length_cons, List.length_nil]
        omega
      have hms : ((p.take fi).map gf ++ ([((fn.many, qs) : Gf)] ++ (p.drop (fi + 1)).map gf)).map (·.1) = p.map CFn.many := by
        conv => rhs; rw [← e3]
        simp only [List.map_append, List.map_map, List.map_cons, List.map_nil]
        rfl
      have hfb := fbad_at (sh := cdSh) (bx := 16) (most := 200) (gs := (p.take fi).map gf ++ ([((fn.many, qs) : Gf)] ++ (p.drop (fi + 1)).map gf)) (f := fi) (a := a) (g := (fn.many, qs)) (by rw [hgl]; omega) (fun g hg => ?_) (by rw [List.getElem?_append_right (by rw [List.length_map]; omega), List.length_map, ht, Nat.sub_self]; rfl) (fun i g' hi hg => ?_) ?_
      · have ee : D.tup (List.map CFn.e (p.take fi) ++ [D.tup [D.int fn.many, D.tup qs]] ++ List.map CFn.e (p.drop (fi + 1))) = .tup (((p.take fi).map gf ++ ([((fn.many, qs) : Gf)] ++ (p.drop (fi + 1)).map gf)).map Gf.e) := by
          simp only [List.map_append, List.map_map, List.map_cons, List.map_nil, List.append_assoc]
          rfl
        rw [ee]
        have fdat : ∀ f : CFn, dat f.e = true ∧ ∀ m, f.e.under m = true := fun f => by
          have h1 : dats (f.rows.map CRow.e) = true := dats_of fun x hx => by obtain ⟨r, _, rfl⟩ := List.mem_map.mp hx; exact dat_crow r
          refine ⟨?_, fun m => ?_⟩
          · show (true && (dats (f.rows.map CRow.e) && true)) = true
            rw [h1]
            rfl
          · show (true && (unders m (f.rows.map CRow.e) && true)) = true
            rw [unders_map m (under_crow m)]
            rfl
        have qd : dats qs = true := dats_of fun x hx => (hall x hx).1
        have qu : ∀ m, unders m qs = true := fun m => by
          have : ∀ xs : List D, (∀ x ∈ xs, x.under m = true) → unders m xs = true := fun xs => by
            induction xs with
            | nil => exact fun _ => rfl
            | cons x xs ih => exact fun h => Bool.and_eq_true_iff.mpr ⟨h x List.mem_cons_self, ih fun y hy => h y (List.mem_cons_of_mem _ hy)⟩
          exact this qs fun x hx => (hall x hx).2 m
        have gall : ∀ x ∈ ((p.take fi).map gf ++ ([((fn.many, qs) : Gf)] ++ (p.drop (fi + 1)).map gf)).map Gf.e, dat x = true ∧ ∀ m, x.under m = true := fun x hx => by
          obtain ⟨g, hg, rfl⟩ := List.mem_map.mp hx
          rcases List.mem_append.mp hg with h | h
          · obtain ⟨f, _, rfl⟩ := List.mem_map.mp h
            exact fdat f
          · rcases List.mem_append.mp h with h | h
            · rw [List.mem_singleton.mp h]
              refine ⟨?_, fun m => ?_⟩
              · show (true && (dats qs && true)) = true
                rw [qd]
                rfl
              · show (true && (unders m qs && true)) = true
                rw [qu m]
                rfl
            · obtain ⟨f, _, rfl⟩ := List.mem_map.mp h
              exact fdat f
        have gd := dats_of fun x hx => (gall x hx).1
        have gu : ∀ m, unders m (((p.take fi).map gf ++ ([((fn.many, qs) : Gf)] ++ (p.drop (fi + 1)).map gf)).map Gf.e) = true := fun m => by
          have : ∀ xs : List D, (∀ x ∈ xs, x.under m = true) → unders m xs = true := fun xs => by
            induction xs with
            | nil => exact fun _ => rfl
            | cons x xs ih => exact fun h => Bool.and_eq_true_iff.mpr ⟨h x List.mem_cons_self, ih fun y hy => h y (List.mem_cons_of_mem _ hy)⟩
          exact this _ fun x hx => (gall x hx).2 m
        refine exit_hd (t' := t') (T' := [O.lst qs]) (by unfold lS; rw [List.append_assoc]) (fun m => ?_) (post _ fi a t' gd hfb fun m => gu m)
        show (unders m _ && (true && true)) = true
        rw [gu m]
        rfl
      · rcases List.mem_append.mp hg with h | h
        · obtain ⟨f, hf, rfl⟩ := List.mem_map.mp h
          have q := hp.fs f (List.mem_of_mem_take hf)
          exact ⟨q.lo, q.hi, by have := q.len; show ((f.rows.map CRow.e).length : Int) ≤ 200; rw [List.length_map]; omega⟩
        · rcases List.mem_append.mp h with h | h
          · rw [List.mem_singleton.mp h]
            exact ⟨fo.lo, fo.hi, by show (qs.length : Int) ≤ 200; omega⟩
          · obtain ⟨f, hf, rfl⟩ := List.mem_map.mp h
            have q := hp.fs f (List.mem_of_mem_drop hf)
            exact ⟨q.lo, q.hi, by have := q.len; show ((f.rows.map CRow.e).length : Int) ≤ 200; rw [List.length_map]; omega⟩
      · rw [hms]
        rw [List.getElem?_append_left (by rw [List.length_map]; omega), List.getElem?_map] at hg
        cases ei : (p.take fi)[i]? with
        | none => rw [ei] at hg; cases hg
        | some f =>
          rw [ei] at hg
          cases hg
          have q := hp.fs f (List.mem_of_mem_take (List.mem_of_getElem? ei))
          refine rowsBad_none 0 _ fun j x hx => ?_
          have hx : (f.rows.map CRow.e)[j]? = some x := hx
          rw [List.getElem?_map] at hx
          cases ej : f.rows[j]? with
          | none => rw [ej] at hx; cases hx
          | some r =>
            rw [ej] at hx
            cases hx
            refine rcan_code ?_
            have := q.rows j r ej
            rw [ms8]
            show r.ok _ (((f.rows.map CRow.e).length : Int) - ((0 + j : Nat) : Int))
            rw [List.length_map, Nat.zero_add]
            exact this
      · rw [hms]
        obtain ⟨d, h1, h2⟩ := hodd _ List.mem_cons_self
        rw [Int.toNat_natCast] at h1
        refine rows_spoilt hq (fun j r hj => rok j r hj) (fun j r hj er => hsame j r er fun u hu2 => ?_) h1 h2
        rcases List.mem_cons.mp hu2 with rfl | h
        · omega
        · have := hle u h
          omega
end
def spPickBad (A : Ad) (NH : Addr) : DSpX := fun ds S P R => ∃ c T F hs s, ∃ (kk : Int), ds = [.ref T.r, .int kk] ∧ MAll A c T F S hs s ∧ ¬ (0 ≤ kk ∧ kk < s.hs.length) ∧ R NH [] S
section
variable {P : Program} {w : World} {K : PySem.W.Frag} {mg : Str → Option Value} {base : Heap} {A : Ad} {NH : Addr}
theorem ok_pickX (at_ : MAt K A.MA "pick" "Machine.pick" s_Machinepick ["self", "hand"]) (mb : ∀ x, isB x = true → mg x = none) (T_Machine : ClsF K A.MA macFields) (xc_NoHand : XcF K mg "NoHand" NH)
    (G_below : Fn P w K mg base "below" 2 ["value", "bound"] spBelow) : MFnX P w K mg base A.MA "pick" 6 ["self", "hand"] (spPickBad A NH) := by
  refine mfnX_at at_ fun f fd F => fn_dX F sc_Machinepick (fun ds S P R h => ?_) ?_
  · obtain ⟨c, T, F, hs, s, kk, rfl, _⟩ := h
    rfl
  · rintro X W0 cdv AA outer s H E rfl hr hR
    have hu := hr.units
    refine ⟨_, (dss_cons (ds_if (dt_not (dt_val (de_fn G_below (hr.mono (by decide)) (by rfl) (da_cons (de_var (pv 1)) (da_cons (de_b dc_len (da_cons (de_fld T_Machine.cl (T_Machine.na "runs" rfl) (de_var (pv 0))) da_nil) (fun h => pe_callB call_len_seq (by rfl) (mb "len" rfl) PySem.boot_len h)) da_nil))))) (dss_one (ds_raise0 rfl hR xc_NoHand (by rfl))) dss_nil)
      dss_never), ?_⟩
    rintro ds S P R ⟨c, T, F, hs, s, kk, rfl, ha, hin, hr'⟩ eR
    walk_at "st"
    walk_at "d"
    refine ⟨_, _, _, rfl, ha.top, rfl, ?_⟩
    walk_at "d"
    refine i_len (xs := runsE hs) (by show itemsOf S (.ref T.rn) = _; simp only [itemsOf, seqOf, lstOf]; rw [show S[T.rn]? = _ from ha.rn]) ?_
    walk_at "d"
    refine ⟨.int kk, _, rfl, ⟨_, rfl⟩, ?_⟩
    have el : (runsE hs).length = s.hs.length := by unfold runsE; rw [List.length_map, ha.len]
    rw [el, inB_no hin]
    walk_at "d"
    refine ite_t rfl ?_
    walk_at "d"
    rw [eR]
    exact exitX_id rfl hr'
end
theorem hd_drop1 {S : Sto} {L : Pl} {i : Nat} {o : O} (h : Hd S ((i, o) :: L)) (p : plainO o = true) : Hd S L :=
  h.sub (.cons _ (List.Sublist.refl _)) fun q hq => (List.mem_cons.mp hq).elim (fun e => .inr (by rw [e]; exact p)) .inl
def mPl (A : Ad) (c : Cf) (T : TLoc) (hs : List HLoc) (s : Ms) : Pl := topM A c T s ++ ((T.rn, O.lst (runsE hs)) :: hrunsL A c hs s.hs)
theorem mPl_plain {A : Ad} {c : Cf} {T : TLoc} {hs : List HLoc} {s : Ms} : ∀ p ∈ mPl A c T hs s, plainO p.2 = true := fun p hp => by
  rcases List.mem_append.mp hp with hp | hp
  · unfold topM at hp
    simp only [List.mem_cons, List.not_mem_nil, or_false] at hp
    rcases hp with h | h | h | h <;> (rw [h]; rfl)
  · rcases List.mem_cons.mp hp with rfl | hp
    · rfl
    · exact hrunsL_plain _ _ _ _ p hp
section
variable {A : Ad} {c : Cf} {T : TLoc} {F F' : Pl} {S S' : Sto} {hs hs' : List HLoc} {s s' s2 s3 : Ms}
theorem MAll.hdP (a : MAll A c T F S hs s) : Hd S (mPl A c T hs s ++ F) := by
  have := a.hd
  unfold mPl
  rw [List.append_assoc]
  exact this
theorem MAll.ofP (a : MAll A c T F S hs s) (h : Hd S' (mPl A c T hs s ++ F')) : MAll A c T F' S' hs s := by
  refine ⟨?_, a.len, a.lens⟩
  unfold mPl at h
  rw [List.append_assoc] at h
  exact h
end
theorem MAll.drop {A : Ad} {c : Cf} {T : TLoc} {F : Pl} {S : Sto} {hs : List HLoc} {s : Ms} {i : Nat} {o : O} (a : MAll A c T ((i, o) :: F) S hs s) (p : plainO o = true) : MAll A c T F S hs s := by
  refine a.ofP ?_
  have h := a.hdP.perm (List.perm_middle (l₁ := mPl A c T hs s) (a := (i, o)) (l₂ := F))
  exact hd_drop1 h p
abbrev s_Lmachineright : Stmt := topS 85
abbrev N_Lmachineright : List Str := ["_law_h", "_law_code", "_law_many", "_law_rule", "_law_far", "_law_hands", "_law_odd_here", "_law_none", "_law_works", "_law_machine"]
theorem sc_Lmachineright : FnScope N_Lmachineright ["_law_h", "_law_code"] (defScope s_Lmachineright) := ⟨rfl, rfl, rfl, by decide +kernel, rfl, by decide +kernel, by decide +kernel⟩
def spMacRight : DSp := fun ds S P => ∃ (t : Tok) (T : Sto) (p : List CFn), ds = [.ref 3, cdE p] ∧ S = hd t ++ T ∧ T.all plainO = true ∧ codeOk p ∧ ∀ t' J, J.all plainO = true → P (.bl true) (hd t' ++ J)
theorem fnl_nil : ([] : List D) = ([] : List LamV.FnD).map .fn := rfl
theorem fnl_cons {l : LamV.FnD} {ds : List D} {ls : List LamV.FnD} (h : ds = ls.map .fn) : D.fn l :: ds = (l :: ls).map .fn := by rw [h]; rfl
theorem i_all {told : Told} {ds : List D} {ls : List LamV.FnD} {due : D} {S : Sto} {P : DP} (hds : ds = ls.map .fn) (hp : pln 4 due = true) (hl : ∀ l ∈ ls, ∀ J : Sto, J.all plainO = true → ∀ P' : DP, (∀ J' : Sto, J'.all plainO = true → P' due (S ++ J')) → told l (S ++ J) P') (post : P (.bl true) S) : spAllL told [.lst ds, due] S P := ⟨_, due, ls, rfl, .inl (by rw [hds]), hp, hl, post⟩
theorem i_allS {told : Told} {m : Nat} {ds : List D} {ls : List LamV.FnD} {due : D} {S : Sto} {P : DP} (hm : S[m]? = some (.lst ds)) (hds : ds = ls.map .fn) (hp : pln 4 due = true) (hl : ∀ l ∈ ls, ∀ J : Sto, J.all plainO = true → ∀ P' : DP, (∀ J' : Sto, J'.all plainO = true → P' due (S ++ J')) → told l (S ++ J) P') (post : P (.bl true) S) : spAllL told [.ref m, due] S P := ⟨_, due, ls, rfl, .inr ⟨m, rfl, by rw [hm, hds]⟩, hp, hl, post⟩
theorem all_cons {α : Type} {q : α → Prop} {l : α} {ls : List α} (h : q l) (t : ∀ x ∈ ls, q x) : ∀ x ∈ l :: ls, q x := List.forall_mem_cons.mpr ⟨h, t⟩
theorem all_nil {α : Type} {q : α → Prop} : ∀ x ∈ ([] : List α), q x := fun _ h => by cases h
theorem mem1 {α : Type} {a b : α} {l : List α} : b ∈ a :: b :: l := List.mem_cons_of_mem _ List.mem_cons_self
theorem mem2 {α : Type} {a b c : α} {l : List α} : c ∈ a :: b :: c :: l := List.mem_cons_of_mem _ mem1
theorem pln_at0 (x : Str) (h : PyData.strOk x = true) : pln 4 (.tup [.str x]) = true := by simp [pln, plns, h]
theorem pln_at (x : Str) (i : Int) (h : PyData.strOk x = true) : pln 4 (.tup [.str x, .int i]) = true := by simp [pln, plns, h]
theorem pln_at2 (x : Str) (i j : Int) (h : PyData.strOk x = true) : pln 4 (.tup [.str x, .int i, .int j]) = true := by simp [pln, plns, h]
theorem hd_junk2 {S J : Sto} {L : Pl} (h : Hd S L) (hJ : J.all plainO = true) : Hd (S ++ J) L := by
  refine ⟨h.nd, fun p hp => ?_, fun i o z => ?_⟩
  · have := h.at_ p hp
    rw [List.getElem?_append_left (List.getElem?_eq_some_iff.mp this).1]
    exact this
  · by_cases hi : i < S.length
    · rw [List.getElem?_append_left hi] at z
      exact h.pl i o z
    · rw [List.getElem?_append_right (by omega)] at z
      exact .inl (List.all_eq_true.mp hJ o (List.mem_of_getElem? z))
theorem MAll.more {A : Ad} {c : Cf} {T : TLoc} {F : Pl} {S J : Sto} {hs : List HLoc} {s : Ms} (a : MAll A c T F S hs s) (hJ : J.all plainO = true) : MAll A c T F (S ++ J) hs s := a.ofP (hd_junk2 a.hdP hJ)
theorem same_ref {n : Nat} {S : Sto} {i : Nat} {xs : List D} (h1 : S[i]? = some (.lst xs)) (hl : xs.length ≤ 1000000) (hp : ∀ d ∈ xs, pln n d = true) : sameD S (n + 1) (.ref i) (.lst xs) := by
  refine ⟨xs, ?_, rfl, hl, fun k a b ha hb => ?_⟩
  · simp only [lstOf, h1]
  · rw [ha] at hb
    cases hb
    exact sameD_pln n (hp _ (List.mem_of_getElem? ha))
section
variable {P : Program} {w : World} {K : PySem.W.Frag} {mg : Str → Option Value} {base : Heap} {A : Ad} {c CS c_BadProgram c_BadCode c_BadHands c_BadOrder c_BadTrace c_BadPlan c_BadLog c_BadText c_BadRound c_BadRule c_BadCost c_NoHand c_NotMade c_NoRound c_Long : Addr}
theorem ok_Lmachineright (at_ : At K mg "_law_machine_right" s_Lmachineright ["_law_h", "_law_code"]) (tf : TabF K mg "_law_machine_right" c 763) (TB_Lmachineright : LamX.TabB base mg c 763)
    (at_w : At K mg "_law_word" s_Lword ["_law_work"]) (ca : ClsAt mg CS c_BadProgram c_BadCode c_BadHands c_BadOrder c_BadTrace c_BadPlan c_BadLog c_BadText c_BadRound c_BadRule c_BadCost c_NoHand c_NotMade c_NoRound c_Long)
    (wd2 : WdC K [c_BadProgram, c_BadCode, c_BadHands, c_BadOrder, c_BadTrace, c_BadPlan, c_BadLog, c_BadText, c_BadRound, c_BadRule, c_BadCost, c_NoHand, c_NotMade, c_NoRound, c_Long] CS c_BadHands 2)
    (wd3 : WdC K [c_BadProgram, c_BadCode, c_BadHands, c_BadOrder, c_BadTrace, c_BadPlan, c_BadLog, c_BadText, c_BadRound, c_BadRule, c_BadCost, c_NoHand, c_NotMade, c_NoRound, c_Long] CS c_BadOrder 3)
    (wd8 : WdC K [c_BadProgram, c_BadCode, c_BadHands, c_BadOrder, c_BadTrace, c_BadPlan, c_BadLog, c_BadText, c_BadRound, c_BadRule, c_BadCost, c_NoHand, c_NotMade, c_NoRound, c_Long] CS c_BadRound 8)
    (wd9 : WdC K [c_BadProgram, c_BadCode, c_BadHands, c_BadOrder, c_BadTrace, c_BadPlan, c_BadLog, c_BadText, c_BadRound, c_BadRule, c_BadCost, c_NoHand, c_NotMade, c_NoRound, c_Long] CS c_BadRule 9)
    (wd11 : WdC K [c_BadProgram, c_BadCode, c_BadHands, c_BadOrder, c_BadTrace, c_BadPlan, c_BadLog, c_BadText, c_BadRound, c_BadRule, c_BadCost, c_NoHand, c_NotMade, c_NoRound, c_Long] CS c_NoHand 11)
    (mb : ∀ x, isB x = true → mg x = none) (G_Lnext : Fn P w K mg base "_law_next" 1 ["_law_h", "_law_many"] spNext) (G_Lrounds : Fn P w K mg base "_law_rounds" 2 ["_law_h"] spRounds)
    (at_a : At K mg "_law_all" s_Lall ["_law_works", "_law_due"]) (G_Lalike : Fn P w K mg base "_law_alike" 4 ["_law_found", "_law_due"] (spAlike 4))
    (T_Machine : ClsF K A.MA macFields) (Mk_Machine : MkF P w K mg base "Machine" A.MA 7 ["self", "code", "hands", "many", "rule"] (spMacInit A)) (MkX_Machine : MkX P w K mg base "Machine" A.MA 7 ["self", "code", "hands", "many", "rule"] (spMacBad c_BadCode c_BadHands c_BadRound c_BadRule))
    (G_slid : FnX P w K mg base "slid" 9 ["code", "hands", "order", "many", "rule"] (spSlidBad c_BadCode c_BadHands c_BadOrder c_BadRound c_BadRule))
    (M_Machinepick : MFnX P w K mg base A.MA "pick" 6 ["self", "hand"] (spPickBad A c_NoHand)) (M_Machinetold : MFn P w K mg base A.MA "told" 1 ["self"] (spTold A)) (M_Machineboxes : MFn P w K mg base A.MA "boxes" 1 ["self"] (spBoxes A)) (M_Machinelog : MFn P w K mg base A.MA "log" 1 ["self"] (spLog A)) :
    Fn P w K mg base "_law_machine_right" 14 ["_law_h", "_law_code"] spMacRight := by
  obtain ⟨g, fdw, hmw, Fw, hbw⟩ := at_w.ex
  obtain ⟨ocw, odw, kVw, docw, pmw, anw, cdw, ctw, oslw, rfl, lkw, hcw⟩ := Fw.ex
  obtain ⟨fa, fda, hma, kpa, hba, F_all⟩ := ok_Lall at_a mb hmw Fw.kp G_Lalike
  obtain ⟨f, oc, kV, doc, pm, ct, od, an, osl, g1, lk, hcd, kp, hb⟩ := Fun.code at_ tf
  refine ⟨f, _, g1, kp, hb, fn_dTK lk hcd sc_Lmachineright (fun ds S P h => ?_) ?_⟩
  · obtain ⟨t, T, p, rfl, _⟩ := h
    rfl
  · rintro X W0 A' outer s H E rfl hr
    have hu := hr.units
    refine ⟨_, (dss_cons (ds_asg (de_fn G_Lrounds (hr.mono (by decide)) (by rfl) (da_cons (de_var (pv 0)) da_nil)) (dg_tup (n := 2) rfl (dgs_cons (dg_name (pg_name (i := 2) sc_Lmachineright.nd rfl (by first | exact Or.inl rfl | exact Or.inr rfl))) (dgs_cons (dg_name (pg_name (i := 3) sc_Lmachineright.nd rfl (by first | exact Or.inl rfl | exact Or.inr rfl))) dgs_nil))) (fun h1 h2 => ps_asg h1 h2))
      (dss_cons (ds_set (i := 4) (de_fn G_Lnext (hr.mono (by decide)) (by rfl) (da_cons (de_var (pv 0)) (da_cons (de_pow de_int de_int) da_nil))) (fun h => ps_set sc_Lmachineright.nd rfl (by first | exact Or.inl rfl | exact Or.inr rfl) h))
      (dss_cons (ds_set (i := 5) (de_pure (dn_lst (da_cons (de_tup (da_cons de_int (da_cons (de_repT (de_tup (da_cons de_int da_nil)) (de_ix (de_ix (de_var (pv 1)) de_int (fun _ _ => rfl)) de_int (fun _ _ => rfl))) da_nil))) da_nil))) (fun h => ps_set sc_Lmachineright.nd rfl (by first | exact Or.inl rfl | exact Or.inr rfl) h))
      (dss_cons (ds_set (i := 6) (de_ix (de_pure (dn_lst (da_cons (de_add de_int (de_var (pv 4))) (da_cons de_int (da_cons de_int (da_cons (de_sub (de_neg de_int) (de_var (pv 4))) da_nil)))))) (de_fn G_Lnext (hr.mono (by decide)) (by rfl) (da_cons (de_var (pv 0)) (da_cons de_int da_nil))) (fun _ _ => rfl)) (fun h => ps_set sc_Lmachineright.nd rfl (by first | exact Or.inl rfl | exact Or.inr rfl) h))
      (dss_cons (ds_set (i := 7) (de_ix (de_pure (dn_lst (da_cons (de_tup (da_cons (de_var (pv 2)) (da_cons de_int da_nil))) (da_cons (de_tup (da_cons de_int (da_cons (de_var (pv 2)) da_nil))) (da_cons (de_tup (da_cons de_int (da_cons de_int da_nil))) (da_cons (de_tup (da_cons de_int (da_cons de_int da_nil))) (da_cons (de_tup (da_cons de_int da_nil)) (da_cons (de_tup (da_cons de_int (da_cons de_int (da_cons de_int da_nil)))) (da_cons (de_tup (da_cons de_int (da_cons (de_sub (de_neg de_int) (de_var (pv 4))) da_nil))) (da_cons (de_tup (da_cons (de_add (de_var (pv 2)) (de_var (pv 4))) (da_cons de_int da_nil))) da_nil)))))))))) (de_fn G_Lnext (hr.mono (by decide)) (by rfl) (da_cons (de_var (pv 0)) (da_cons de_int da_nil))) (fun _ _ => rfl)) (fun h => ps_set sc_Lmachineright.nd rfl (by first | exact Or.inl rfl | exact Or.inr rfl) h))
      (dss_cons (ds_set (i := 8) (de_pure (dn_lst (da_cons (de_lamE0 (E := (DL.kV (DL.kB s_Lmachineright 5) 0)) (Tb := tabs0) rfl TB_Lmachineright (tabIn_of (q := "_law_machine_right.<locals>.<lambda>") (by rfl) (by decide +kernel)) (tabUn_of (q := "_law_machine_right.<locals>.<lambda>") (by rfl) (by decide +kernel)) rfl (LamV.lamS3_by (N := N_Lmachineright) (sc := defScope s_Lmachineright) (by decide +kernel)) rfl) (da_cons (de_lamE1 (E := (DL.kV (DL.kB s_Lmachineright 5) 1)) (Tb := tabs0) rfl TB_Lmachineright (tabIn_of (q := "_law_machine_right.<locals>.<lambda>") (by rfl) (by decide +kernel)) (tabUn_of (q := "_law_machine_right.<locals>.<lambda>") (by rfl) (by decide +kernel)) rfl (LamV.lamS3_by (N := N_Lmachineright) (sc := defScope s_Lmachineright) (by decide +kernel)) rfl rfl) da_nil)))) (fun h => ps_set sc_Lmachineright.nd rfl (by first | exact Or.inl rfl | exact Or.inr rfl) h))
      (dss_cons (ds_if (dt_not (dt_val (de_all (k := 10) (fun _ => rfl) F_all (by rfl) hma kpa hba (hr.mono (by decide)) (lams_cons (lamOkC (E := (DL.kV (DL.kB s_Lmachineright 5) 0)) (d := false) rfl (LamV.lamS3_by (N := N_Lmachineright) (sc := defScope s_Lmachineright) (by decide +kernel)) (bind0 (fun _ _ _ _ _ _ => rfl)) MkX_Machine (by decide) (fun _ _ _ _ _ _ _ => by rfl) (fun A outer s H E f c' B hr => (da_cons (de_var (pv 1)) (da_cons (de_pure (dn_lst (da_cons (de_tup (da_cons (de_add (de_var (pv 4)) de_int) (da_cons (de_tup da_nil) da_nil))) da_nil))) (da_cons (de_var (pv 6)) (da_cons (de_var (pv 7)) da_nil))))) (fun _ _ _ _ _ _ _ => by rfl) (fun _ _ _ _ _ _ _ => by rfl))
        (lams_cons (lamOkX (E := (DL.kV (DL.kB s_Lmachineright 5) 1)) (d := true) rfl (LamV.lamS3_by (N := N_Lmachineright) (sc := defScope s_Lmachineright) (by decide +kernel)) (bind1 rfl (fun _ _ _ _ _ _ _ _ => ⟨_, rfl, rfl⟩)) G_slid (by decide) (fun _ _ _ _ _ _ _ => by rfl) (fun A outer s H E f c' B hr => (da_cons (de_var (pv 1)) (da_cons (de_pure (dn_lst da_nil)) (da_cons (de_pure (dn_lst (da_cons de_int da_nil))) (da_cons (de_var (pv 6)) (da_cons (de_var (pv 7)) da_nil)))))) (fun _ _ _ _ _ _ _ => by rfl) (fun _ _ _ _ _ _ _ => by rfl))
        lams_nil)) lkw hcw hbw sc_Lword rfl (by first | exact .inl rfl | exact .inr (.inl rfl)) (fun A outer hr' => word_gives (k := 0) (hr'.mono (by decide)) mb ca) (da_cons (de_var (pv 8)) (da_cons (de_tup (da_cons de_str (da_cons de_int da_nil))) da_nil))))) (dss_one (ds_ret de_bl)) dss_nil)
      (dss_cons (ds_if (dt_not (dt_val (de_all (k := 10) (fun _ => rfl) F_all (by rfl) hma kpa hba (hr.mono (by decide)) (lams_cons (lamOkX (E := (DL.kE (DL.kE (DL.kV (DL.kB s_Lmachineright 7) 0) 0) 0)) (d := false) rfl (LamV.lamS3_by (N := N_Lmachineright) (sc := defScope s_Lmachineright) (by decide +kernel)) (bind0 (fun _ _ _ _ _ _ => rfl)) G_slid (by decide) (fun _ _ _ _ _ _ _ => by rfl) (fun A outer s H E f c' B hr => (da_cons (de_var (pv 1)) (da_cons (de_var (pv 5)) (da_cons (de_pure (dn_lst (da_cons de_int (da_cons (de_add de_int (de_var (pv 4))) da_nil)))) (da_cons (de_var (pv 6)) (da_cons (de_var (pv 7)) da_nil)))))) (fun _ _ _ _ _ _ _ => by rfl) (fun _ _ _ _ _ _ _ => by rfl))
        lams_nil) lkw hcw hbw sc_Lword rfl (by first | exact .inl rfl | exact .inr (.inl rfl)) (fun A outer hr' => word_gives (k := 0) (hr'.mono (by decide)) mb ca) (da_cons (de_pure (dn_lst (da_cons (de_lamE0 (E := (DL.kE (DL.kE (DL.kV (DL.kB s_Lmachineright 7) 0) 0) 0)) (Tb := tabs0) rfl TB_Lmachineright (tabIn_of (q := "_law_machine_right.<locals>.<lambda>") (by rfl) (by decide +kernel)) (tabUn_of (q := "_law_machine_right.<locals>.<lambda>") (by rfl) (by decide +kernel)) rfl (LamV.lamS3_by (N := N_Lmachineright) (sc := defScope s_Lmachineright) (by decide +kernel)) rfl) da_nil))) (da_cons (de_tup (da_cons de_str (da_cons de_int da_nil))) da_nil))))) (dss_one (ds_ret de_bl)) dss_nil)
      (dss_cons (ds_set (i := 8) (de_pure (dn_lst (da_cons (de_lamE0 (E := (DL.kV (DL.kB s_Lmachineright 8) 0)) (Tb := tabs0) rfl TB_Lmachineright (tabIn_of (q := "_law_machine_right.<locals>.<lambda>") (by rfl) (by decide +kernel)) (tabUn_of (q := "_law_machine_right.<locals>.<lambda>") (by rfl) (by decide +kernel)) rfl (LamV.lamS3_by (N := N_Lmachineright) (sc := defScope s_Lmachineright) (by decide +kernel)) rfl) (da_cons (de_lamE1 (E := (DL.kV (DL.kB s_Lmachineright 8) 1)) (Tb := tabs0) rfl TB_Lmachineright (tabIn_of (q := "_law_machine_right.<locals>.<lambda>") (by rfl) (by decide +kernel)) (tabUn_of (q := "_law_machine_right.<locals>.<lambda>") (by rfl) (by decide +kernel)) rfl (LamV.lamS3_by (N := N_Lmachineright) (sc := defScope s_Lmachineright) (by decide +kernel)) rfl rfl) da_nil)))) (fun h => ps_set sc_Lmachineright.nd rfl (by first | exact Or.inl rfl | exact Or.inr rfl) h))
      (dss_cons (ds_if (dt_not (dt_val (de_all (k := 10) (fun _ => rfl) F_all (by rfl) hma kpa hba (hr.mono (by decide)) (lams_cons (lamOkC (E := (DL.kV (DL.kB s_Lmachineright 8) 0)) (d := false) rfl (LamV.lamS3_by (N := N_Lmachineright) (sc := defScope s_Lmachineright) (by decide +kernel)) (bind0 (fun _ _ _ _ _ _ => rfl)) MkX_Machine (by decide) (fun _ _ _ _ _ _ _ => by rfl) (fun A outer s H E f c' B hr => (da_cons (de_var (pv 1)) (da_cons (de_var (pv 5)) (da_cons (de_var (pv 6)) (da_cons (de_var (pv 7)) da_nil))))) (fun _ _ _ _ _ _ _ => by rfl) (fun _ _ _ _ _ _ _ => by rfl))
        (lams_cons (lamOkX (E := (DL.kV (DL.kB s_Lmachineright 8) 1)) (d := true) rfl (LamV.lamS3_by (N := N_Lmachineright) (sc := defScope s_Lmachineright) (by decide +kernel)) (bind1 rfl (fun _ _ _ _ _ _ _ _ => ⟨_, rfl, rfl⟩)) G_slid (by decide) (fun _ _ _ _ _ _ _ => by rfl) (fun A outer s H E f c' B hr => (da_cons (de_var (pv 1)) (da_cons (de_var (pv 5)) (da_cons (de_pure (dn_lst da_nil)) (da_cons (de_var (pv 6)) (da_cons (de_var (pv 7)) da_nil)))))) (fun _ _ _ _ _ _ _ => by rfl) (fun _ _ _ _ _ _ _ => by rfl))
        lams_nil)) lkw hcw hbw sc_Lword rfl (by first | exact .inl rfl | exact .inr (.inl rfl)) (fun A outer hr' => word_gives (k := 0) (hr'.mono (by decide)) mb ca) (da_cons (de_var (pv 8)) (da_cons (de_tup (da_cons de_str da_nil)) da_nil))))) (dss_one (ds_ret de_bl)) dss_nil)
      (dss_cons (ds_set (i := 8) (de_pure (dn_lst (da_cons (de_lamE0 (E := (DL.kV (DL.kB s_Lmachineright 10) 0)) (Tb := tabs0) rfl TB_Lmachineright (tabIn_of (q := "_law_machine_right.<locals>.<lambda>") (by rfl) (by decide +kernel)) (tabUn_of (q := "_law_machine_right.<locals>.<lambda>") (by rfl) (by decide +kernel)) rfl (LamV.lamS3_by (N := N_Lmachineright) (sc := defScope s_Lmachineright) (by decide +kernel)) rfl) (da_cons (de_lamE1 (E := (DL.kV (DL.kB s_Lmachineright 10) 1)) (Tb := tabs0) rfl TB_Lmachineright (tabIn_of (q := "_law_machine_right.<locals>.<lambda>") (by rfl) (by decide +kernel)) (tabUn_of (q := "_law_machine_right.<locals>.<lambda>") (by rfl) (by decide +kernel)) rfl (LamV.lamS3_by (N := N_Lmachineright) (sc := defScope s_Lmachineright) (by decide +kernel)) rfl rfl) da_nil)))) (fun h => ps_set sc_Lmachineright.nd rfl (by first | exact Or.inl rfl | exact Or.inr rfl) h))
      (dss_cons (ds_if (dt_not (dt_val (de_all (k := 10) (fun _ => rfl) F_all (by rfl) hma kpa hba (hr.mono (by decide)) (lams_cons (lamOkC (E := (DL.kV (DL.kB s_Lmachineright 10) 0)) (d := false) rfl (LamV.lamS3_by (N := N_Lmachineright) (sc := defScope s_Lmachineright) (by decide +kernel)) (bind0 (fun _ _ _ _ _ _ => rfl)) MkX_Machine (by decide) (fun _ _ _ _ _ _ _ => by rfl) (fun A outer s H E f c' B hr => (da_cons (de_var (pv 1)) (da_cons (de_var (pv 5)) (da_cons (de_var (pv 2)) (da_cons (de_var (pv 7)) da_nil))))) (fun _ _ _ _ _ _ _ => by rfl) (fun _ _ _ _ _ _ _ => by rfl))
        (lams_cons (lamOkX (E := (DL.kV (DL.kB s_Lmachineright 10) 1)) (d := true) rfl (LamV.lamS3_by (N := N_Lmachineright) (sc := defScope s_Lmachineright) (by decide +kernel)) (bind1 rfl (fun _ _ _ _ _ _ _ _ => ⟨_, rfl, rfl⟩)) G_slid (by decide) (fun _ _ _ _ _ _ _ => by rfl) (fun A outer s H E f c' B hr => (da_cons (de_var (pv 1)) (da_cons (de_var (pv 5)) (da_cons (de_pure (dn_lst da_nil)) (da_cons (de_var (pv 2)) (da_cons (de_var (pv 7)) da_nil)))))) (fun _ _ _ _ _ _ _ => by rfl) (fun _ _ _ _ _ _ _ => by rfl))
        lams_nil)) lkw hcw hbw sc_Lword rfl (by first | exact .inl rfl | exact .inr (.inl rfl)) (fun A outer hr' => word_gives (k := 0) (hr'.mono (by decide)) mb ca) (da_cons (de_var (pv 8)) (da_cons (de_tup (da_cons de_str da_nil)) da_nil))))) (dss_one (ds_ret de_bl)) dss_nil)
      (dss_cons (ds_set (i := 9) (de_make Mk_Machine (hr.mono (by decide)) (by rfl) (da_cons (de_var (pv 1)) (da_cons (de_var (pv 5)) (da_cons (de_var (pv 2)) (da_cons (de_var (pv 3)) da_nil))))) (fun h => ps_set sc_Lmachineright.nd rfl (by first | exact Or.inl rfl | exact Or.inr rfl) h))
      (dss_cons (ds_if (dt_not (dt_val (de_all (k := 10) (fun _ => rfl) F_all (by rfl) hma kpa hba (hr.mono (by decide)) (lams_cons (lamOkM (E := (DL.kE (DL.kE (DL.kV (DL.kB s_Lmachineright 13) 0) 0) 0)) (d := false) rfl (LamV.lamS3_by (N := N_Lmachineright) (sc := defScope s_Lmachineright) (by decide +kernel)) (bind0 (fun _ _ _ _ _ _ => rfl)) T_Machine.cl M_Machinepick (by decide) (fun A outer s H E f c' B => (de_var (pv 9))) (fun A outer s H E f c' B hr => (da_cons (de_add de_int (de_var (pv 4))) da_nil)) (fun _ _ _ _ _ _ _ => by rfl) (fun _ _ _ _ _ _ _ => by rfl) (fun _ _ _ _ _ _ _ => by rfl))
        (lams_cons (lamOkM (E := (DL.kE (DL.kE (DL.kV (DL.kB s_Lmachineright 13) 0) 0) 1)) (d := true) rfl (LamV.lamS3_by (N := N_Lmachineright) (sc := defScope s_Lmachineright) (by decide +kernel)) (bind1 rfl (fun _ _ _ _ _ _ _ _ => ⟨_, rfl, rfl⟩)) T_Machine.cl M_Machinepick (by decide) (fun A outer s H E f c' B => (de_var (pv 9))) (fun A outer s H E f c' B hr => (da_cons (de_sub (de_neg de_int) (de_var (pv 4))) da_nil)) (fun _ _ _ _ _ _ _ => by rfl) (fun _ _ _ _ _ _ _ => by rfl) (fun _ _ _ _ _ _ _ => by rfl))
        lams_nil)) lkw hcw hbw sc_Lword rfl (by first | exact .inl rfl | exact .inr (.inl rfl)) (fun A outer hr' => word_gives (k := 0) (hr'.mono (by decide)) mb ca) (da_cons (de_pure (dn_lst (da_cons (de_lamE0 (E := (DL.kE (DL.kE (DL.kV (DL.kB s_Lmachineright 13) 0) 0) 0)) (Tb := tabs0) rfl TB_Lmachineright (tabIn_of (q := "_law_machine_right.<locals>.<lambda>") (by rfl) (by decide +kernel)) (tabUn_of (q := "_law_machine_right.<locals>.<lambda>") (by rfl) (by decide +kernel)) rfl (LamV.lamS3_by (N := N_Lmachineright) (sc := defScope s_Lmachineright) (by decide +kernel)) rfl) (da_cons (de_lamE1 (E := (DL.kE (DL.kE (DL.kV (DL.kB s_Lmachineright 13) 0) 0) 1)) (Tb := tabs0) rfl TB_Lmachineright (tabIn_of (q := "_law_machine_right.<locals>.<lambda>") (by rfl) (by decide +kernel)) (tabUn_of (q := "_law_machine_right.<locals>.<lambda>") (by rfl) (by decide +kernel)) rfl (LamV.lamS3_by (N := N_Lmachineright) (sc := defScope s_Lmachineright) (by decide +kernel)) rfl rfl) da_nil)))) (da_cons (de_tup (da_cons de_str da_nil)) da_nil))))) (dss_one (ds_ret de_bl)) dss_nil)
      (dss_one (ds_ret (de_fn G_Lalike (hr.mono (by decide)) (by rfl) (da_cons (de_pure (dn_lst (da_cons (de_meth0 T_Machine.cl M_Machinetold (hr.mono (by decide)) (de_var (pv 9))) (da_cons (de_meth0 T_Machine.cl M_Machineboxes (hr.mono (by decide)) (de_var (pv 9))) (da_cons (de_meth0 T_Machine.cl M_Machinelog (hr.mono (by decide)) (de_var (pv 9))) da_nil))))) (da_cons (de_pure (dn_lst (da_cons (de_pure (dn_lst (da_cons de_non da_nil))) (da_cons (de_pure (dn_rep (de_pure (dn_lst (da_cons de_int da_nil))) (de_mul de_int (de_var (pv 2))))) (da_cons (de_pure (dn_lst da_nil)) da_nil))))) da_nil))))))))))))))))))), ?_⟩
    rintro ds S P ⟨t, T, p, rfl, rfl, hT, hp, post⟩
    walk_at "st"
    walk_at "v"
    refine ⟨t, T, rfl, rfl, fun M a b t1 M2 M8 a1 a2 b1 b2 => ?_⟩
    walk_at "v"
    refine i_draw (by decide) (by decide) fun far t2 f0 f1 => ?_
    have f1 : far < 100000000 := f1
    have p0 := hp.lo
    have p8 := hp.hi
    obtain ⟨fn0, ef0⟩ : ∃ c, p[0]? = some c := ⟨_, List.getElem?_eq_getElem (by omega)⟩
    have fo0 := hp.fs fn0 (List.mem_of_getElem? ef0)
    have m0 := fo0.lo
    have m3 := fo0.hi
    dsimp only [cdE]
    walk_at "v"
    walk_at "e"
    refine i_ix rfl (atI_nat (j := 0) (by rw [List.getElem?_map, ef0]; rfl)) ?_
    dsimp only [CFn.e]
    walk_at "v"
    refine ⟨_, _, rfl, rfl, by simp, by omega, by omega, by simp, ?_⟩
    walk_at "v"
    refine i_draw (by decide) (by decide) fun oi t3 oi0 oi1 => ?_
    have at1 : ∃ v : Int, L2.atI [D.int (9 + far), D.int 1, D.int 0, D.int (-1 - far)] oi = some (.int v) ∧ ¬ (2 ≤ v ∧ v ≤ 8) := by
      rcases (show oi = 0 ∨ oi = 1 ∨ oi = 2 ∨ oi = 3 by omega) with rfl | rfl | rfl | rfl
      · exact ⟨_, rfl, by omega⟩
      · exact ⟨_, rfl, by omega⟩
      · exact ⟨_, rfl, by omega⟩
      · exact ⟨_, rfl, by omega⟩
    obtain ⟨odd, ho1, ho2⟩ := at1
    refine i_ix rfl ho1 ?_
    walk_at "v"
    refine i_draw (by decide) (by decide) fun ni t4 ni0 ni1 => ?_
    have at2 : ∃ xs : List Int, L2.atI [D.tup [.int M, .int 1], D.tup [.int 1, .int M], D.tup [.int 0, .int 1], D.tup [.int 1, .int 0], D.tup [.int 1], D.tup [.int 1, .int 1, .int 1], D.tup [.int 1, .int (-1 - far)], D.tup [.int (M + far), .int 1]] ni = some (.tup (xs.map .int)) ∧ ¬ ruleOk xs M := by
      rcases (show ni = 0 ∨ ni = 1 ∨ ni = 2 ∨ ni = 3 ∨ ni = 4 ∨ ni = 5 ∨ ni = 6 ∨ ni = 7 by omega) with rfl | rfl | rfl | rfl | rfl | rfl | rfl | rfl
      · exact ⟨[M, 1], rfl, fun ⟨_, _, e, _⟩ => by cases e; omega⟩
      · exact ⟨[1, M], rfl, fun ⟨_, _, e, _⟩ => by cases e; omega⟩
      · exact ⟨[0, 1], rfl, fun ⟨_, _, e, _⟩ => by cases e; omega⟩
      · exact ⟨[1, 0], rfl, fun ⟨_, _, e, _⟩ => by cases e; omega⟩
      · exact ⟨[1], rfl, fun ⟨_, _, e, _⟩ => by cases e⟩
      · exact ⟨[1, 1, 1], rfl, fun ⟨_, _, e, _⟩ => by cases e⟩
      · exact ⟨[1, -1 - far], rfl, fun ⟨_, _, e, _⟩ => by cases e; omega⟩
      · exact ⟨[M + far, 1], rfl, fun ⟨_, _, e, _⟩ => by cases e; omega⟩
    obtain ⟨bad, hb1, hb2⟩ := at2
    refine i_ix rfl hb1 ?_
    walk_at "v"
    have hdp : ∀ (t : Tok) (T' : Sto), T'.all plainO = true → (([.lst (t.cells.map .int), .lst [.int t.m, .ref 2, .int t.n]] : Sto) ++ T').all plainO = true := fun t T' h => by rw [List.all_append, h]; rfl
    refine i_fn (S' := [.lst (t4.cells.map .int), .lst [.int t4.m, .ref 2, .int t4.n]] ++ T) rfl (hdp t4 _ hT) ?_
    walk_at "v"
    refine i_fn (S' := [.lst (t4.cells.map .int), .lst [.int t4.m, .ref 2, .int t4.n]] ++ T) rfl (hdp t4 _ hT) ?_
    walk_at "v"
    walk_at "e"
    have asx : ∀ {P' : DP} {d : D} {S1 J : Sto}, (∀ J' : Sto, J'.all plainO = true → P' d (S1 ++ J')) → J.all plainO = true → P' d (S1 ++ J ++ [O.ins A.MA []]) := fun h hJ => by rw [List.append_assoc]; exact h _ (by rw [List.all_append, hJ]; rfl)
    have hdc : dat (.tup (p.map CFn.e)) = true := dat_cd p
    have far9 : inB ((gfs p).length : Int) (.int (far + 9)) = false := inB_no (by unfold gfs; rw [List.length_map]; omega)
    refine i_all (fnl_cons (fnl_cons fnl_nil)) (pln_at _ _ (by decide +kernel)) (all_cons (fun J hJ P' hP => ⟨_, List.mem_cons_self, ?_⟩) (all_cons (fun J hJ P' hP => ⟨_, mem1, ?_⟩) all_nil)) ?_
    · walk_at "v"
      refine ⟨_, _, _, _, _, rfl, hdc, .inr ⟨p, _, rfl, hp, rfl, fun h hh => ?_, .inl ⟨0, ?_, 2, _, wd2, rfl, asx hP hJ⟩⟩⟩
      · rw [List.mem_singleton.mp hh]
        exact ⟨rfl, rfl⟩
      · have hc : hcan (gfs p) (.tup [.int (far + 9), .tup []]) = false := by simp [hcan, far9]
        simp [fbadH, ffst, badH, hc]
    · walk_at "v"
      refine ⟨_, _, _, _, _, rfl, hdc, .inr ⟨p, _, rfl, hp, rfl, (fun h hh => by cases hh), .inl ⟨0, rfl, 2, _, wd2, rfl, hP _ hJ⟩⟩⟩
    walk_at "v"
    refine ite_f (by decide) ?_
    walk_at "v"
    refine i_fn (S' := [.lst (t4.cells.map .int), .lst [.int t4.m, .ref 2, .int t4.n]] ++ T) rfl (hdp t4 _ hT) ?_
    walk_at "v"
    obtain ⟨k0, ek0⟩ : ∃ k : Nat, fn0.many = k := ⟨fn0.many.toNat, by omega⟩
    have hH : D.tup [D.int 0, D.tup (List.replicate fn0.many.toNat [D.int 0]).flatten] = Hn.e ⟨0, List.replicate k0 0⟩ := by
      rw [ek0]
      show _ = D.tup [D.int 0, D.tup ((List.replicate k0 (0 : Int)).map .int)]
      rw [List.map_replicate, List.flatten_replicate_singleton]
      rfl
    rw [hH]
    have hho : handsOkG (gfs p) [⟨0, List.replicate k0 0⟩] := ⟨Nat.le_refl 1, (by show 1 ≤ 4; decide), fun h hm => by
      rw [List.mem_singleton.mp hm]
      refine ⟨(fn0.many, fn0.rows.map CRow.e), by unfold gfs; rw [List.getElem?_map, ef0]; rfl, by show ((List.replicate k0 (0 : Int)).length : Int) = fn0.many; rw [List.length_replicate, ek0], fun a ha => ?_⟩
      rw [List.eq_of_mem_replicate ha]
      decide⟩
    have hgo := gfs_ok hp
    have hfb : fbadH (gfs p) [Hn.e ⟨0, List.replicate k0 0⟩] = none := fbadH_ok hgo hho
    have hhd : ∀ h ∈ [Hn.e ⟨0, List.replicate k0 0⟩], dat h = true ∧ brief h = true := fun h hm => by
      rw [List.mem_singleton.mp hm]
      exact (hn_can hgo (hho.ok _ List.mem_cons_self)).2
    refine i_all (fnl_cons fnl_nil) (pln_at _ _ (by decide +kernel)) (all_cons (fun J hJ P' hP => ⟨_, List.mem_cons_self, ?_⟩) all_nil) ?_
    · walk_at "v"
      refine ⟨_, _, _, _, _, rfl, hdc, .inr ⟨p, _, rfl, hp, rfl, hhd, .inr ⟨hfb, _, rfl, fun k hk => ?_, .inl ⟨1, ?_, 3, _, wd3, rfl, hP _ hJ⟩⟩⟩⟩
      · simp only [List.mem_cons, List.not_mem_nil, or_false] at hk
        rcases hk with rfl | rfl <;> rfl
      · have h1 : inB 1 (.int (1 + far)) = false := inB_no (by omega)
        have h2 : inB 1 (.int 0) = true := rfl
        simp [fbadO, ffst, badO, h1, h2]
    walk_at "v"
    refine ite_f (by decide) ?_
    walk_at "v"
    refine i_fn (S' := [.lst (t4.cells.map .int), .lst [.int t4.m, .ref 2, .int t4.n]] ++ T) rfl (hdp t4 _ hT) ?_
    walk_at "v"
    refine i_fn (S' := [.lst (t4.cells.map .int), .lst [.int t4.m, .ref 2, .int t4.n]] ++ T) rfl (hdp t4 _ hT) ?_
    walk_at "v"
    walk_at "e"
    refine i_all (fnl_cons (fnl_cons fnl_nil)) (pln_at0 _ (by decide +kernel)) (all_cons (fun J hJ P' hP => ⟨_, List.mem_cons_self, ?_⟩) (all_cons (fun J hJ P' hP => ⟨_, mem1, ?_⟩) all_nil)) ?_
    · walk_at "v"
      refine ⟨_, _, _, _, _, rfl, hdc, .inr ⟨p, _, rfl, hp, rfl, hhd, .inr ⟨hfb, odd, rfl, .inl ⟨ho2, 8, _, wd8, rfl, asx hP hJ⟩⟩⟩⟩
    · walk_at "v"
      refine ⟨_, _, _, _, _, rfl, hdc, .inr ⟨p, _, rfl, hp, rfl, hhd, .inr ⟨hfb, _, rfl, (fun k hk => by cases hk), .inr ⟨rfl, odd, rfl, .inl ⟨ho2, 8, _, wd8, rfl, hP _ hJ⟩⟩⟩⟩⟩
    walk_at "v"
    refine ite_f (by decide) ?_
    walk_at "v"
    refine i_fn (S' := [.lst (t4.cells.map .int), .lst [.int t4.m, .ref 2, .int t4.n]] ++ T) rfl (hdp t4 _ hT) ?_
    walk_at "v"
    refine i_fn (S' := [.lst (t4.cells.map .int), .lst [.int t4.m, .ref 2, .int t4.n]] ++ T) rfl (hdp t4 _ hT) ?_
    walk_at "v"
    walk_at "e"
    refine i_all (fnl_cons (fnl_cons fnl_nil)) (pln_at0 _ (by decide +kernel)) (all_cons (fun J hJ P' hP => ⟨_, List.mem_cons_self, ?_⟩) (all_cons (fun J hJ P' hP => ⟨_, mem1, ?_⟩) all_nil)) ?_
    · walk_at "v"
      refine ⟨_, _, _, _, _, rfl, hdc, .inr ⟨p, _, rfl, hp, rfl, hhd, .inr ⟨hfb, M, rfl, .inr ⟨⟨M2, M8⟩, bad, rfl, hb2, 9, _, wd9, rfl, asx hP hJ⟩⟩⟩⟩
    · walk_at "v"
      refine ⟨_, _, _, _, _, rfl, hdc, .inr ⟨p, _, rfl, hp, rfl, hhd, .inr ⟨hfb, _, rfl, (fun k hk => by cases hk), .inr ⟨rfl, M, rfl, .inr ⟨⟨M2, M8⟩, bad, rfl, hb2, 9, _, wd9, rfl, hP _ hJ⟩⟩⟩⟩⟩
    walk_at "v"
    refine ite_f (by decide) ?_
    walk_at "v"
    obtain ⟨Mn, rfl⟩ : ∃ k : Nat, M = k := ⟨M.toNat, by omega⟩
    obtain ⟨an, rfl⟩ : ∃ k : Nat, a = k := ⟨a.toNat, by omega⟩
    obtain ⟨bn, rfl⟩ : ∃ k : Nat, b = k := ⟨b.toNat, by omega⟩
    refine ⟨hd t4 ++ T, ⟨p, Mn, an, bn⟩, [⟨0, List.replicate k0 0⟩], rfl, rfl, ⟨hp, by show 2 ≤ Mn; omega, by show Mn ≤ 8; omega, by show 1 ≤ an; omega, by show an < Mn; omega, by show 1 ≤ bn; omega, by show bn < Mn; omega⟩, hho, fun S' TL hl er ma => ⟨rfl, ?_⟩⟩
    rw [← er]
    obtain ⟨J1, rfl, hJ1⟩ : ∃ J : Sto, S' = hd t4 ++ T ++ J ∧ J.all plainO = true := by
      have h := ma.hdP
      exact ⟨_, h.prefix, h.junk mPl_plain⟩
    walk_at "v"
    walk_at "e"
    have hTJ : (T ++ J1).all plainO = true := by rw [List.all_append, hT, hJ1]; rfl
    refine i_fn (S' := [.lst (t4.cells.map .int), .lst [.int t4.m, .ref 2, .int t4.n]] ++ (T ++ J1)) (by rw [List.append_assoc]; rfl) (hdp t4 _ hTJ) ?_
    walk_at "v"
    refine i_fn (S' := [.lst (t4.cells.map .int), .lst [.int t4.m, .ref 2, .int t4.n]] ++ (T ++ J1)) (by rw [List.append_assoc]; rfl) (hdp t4 _ hTJ) ?_
    walk_at "v"
    refine i_all (fnl_cons (fnl_cons fnl_nil)) (pln_at0 _ (by decide +kernel)) (all_cons (fun J hJ P' hP => ⟨_, List.mem_cons_self, ?_⟩) (all_cons (fun J hJ P' hP => ⟨_, mem1, ?_⟩) all_nil)) ?_
    · have ma2 := ma.more hJ
      refine i_methX ?_
      walk_at "v"
      refine ⟨⟨_, _, rfl, ma2.top, rfl⟩, ?_⟩
      walk_at "v"
      refine ⟨_, _, _, _, _, _, rfl, ma2, ?_, 11, _, wd11, rfl, hP _ hJ⟩
      show ¬ (0 ≤ 1 + far ∧ 1 + far < ((1 : Nat) : Int))
      omega
    · have ma2 := ma.more hJ
      refine i_methX ?_
      walk_at "v"
      refine ⟨⟨_, _, rfl, ma2.top, rfl⟩, ?_⟩
      walk_at "v"
      refine ⟨_, _, _, _, _, _, rfl, ma2, ?_, 11, _, wd11, rfl, hP _ hJ⟩
      show ¬ (0 ≤ -1 - far ∧ _)
      omega
    walk_at "v"
    refine ite_f (by decide) ?_
    walk_at "v"
    refine ⟨⟨_, _, rfl, ma.top, rfl⟩, ?_⟩
    walk_at "v"
    refine ⟨_, _, _, _, _, rfl, ma, ?_⟩
    have h1 := List.getElem?_append_right (Nat.le_refl (hd t4 ++ T ++ J1).length) (l₂ := [O.lst (ms0 ⟨p, Mn, an, bn⟩ [⟨0, List.replicate k0 0⟩]).told])
    rw [Nat.sub_self] at h1
    have ma1 := ma.more (J := [O.lst (ms0 ⟨p, Mn, an, bn⟩ [⟨0, List.replicate k0 0⟩]).told]) rfl
    generalize (hd t4 ++ T ++ J1).length = i1 at h1 ⊢
    generalize eS1 : hd t4 ++ T ++ J1 ++ [O.lst (ms0 ⟨p, Mn, an, bn⟩ [⟨0, List.replicate k0 0⟩]).told] = S1 at h1 ma1 ⊢
    walk_at "v"
    refine ⟨⟨_, _, rfl, ma1.top, rfl⟩, ?_⟩
    walk_at "v"
    refine ⟨_, _, _, _, _, rfl, ma1, ?_⟩
    have h2 := List.getElem?_append_right (Nat.le_refl S1.length) (l₂ := [O.lst ((ms0 ⟨p, Mn, an, bn⟩ [⟨0, List.replicate k0 0⟩]).cells.map .int)])
    rw [Nat.sub_self] at h2
    have ma2 := ma1.more (J := [O.lst ((ms0 ⟨p, Mn, an, bn⟩ [⟨0, List.replicate k0 0⟩]).cells.map .int)]) rfl
    have h1' : (S1 ++ [O.lst ((ms0 ⟨p, Mn, an, bn⟩ [⟨0, List.replicate k0 0⟩]).cells.map .int)])[i1]? = some (.lst (ms0 ⟨p, Mn, an, bn⟩ [⟨0, List.replicate k0 0⟩]).told) := by
      rw [List.getElem?_append_left (List.getElem?_eq_some_iff.mp h1).1]
      exact h1
    generalize S1.length = i2 at h2 ⊢
    generalize eS2 : S1 ++ [O.lst ((ms0 ⟨p, Mn, an, bn⟩ [⟨0, List.replicate k0 0⟩]).cells.map .int)] = S2 at h1' h2 ma2 ⊢
    walk_at "v"
    refine ⟨⟨_, _, rfl, ma2.top, rfl⟩, ?_⟩
    walk_at "v"
    refine ⟨_, _, _, _, _, rfl, ma2, ?_⟩
    walk_at "v"
    have e12 : ((12 : Int) * (Mn : Int)).toNat = 12 * Mn := by omega
    refine i_rep rfl (by omega) (by omega) (Nat.le_trans (by rw [e12, List.length_singleton]; omega) (sz_le (n := 96) (by decide))) ?_
    walk_at "v"
    have g1 := h1'
    have g2 := h2
    have h3 := List.getElem?_append_right (Nat.le_refl S2.length) (l₂ := [O.lst (ms0 ⟨p, Mn, an, bn⟩ [⟨0, List.replicate k0 0⟩]).log])
    rw [Nat.sub_self] at h3
    rw [← List.getElem?_append_left (l₂ := [O.lst (ms0 ⟨p, Mn, an, bn⟩ [⟨0, List.replicate k0 0⟩]).log]) (List.getElem?_eq_some_iff.mp h1').1] at g1
    rw [← List.getElem?_append_left (l₂ := [O.lst (ms0 ⟨p, Mn, an, bn⟩ [⟨0, List.replicate k0 0⟩]).log]) (List.getElem?_eq_some_iff.mp h2).1] at g2
    have eC : (List.replicate ((12 : Int) * (Mn : Int)).toNat [D.int 0]).flatten = (ms0 ⟨p, Mn, an, bn⟩ [⟨0, List.replicate k0 0⟩]).cells.map .int := by
      rw [e12, List.flatten_replicate_singleton]
      show _ = (List.replicate (12 * Mn) (0 : Int)).map D.int
      rw [List.map_replicate]
    rw [eC]
    refine ⟨_, _, rfl, ⟨_, rfl, rfl, (by show 3 ≤ 1000000; decide), fun i x y hx hy => ?_⟩, ?_⟩
    · match i, hx, hy with
      | 0, hx, hy =>
        cases hx
        cases hy
        exact same_ref (n := 2) g1 (by decide) (fun d hd => by rw [List.mem_singleton.mp hd]; rfl)
      | 1, hx, hy =>
        cases hx
        cases hy
        refine same_ref (n := 2) g2 ?_ (fun d hd => by obtain ⟨_, _, rfl⟩ := List.mem_map.mp hd; rfl)
        show ((List.replicate (12 * Mn) (0 : Int)).map D.int).length ≤ 1000000
        rw [List.length_map, List.length_replicate]
        omega
      | 2, hx, hy =>
        cases hx
        cases hy
        exact same_ref (n := 2) h3 (by decide) (fun d hd => by cases hd)
      | k + 3, hx, hy => simp at hx
    · rw [← eS2, ← eS1]
      have := post t4 (T ++ J1 ++ [O.lst (ms0 ⟨p, Mn, an, bn⟩ [⟨0, List.replicate k0 0⟩]).told] ++ [O.lst ((ms0 ⟨p, Mn, an, bn⟩ [⟨0, List.replicate k0 0⟩]).cells.map .int)] ++ [O.lst (ms0 ⟨p, Mn, an, bn⟩ [⟨0, List.replicate k0 0⟩]).log]) (by simp only [List.all_append, hT, hJ1]; rfl)
      simp only [List.append_assoc] at this ⊢
      exact this
end
abbrev s_law : Stmt := topS 86
abbrev N_law : List Str := ["_law_script", "_law_h", "_law_turn", "_law_code", "_law_spoilt_here", "_law_place", "_law_works", "_law_f", "_law_odd_here", "_law_such", "_law_nine", "_law_great"]
theorem sc_law : FnScope N_law ["_law_script"] (defScope s_law) := ⟨rfl, rfl, rfl, by decide +kernel, rfl, by decide +kernel, by decide +kernel⟩
theorem i_eqRL {g : Bool → Bool} {S : Sto} {P : DP} {i : Nat} {xs : List D} (n : Nat) (h1 : S[i]? = some (.lst xs)) (hp : pln (n + 1) (.lst xs) = true) (q : P (.bl (g true)) S) (hn : n ≤ 60 := by decide) : dEqG g (.ref i) (.lst xs) S P := by
  obtain ⟨e, c, d⟩ := pln_py S (n + 1) _ hp
  have hs := pln_shaped hp (by omega)
  refine ⟨n + 1, _, _, ?_, e, hs, hs, by rw [SeqAt.eqv_refl _ c]; exact q⟩
  have e' : pyOf S (n + 1) (.lst xs) = (allOf (pyOf S n) xs).map PyData.list := rfl
  rw [e'] at e
  show (match S[i]? with | some (.lst xs) => (allOf (pyOf S n) xs).map PyData.list | _ => none) = _
  rw [h1]
  exact e
def greatC : List CFn := List.replicate 8 ⟨3, List.replicate 200 (.call 7)⟩
theorem great_ok : codeOk greatC := by
  refine ⟨by decide, by decide, fun f hf => ?_⟩
  rw [List.eq_of_mem_replicate hf]
  refine ⟨by decide, by decide, by show (List.replicate 200 (CRow.call 7)).length ≤ 200; rw [List.length_replicate]; exact Nat.le_refl _, fun i r hi => ?_⟩
  rw [List.eq_of_mem_replicate (List.mem_of_getElem? hi)]
  exact ⟨by decide, by decide⟩
def greatH : List Hn := List.replicate 4 ⟨7, [999, 999, 999]⟩
theorem great_hands : handsOkG (gfs greatC) greatH := ⟨by decide, by decide, fun h hh => by
  rw [List.eq_of_mem_replicate hh]
  refine ⟨(3, (List.replicate 200 (CRow.call 7)).map CRow.e), rfl, rfl, fun a ha => ?_⟩
  have : a = 999 := by simpa using ha
  rw [this]
  decide⟩
section
variable {P : Program} {w : World} {K : PySem.W.Frag} {mg : Str → Option Value} {base : Heap} {A : Ad} {c CS c_BadProgram c_BadCode c_BadHands c_BadOrder c_BadTrace c_BadPlan c_BadLog c_BadText c_BadRound c_BadRule c_BadCost c_NoHand c_NotMade c_NoRound c_Long : Addr}
theorem ok_law {f : Addr} {oc kV doc pm ct : Value} {od an : Option Addr} {osl : Array (Option Value)} (lk : K.lookup f = some ⟨oc, od, .func (PySem.W.fnOf "law" "law" (defArgs s_law) (defBody s_law) (defScope s_law) .none kV doc pm an (.ref c) ct), osl⟩) (hcd : PySem.W.codeIn K (.ref c) "law" = true) (TB_law : LamX.TabB base mg c 770)
    (at_w : At K mg "_law_word" s_Lword ["_law_work"]) (ca : ClsAt mg CS c_BadProgram c_BadCode c_BadHands c_BadOrder c_BadTrace c_BadPlan c_BadLog c_BadText c_BadRound c_BadRule c_BadCost c_NoHand c_NotMade c_NoRound c_Long)
    (wd1 : WdC K [c_BadProgram, c_BadCode, c_BadHands, c_BadOrder, c_BadTrace, c_BadPlan, c_BadLog, c_BadText, c_BadRound, c_BadRule, c_BadCost, c_NoHand, c_NotMade, c_NoRound, c_Long] CS c_BadCode 1)
    (mb : ∀ x, isB x = true → mg x = none) (G_Lmix : Fn P w K mg base "_law_mix" 1 ["_law_script", "_law_seed"] spMix) (G_Lnext : Fn P w K mg base "_law_next" 1 ["_law_h", "_law_many"] spNext) (G_Lanycode : Fn P w K mg base "_law_any_code" 3 ["_law_h"] spAnyCode)
    (G_Lspoilt : Fn P w K mg base "_law_spoilt" 4 ["_law_h", "_law_code"] spSpoilt) (G_Lmachineright : Fn P w K mg base "_law_machine_right" 14 ["_law_h", "_law_code"] spMacRight)
    (at_a : At K mg "_law_all" s_Lall ["_law_works", "_law_due"]) (G_Lalike : Fn P w K mg base "_law_alike" 4 ["_law_found", "_law_due"] (spAlike 4))
    (T_Machine : ClsF K A.MA macFields) (Mk_Machine : MkF P w K mg base "Machine" A.MA 7 ["self", "code", "hands", "many", "rule"] (spMacInit A)) (MkX_Machine : MkX P w K mg base "Machine" A.MA 7 ["self", "code", "hands", "many", "rule"] (spMacBad c_BadCode c_BadHands c_BadRound c_BadRule))
    (G_slid : FnX P w K mg base "slid" 9 ["code", "hands", "order", "many", "rule"] (spSlidBad c_BadCode c_BadHands c_BadOrder c_BadRound c_BadRule)) (G_unmade : FnX P w K mg base "unmade" 7 ["code"] (spCdBad c_BadCode)) (M_Machinetold : MFn P w K mg base A.MA "told" 1 ["self"] (spTold A)) :
    FnOk P w K mg base CX0 15 f (PySem.W.fnOf "law" "law" (defArgs s_law) (defBody s_law) (defScope s_law) .none kV doc pm an (.ref c) ct) ["_law_script"] (liftSp K spLaw) := by
  obtain ⟨g, fdw, hmw, Fw, hbw⟩ := at_w.ex
  obtain ⟨ocw, odw, kVw, docw, pmw, anw, cdw, ctw, oslw, rfl, lkw, hcw⟩ := Fw.ex
  obtain ⟨fa, fda, hma, kpa, hba, F_all⟩ := ok_Lall at_a mb hmw Fw.kp G_Lalike
  refine fn_dT lk hcd sc_law (fun ds S P h => ?_) ?_
  · obtain ⟨ns, rfl, _⟩ := h
    rfl
  · rintro X W0 A' outer s H E rfl hr
    have hu := hr.units
    refine ⟨_, (dss_cons (ds_set (i := 1) (de_fn G_Lmix (hr.mono (by decide)) (by rfl) (da_cons (de_var (pv 0)) (da_cons de_int da_nil))) (fun h => ps_set sc_law.nd rfl (by first | exact Or.inl rfl | exact Or.inr rfl) h))
      (dss_cons (ds_for PassesOwn.never rfl (di_range1 (by rfl) (mb "range" rfl) (da_cons de_int da_nil)) (dg_name (pg_name (i := 2) sc_law.nd rfl (by first | exact Or.inl rfl | exact Or.inr rfl))) (dss_cons (ds_set (i := 3) (de_fn G_Lanycode (hr.mono (by decide)) (by rfl) (da_cons (de_var (pv 1)) da_nil)) (fun h => ps_set sc_law.nd rfl (by first | exact Or.inl rfl | exact Or.inr rfl) h))
      (dss_cons (ds_asg (de_fn G_Lspoilt (hr.mono (by decide)) (by rfl) (da_cons (de_var (pv 1)) (da_cons (de_var (pv 3)) da_nil))) (dg_tup (n := 2) rfl (dgs_cons (dg_name (pg_name (i := 4) sc_law.nd rfl (by first | exact Or.inl rfl | exact Or.inr rfl))) (dgs_cons (dg_name (pg_name (i := 5) sc_law.nd rfl (by first | exact Or.inl rfl | exact Or.inr rfl))) dgs_nil))) (fun h1 h2 => ps_asg h1 h2))
      (dss_cons (ds_set (i := 6) (de_new (dn_lst (da_cons (de_lamE0 (E := (DL.kV (DL.kB (DL.kB s_law 1) 2) 0)) (Tb := tabs0) rfl TB_law (tabIn_of (q := "law.<locals>.<lambda>") (by rfl) (by decide +kernel)) (tabUn_of (q := "law.<locals>.<lambda>") (by rfl) (by decide +kernel)) rfl (LamV.lamS3_by (N := N_law) (sc := defScope s_law) (by decide +kernel)) rfl) (da_cons (de_lamE1 (E := (DL.kV (DL.kB (DL.kB s_law 1) 2) 1)) (Tb := tabs0) rfl TB_law (tabIn_of (q := "law.<locals>.<lambda>") (by rfl) (by decide +kernel)) (tabUn_of (q := "law.<locals>.<lambda>") (by rfl) (by decide +kernel)) rfl (LamV.lamS3_by (N := N_law) (sc := defScope s_law) (by decide +kernel)) rfl rfl) da_nil)))) (fun h => ps_set sc_law.nd rfl (by first | exact Or.inl rfl | exact Or.inr rfl) h))
      (dss_cons (ds_expr (de_mt dm_append (de_var (pv 6)) (da_cons (de_lamE1 (E := (DL.kV (DL.kB (DL.kB s_law 1) 3) 0)) (Tb := tabs0) rfl TB_law (tabIn_of (q := "law.<locals>.<lambda>") (by rfl) (by decide +kernel)) (tabUn_of (q := "law.<locals>.<lambda>") (by rfl) (by decide +kernel)) rfl (LamV.lamS3_by (N := N_law) (sc := defScope s_law) (by decide +kernel)) rfl rfl) da_nil) (fun h1 h2 => pe_bm PySem.F.plainAttrs_list PySem.F.slot_list_append PySem.F.type_list_append mt_append h1 h2)))
      (dss_cons (ds_if (dt_not (dt_val (de_all (k := 10) (fun _ => rfl) F_all (by rfl) hma kpa hba (hr.mono (by decide)) (lams_cons (lamOkC (E := (DL.kV (DL.kB (DL.kB s_law 1) 2) 0)) (d := false) rfl (LamV.lamS3_by (N := N_law) (sc := defScope s_law) (by decide +kernel)) (bind0 (fun _ _ _ _ _ _ => rfl)) MkX_Machine (by decide) (fun _ _ _ _ _ _ _ => by rfl) (fun A outer s H E f c' B hr => (da_cons (de_var (pv 4)) (da_cons (de_pure (dn_lst da_nil)) (da_cons de_int (da_cons (de_tup da_nil) da_nil))))) (fun _ _ _ _ _ _ _ => by rfl) (fun _ _ _ _ _ _ _ => by rfl))
        (lams_cons (lamOkX (E := (DL.kV (DL.kB (DL.kB s_law 1) 2) 1)) (d := true) rfl (LamV.lamS3_by (N := N_law) (sc := defScope s_law) (by decide +kernel)) (bind1 rfl (fun _ _ _ _ _ _ _ _ => ⟨_, rfl, rfl⟩)) G_slid (by decide) (fun _ _ _ _ _ _ _ => by rfl) (fun A outer s H E f c' B hr => (da_cons (de_var (pv 4)) (da_cons (de_pure (dn_lst (da_cons (de_tup da_nil) da_nil))) (da_cons (de_pure (dn_lst (da_cons de_int da_nil))) (da_cons de_int (da_cons (de_tup da_nil) da_nil)))))) (fun _ _ _ _ _ _ _ => by rfl) (fun _ _ _ _ _ _ _ => by rfl))
        (lams_cons (lamOkX (E := (DL.kV (DL.kB (DL.kB s_law 1) 3) 0)) (d := true) rfl (LamV.lamS3_by (N := N_law) (sc := defScope s_law) (by decide +kernel)) (bind1 rfl (fun _ _ _ _ _ _ _ _ => ⟨_, rfl, rfl⟩)) G_unmade (by decide) (fun _ _ _ _ _ _ _ => by rfl) (fun A outer s H E f c' B hr => (da_cons (de_var (pv 4)) da_nil)) (fun _ _ _ _ _ _ _ => by rfl) (fun _ _ _ _ _ _ _ => by rfl))
        lams_nil))) lkw hcw hbw sc_Lword rfl (by first | exact .inl rfl | exact .inr (.inl rfl)) (fun A outer hr' => word_gives (k := 0) (hr'.mono (by decide)) mb ca) (da_cons (de_var (pv 6)) (da_cons (de_add (de_tup (da_cons de_str da_nil)) (de_var (pv 5))) da_nil))))) (dss_one (ds_ret de_bl)) dss_nil)
      (dss_cons (ds_set (i := 7) (de_fn G_Lnext (hr.mono (by decide)) (by rfl) (da_cons (de_var (pv 1)) (da_cons (de_b dc_len (da_cons (de_var (pv 3)) da_nil) (fun h => pe_callB call_len_seq (by rfl) (mb "len" rfl) PySem.boot_len h)) da_nil))) (fun h => ps_set sc_law.nd rfl (by first | exact Or.inl rfl | exact Or.inr rfl) h))
      (dss_cons (ds_set (i := 8) (de_ix (de_pure (dn_lst (da_cons (de_tup da_nil) (da_cons (de_tup (da_cons de_int (da_cons (de_tup da_nil) da_nil))) (da_cons (de_tup (da_cons (de_neg de_int) (da_cons (de_tup da_nil) da_nil))) (da_cons (de_tup (da_cons de_int (da_cons (de_repT (de_tup (da_cons (de_tup (da_cons de_str da_nil)) da_nil)) de_int) da_nil))) (da_cons (de_tup (da_cons de_int (da_cons (de_tup da_nil) (da_cons (de_tup da_nil) da_nil)))) da_nil))))))) (de_fn G_Lnext (hr.mono (by decide)) (by rfl) (da_cons (de_var (pv 1)) (da_cons de_int da_nil))) (fun _ _ => rfl)) (fun h => ps_set sc_law.nd rfl (by first | exact Or.inl rfl | exact Or.inr rfl) h))
      (dss_cons (ds_set (i := 9) (de_add (de_add (de_sliceT (de_var (pv 3)) do_none (do_some (de_var (pv 7)))) (de_tup (da_cons (de_var (pv 8)) da_nil))) (de_sliceT (de_var (pv 3)) (do_some (de_add (de_var (pv 7)) de_int)) do_none)) (fun h => ps_set sc_law.nd rfl (by first | exact Or.inl rfl | exact Or.inr rfl) h))
      (dss_cons (ds_set (i := 6) (de_pure (dn_lst (da_cons (de_lamE0 (E := (DL.kV (DL.kB (DL.kB s_law 1) 8) 0)) (Tb := tabs0) rfl TB_law (tabIn_of (q := "law.<locals>.<lambda>") (by rfl) (by decide +kernel)) (tabUn_of (q := "law.<locals>.<lambda>") (by rfl) (by decide +kernel)) rfl (LamV.lamS3_by (N := N_law) (sc := defScope s_law) (by decide +kernel)) rfl) (da_cons (de_lamE1 (E := (DL.kV (DL.kB (DL.kB s_law 1) 8) 1)) (Tb := tabs0) rfl TB_law (tabIn_of (q := "law.<locals>.<lambda>") (by rfl) (by decide +kernel)) (tabUn_of (q := "law.<locals>.<lambda>") (by rfl) (by decide +kernel)) rfl (LamV.lamS3_by (N := N_law) (sc := defScope s_law) (by decide +kernel)) rfl rfl) da_nil)))) (fun h => ps_set sc_law.nd rfl (by first | exact Or.inl rfl | exact Or.inr rfl) h))
      (dss_one (ds_if (dt_w (dw_or (dt_not (dt_val (de_all (k := 10) (fun _ => rfl) F_all (by rfl) hma kpa hba (hr.mono (by decide)) (lams_cons (lamOkC (E := (DL.kV (DL.kB (DL.kB s_law 1) 8) 0)) (d := false) rfl (LamV.lamS3_by (N := N_law) (sc := defScope s_law) (by decide +kernel)) (bind0 (fun _ _ _ _ _ _ => rfl)) MkX_Machine (by decide) (fun _ _ _ _ _ _ _ => by rfl) (fun A outer s H E f c' B hr => (da_cons (de_var (pv 9)) (da_cons (de_pure (dn_lst da_nil)) (da_cons de_int (da_cons (de_tup da_nil) da_nil))))) (fun _ _ _ _ _ _ _ => by rfl) (fun _ _ _ _ _ _ _ => by rfl))
        (lams_cons (lamOkX (E := (DL.kV (DL.kB (DL.kB s_law 1) 8) 1)) (d := true) rfl (LamV.lamS3_by (N := N_law) (sc := defScope s_law) (by decide +kernel)) (bind1 rfl (fun _ _ _ _ _ _ _ _ => ⟨_, rfl, rfl⟩)) G_unmade (by decide) (fun _ _ _ _ _ _ _ => by rfl) (fun A outer s H E f c' B hr => (da_cons (de_var (pv 9)) da_nil)) (fun _ _ _ _ _ _ _ => by rfl) (fun _ _ _ _ _ _ _ => by rfl))
        lams_nil)) lkw hcw hbw sc_Lword rfl (by first | exact .inl rfl | exact .inr (.inl rfl)) (fun A outer hr' => word_gives (k := 0) (hr'.mono (by decide)) mb ca) (da_cons (de_var (pv 6)) (da_cons (de_tup (da_cons de_str (da_cons (de_var (pv 7)) (da_cons (de_neg de_int) da_nil)))) da_nil))))) (dw_or1 (dt_not (dt_val (de_fn G_Lmachineright (hr.mono (by decide)) (by rfl) (da_cons (de_var (pv 1)) (da_cons (de_var (pv 3)) da_nil)))))))) (dss_one (ds_ret de_bl)) dss_nil))))))))))))
      (dss_cons (ds_set (i := 10) (de_repT (de_tup (da_cons (de_tup (da_cons de_int (da_cons (de_tup da_nil) da_nil))) da_nil)) de_int) (fun h => ps_set sc_law.nd rfl (by first | exact Or.inl rfl | exact Or.inr rfl) h))
      (dss_cons (ds_if (dt_not (dt_val (de_all (k := 10) (fun _ => rfl) F_all (by rfl) hma kpa hba (hr.mono (by decide)) (lams_cons (lamOkX (E := (DL.kE (DL.kE (DL.kV (DL.kB s_law 3) 0) 0) 0)) (d := false) rfl (LamV.lamS3_by (N := N_law) (sc := defScope s_law) (by decide +kernel)) (bind0 (fun _ _ _ _ _ _ => rfl)) G_unmade (by decide) (fun _ _ _ _ _ _ _ => by rfl) (fun A outer s H E f c' B hr => (da_cons (de_tup da_nil) da_nil)) (fun _ _ _ _ _ _ _ => by rfl) (fun _ _ _ _ _ _ _ => by rfl))
        (lams_cons (lamOkC (E := (DL.kE (DL.kE (DL.kV (DL.kB s_law 3) 0) 0) 1)) (d := true) rfl (LamV.lamS3_by (N := N_law) (sc := defScope s_law) (by decide +kernel)) (bind1 rfl (fun _ _ _ _ _ _ _ _ => ⟨_, rfl, rfl⟩)) MkX_Machine (by decide) (fun _ _ _ _ _ _ _ => by rfl) (fun A outer s H E f c' B hr => (da_cons (de_tup da_nil) (da_cons (de_pure (dn_lst da_nil)) (da_cons de_int (da_cons (de_tup da_nil) da_nil))))) (fun _ _ _ _ _ _ _ => by rfl) (fun _ _ _ _ _ _ _ => by rfl))
        lams_nil)) lkw hcw hbw sc_Lword rfl (by first | exact .inl rfl | exact .inr (.inl rfl)) (fun A outer hr' => word_gives (k := 0) (hr'.mono (by decide)) mb ca) (da_cons (de_pure (dn_lst (da_cons (de_lamE0 (E := (DL.kE (DL.kE (DL.kV (DL.kB s_law 3) 0) 0) 0)) (Tb := tabs0) rfl TB_law (tabIn_of (q := "law.<locals>.<lambda>") (by rfl) (by decide +kernel)) (tabUn_of (q := "law.<locals>.<lambda>") (by rfl) (by decide +kernel)) rfl (LamV.lamS3_by (N := N_law) (sc := defScope s_law) (by decide +kernel)) rfl) (da_cons (de_lamE1 (E := (DL.kE (DL.kE (DL.kV (DL.kB s_law 3) 0) 0) 1)) (Tb := tabs0) rfl TB_law (tabIn_of (q := "law.<locals>.<lambda>") (by rfl) (by decide +kernel)) (tabUn_of (q := "law.<locals>.<lambda>") (by rfl) (by decide +kernel)) rfl (LamV.lamS3_by (N := N_law) (sc := defScope s_law) (by decide +kernel)) rfl rfl) da_nil)))) (da_cons (de_tup (da_cons de_str (da_cons de_int (da_cons (de_neg de_int) da_nil)))) da_nil))))) (dss_one (ds_ret de_bl)) dss_nil)
      (dss_cons (ds_if (dt_not (dt_val (de_all (k := 10) (fun _ => rfl) F_all (by rfl) hma kpa hba (hr.mono (by decide)) (lams_cons (lamOkX (E := (DL.kE (DL.kE (DL.kV (DL.kB s_law 4) 0) 0) 0)) (d := false) rfl (LamV.lamS3_by (N := N_law) (sc := defScope s_law) (by decide +kernel)) (bind0 (fun _ _ _ _ _ _ => rfl)) G_unmade (by decide) (fun _ _ _ _ _ _ _ => by rfl) (fun A outer s H E f c' B hr => (da_cons (de_var (pv 10)) da_nil)) (fun _ _ _ _ _ _ _ => by rfl) (fun _ _ _ _ _ _ _ => by rfl))
        lams_nil) lkw hcw hbw sc_Lword rfl (by first | exact .inl rfl | exact .inr (.inl rfl)) (fun A outer hr' => word_gives (k := 0) (hr'.mono (by decide)) mb ca) (da_cons (de_pure (dn_lst (da_cons (de_lamE0 (E := (DL.kE (DL.kE (DL.kV (DL.kB s_law 4) 0) 0) 0)) (Tb := tabs0) rfl TB_law (tabIn_of (q := "law.<locals>.<lambda>") (by rfl) (by decide +kernel)) (tabUn_of (q := "law.<locals>.<lambda>") (by rfl) (by decide +kernel)) rfl (LamV.lamS3_by (N := N_law) (sc := defScope s_law) (by decide +kernel)) rfl) da_nil))) (da_cons (de_tup (da_cons de_str (da_cons de_int (da_cons (de_neg de_int) da_nil)))) da_nil))))) (dss_one (ds_ret de_bl)) dss_nil)
      (dss_cons (ds_set (i := 11) (de_repT (de_tup (da_cons (de_tup (da_cons de_int (da_cons (de_repT (de_tup (da_cons (de_tup (da_cons de_str (da_cons de_int da_nil))) da_nil)) de_int) da_nil))) da_nil)) de_int) (fun h => ps_set sc_law.nd rfl (by first | exact Or.inl rfl | exact Or.inr rfl) h))
      (dss_one (ds_ret (de_cmp (op_eqA hu) do_eq (de_meth0 T_Machine.cl M_Machinetold (hr.mono (by decide)) (de_make Mk_Machine (hr.mono (by decide)) (by rfl) (da_cons (de_var (pv 11)) (da_cons (de_pure (dn_rep (de_pure (dn_lst (da_cons (de_tup (da_cons de_int (da_cons (de_repT (de_tup (da_cons de_int da_nil)) de_int) da_nil))) da_nil))) de_int)) (da_cons de_int (da_cons (de_tup (da_cons de_int (da_cons de_int da_nil))) da_nil)))))) (de_pure (dn_rep (de_pure (dn_lst (da_cons de_non da_nil))) de_int)) (nomark _)))))))))), ?_⟩
    rintro ds S P ⟨ns, rfl, rfl, post⟩
    walk_at "st"
    walk_at "v"
    refine ⟨ns, 11, rfl, rfl, fun m => ?_⟩
    walk_at "v"
    walk_at "e"
    refine i_rg1 (by decide) (by decide) ?_
    have hdp : ∀ (t : Tok) (T' : Sto), T'.all plainO = true → (([.lst (t.cells.map .int), .lst [.int t.m, .ref 2, .int t.n]] : Sto) ++ T').all plainO = true := fun t T' h => by rw [List.all_append, h]; rfl
    have asx : ∀ {P' : DP} {d : D} {S1 J : Sto}, (∀ J' : Sto, J'.all plainO = true → P' d (S1 ++ J')) → J.all plainO = true → P' d (S1 ++ J ++ [O.ins A.MA []]) := fun h hJ => by rw [List.append_assoc]; exact h _ (by rw [List.all_append, hJ]; rfl)
    refine ⟨fun i env S' => ∃ t T y2 y3 y4 y5 y6 y7 y8 y9 y10 y11, T.all plainO = true ∧ S' = hd t ++ T ∧ env = [some (.scr ns), some (.ref 3), y2, y3, y4, y5, y6, y7, y8, y9, y10, y11], ⟨_, [], none, none, none, none, none, none, none, none, none, none, rfl, (List.append_nil _).symm, rfl⟩, fun _ _ _ _ _ => trivial, ?_, ?_⟩
    · rintro i x env S' hx ⟨t, T, y2, y3, y4, y5, y6, y7, y8, y9, y10, y11, hT, rfl, rfl⟩
      obtain ⟨hi, rfl⟩ := rangeD_get hx
      walk_at "v"
      walk_at "e"
      refine ⟨t, T, rfl, rfl, fun p t1 hp h30 => ?_⟩
      walk_at "v"
      walk_at "e"
      refine ⟨t1, T, p, rfl, rfl, hp, h30, fun d si sj t2 dd hb du => ?_⟩
      walk_at "v"
      walk_at "e"
      refine i_fn (S' := [.lst (t2.cells.map .int), .lst [.int t2.m, .ref 2, .int t2.n]] ++ T) rfl (hdp t2 _ hT) ?_
      walk_at "v"
      refine i_fn (S' := [.lst (t2.cells.map .int), .lst [.int t2.m, .ref 2, .int t2.n]] ++ T) rfl (hdp t2 _ hT) ?_
      walk_at "v"
      rw [ls_new, ls_len]
      walk_at "e"
      refine i_mtx ls_at ?_
      have hdq : ∀ xs : List D, (([.lst (t2.cells.map .int), .lst [.int t2.m, .ref 2, .int t2.n]] : Sto) ++ (T ++ [O.lst xs])).all plainO = true := fun xs => by rw [List.all_append, List.all_append, hT]; rfl
      refine i_fn (S' := [.lst (t2.cells.map .int), .lst [.int t2.m, .ref 2, .int t2.n]] ++ (T ++ [O.lst _])) rfl (hdq _) ?_
      walk_at "v"
      refine i_append ls_at (sz_lt (by show 2 < 100000; decide)) ?_
      rw [ls_put]
      walk_at "v"
      refine i_allS ls_at (fnl_cons (fnl_cons (fnl_cons fnl_nil))) (pln_at2 _ _ _ (by decide +kernel)) (all_cons (fun J hJ P' hP => ⟨_, List.mem_cons_self, ?_⟩) (all_cons (fun J hJ P' hP => ⟨_, mem1, ?_⟩) (all_cons (fun J hJ P' hP => ⟨_, mem2, ?_⟩) all_nil))) ?_
      · walk_at "v"
        exact ⟨_, d, _, _, _, rfl, dd, .inl ⟨(si, sj), hb, 1, _, wd1, rfl, asx hP hJ⟩⟩
      · walk_at "v"
        exact ⟨d, _, _, _, _, rfl, dd, .inl ⟨(si, sj), hb, 1, _, wd1, rfl, hP _ hJ⟩⟩
      · walk_at "v"
        exact ⟨d, rfl, dd, (si, sj), hb, 1, _, wd1, rfl, hP _ hJ⟩
      walk_at "v"
      refine ite_f (by decide) ?_
      walk_at "v"
      have p0 := hp.lo
      have p8 := hp.hi
      dsimp only [cdE]
      walk_at "v"
      rw [List.length_map]
      refine ls_draw (by omega) (by omega) fun fi t3 f0 f1 => ?_
      obtain ⟨fi, rfl⟩ : ∃ k : Nat, fi = k := ⟨fi.toNat, by omega⟩
      walk_at "v"
      refine ⟨_, 201, rfl, rfl, by simp, by decide, by decide, (by show 1 ≤ 1000; decide), ?_⟩
      walk_at "v"
      refine ls_draw (by decide) (by decide) fun oi t4 oi0 oi1 => ?_
      have at_ : ∃ o, L2.atI [D.tup [], D.tup [.int 4, .tup []], D.tup [.int (-1), .tup []], D.tup [.int 0, .tup (List.replicate (Int.toNat 201) [D.tup [.str "back"]]).flatten], D.tup [.int 0, .tup [], .tup []]] oi = some o ∧ dat o = true ∧ fcan 200 o = false := by
        rcases (show oi = 0 ∨ oi = 1 ∨ oi = 2 ∨ oi = 3 ∨ oi = 4 by omega) with rfl | rfl | rfl | rfl | rfl
        · exact ⟨_, rfl, rfl, rfl⟩
        · exact ⟨_, rfl, rfl, rfl⟩
        · exact ⟨_, rfl, rfl, rfl⟩
        · exact ⟨_, rfl, rfl, rfl⟩
        · exact ⟨_, rfl, rfl, rfl⟩
      obtain ⟨o, ho, od, oc⟩ := at_
      refine i_ix rfl ho ?_
      walk_at "v"
      rw [c_map, c_hi]
      refine i_addT (sz_le (by simp only [List.length_map, List.length_take, List.length_cons, List.length_nil]; omega)) ?_
      walk_at "v"
      rw [c_map, show ((fi : Int) + 1) = ((fi + 1 : Nat) : Int) from rfl, c_lo]
      refine i_addT (sz_le (by simp only [List.length_append, List.length_map, List.length_take, List.length_drop, List.length_cons, List.length_nil]; omega)) ?_
      walk_at "v"
      have fd : ∀ f ∈ p, dat f.e = true ∧ fcan 200 f.e = true := fun f hf => by
        have q := hp.fs f hf
        have h1 : dats (f.rows.map CRow.e) = true := dats_of fun x hx => by obtain ⟨r, _, rfl⟩ := List.mem_map.mp hx; exact dat_crow r
        refine ⟨?_, ?_⟩
        · show (true && (dats (f.rows.map CRow.e) && true)) = true
          rw [h1]
          rfl
        · have := q.len
          have := q.lo
          have := q.hi
          show (inB 4 (.int f.many) && decide (((f.rows.map CRow.e).length : Int) ≤ 200)) = true
          rw [inB_of (by omega) (by omega), decide_eq_true (by rw [List.length_map]; omega)]
          rfl
      have ht : (List.map CFn.e (p.take fi)).length = fi := by rw [List.length_map, List.length_take]; omega
      have hall : dat (.tup (List.map CFn.e (p.take fi) ++ [o] ++ List.map CFn.e (p.drop (fi + 1)))) = true := dats_of fun x hx => by
        simp only [List.mem_append, List.mem_singleton, List.mem_map] at hx
        rcases hx with (⟨f, hf, rfl⟩ | rfl) | ⟨f, hf, rfl⟩
        · exact (fd f (List.mem_of_mem_take hf)).1
        · exact od
        · exact (fd f (List.mem_of_mem_drop hf)).1
      have hbad : fbad cdSh 16 200 (.tup (List.map CFn.e (p.take fi) ++ [o] ++ List.map CFn.e (p.drop (fi + 1)))) = some ((fi : Int), -1) := by
        have h2 := fbf_take (most := 200) 0 (List.map CFn.e (p.take fi) ++ [o] ++ List.map CFn.e (p.drop (fi + 1))) fi o (by
          rw [List.getElem?_append_left (by rw [List.length_append, ht, List.length_cons, List.length_nil]; omega), List.getElem?_append_right (by rw [ht]; omega), ht, Nat.sub_self]
          rfl) (fun j g hj e => by
          rw [List.getElem?_append_left (by rw [List.length_append, ht]; omega), List.getElem?_append_left (by rw [ht]; omega)] at e
          obtain ⟨f, hf, rfl⟩ := List.mem_map.mp (List.mem_of_getElem? e)
          exact ⟨by omega, (fd f (List.mem_of_mem_take hf)).2⟩) (.inr oc)
        rw [Nat.zero_add] at h2
        have h3 : fbadF 200 (.tup (List.map CFn.e (p.take fi) ++ [o] ++ List.map CFn.e (p.drop (fi + 1)))) = some fi := by
          generalize List.map CFn.e (p.take fi) ++ [o] ++ List.map CFn.e (p.drop (fi + 1)) = L at h2
          cases L with
          | nil => cases h2
          | cons x xs => exact h2
        unfold fbad
        rw [h3]
      generalize D.tup (List.map CFn.e (p.take fi) ++ [o] ++ List.map CFn.e (p.drop (fi + 1))) = sd at hall hbad
      walk_at "e"
      refine i_fn (S' := [.lst (t4.cells.map .int), .lst [.int t4.m, .ref 2, .int t4.n]] ++ (T ++ [O.lst _])) rfl (by rw [List.all_append, List.all_append, hT]; rfl) ?_
      walk_at "v"
      refine i_fn (S' := [.lst (t4.cells.map .int), .lst [.int t4.m, .ref 2, .int t4.n]] ++ (T ++ [O.lst _])) rfl (by rw [List.all_append, List.all_append, hT]; rfl) ?_
      walk_at "v"
      refine i_all (fnl_cons (fnl_cons fnl_nil)) (pln_at2 _ _ _ (by decide +kernel)) (all_cons (fun J hJ P' hP => ⟨_, List.mem_cons_self, ?_⟩) (all_cons (fun J hJ P' hP => ⟨_, mem1, ?_⟩) all_nil)) ?_
      · walk_at "v"
        exact ⟨_, sd, _, _, _, rfl, hall, .inl ⟨(fi, -1), hbad, 1, _, wd1, rfl, asx hP hJ⟩⟩
      · walk_at "v"
        exact ⟨sd, rfl, hall, (fi, -1), hbad, 1, _, wd1, rfl, hP _ hJ⟩
      walk_at "v"
      refine ite_f (by decide) ?_
      walk_at "v"
      refine ⟨t4, T ++ [O.lst _], p, rfl, rfl, by rw [List.all_append, hT]; rfl, hp, fun t5 J hJ => ?_⟩
      walk_at "v"
      refine ite_f (by decide) ?_
      exact ⟨t5, J, _, _, _, _, _, _, _, _, _, _, hJ, rfl, rfl⟩
    · rintro env S' ⟨t, T, y2, y3, y4, y5, y6, y7, y8, y9, y10, y11, hT, rfl, rfl⟩
      walk_at "v"
      walk_at "e"
      refine ⟨_, 9, rfl, rfl, by simp, by decide, by decide, (by show 1 ≤ 1000; decide), ?_⟩
      walk_at "v"
      refine i_fn (S' := [.lst (t.cells.map .int), .lst [.int t.m, .ref 2, .int t.n]] ++ T) rfl (hdp t _ hT) ?_
      walk_at "v"
      refine i_fn (S' := [.lst (t.cells.map .int), .lst [.int t.m, .ref 2, .int t.n]] ++ T) rfl (hdp t _ hT) ?_
      walk_at "v"
      refine i_all (fnl_cons (fnl_cons fnl_nil)) (pln_at2 _ _ _ (by decide +kernel)) (all_cons (fun J hJ P' hP => ⟨_, List.mem_cons_self, ?_⟩) (all_cons (fun J hJ P' hP => ⟨_, mem1, ?_⟩) all_nil)) ?_
      · walk_at "v"
        exact ⟨_, rfl, rfl, (0, -1), rfl, 1, _, wd1, rfl, hP _ hJ⟩
      · walk_at "v"
        exact ⟨_, _, _, _, _, rfl, rfl, .inl ⟨(0, -1), rfl, 1, _, wd1, rfl, asx hP hJ⟩⟩
      walk_at "v"
      refine ite_f (by decide) ?_
      walk_at "v"
      refine i_fn (S' := [.lst (t.cells.map .int), .lst [.int t.m, .ref 2, .int t.n]] ++ T) rfl (hdp t _ hT) ?_
      walk_at "v"
      refine i_all (fnl_cons fnl_nil) (pln_at2 _ _ _ (by decide +kernel)) (all_cons (fun J hJ P' hP => ⟨_, List.mem_cons_self, ?_⟩) all_nil) ?_
      · walk_at "v"
        exact ⟨_, rfl, rfl, (8, -1), rfl, 1, _, wd1, rfl, hP _ hJ⟩
      walk_at "v"
      refine ite_f (by decide) ?_
      walk_at "v"
      refine ⟨_, 200, rfl, rfl, by simp, by decide, by decide, (by show 1 ≤ 1000; decide), ?_⟩
      walk_at "v"
      refine ⟨_, 8, rfl, rfl, by simp, by decide, by decide, (by show 1 ≤ 1000; decide), ?_⟩
      walk_at "v"
      refine ⟨_, 3, rfl, rfl, by simp, by decide, by decide, (by show 1 ≤ 1000; decide), ?_⟩
      walk_at "v"
      refine i_rep rfl (by decide) (by decide) (sz_le (by decide)) ?_
      walk_at "v"
      refine ⟨hd t ++ T, ⟨greatC, 8, 7, 7⟩, greatH, rfl, rfl, ⟨great_ok, by decide, by decide, by decide, by decide, by decide, by decide⟩, great_hands, fun S' TL hl er ma => ⟨rfl, ?_⟩⟩
      rw [← er]
      refine ⟨⟨_, _, rfl, ma.top, rfl⟩, ?_⟩
      walk_at "v"
      refine ⟨_, _, _, _, _, rfl, ma, ?_⟩
      walk_at "v"
      refine i_rep rfl (by decide) (by decide) (sz_le (by decide)) ?_
      walk_at "v"
      obtain ⟨J1, rfl, hJ1⟩ : ∃ J : Sto, S' = hd t ++ T ++ J ∧ J.all plainO = true := by
        have h := ma.hdP
        exact ⟨_, h.prefix, h.junk mPl_plain⟩
      refine i_eqRL 3 (xs := (ms0 ⟨greatC, 8, 7, 7⟩ greatH).told) (by rw [List.getElem?_append_right (Nat.le_refl _), Nat.sub_self]; rfl) rfl ?_
      exact exit_pure (S := [.tab 770 "law.<locals>.<lambda>", .tab 763 "_law_machine_right.<locals>.<lambda>"]) (T' := [.lst (t.cells.map .int), .lst [.int t.m, .ref 2, .int t.n]] ++ (T ++ (J1 ++ [O.lst (ms0 ⟨greatC, 8, 7, 7⟩ greatH).told]))) (by simp [hd, tabs0, tabO]) (fun _ => rfl) post
end
abbrev s_xiBadCode : Stmt := inClass (topS 4) 0
theorem xs_BadCode : XiS PySem.Challenge.rw_slideboxes_k04_codes_refused.prog "BadCode.__init__" s_xiBadCode ["function", "row"] :=
  ⟨fun _ _ _ _ _ _ _ us hl => match us, hl with | [_, _, _], _ => rfl, ⟨_, rfl, rfl⟩, by decide +kernel, rfl, rfl, by decide +kernel, by decide +kernel, rfl, rfl, rfl, by decide, by decide, ⟨_, _, _, _, _, _, _, _, _, _, rfl, (Fp.txt (by decide) (Fp.nam (by decide) (Fp.txt (by decide) (Fp.nam (by decide) Fp.nil)))), by decide, (Sts.cons (Sts.cons Sts.nil)), fun _ _ _ _ _ _ _ _ _ => ⟨rfl, _, rfl⟩⟩⟩
abbrev s_xiBadHands : Stmt := inClass (topS 5) 0
theorem xs_BadHands : XiS PySem.Challenge.rw_slideboxes_k04_codes_refused.prog "BadHands.__init__" s_xiBadHands ["at"] :=
  ⟨fun _ _ _ _ _ _ _ us hl => match us, hl with | [_, _], _ => rfl, ⟨_, rfl, rfl⟩, by decide +kernel, rfl, rfl, by decide +kernel, by decide +kernel, rfl, rfl, rfl, by decide, by decide, ⟨_, _, _, _, _, _, _, _, _, _, rfl, (Fp.txt (by decide) (Fp.nam (by decide) Fp.nil)), by decide, (Sts.cons Sts.nil), fun _ _ _ _ _ _ _ _ _ => ⟨rfl, _, rfl⟩⟩⟩
abbrev s_xiBadOrder : Stmt := inClass (topS 6) 0
theorem xs_BadOrder : XiS PySem.Challenge.rw_slideboxes_k04_codes_refused.prog "BadOrder.__init__" s_xiBadOrder ["at"] :=
  ⟨fun _ _ _ _ _ _ _ us hl => match us, hl with | [_, _], _ => rfl, ⟨_, rfl, rfl⟩, by decide +kernel, rfl, rfl, by decide +kernel, by decide +kernel, rfl, rfl, rfl, by decide, by decide, ⟨_, _, _, _, _, _, _, _, _, _, rfl, (Fp.txt (by decide) (Fp.nam (by decide) Fp.nil)), by decide, (Sts.cons Sts.nil), fun _ _ _ _ _ _ _ _ _ => ⟨rfl, _, rfl⟩⟩⟩
theorem law_all {C1 C2 C3 : Addr} {w : World} {K : PySem.W.Frag} {mg : Str → Option Value} {base : Heap} (mb : ∀ x, isB x = true → mg x = none) (gi : ∀ x n, isG x = some n → ∃ t, mg x = some (.int n t)) (cd : CdTab PySem.Challenge.rw_slideboxes_k04_codes_refused.prog w K mg) (T1 : ClsF K C1 macFields) (T2 : ClsF K C2 hrFields) (T3 : ClsF K C3 ccFields) (i1 : IAt K mg "Machine" C1 "Machine.__init__" s_Machineinit ["self", "code", "hands", "many", "rule"]) (i2 : IAt K mg "HandRun" C2 "HandRun.__init__" s_HandRuninit ["self", "code", "hand"]) (i3 : IAt K mg "CodeCall" C3 "CodeCall.__init__" s_CodeCallinit ["self", "rows"]) (m_pick : MAt K C1 "pick" "Machine.pick" s_Machinepick ["self", "hand"]) (m_told : MAt K C1 "told" "Machine.told" s_Machinetold ["self"]) (m_boxes : MAt K C1 "boxes" "Machine.boxes" s_Machineboxes ["self"]) (m_log : MAt K C1 "log" "Machine.log" s_Machinelog ["self"]) (ca : ClsAt mg 31 53 74 95 116 137 158 179 200 212 224 236 248 260 272 284) (wd1 : WdC K [53, 74, 95, 116, 137, 158, 179, 200, 212, 224, 236, 248, 260, 272, 284] 31 74 1) (wd2 : WdC K [53, 74, 95, 116, 137, 158, 179, 200, 212, 224, 236, 248, 260, 272, 284] 31 95 2) (wd3 : WdC K [53, 74, 95, 116, 137, 158, 179, 200, 212, 224, 236, 248, 260, 272, 284] 31 116 3) (wd8 : WdC K [53, 74, 95, 116, 137, 158, 179, 200, 212, 224, 236, 248, 260, 272, 284] 31 212 8) (wd9 : WdC K [53, 74, 95, 116, 137, 158, 179, 200, 212, 224, 236, 248, 260, 272, 284] 31 224 9) (wd11 : WdC K [53, 74, 95, 116, 137, 158, 179, 200, 212, 224, 236, 248, 260, 272, 284] 31 248 11) (xc_BadRound : XcF K mg "BadRound" 212) (xc_BadRule : XcF K mg "BadRule" 224) (xc_NoHand : XcF K mg "NoHand" 248) (xi_BadCode : XiC PySem.Challenge.rw_slideboxes_k04_codes_refused.prog K 74 "BadCode.__init__" s_xiBadCode ["function", "row"]) (mx_BadCode : mg "BadCode" = some (.ref 74)) (xi_BadHands : XiC PySem.Challenge.rw_slideboxes_k04_codes_refused.prog K 95 "BadHands.__init__" s_xiBadHands ["at"]) (mx_BadHands : mg "BadHands" = some (.ref 95)) (xi_BadOrder : XiC PySem.Challenge.rw_slideboxes_k04_codes_refused.prog K 116 "BadOrder.__init__" s_xiBadOrder ["at"]) (mx_BadOrder : mg "BadOrder" = some (.ref 116)) (zs : mg "super" = none) (tf_Lmachineright : TabF K mg "_law_machine_right" 767 763)
    (at_whole : At K mg "whole" s_whole ["value"])
    (at_below : At K mg "below" s_below ["value", "bound"])
    (at_allbelow : At K mg "all_below" s_allbelow ["values", "bound"])
    (at_functioncanbe : At K mg "function_can_be" s_functioncanbe ["function", "most"])
    (at_firstbadfunction : At K mg "first_bad_function" s_firstbadfunction ["functions", "most"])
    (at_rowcanbe : At K mg "row_can_be" s_rowcanbe ["row", "shapes", "bounds", "manys"])
    (at_firstbad : At K mg "first_bad" s_firstbad ["functions", "shapes", "boxes", "most"])
    (at_checkcode : At K mg "check_code" s_checkcode ["code"])
    (at_handcanbe : At K mg "hand_can_be" s_handcanbe ["functions", "hand"])
    (at_checkhands : At K mg "check_hands" s_checkhands ["functions", "hands"])
    (at_checkorder : At K mg "check_order" s_checkorder ["hands", "order"])
    (at_checkround : At K mg "check_round" s_checkround ["many"])
    (at_checkrule : At K mg "check_rule" s_checkrule ["rule", "many"])
    (at_unmade : At K mg "unmade" s_unmade ["code"])
    (at_slid : At K mg "slid" s_slid ["code", "hands", "order", "many", "rule"])
    (at_Lmix : At K mg "_law_mix" s_Lmix ["_law_script", "_law_seed"])
    (at_Lnext : At K mg "_law_next" s_Lnext ["_law_h", "_law_many"])
    (at_Lcoderow : At K mg "_law_code_row" s_Lcoderow ["_law_h", "_law_left", "_law_many"])
    (at_Lanycode : At K mg "_law_any_code" s_Lanycode ["_law_h"])
    (at_Lrounds : At K mg "_law_rounds" s_Lrounds ["_law_h"])
    (at_Lalike : At K mg "_law_alike" s_Lalike ["_law_found", "_law_due"])
    (at_Lword : At K mg "_law_word" s_Lword ["_law_work"])
    (at_Lall : At K mg "_law_all" s_Lall ["_law_works", "_law_due"])
    (at_Lodd : At K mg "_law_odd" s_Lodd ["_law_h", "_law_row", "_law_left", "_law_many"])
    (at_Lspoilt : At K mg "_law_spoilt" s_Lspoilt ["_law_h", "_law_code"])
    (at_Lmachineright : At K mg "_law_machine_right" s_Lmachineright ["_law_h", "_law_code"])
    {f : Addr} {oc kV doc pm ct : Value} {od an : Option Addr} {osl : Array (Option Value)} (lk : K.lookup f = some ⟨oc, od, .func (PySem.W.fnOf "law" "law" (defArgs s_law) (defBody s_law) (defScope s_law) .none kV doc pm an (.ref 774) ct), osl⟩) (hcd : PySem.W.codeIn K (.ref 774) "law" = true) (TB_law : LamX.TabB base mg 774 770) (TB_Lmachineright : LamX.TabB base mg 767 763) :
    FnOk PySem.Challenge.rw_slideboxes_k04_codes_refused.prog w K mg base CX0 15 f (PySem.W.fnOf "law" "law" (defArgs s_law) (defBody s_law) (defScope s_law) .none kV doc pm an (.ref 774) ct) ["_law_script"] (liftSp K spLaw) := by
  have g1 := ok_Lnext (P := PySem.Challenge.rw_slideboxes_k04_codes_refused.prog) (w := w) (base := base) at_Lnext mb
  have g6 := ok_whole (P := PySem.Challenge.rw_slideboxes_k04_codes_refused.prog) (w := w) (base := base) at_whole mb
  have g7 := ok_below at_below mb g6
  have g8 := ok_allbelow at_allbelow mb g7
  have g11 := ok_functioncanbe at_functioncanbe mb gi g7
  have g12 := ok_firstbadfunction at_firstbadfunction mb gi g11
  have g13 := ok_rowcanbe at_rowcanbe mb g7 g8
  have g14 := ok_firstbad at_firstbad mb gi g12 g13
  have x1 := ok_checkcodeX at_checkcode mb gi zs mx_BadCode xi_BadCode cd g14
  have x2 := ok_handcanbe at_handcanbe mb gi g7 g8
  have x3 := ok_checkhands at_checkhands mb gi zs mx_BadHands xi_BadHands x2
  have x4 := ok_checkorder at_checkorder mb gi zs mx_BadOrder xi_BadOrder g7
  have x5 := ok_checkroundX at_checkround gi xc_BadRound g7
  have x6 := ok_checkruleX at_checkrule mb xc_BadRule g8
  have c1 := checkcodeF x1
  have h2 := checkhandsF x3
  have h4 := checkroundF x5
  have h5 := checkruleF x6
  have m01 := ok_CodeCallinit (P := PySem.Challenge.rw_slideboxes_k04_codes_refused.prog) (w := w) (base := base) (mg := mg) i3 T3
  have m02 := ok_HandRuninit (A := ⟨C1, C2, C3⟩) i2 mb gi T2 m01
  have m03 := ok_Machineinit (A := ⟨C1, C2, C3⟩) i1 mb gi T1 c1 h2 h4 h5 m02
  have mx := ok_MachineinitX (A := ⟨C1, C2, C3⟩) i1 x1 x3 x5 x6
  have sx := ok_slidX (A := ⟨C1, C2, C3⟩) at_slid x1 x3 x4 mx
  have ux := ok_unmadeX at_unmade x1
  have pk := ok_pickX (A := ⟨C1, C2, C3⟩) m_pick mb T1 xc_NoHand g7
  have m16 := ok_told (P := PySem.Challenge.rw_slideboxes_k04_codes_refused.prog) (w := w) (base := base) (A := ⟨C1, C2, C3⟩) (mg := mg) m_told mb T1
  have m17 := ok_boxes (P := PySem.Challenge.rw_slideboxes_k04_codes_refused.prog) (w := w) (base := base) (A := ⟨C1, C2, C3⟩) (mg := mg) m_boxes mb T1
  have m18 := ok_log (P := PySem.Challenge.rw_slideboxes_k04_codes_refused.prog) (w := w) (base := base) (A := ⟨C1, C2, C3⟩) (mg := mg) m_log mb T1
  have l1 := ok_Lcoderow at_Lcoderow mb g1
  have l2 := ok_Lanycode at_Lanycode mb g1 l1
  have l3 := ok_Lrounds at_Lrounds g1
  have l4 := ok_Lodd at_Lodd mb g1
  have l5 := ok_Lspoilt at_Lspoilt mb g1 l4
  have a0 := ok_Lalike0 (P := PySem.Challenge.rw_slideboxes_k04_codes_refused.prog) (w := w) (base := base) at_Lalike
  have a4 := ok_Lalike at_Lalike mb (ok_Lalike at_Lalike mb (ok_Lalike at_Lalike mb (ok_Lalike at_Lalike mb a0)))
  have q1 := ok_Lmix (P := PySem.Challenge.rw_slideboxes_k04_codes_refused.prog) (w := w) (base := base) at_Lmix mb
  have l6 := ok_Lmachineright (A := ⟨C1, C2, C3⟩) at_Lmachineright tf_Lmachineright TB_Lmachineright at_Lword ca wd2 wd3 wd8 wd9 wd11 mb g1 l3 at_Lall a4 T1 m03 mx sx pk m16 m17 m18
  exact ok_law (A := ⟨C1, C2, C3⟩) lk hcd TB_law at_Lword ca wd1 mb q1 g1 l2 l5 l6 at_Lall a4 T1 m03 mx sx ux m16
end K04
open PySem PySem.W PyProof.Rows L2 DL K04
local macro_rules | `(tactic| walk_at "kr") => `(tactic| first
  | exact KRs.nil
  | exact KEs.nil
  | exact KR.int _ _
  | exact KR.str _ _
  | (refine' KRs.cons ?ka ?kb; (case ka => walk_at "kr"); (case kb => walk_at "kr"))
  | (refine' KR.tup ?ka ?kb ?kc; (case ka => k_is); (case kb => decide); (case kc => walk_at "kr"))
  | (refine' KEs.cons ?ka ?kb ?kc; (case ka => exact rfl); (case kb => walk_at "kr"); (case kc => walk_at "kr")))
set_option maxHeartbeats 0 in
theorem PySem.Challenge.cw_slideboxes_k04_codes_refused_holds : PySem.Challenge.rw_slideboxes_k04_codes_refused.Holds := by
  refine hd ?_
  k_fill
  refine' walk_tabs (l := PySem.Challenge.rw_slideboxes_k04_codes_refused) (n := 63) (k := 15) (x := "_law_script") (sp := K04.spLaw) [("law", 774, 770), ("_law_machine_right", 767, 763)] K04.tabs0 rfl (by decide) rfl ⟨rfl, by decide, by decide⟩ (fun w h Y => PySem.W.km_in_of Y) ?hrec rfl (by decide) ?F (fun ns => ⟨ns, rfl, rfl, rfl⟩)
  case hrec => first | kernel_rfl | decide +kernel
  case F =>
    intro w mg fa h KX G hmg
    refine' with_at KX G "whole" (topS 32) ["value"] ?aa1 ?ll1 ?cc1 ?kk1 (fun _ _ _ _ _ _ us hl => match us, hl with | [_], _ => rfl) ?qq1
    (case aa1 => k_is); (case ll1 => k_is); (case cc1 => k_is); (case kk1 => k_is)
    intro at_whole
    refine' with_at KX G "below" (topS 33) ["value", "bound"] ?aa2 ?ll2 ?cc2 ?kk2 (fun _ _ _ _ _ _ us hl => match us, hl with | [_, _], _ => rfl) ?qq2
    (case aa2 => k_is); (case ll2 => k_is); (case cc2 => k_is); (case kk2 => k_is)
    intro at_below
    refine' with_at KX G "all_below" (topS 34) ["values", "bound"] ?aa3 ?ll3 ?cc3 ?kk3 (fun _ _ _ _ _ _ us hl => match us, hl with | [_, _], _ => rfl) ?qq3
    (case aa3 => k_is); (case ll3 => k_is); (case cc3 => k_is); (case kk3 => k_is)
    intro at_allbelow
    refine' with_at KX G "function_can_be" (topS 39) ["function", "most"] ?aa4 ?ll4 ?cc4 ?kk4 (fun _ _ _ _ _ _ us hl => match us, hl with | [_, _], _ => rfl) ?qq4
    (case aa4 => k_is); (case ll4 => k_is); (case cc4 => k_is); (case kk4 => k_is)
    intro at_functioncanbe
    refine' with_at KX G "first_bad_function" (topS 40) ["functions", "most"] ?aa5 ?ll5 ?cc5 ?kk5 (fun _ _ _ _ _ _ us hl => match us, hl with | [_, _], _ => rfl) ?qq5
    (case aa5 => k_is); (case ll5 => k_is); (case cc5 => k_is); (case kk5 => k_is)
    intro at_firstbadfunction
    refine' with_at KX G "row_can_be" (topS 41) ["row", "shapes", "bounds", "manys"] ?aa6 ?ll6 ?cc6 ?kk6 (fun _ _ _ _ _ _ us hl => match us, hl with | [_, _, _, _], _ => rfl) ?qq6
    (case aa6 => k_is); (case ll6 => k_is); (case cc6 => k_is); (case kk6 => k_is)
    intro at_rowcanbe
    refine' with_at KX G "first_bad" (topS 42) ["functions", "shapes", "boxes", "most"] ?aa7 ?ll7 ?cc7 ?kk7 (fun _ _ _ _ _ _ us hl => match us, hl with | [_, _, _, _], _ => rfl) ?qq7
    (case aa7 => k_is); (case ll7 => k_is); (case cc7 => k_is); (case kk7 => k_is)
    intro at_firstbad
    refine' with_at KX G "check_code" (topS 44) ["code"] ?aa8 ?ll8 ?cc8 ?kk8 (fun _ _ _ _ _ _ us hl => match us, hl with | [_], _ => rfl) ?qq8
    (case aa8 => k_is); (case ll8 => k_is); (case cc8 => k_is); (case kk8 => k_is)
    intro at_checkcode
    refine' with_at KX G "hand_can_be" (topS 45) ["functions", "hand"] ?aa9 ?ll9 ?cc9 ?kk9 (fun _ _ _ _ _ _ us hl => match us, hl with | [_, _], _ => rfl) ?qq9
    (case aa9 => k_is); (case ll9 => k_is); (case cc9 => k_is); (case kk9 => k_is)
    intro at_handcanbe
    refine' with_at KX G "check_hands" (topS 46) ["functions", "hands"] ?aa10 ?ll10 ?cc10 ?kk10 (fun _ _ _ _ _ _ us hl => match us, hl with | [_, _], _ => rfl) ?qq10
    (case aa10 => k_is); (case ll10 => k_is); (case cc10 => k_is); (case kk10 => k_is)
    intro at_checkhands
    refine' with_at KX G "check_order" (topS 47) ["hands", "order"] ?aa11 ?ll11 ?cc11 ?kk11 (fun _ _ _ _ _ _ us hl => match us, hl with | [_, _], _ => rfl) ?qq11
    (case aa11 => k_is); (case ll11 => k_is); (case cc11 => k_is); (case kk11 => k_is)
    intro at_checkorder
    refine' with_at KX G "check_round" (topS 48) ["many"] ?aa12 ?ll12 ?cc12 ?kk12 (fun _ _ _ _ _ _ us hl => match us, hl with | [_], _ => rfl) ?qq12
    (case aa12 => k_is); (case ll12 => k_is); (case cc12 => k_is); (case kk12 => k_is)
    intro at_checkround
    refine' with_at KX G "check_rule" (topS 49) ["rule", "many"] ?aa13 ?ll13 ?cc13 ?kk13 (fun _ _ _ _ _ _ us hl => match us, hl with | [_, _], _ => rfl) ?qq13
    (case aa13 => k_is); (case ll13 => k_is); (case cc13 => k_is); (case kk13 => k_is)
    intro at_checkrule
    refine' with_at KX G "unmade" (topS 65) ["code"] ?aa14 ?ll14 ?cc14 ?kk14 (fun _ _ _ _ _ _ us hl => match us, hl with | [_], _ => rfl) ?qq14
    (case aa14 => k_is); (case ll14 => k_is); (case cc14 => k_is); (case kk14 => k_is)
    intro at_unmade
    refine' with_at KX G "slid" (topS 73) ["code", "hands", "order", "many", "rule"] ?aa15 ?ll15 ?cc15 ?kk15 (fun _ _ _ _ _ _ us hl => match us, hl with | [_, _, _, _, _], _ => rfl) ?qq15
    (case aa15 => k_is); (case ll15 => k_is); (case cc15 => k_is); (case kk15 => k_is)
    intro at_slid
    refine' with_at KX G "_law_mix" (topS 75) ["_law_script", "_law_seed"] ?aa16 ?ll16 ?cc16 ?kk16 (fun _ _ _ _ _ _ us hl => match us, hl with | [_, _], _ => rfl) ?qq16
    (case aa16 => k_is); (case ll16 => k_is); (case cc16 => k_is); (case kk16 => k_is)
    intro at_Lmix
    refine' with_at KX G "_law_next" (topS 76) ["_law_h", "_law_many"] ?aa17 ?ll17 ?cc17 ?kk17 (fun _ _ _ _ _ _ us hl => match us, hl with | [_, _], _ => rfl) ?qq17
    (case aa17 => k_is); (case ll17 => k_is); (case cc17 => k_is); (case kk17 => k_is)
    intro at_Lnext
    refine' with_at KX G "_law_code_row" (topS 77) ["_law_h", "_law_left", "_law_many"] ?aa18 ?ll18 ?cc18 ?kk18 (fun _ _ _ _ _ _ us hl => match us, hl with | [_, _, _], _ => rfl) ?qq18
    (case aa18 => k_is); (case ll18 => k_is); (case cc18 => k_is); (case kk18 => k_is)
    intro at_Lcoderow
    refine' with_at KX G "_law_any_code" (topS 78) ["_law_h"] ?aa19 ?ll19 ?cc19 ?kk19 (fun _ _ _ _ _ _ us hl => match us, hl with | [_], _ => rfl) ?qq19
    (case aa19 => k_is); (case ll19 => k_is); (case cc19 => k_is); (case kk19 => k_is)
    intro at_Lanycode
    refine' with_at KX G "_law_rounds" (topS 79) ["_law_h"] ?aa20 ?ll20 ?cc20 ?kk20 (fun _ _ _ _ _ _ us hl => match us, hl with | [_], _ => rfl) ?qq20
    (case aa20 => k_is); (case ll20 => k_is); (case cc20 => k_is); (case kk20 => k_is)
    intro at_Lrounds
    refine' with_at KX G "_law_alike" (topS 80) ["_law_found", "_law_due"] ?aa21 ?ll21 ?cc21 ?kk21 (fun _ _ _ _ _ _ us hl => match us, hl with | [_, _], _ => rfl) ?qq21
    (case aa21 => k_is); (case ll21 => k_is); (case cc21 => k_is); (case kk21 => k_is)
    intro at_Lalike
    refine' with_at KX G "_law_word" (topS 81) ["_law_work"] ?aa22 ?ll22 ?cc22 ?kk22 (fun _ _ _ _ _ _ us hl => match us, hl with | [_], _ => rfl) ?qq22
    (case aa22 => k_is); (case ll22 => k_is); (case cc22 => k_is); (case kk22 => k_is)
    intro at_Lword
    refine' with_at KX G "_law_all" (topS 82) ["_law_works", "_law_due"] ?aa23 ?ll23 ?cc23 ?kk23 (fun _ _ _ _ _ _ us hl => match us, hl with | [_, _], _ => rfl) ?qq23
    (case aa23 => k_is); (case ll23 => k_is); (case cc23 => k_is); (case kk23 => k_is)
    intro at_Lall
    refine' with_at KX G "_law_odd" (topS 83) ["_law_h", "_law_row", "_law_left", "_law_many"] ?aa24 ?ll24 ?cc24 ?kk24 (fun _ _ _ _ _ _ us hl => match us, hl with | [_, _, _, _], _ => rfl) ?qq24
    (case aa24 => k_is); (case ll24 => k_is); (case cc24 => k_is); (case kk24 => k_is)
    intro at_Lodd
    refine' with_at KX G "_law_spoilt" (topS 84) ["_law_h", "_law_code"] ?aa25 ?ll25 ?cc25 ?kk25 (fun _ _ _ _ _ _ us hl => match us, hl with | [_, _], _ => rfl) ?qq25
    (case aa25 => k_is); (case ll25 => k_is); (case cc25 => k_is); (case kk25 => k_is)
    intro at_Lspoilt
    refine' with_at KX G "_law_machine_right" (topS 85) ["_law_h", "_law_code"] ?aa26 ?ll26 ?cc26 ?kk26 (fun _ _ _ _ _ _ us hl => match us, hl with | [_, _], _ => rfl) ?qq26
    (case aa26 => k_is); (case ll26 => k_is); (case cc26 => k_is); (case kk26 => k_is)
    intro at_Lmachineright
    refine' with_at KX G "law" (topS 86) ["_law_script"] ?aa27 ?ll27 ?cc27 ?kk27 (fun _ _ _ _ _ _ us hl => match us, hl with | [_], _ => rfl) ?qq27
    (case aa27 => k_is); (case ll27 => k_is); (case cc27 => k_is); (case kk27 => k_is)
    intro at_law
    refine' with_cls' KX G "CodeCall" ?aa28 ?bb28 ?cc28 ?dd28 ?ee28 ?qq28
    (case aa28 => k_is); (case bb28 => k_is); (case cc28 => k_is); (case dd28 => k_is); (case ee28 => k_is)
    intro c_CodeCall x_CodeCall
    refine' with_noattr c_CodeCall "rows" ?aa29 ?qq29
    (case aa29 => k_is)
    intro n_CodeCall_rows
    refine' with_noattr c_CodeCall "place" ?aa30 ?qq30
    (case aa30 => k_is)
    intro n_CodeCall_place
    have T_CodeCall := clsF_of (fs := ["rows", "place"]) c_CodeCall (by simp only [List.forall_mem_cons]; exact ⟨n_CodeCall_rows, n_CodeCall_place, fun _ h => absurd h List.not_mem_nil⟩)
    refine' with_init' c_CodeCall "CodeCall" "CodeCall.__init__" (inClass (topS 70) 0) ["self", "rows"] x_CodeCall ?mm31 ?nn31 ?aa31 ?ii31 ?ll31 ?cc31 ?kk31 (fun _ _ _ _ _ _ us hl => match us, hl with | [_, _], _ => rfl) ?qq31
    (case mm31 => k_is); (case nn31 => k_is); (case aa31 => k_is); (case ii31 => k_is); (case ll31 => k_is); (case cc31 => k_is); (case kk31 => k_is)
    intro i_CodeCall
    refine' with_cls' KX G "HandRun" ?aa32 ?bb32 ?cc32 ?dd32 ?ee32 ?qq32
    (case aa32 => k_is); (case bb32 => k_is); (case cc32 => k_is); (case dd32 => k_is); (case ee32 => k_is)
    intro c_HandRun x_HandRun
    refine' with_noattr c_HandRun "calls" ?aa33 ?qq33
    (case aa33 => k_is)
    intro n_HandRun_calls
    refine' with_noattr c_HandRun "aside" ?aa34 ?qq34
    (case aa34 => k_is)
    intro n_HandRun_aside
    refine' with_noattr c_HandRun "outs" ?aa35 ?qq35
    (case aa35 => k_is)
    intro n_HandRun_outs
    have T_HandRun := clsF_of (fs := ["calls", "aside", "outs"]) c_HandRun (by simp only [List.forall_mem_cons]; exact ⟨n_HandRun_calls, n_HandRun_aside, n_HandRun_outs, fun _ h => absurd h List.not_mem_nil⟩)
    refine' with_init' c_HandRun "HandRun" "HandRun.__init__" (inClass (topS 71) 0) ["self", "code", "hand"] x_HandRun ?mm36 ?nn36 ?aa36 ?ii36 ?ll36 ?cc36 ?kk36 (fun _ _ _ _ _ _ us hl => match us, hl with | [_, _, _], _ => rfl) ?qq36
    (case mm36 => k_is); (case nn36 => k_is); (case aa36 => k_is); (case ii36 => k_is); (case ll36 => k_is); (case cc36 => k_is); (case kk36 => k_is)
    intro i_HandRun
    refine' with_cls' KX G "Machine" ?aa37 ?bb37 ?cc37 ?dd37 ?ee37 ?qq37
    (case aa37 => k_is); (case bb37 => k_is); (case cc37 => k_is); (case dd37 => k_is); (case ee37 => k_is)
    intro c_Machine x_Machine
    refine' with_noattr c_Machine "code" ?aa38 ?qq38
    (case aa38 => k_is)
    intro n_Machine_code
    refine' with_noattr c_Machine "many" ?aa39 ?qq39
    (case aa39 => k_is)
    intro n_Machine_many
    refine' with_noattr c_Machine "spill_many" ?aa40 ?qq40
    (case aa40 => k_is)
    intro n_Machine_spill_many
    refine' with_noattr c_Machine "fetch_many" ?aa41 ?qq41
    (case aa41 => k_is)
    intro n_Machine_fetch_many
    refine' with_noattr c_Machine "cells" ?aa42 ?qq42
    (case aa42 => k_is)
    intro n_Machine_cells
    refine' with_noattr c_Machine "runs" ?aa43 ?qq43
    (case aa43 => k_is)
    intro n_Machine_runs
    refine' with_noattr c_Machine "results" ?aa44 ?qq44
    (case aa44 => k_is)
    intro n_Machine_results
    refine' with_noattr c_Machine "last" ?aa45 ?qq45
    (case aa45 => k_is)
    intro n_Machine_last
    refine' with_noattr c_Machine "events" ?aa46 ?qq46
    (case aa46 => k_is)
    intro n_Machine_events
    refine' with_noattr c_Machine "spilled" ?aa47 ?qq47
    (case aa47 => k_is)
    intro n_Machine_spilled
    refine' with_noattr c_Machine "fetched" ?aa48 ?qq48
    (case aa48 => k_is)
    intro n_Machine_fetched
    refine' with_noattr c_Machine "traps" ?aa49 ?qq49
    (case aa49 => k_is)
    intro n_Machine_traps
    refine' with_noattr c_Machine "done" ?aa50 ?qq50
    (case aa50 => k_is)
    intro n_Machine_done
    have T_Machine := clsF_of (fs := ["code", "many", "spill_many", "fetch_many", "cells", "runs", "results", "last", "events", "spilled", "fetched", "traps", "done"]) c_Machine (by simp only [List.forall_mem_cons]; exact ⟨n_Machine_code, n_Machine_many, n_Machine_spill_many, n_Machine_fetch_many, n_Machine_cells, n_Machine_runs, n_Machine_results, n_Machine_last, n_Machine_events, n_Machine_spilled, n_Machine_fetched, n_Machine_traps, n_Machine_done, fun _ h => absurd h List.not_mem_nil⟩)
    refine' with_init' c_Machine "Machine" "Machine.__init__" (inClass (topS 72) 0) ["self", "code", "hands", "many", "rule"] x_Machine ?mm51 ?nn51 ?aa51 ?ii51 ?ll51 ?cc51 ?kk51 (fun _ _ _ _ _ _ us hl => match us, hl with | [_, _, _, _, _], _ => rfl) ?qq51
    (case mm51 => k_is); (case nn51 => k_is); (case aa51 => k_is); (case ii51 => k_is); (case ll51 => k_is); (case cc51 => k_is); (case kk51 => k_is)
    intro i_Machine
    refine' with_meth' c_Machine "pick" "Machine.pick" (inClass (topS 72) 1) ["self", "hand"] ?aa52 ?ii52 ?ll52 ?cc52 ?kk52 (fun _ _ _ _ _ _ us hl => match us, hl with | [_, _], _ => rfl) ?qq52
    (case aa52 => k_is); (case ii52 => k_is); (case ll52 => k_is); (case cc52 => k_is); (case kk52 => k_is)
    intro m_Machine_pick
    refine' with_meth' c_Machine "told" "Machine.told" (inClass (topS 72) 2) ["self"] ?aa53 ?ii53 ?ll53 ?cc53 ?kk53 (fun _ _ _ _ _ _ us hl => match us, hl with | [_], _ => rfl) ?qq53
    (case aa53 => k_is); (case ii53 => k_is); (case ll53 => k_is); (case cc53 => k_is); (case kk53 => k_is)
    intro m_Machine_told
    refine' with_meth' c_Machine "boxes" "Machine.boxes" (inClass (topS 72) 3) ["self"] ?aa54 ?ii54 ?ll54 ?cc54 ?kk54 (fun _ _ _ _ _ _ us hl => match us, hl with | [_], _ => rfl) ?qq54
    (case aa54 => k_is); (case ii54 => k_is); (case ll54 => k_is); (case cc54 => k_is); (case kk54 => k_is)
    intro m_Machine_boxes
    refine' with_meth' c_Machine "counts" "Machine.counts" (inClass (topS 72) 4) ["self"] ?aa55 ?ii55 ?ll55 ?cc55 ?kk55 (fun _ _ _ _ _ _ us hl => match us, hl with | [_], _ => rfl) ?qq55
    (case aa55 => k_is); (case ii55 => k_is); (case ll55 => k_is); (case cc55 => k_is); (case kk55 => k_is)
    intro m_Machine_counts
    refine' with_meth' c_Machine "inside" "Machine.inside" (inClass (topS 72) 5) ["self"] ?aa56 ?ii56 ?ll56 ?cc56 ?kk56 (fun _ _ _ _ _ _ us hl => match us, hl with | [_], _ => rfl) ?qq56
    (case aa56 => k_is); (case ii56 => k_is); (case ll56 => k_is); (case cc56 => k_is); (case kk56 => k_is)
    intro m_Machine_inside
    refine' with_meth' c_Machine "log" "Machine.log" (inClass (topS 72) 6) ["self"] ?aa57 ?ii57 ?ll57 ?cc57 ?kk57 (fun _ _ _ _ _ _ us hl => match us, hl with | [_], _ => rfl) ?qq57
    (case aa57 => k_is); (case ii57 => k_is); (case ll57 => k_is); (case cc57 => k_is); (case kk57 => k_is)
    intro m_Machine_log
    refine' with_meth' c_Machine "turn_to" "Machine.turn_to" (inClass (topS 72) 7) ["self", "hand"] ?aa58 ?ii58 ?ll58 ?cc58 ?kk58 (fun _ _ _ _ _ _ us hl => match us, hl with | [_, _], _ => rfl) ?qq58
    (case aa58 => k_is); (case ii58 => k_is); (case ll58 => k_is); (case cc58 => k_is); (case kk58 => k_is)
    intro m_Machine_turn_to
    refine' with_meth' c_Machine "put_aside" "Machine.put_aside" (inClass (topS 72) 8) ["self", "going"] ?aa59 ?ii59 ?ll59 ?cc59 ?kk59 (fun _ _ _ _ _ _ us hl => match us, hl with | [_, _], _ => rfl) ?qq59
    (case aa59 => k_is); (case ii59 => k_is); (case ll59 => k_is); (case cc59 => k_is); (case kk59 => k_is)
    intro m_Machine_put_aside
    refine' with_meth' c_Machine "first_out" "Machine.first_out" (inClass (topS 72) 9) ["self", "going"] ?aa60 ?ii60 ?ll60 ?cc60 ?kk60 (fun _ _ _ _ _ _ us hl => match us, hl with | [_, _], _ => rfl) ?qq60
    (case aa60 => k_is); (case ii60 => k_is); (case ll60 => k_is); (case cc60 => k_is); (case kk60 => k_is)
    intro m_Machine_first_out
    refine' with_meth' c_Machine "spill" "Machine.spill" (inClass (topS 72) 10) ["self", "going"] ?aa61 ?ii61 ?ll61 ?cc61 ?kk61 (fun _ _ _ _ _ _ us hl => match us, hl with | [_, _], _ => rfl) ?qq61
    (case aa61 => k_is); (case ii61 => k_is); (case ll61 => k_is); (case cc61 => k_is); (case kk61 => k_is)
    intro m_Machine_spill
    refine' with_meth' c_Machine "fetch_some" "Machine.fetch_some" (inClass (topS 72) 11) ["self", "going"] ?aa62 ?ii62 ?ll62 ?cc62 ?kk62 (fun _ _ _ _ _ _ us hl => match us, hl with | [_, _], _ => rfl) ?qq62
    (case aa62 => k_is); (case ii62 => k_is); (case ll62 => k_is); (case cc62 => k_is); (case kk62 => k_is)
    intro m_Machine_fetch_some
    refine' with_meth' c_Machine "fetch" "Machine.fetch" (inClass (topS 72) 12) ["self", "going"] ?aa63 ?ii63 ?ll63 ?cc63 ?kk63 (fun _ _ _ _ _ _ us hl => match us, hl with | [_, _], _ => rfl) ?qq63
    (case aa63 => k_is); (case ii63 => k_is); (case ll63 => k_is); (case cc63 => k_is); (case kk63 => k_is)
    intro m_Machine_fetch
    refine' with_meth' c_Machine "step" "Machine.step" (inClass (topS 72) 13) ["self", "going", "said"] ?aa64 ?ii64 ?ll64 ?cc64 ?kk64 (fun _ _ _ _ _ _ us hl => match us, hl with | [_, _, _], _ => rfl) ?qq64
    (case aa64 => k_is); (case ii64 => k_is); (case ll64 => k_is); (case cc64 => k_is); (case kk64 => k_is)
    intro m_Machine_step
    refine' with_meth' c_Machine "do_row" "Machine.do_row" (inClass (topS 72) 14) ["self", "going", "row", "said"] ?aa65 ?ii65 ?ll65 ?cc65 ?kk65 (fun _ _ _ _ _ _ us hl => match us, hl with | [_, _, _, _], _ => rfl) ?qq65
    (case aa65 => k_is); (case ii65 => k_is); (case ll65 => k_is); (case cc65 => k_is); (case kk65 => k_is)
    intro m_Machine_do_row
    refine' with_meth' c_Machine "spot" "Machine.spot" (inClass (topS 72) 15) ["self", "going", "box"] ?aa66 ?ii66 ?ll66 ?cc66 ?kk66 (fun _ _ _ _ _ _ us hl => match us, hl with | [_, _, _], _ => rfl) ?qq66
    (case aa66 => k_is); (case ii66 => k_is); (case ll66 => k_is); (case cc66 => k_is); (case kk66 => k_is)
    intro m_Machine_spot
    refine' with_meth' c_Machine "held" "Machine.held" (inClass (topS 72) 16) ["self", "going", "box"] ?aa67 ?ii67 ?ll67 ?cc67 ?kk67 (fun _ _ _ _ _ _ us hl => match us, hl with | [_, _, _], _ => rfl) ?qq67
    (case aa67 => k_is); (case ii67 => k_is); (case ll67 => k_is); (case cc67 => k_is); (case kk67 => k_is)
    intro m_Machine_held
    refine' with_meth' c_Machine "put" "Machine.put" (inClass (topS 72) 17) ["self", "going", "box", "number"] ?aa68 ?ii68 ?ll68 ?cc68 ?kk68 (fun _ _ _ _ _ _ us hl => match us, hl with | [_, _, _, _], _ => rfl) ?qq68
    (case aa68 => k_is); (case ii68 => k_is); (case ll68 => k_is); (case cc68 => k_is); (case kk68 => k_is)
    intro m_Machine_put
    refine' with_meth' c_Machine "enter" "Machine.enter" (inClass (topS 72) 18) ["self", "going", "function"] ?aa69 ?ii69 ?ll69 ?cc69 ?kk69 (fun _ _ _ _ _ _ us hl => match us, hl with | [_, _, _], _ => rfl) ?qq69
    (case aa69 => k_is); (case ii69 => k_is); (case ll69 => k_is); (case cc69 => k_is); (case kk69 => k_is)
    intro m_Machine_enter
    refine' with_meth' c_Machine "leave" "Machine.leave" (inClass (topS 72) 19) ["self", "going"] ?aa70 ?ii70 ?ll70 ?cc70 ?kk70 (fun _ _ _ _ _ _ us hl => match us, hl with | [_, _], _ => rfl) ?qq70
    (case aa70 => k_is); (case ii70 => k_is); (case ll70 => k_is); (case cc70 => k_is); (case kk70 => k_is)
    intro m_Machine_leave
    refine' with_none KX G "ValueError" ?aa71 ?qq71
    (case aa71 => k_is)
    intro z_ValueError
    refine' with_none KX G "all" ?aa72 ?qq72
    (case aa72 => k_is)
    intro z_all
    refine' with_none KX G "bool" ?aa73 ?qq73
    (case aa73 => k_is)
    intro z_bool
    refine' with_none KX G "dict" ?aa74 ?qq74
    (case aa74 => k_is)
    intro z_dict
    refine' with_none KX G "enumerate" ?aa75 ?qq75
    (case aa75 => k_is)
    intro z_enumerate
    refine' with_none KX G "int" ?aa76 ?qq76
    (case aa76 => k_is)
    intro z_int
    refine' with_none KX G "isinstance" ?aa77 ?qq77
    (case aa77 => k_is)
    intro z_isinstance
    refine' with_none KX G "len" ?aa78 ?qq78
    (case aa78 => k_is)
    intro z_len
    refine' with_none KX G "list" ?aa79 ?qq79
    (case aa79 => k_is)
    intro z_list
    refine' with_none KX G "max" ?aa80 ?qq80
    (case aa80 => k_is)
    intro z_max
    refine' with_none KX G "min" ?aa81 ?qq81
    (case aa81 => k_is)
    intro z_min
    refine' with_none KX G "range" ?aa82 ?qq82
    (case aa82 => k_is)
    intro z_range
    refine' with_none KX G "set" ?aa83 ?qq83
    (case aa83 => k_is)
    intro z_set
    refine' with_none KX G "sorted" ?aa84 ?qq84
    (case aa84 => k_is)
    intro z_sorted
    refine' with_none KX G "str" ?aa85 ?qq85
    (case aa85 => k_is)
    intro z_str
    refine' with_none KX G "sum" ?aa86 ?qq86
    (case aa86 => k_is)
    intro z_sum
    refine' with_none KX G "super" ?aa87 ?qq87
    (case aa87 => k_is)
    intro z_super
    refine' with_none KX G "tuple" ?aa88 ?qq88
    (case aa88 => k_is)
    intro z_tuple
    refine' with_none KX G "zip" ?aa89 ?qq89
    (case aa89 => k_is)
    intro z_zip
    refine' with_int KX G "MOST_FUNCTIONS" 8 ?aa90 ?qq90
    (case aa90 => k_is)
    intro i_MOST_FUNCTIONS
    refine' with_int KX G "MOST_ARGUMENTS" 3 ?aa91 ?qq91
    (case aa91 => k_is)
    intro i_MOST_ARGUMENTS
    refine' with_int KX G "MOST_PROGRAM_ROWS" 30 ?aa92 ?qq92
    (case aa92 => k_is)
    intro i_MOST_PROGRAM_ROWS
    refine' with_int KX G "MOST_CODE_ROWS" 200 ?aa93 ?qq93
    (case aa93 => k_is)
    intro i_MOST_CODE_ROWS
    refine' with_int KX G "PROGRAM_BOXES" 8 ?aa94 ?qq94
    (case aa94 => k_is)
    intro i_PROGRAM_BOXES
    refine' with_int KX G "CODE_BOXES" 16 ?aa95 ?qq95
    (case aa95 => k_is)
    intro i_CODE_BOXES
    refine' with_int KX G "NUMBERS" 1000 ?aa96 ?qq96
    (case aa96 => k_is)
    intro i_NUMBERS
    refine' with_int KX G "MOST_HANDS" 4 ?aa97 ?qq97
    (case aa97 => k_is)
    intro i_MOST_HANDS
    refine' with_int KX G "MOST_PICKS" 200 ?aa98 ?qq98
    (case aa98 => k_is)
    intro i_MOST_PICKS
    refine' with_int KX G "MOST_STRETCHES" 8 ?aa99 ?qq99
    (case aa99 => k_is)
    intro i_MOST_STRETCHES
    refine' with_int KX G "MOST_WITHIN" 60 ?aa100 ?qq100
    (case aa100 => k_is)
    intro i_MOST_WITHIN
    refine' with_int KX G "FIRST_OWN" 4 ?aa101 ?qq101
    (case aa101 => k_is)
    intro i_FIRST_OWN
    refine' with_int KX G "FIRST_OUT" 12 ?aa102 ?qq102
    (case aa102 => k_is)
    intro i_FIRST_OUT
    refine' with_int KX G "STRETCH" 12 ?aa103 ?qq103
    (case aa103 => k_is)
    intro i_STRETCH
    refine' with_int KX G "INS" 4 ?aa104 ?qq104
    (case aa104 => k_is)
    intro i_INS
    refine' with_int KX G "MOST_ROWS" 40000 ?aa105 ?qq105
    (case aa105 => k_is)
    intro i_MOST_ROWS
    refine' with_dict (P := PySem.Challenge.rw_slideboxes_k04_codes_refused.prog) (w := w) KX G "CODE_ROWS" ["num", "copy", "plus", "less", "times", "call", "skip", "say", "rest", "back"] (shDs cdSh) ?aa106 ?ll106 ?ee106 ?tt106 ?oo106 (by decide) (by decide) ?qq106
    (case aa106 => k_is); (case ll106 => k_is)
    (case ee106 => walk_at "kr")
    (case tt106 => exact ⟨⟨_, _, rfl, rfl⟩, ⟨_, _, rfl, rfl⟩, ⟨_, _, rfl, rfl⟩, ⟨_, _, rfl, rfl⟩, ⟨_, _, rfl, rfl⟩, ⟨_, _, rfl, rfl⟩, ⟨_, _, rfl, rfl⟩, ⟨_, _, rfl, rfl⟩, ⟨_, _, rfl, rfl⟩, ⟨_, _, rfl, rfl⟩, trivial⟩); (case oo106 => decide)
    intro d_CODE_ROWS
    have mb := nones (mg := mg) (l := ["ValueError", "all", "bool", "dict", "enumerate", "int", "isinstance", "len", "list", "max", "min", "range", "set", "sorted", "str", "sum", "super", "tuple", "zip"]) (by simp only [List.forall_mem_cons]; exact ⟨z_ValueError, z_all, z_bool, z_dict, z_enumerate, z_int, z_isinstance, z_len, z_list, z_max, z_min, z_range, z_set, z_sorted, z_str, z_sum, z_super, z_tuple, z_zip, fun _ h => absurd h List.not_mem_nil⟩)
    have gi := ints_of_top (mg := mg) (l := [("MOST_FUNCTIONS", 8), ("MOST_ARGUMENTS", 3), ("MOST_PROGRAM_ROWS", 30), ("MOST_CODE_ROWS", 200), ("PROGRAM_BOXES", 8), ("CODE_BOXES", 16), ("NUMBERS", 1000), ("MOST_HANDS", 4), ("MOST_PICKS", 200), ("MOST_STRETCHES", 8), ("MOST_WITHIN", 60), ("FIRST_OWN", 4), ("FIRST_OUT", 12), ("STRETCH", 12), ("INS", 4), ("MOST_ROWS", 40000)]) (by simp only [List.forall_mem_cons]; exact ⟨i_MOST_FUNCTIONS, i_MOST_ARGUMENTS, i_MOST_PROGRAM_ROWS, i_MOST_CODE_ROWS, i_PROGRAM_BOXES, i_CODE_BOXES, i_NUMBERS, i_MOST_HANDS, i_MOST_PICKS, i_MOST_STRETCHES, i_MOST_WITHIN, i_FIRST_OWN, i_FIRST_OUT, i_STRETCH, i_INS, i_MOST_ROWS, fun _ h => absurd h List.not_mem_nil⟩)
    refine' with_clsA KX G "SlideError" (C := 31) ?aa_SlideError ?qq_SlideError
    (case aa_SlideError => k_is)
    intro mx_SlideError
    refine' with_clsA KX G "BadProgram" (C := 53) ?aa_BadProgram ?qq_BadProgram
    (case aa_BadProgram => k_is)
    intro mx_BadProgram
    refine' with_clsA KX G "BadCode" (C := 74) ?aa_BadCode ?qq_BadCode
    (case aa_BadCode => k_is)
    intro mx_BadCode
    refine' with_clsA KX G "BadHands" (C := 95) ?aa_BadHands ?qq_BadHands
    (case aa_BadHands => k_is)
    intro mx_BadHands
    refine' with_clsA KX G "BadOrder" (C := 116) ?aa_BadOrder ?qq_BadOrder
    (case aa_BadOrder => k_is)
    intro mx_BadOrder
    refine' with_clsA KX G "BadTrace" (C := 137) ?aa_BadTrace ?qq_BadTrace
    (case aa_BadTrace => k_is)
    intro mx_BadTrace
    refine' with_clsA KX G "BadPlan" (C := 158) ?aa_BadPlan ?qq_BadPlan
    (case aa_BadPlan => k_is)
    intro mx_BadPlan
    refine' with_clsA KX G "BadLog" (C := 179) ?aa_BadLog ?qq_BadLog
    (case aa_BadLog => k_is)
    intro mx_BadLog
    refine' with_clsA KX G "BadText" (C := 200) ?aa_BadText ?qq_BadText
    (case aa_BadText => k_is)
    intro mx_BadText
    refine' with_clsA KX G "BadRound" (C := 212) ?aa_BadRound ?qq_BadRound
    (case aa_BadRound => k_is)
    intro mx_BadRound
    refine' with_clsA KX G "BadRule" (C := 224) ?aa_BadRule ?qq_BadRule
    (case aa_BadRule => k_is)
    intro mx_BadRule
    refine' with_clsA KX G "BadCost" (C := 236) ?aa_BadCost ?qq_BadCost
    (case aa_BadCost => k_is)
    intro mx_BadCost
    refine' with_clsA KX G "NoHand" (C := 248) ?aa_NoHand ?qq_NoHand
    (case aa_NoHand => k_is)
    intro mx_NoHand
    refine' with_clsA KX G "NotMade" (C := 260) ?aa_NotMade ?qq_NotMade
    (case aa_NotMade => k_is)
    intro mx_NotMade
    refine' with_clsA KX G "NoRound" (C := 272) ?aa_NoRound ?qq_NoRound
    (case aa_NoRound => k_is)
    intro mx_NoRound
    refine' with_clsA KX G "Long" (C := 284) ?aa_Long ?qq_Long
    (case aa_Long => k_is)
    intro mx_Long
    have ca : ClsAt mg 31 53 74 95 116 137 158 179 200 212 224 236 248 260 272 284 := ⟨mx_SlideError, mx_BadProgram, mx_BadCode, mx_BadHands, mx_BadOrder, mx_BadTrace, mx_BadPlan, mx_BadLog, mx_BadText, mx_BadRound, mx_BadRule, mx_BadCost, mx_NoHand, mx_NotMade, mx_NoRound, mx_Long⟩
    refine' with_none KX G "super" ?aa_super ?qq_super
    (case aa_super => k_is)
    intro z_super
    refine' with_xiK KX 74 K04.xs_BadCode ?lC_BadCode ?vb_BadCode ?sa_BadCode ?exC_BadCode ?tyC_BadCode ?kC_BadCode ?iC_BadCode ?tI_BadCode ?lI_BadCode ?cI_BadCode ?lc_BadCode ?hv_BadCode ?hf_BadCode ?lcc_BadCode ?mro_BadCode ?sub_BadCode ?opq_BadCode ?sup_BadCode ?nf_BadCode ?qx_BadCode
    (case lC_BadCode => k_is)
    (case vb_BadCode => first | rfl | decide +kernel)
    (case sa_BadCode => k_is)
    (case exC_BadCode => k_is)
    (case tyC_BadCode => k_is)
    (case kC_BadCode => k_is)
    (case iC_BadCode => k_is)
    (case tI_BadCode => k_is)
    (case lI_BadCode => k_is)
    (case cI_BadCode => k_is)
    (case lc_BadCode => k_is)
    (case hv_BadCode => exact rfl)
    (case hf_BadCode => first | rfl | decide +kernel | kernel_rfl)
    (case lcc_BadCode => k_is)
    (case mro_BadCode => k_is)
    (case sub_BadCode => k_is)
    (case opq_BadCode => k_is)
    (case sup_BadCode => first | ks_is | kernel_rfl)
    (case nf_BadCode => (simp only [List.forall_mem_cons]; refine ⟨?_, ?_, fun _ h => absurd h List.not_mem_nil⟩ <;> k_is))
    intro xi_BadCode
    refine' with_xiK KX 95 K04.xs_BadHands ?lC_BadHands ?vb_BadHands ?sa_BadHands ?exC_BadHands ?tyC_BadHands ?kC_BadHands ?iC_BadHands ?tI_BadHands ?lI_BadHands ?cI_BadHands ?lc_BadHands ?hv_BadHands ?hf_BadHands ?lcc_BadHands ?mro_BadHands ?sub_BadHands ?opq_BadHands ?sup_BadHands ?nf_BadHands ?qx_BadHands
    (case lC_BadHands => k_is)
    (case vb_BadHands => first | rfl | decide +kernel)
    (case sa_BadHands => k_is)
    (case exC_BadHands => k_is)
    (case tyC_BadHands => k_is)
    (case kC_BadHands => k_is)
    (case iC_BadHands => k_is)
    (case tI_BadHands => k_is)
    (case lI_BadHands => k_is)
    (case cI_BadHands => k_is)
    (case lc_BadHands => k_is)
    (case hv_BadHands => exact rfl)
    (case hf_BadHands => first | rfl | decide +kernel | kernel_rfl)
    (case lcc_BadHands => k_is)
    (case mro_BadHands => k_is)
    (case sub_BadHands => k_is)
    (case opq_BadHands => k_is)
    (case sup_BadHands => first | ks_is | kernel_rfl)
    (case nf_BadHands => (simp only [List.forall_mem_cons]; refine ⟨?_, fun _ h => absurd h List.not_mem_nil⟩ <;> k_is))
    intro xi_BadHands
    refine' with_xiK KX 116 K04.xs_BadOrder ?lC_BadOrder ?vb_BadOrder ?sa_BadOrder ?exC_BadOrder ?tyC_BadOrder ?kC_BadOrder ?iC_BadOrder ?tI_BadOrder ?lI_BadOrder ?cI_BadOrder ?lc_BadOrder ?hv_BadOrder ?hf_BadOrder ?lcc_BadOrder ?mro_BadOrder ?sub_BadOrder ?opq_BadOrder ?sup_BadOrder ?nf_BadOrder ?qx_BadOrder
    (case lC_BadOrder => k_is)
    (case vb_BadOrder => first | rfl | decide +kernel)
    (case sa_BadOrder => k_is)
    (case exC_BadOrder => k_is)
    (case tyC_BadOrder => k_is)
    (case kC_BadOrder => k_is)
    (case iC_BadOrder => k_is)
    (case tI_BadOrder => k_is)
    (case lI_BadOrder => k_is)
    (case cI_BadOrder => k_is)
    (case lc_BadOrder => k_is)
    (case hv_BadOrder => exact rfl)
    (case hf_BadOrder => first | rfl | decide +kernel | kernel_rfl)
    (case lcc_BadOrder => k_is)
    (case mro_BadOrder => k_is)
    (case sub_BadOrder => k_is)
    (case opq_BadOrder => k_is)
    (case sup_BadOrder => first | ks_is | kernel_rfl)
    (case nf_BadOrder => (simp only [List.forall_mem_cons]; refine ⟨?_, fun _ h => absurd h List.not_mem_nil⟩ <;> k_is))
    intro xi_BadOrder
    refine' with_xcK KX "BadRound" mx_BadRound ?cex_BadRound ?ckc_BadRound ?csu_BadRound ?cty_BadRound ?qc_BadRound
    (case cex_BadRound => first | kernel_rfl | decide +kernel); (case ckc_BadRound => k_is); (case csu_BadRound => k_is); (case cty_BadRound => k_is)
    intro xc_BadRound
    refine' with_xcK KX "BadRule" mx_BadRule ?cex_BadRule ?ckc_BadRule ?csu_BadRule ?cty_BadRule ?qc_BadRule
    (case cex_BadRule => first | kernel_rfl | decide +kernel); (case ckc_BadRule => k_is); (case csu_BadRule => k_is); (case cty_BadRule => k_is)
    intro xc_BadRule
    refine' with_xcK KX "NoHand" mx_NoHand ?cex_NoHand ?ckc_NoHand ?csu_NoHand ?cty_NoHand ?qc_NoHand
    (case cex_NoHand => first | kernel_rfl | decide +kernel); (case ckc_NoHand => k_is); (case csu_NoHand => k_is); (case cty_NoHand => k_is)
    intro xc_NoHand
    refine' with_wdK KX (cs := [53, 74, 95, 116, 137, 158, 179, 200, 212, 224, 236, 248, 260, 272, 284]) (CS := 31) (C := 74) 1 ⟨?whg_BadCode, ?whk_BadCode, ?whs_BadCode, ?whd_BadCode, ?wha_BadCode, ?whn_BadCode, ?wht_BadCode, ?whm_BadCode⟩ (by decide) ?wsl_BadCode ?wis_BadCode ?wve_BadCode ?wnf_BadCode ?wnr_BadCode ?wna_BadCode ?qw_BadCode
    (case whg_BadCode => k_is)
    (case whk_BadCode => k_is)
    (case whs_BadCode => k_is)
    (case whd_BadCode => k_is)
    (case wha_BadCode => k_is)
    (case whn_BadCode => k_is)
    (case wht_BadCode => k_is)
    (case whm_BadCode => k_is)
    (case wsl_BadCode => first | kernel_rfl | decide +kernel)
    (case wis_BadCode => first | kernel_rfl | decide +kernel)
    (case wve_BadCode => first | kernel_rfl | decide +kernel)
    (case wnf_BadCode => k_is)
    (case wnr_BadCode => k_is)
    (case wna_BadCode => k_is)
    intro wd1
    refine' with_wdK KX (cs := [53, 74, 95, 116, 137, 158, 179, 200, 212, 224, 236, 248, 260, 272, 284]) (CS := 31) (C := 95) 2 ⟨?whg_BadHands, ?whk_BadHands, ?whs_BadHands, ?whd_BadHands, ?wha_BadHands, ?whn_BadHands, ?wht_BadHands, ?whm_BadHands⟩ (by decide) ?wsl_BadHands ?wis_BadHands ?wve_BadHands ?wnf_BadHands ?wnr_BadHands ?wna_BadHands ?qw_BadHands
    (case whg_BadHands => k_is)
    (case whk_BadHands => k_is)
    (case whs_BadHands => k_is)
    (case whd_BadHands => k_is)
    (case wha_BadHands => k_is)
    (case whn_BadHands => k_is)
    (case wht_BadHands => k_is)
    (case whm_BadHands => k_is)
    (case wsl_BadHands => first | kernel_rfl | decide +kernel)
    (case wis_BadHands => first | kernel_rfl | decide +kernel)
    (case wve_BadHands => first | kernel_rfl | decide +kernel)
    (case wnf_BadHands => k_is)
    (case wnr_BadHands => k_is)
    (case wna_BadHands => k_is)
    intro wd2
    refine' with_wdK KX (cs := [53, 74, 95, 116, 137, 158, 179, 200, 212, 224, 236, 248, 260, 272, 284]) (CS := 31) (C := 116) 3 ⟨?whg_BadOrder, ?whk_BadOrder, ?whs_BadOrder, ?whd_BadOrder, ?wha_BadOrder, ?whn_BadOrder, ?wht_BadOrder, ?whm_BadOrder⟩ (by decide) ?wsl_BadOrder ?wis_BadOrder ?wve_BadOrder ?wnf_BadOrder ?wnr_BadOrder ?wna_BadOrder ?qw_BadOrder
    (case whg_BadOrder => k_is)
    (case whk_BadOrder => k_is)
    (case whs_BadOrder => k_is)
    (case whd_BadOrder => k_is)
    (case wha_BadOrder => k_is)
    (case whn_BadOrder => k_is)
    (case wht_BadOrder => k_is)
    (case whm_BadOrder => k_is)
    (case wsl_BadOrder => first | kernel_rfl | decide +kernel)
    (case wis_BadOrder => first | kernel_rfl | decide +kernel)
    (case wve_BadOrder => first | kernel_rfl | decide +kernel)
    (case wnf_BadOrder => k_is)
    (case wnr_BadOrder => k_is)
    (case wna_BadOrder => k_is)
    intro wd3
    refine' with_wdK KX (cs := [53, 74, 95, 116, 137, 158, 179, 200, 212, 224, 236, 248, 260, 272, 284]) (CS := 31) (C := 212) 8 ⟨?whg_BadRound, ?whk_BadRound, ?whs_BadRound, ?whd_BadRound, ?wha_BadRound, ?whn_BadRound, ?wht_BadRound, ?whm_BadRound⟩ (by decide) ?wsl_BadRound ?wis_BadRound ?wve_BadRound ?wnf_BadRound ?wnr_BadRound ?wna_BadRound ?qw_BadRound
    (case whg_BadRound => k_is)
    (case whk_BadRound => k_is)
    (case whs_BadRound => k_is)
    (case whd_BadRound => k_is)
    (case wha_BadRound => k_is)
    (case whn_BadRound => k_is)
    (case wht_BadRound => k_is)
    (case whm_BadRound => k_is)
    (case wsl_BadRound => first | kernel_rfl | decide +kernel)
    (case wis_BadRound => first | kernel_rfl | decide +kernel)
    (case wve_BadRound => first | kernel_rfl | decide +kernel)
    (case wnf_BadRound => k_is)
    (case wnr_BadRound => k_is)
    (case wna_BadRound => k_is)
    intro wd8
    refine' with_wdK KX (cs := [53, 74, 95, 116, 137, 158, 179, 200, 212, 224, 236, 248, 260, 272, 284]) (CS := 31) (C := 224) 9 ⟨?whg_BadRule, ?whk_BadRule, ?whs_BadRule, ?whd_BadRule, ?wha_BadRule, ?whn_BadRule, ?wht_BadRule, ?whm_BadRule⟩ (by decide) ?wsl_BadRule ?wis_BadRule ?wve_BadRule ?wnf_BadRule ?wnr_BadRule ?wna_BadRule ?qw_BadRule
    (case whg_BadRule => k_is)
    (case whk_BadRule => k_is)
    (case whs_BadRule => k_is)
    (case whd_BadRule => k_is)
    (case wha_BadRule => k_is)
    (case whn_BadRule => k_is)
    (case wht_BadRule => k_is)
    (case whm_BadRule => k_is)
    (case wsl_BadRule => first | kernel_rfl | decide +kernel)
    (case wis_BadRule => first | kernel_rfl | decide +kernel)
    (case wve_BadRule => first | kernel_rfl | decide +kernel)
    (case wnf_BadRule => k_is)
    (case wnr_BadRule => k_is)
    (case wna_BadRule => k_is)
    intro wd9
    refine' with_wdK KX (cs := [53, 74, 95, 116, 137, 158, 179, 200, 212, 224, 236, 248, 260, 272, 284]) (CS := 31) (C := 248) 11 ⟨?whg_NoHand, ?whk_NoHand, ?whs_NoHand, ?whd_NoHand, ?wha_NoHand, ?whn_NoHand, ?wht_NoHand, ?whm_NoHand⟩ (by decide) ?wsl_NoHand ?wis_NoHand ?wve_NoHand ?wnf_NoHand ?wnr_NoHand ?wna_NoHand ?qw_NoHand
    (case whg_NoHand => k_is)
    (case whk_NoHand => k_is)
    (case whs_NoHand => k_is)
    (case whd_NoHand => k_is)
    (case wha_NoHand => k_is)
    (case whn_NoHand => k_is)
    (case wht_NoHand => k_is)
    (case whm_NoHand => k_is)
    (case wsl_NoHand => first | kernel_rfl | decide +kernel)
    (case wis_NoHand => first | kernel_rfl | decide +kernel)
    (case wve_NoHand => first | kernel_rfl | decide +kernel)
    (case wnf_NoHand => k_is)
    (case wnr_NoHand => k_is)
    (case wna_NoHand => k_is)
    intro wd11
    refine' with_tab KX G "law" (c := 774) (P := 770) ?ta_law ?tl_law ?thc_law ?tlc_law ?thv_law ?tno_law ?tq_law
    (case ta_law => k_is); (case tl_law => k_is); (case thc_law => exact rfl); (case tlc_law => k_is); (case thv_law => exact rfl); (case tno_law => first | rfl | kernel_rfl)
    intro tf_law
    refine' with_tab KX G "_law_machine_right" (c := 767) (P := 763) ?ta_Lmachineright ?tl_Lmachineright ?thc_Lmachineright ?tlc_Lmachineright ?thv_Lmachineright ?tno_Lmachineright ?tq_Lmachineright
    (case ta_Lmachineright => k_is); (case tl_Lmachineright => k_is); (case thc_Lmachineright => exact rfl); (case tlc_Lmachineright => k_is); (case thv_Lmachineright => exact rfl); (case tno_Lmachineright => first | rfl | kernel_rfl)
    intro tf_Lmachineright
    obtain ⟨f, oc, kV, doc, pm, ct, od, an, osl, g1, lk, hcd, kp, hb⟩ := Fun.code at_law tf_law
    have ef := hmg.symm.trans g1
    cases ef
    refine ⟨?tfs, _, fun s u => .of_eq rfl, fun base _ _ tb => law_all mb gi d_CODE_ROWS T_Machine T_HandRun T_CodeCall i_Machine i_HandRun i_CodeCall m_Machine_pick m_Machine_told m_Machine_boxes m_Machine_log ca wd1 wd2 wd3 wd8 wd9 wd11 xc_BadRound xc_BadRule xc_NoHand xi_BadCode mx_BadCode xi_BadHands mx_BadHands xi_BadOrder mx_BadOrder z_super tf_Lmachineright at_whole at_below at_allbelow at_functioncanbe at_firstbadfunction at_rowcanbe at_firstbad at_checkcode at_handcanbe at_checkhands at_checkorder at_checkround at_checkrule at_unmade at_slid at_Lmix at_Lnext at_Lcoderow at_Lanycode at_Lrounds at_Lalike at_Lword at_Lall at_Lodd at_Lspoilt at_Lmachineright lk hcd (tb _ List.mem_cons_self) (tb _ (List.mem_cons_of_mem _ List.mem_cons_self))⟩
    case tfs => simp only [List.forall_mem_cons]; exact ⟨tf_law, tf_Lmachineright, fun _ h => absurd h List.not_mem_nil⟩
