import PyProof.Rows.All
import Wide.All
import OpenK.AllK
import Wide.FinOn
import Lean
import PyProof.EqAt
import PyProof.EqKinds
import PyProof.TupleCall
import PySem.Challenge.RW_minders_k11_whole_answered_as_its_way_sa
set_option Elab.async false
set_option linter.all false
set_option maxRecDepth 100000
set_option maxHeartbeats 4000000
structure PySem.W.Fast:Prop where(tw9950792792127014553 tw9931937742245647033 tw991626836265849350 tw9879335643197240621 tw987426779421491659 tw9869809959619462935 tw983406267505308610 tw9818998656811842119 tw977512076041815475 tw9768418358887946270 tw9757595895972200118 tw9744259246892133002 tw9719393640593047967 tw966166296225237126 tw9634013954392513728 tw9615563845995560447 tw9592521066531166775
 tw9536688357841153863 tw9530734954097333506 tw9527559443093211000 tw9510108024173832781 tw9495317472360511255 tw9402243437249704421 tw938635154573522699 tw9331231397406362311 tw9317495090193701157 tw9304451534382375720 tw9252304221032618942 tw9215358943560890414 tw9201617497623189827 tw9189844046219409768 tw9162645422354645296 tw9104974531708491489 tw9094225154769264635 tw8997383693586321770 tw8981176238543900561
 tw896878414759379649 tw8950108695139179302 tw8949853181751564097 tw8919978131948313185 tw8916268530333523031 tw8909772338491405060 tw890339118813698166 tw8899516883271353254 tw8834805137890396735 tw8833860146974802555 tw8787369257342119190 tw8760152093665844161 tw8757255369765604158 tw8622715204490130888 tw861502493610598483 tw855453113358079251 tw8413399678365625193 tw8392358500681263680 tw8319933024895762948
 tw8297923619242306668 tw8278001386518606062 tw8274446707539698164 tw8272569733616993153 tw8232614014015475128 tw8219003486749837733 tw8212203176049278890 tw8210202977690762169 tw8185545411690514434 tw8185220541750880888 tw8166255043249204926 tw8157277791214410489 tw8151759404152838978 tw8080008513338510535 tw8047209995159408440 tw8015938337994709721 tw8002303944043701648 tw7985883749528016586 tw7900394595670775223
 tw7873786274422454737 tw7873748247521183178 tw7867829370405329436 tw7828442866392281868 tw7774113678449685934 tw7766106395892283477 tw7764699552788554220 tw7730711234585966178 tw761803264340522177 tw7607420049574824106 tw7538781388859322016 tw7520747337044880989 tw7509565986652818475 tw7501186508268903616 tw7480016910919988345 tw7478123994339007903 tw7424060955962978353 tw7422445781565681216 tw740290905518256060
 tw7374399212775623666 tw7353485770183898095 tw7350462372000428638 tw727553628536289456 tw726351398001015727 tw7220529860990300233 tw7212858340449540239 tw7164969610272591079 tw7151132215420815488 tw7091221385724896812 tw7053471978191194526 tw6973427100653255629 tw6953138203311097117 tw6942634455013318504 tw694261584828832409 tw6880980288501444468 tw6829468419937405859 tw6798380500665416597 tw6782663255696616371
 tw6751970477201280107 tw6733606326906232124 tw6714880395473160397 tw6701911527682315725 tw6657536258744368796 tw6631347999910079877 tw6597789921013551971 tw6575520176995025181 tw6469784823511061222 tw643336161829623379 tw6331431999304432861 tw6327569006664949090 tw628631919661052299 tw6284410105664486691 tw622995879521568732 tw6229817132586351632 tw6194202620331982285 tw6188973233030003785 tw6172094611929405055
 tw6162269159774324313 tw6148498323302512570 tw6128145076113358165 tw6128106870883400570 tw6125853113672642322 tw6105849179199505303 tw609457278022895560 tw6046103115902281144 tw6030501089693204938 tw6002674938131639716 tw599730875272715187 tw5992840812097835891 tw5953359166732830163 tw5920806927976990809 tw5845002605336314091 tw5832305185047221409 tw5816495043963226922 tw5812350808301622050 tw5783627655825047438
 tw5748170370737335489 tw5725222548895626118 tw5711038861398032994 tw5694767641087392711 tw5649666937502919571 tw5634867526602368427 tw5610444585433571239 tw5537553045615171315 tw547895379624588593 tw5467331546851215429 tw5462360663327728810 tw5459702643516471331 tw5449601097390414333 tw5444512763150141072 tw5438652380644606353 tw5403317740230940108 tw5388589039460942527 tw5376530373609499990 tw5362036446546632119
 tw5344687154915797982 tw5342471268416680606 tw5341297951324810720 tw5338801713223979382 tw5323657890516693427 tw5322009542560784348 tw5289818103960998278 tw5263133172445716209 tw523537741815420091 tw5221592684559293012 tw5217270863462422736 tw5171440476677080432 tw5167058305935922445 tw514280064592716601 tw5137589814051832496 tw5072417060200589145 tw4993863958327201973 tw4971374062829452455 tw4944497897694004105
 tw4903002758410956813 tw4884199854448574 tw4858918184162951299 tw4849480874435393781 tw4772062507164038959 tw4766597723019941021 tw4757880891971583632 tw4734895289157585001 tw4722322465601872512 tw4699756791338806529 tw4693966885379303072 tw463774138113389760 tw4607425872040536859 tw4598271963242535575 tw4565167180653195659 tw4538635040379822027 tw4524658085876675188 tw4517560463748656503 tw4493901809537577575
 tw4490611911172417597 tw4480162626587320490 tw4470585836733325578 tw443766864951011646 tw4436474186459923750 tw4408816720484365081 tw4382473104129494423 tw4340673293219707767 tw4333590680753393835 tw4323258101793500111 tw4321966507151631593 tw431221854992830470 tw4309217394794523951 tw4295534447537059203 tw429539710256275620 tw4267111383703672358 tw424408320835691240 tw4211115844707057057 tw4189273013823423559
 tw4186743451310774866 tw4120328187809186673 tw411527780938466951 tw4039707410889071942 tw4026147355466621588 tw3992765435912101610 tw3985964047577975286 tw3971525946579005399 tw3953844824629472508 tw3945831679567021610 tw3919386906821981792 tw3897268976836264337 tw3846801734645722302 tw3831019782443316194 tw376983999666122830 tw3726453103677007866 tw3721919958574915784 tw3719891259706897012 tw3717076922277056940
 tw3713540243193553862 tw3676754643040562684 tw3676293160133801471 tw3652199383789512132 tw3641951560692057861 tw360634875079729221 tw3604082896382514872 tw3603697650439363286 tw3592811809046731828 tw3581434408401558974 tw3543459598558145280 tw354308444213283272 tw3520257249291928256 tw3475869608268796686 tw3438699932752214802 tw3436067635600285980 tw3433779192033484610 tw3382625519597670723 tw3335794202401238526
 tw3328811466098603303 tw3328118118096588273 tw3308634892276815127 tw3303267245142563540 tw3297117884562324255 tw3277229846650655979 tw3239113980409921550 tw3236729772642805936 tw3233987462203235646 tw3208522521903949160 tw3198059409981156222 tw3149874078143834461 tw3110587219445414310 tw3075201292733833056 tw306047672372848657 tw3042748168174471775 tw2997492091776894028 tw2997480634906808460 tw2983127059725616120
 tw296083027919845158 tw2810200551564342888 tw2768188642542392010 tw2708214617527550399 tw2692750590507578028 tw264932986702033461 tw2641800013201688601 tw2595618661548880785 tw2595585439558603231 tw256976265262469064 tw256182404569192445 tw2546767868308347339 tw2480015634913765671 tw247591363613054380 tw2474200967059427378 tw2455152089536381482 tw2424988045566436242 tw2408532460042181342 tw2403389108928632939
 tw2400638427578300857 tw2358075552688931204 tw2353497105660221152 tw2348056725292078902 tw2343285291557775378 tw2333531293284704758 tw2333105410213810865 tw2314633323536394700 tw2275282789119773048 tw2261719852989239553 tw2187251505897268136 tw2172276787581067923 tw2167315655227761912 tw211337195705725219 tw2046362190076281809 tw2041926188850086339 tw2015444344454546412 tw1986786360949550309 tw1950803216711332702
 tw1941844328875101383 tw1922157984580058403 tw1866716027138748530 tw18418582437962087742 tw18407495941553956032 tw18402647697222807634 tw1840220198017710270 tw18400553757987027518 tw18384110700954362821 tw18383651708701053236 tw18367749455379333440 tw18361725300881549022 tw1835201335921387983 tw18333273249017474000 tw18310463660012746435 tw18220031379085947620 tw18183970276198133131 tw18157406047293677543
 tw18146532975450069615 tw18105302477358141223 tw18101783494082082527 tw18094105663378112561 tw18073898193381586223 tw1804834754348979943 tw18004296560267143027 tw18003772858949239459 tw17980500129456985241 tw17963105932079019327 tw17951090304560329564 tw17937168697417666835 tw17916429707943930468 tw17877845533520812795 tw17862349074038704544 tw17823556299335049440 tw17760279517084355780 tw17755131376963683724
 tw17713387462200973399 tw17691633702590694504 tw17689344090056996911 tw17658959251048325594 tw17614877247268290040 tw17590705303994421779 tw17558320327384617127 tw17499849576073844966 tw17483705464198625004 tw17469460692297270104 tw17410218998227585676 tw17346623794827051843 tw17292613610259460706 tw17261404542052806724 tw1725486776273817318 tw17216001249096748393 tw1719895430356276633 tw17188069144378779261
 tw17184031218471190783 tw17163426234232328066 tw17082689572870858151 tw1708089923452030704 tw17079817176256170043 tw17013487888433625170 tw16947231599799070506 tw16925712312323332580 tw1692201390411429781 tw16919654943277366748 tw16864618592142003386 tw16792556548410726896 tw16765560720781731146 tw16756451883985382160 tw16699056514693719831 tw16691165463884887630 tw16670193898709178398 tw1663524305781585820
 tw16607193741793207195 tw16409965706819354750 tw16298917771340976007 tw1624323068313547334 tw16232239604740543338 tw16223566577533071277 tw16217903435359918192 tw16151628708876355199 tw16140922888777852060 tw16116027297012810434 tw16109456028575089023 tw16108870410212019532 tw16053306600634468012 tw16005714805435085966 tw15969335453137586327 tw15925456577456769635 tw15910123707662034135 tw15902807934199216367
 tw15895094517606616290 tw15806707075529380192 tw15805137534098808535 tw15771247859494662083 tw15743010393045028110 tw15733337929971156237 tw15702583709834301711 tw15685335758407661847 tw15627779663793561183 tw15621415185263527259 tw15568320322881618571 tw15565715512253457277 tw15548556159435276069 tw15540911362017771936 tw15504105790966721872 tw15500368018277343480 tw15481805183316651443 tw154272780991502253
 tw15402603294489630176 tw15401437161963490237 tw1537541725227008683 tw15326580083554890809 tw1532491051758110099 tw15267169705364848929 tw15254633091992210921 tw15227483606004533461 tw15173544498738437827 tw15171223727094530161 tw15127105006835628225 tw15116522159305050132 tw15081101221177525391 tw15060872555676474952 tw15042883488752021643 tw14963028359598502718 tw14938211915633500526 tw14935156969734317764
 tw14904681115217272601 tw14904287247971174143 tw14849461344987154502 tw14847308668706973960 tw1484650774730072618 tw14845619989558847073 tw14827714588952709054 tw14800370929953404514 tw14785633479632635281 tw14760874974797668852 tw14746253646979254834 tw1474264761786122189 tw14710976976299594304 tw1467881925912835984 tw14671739901194505220 tw14664691819916384248 tw14647417624928369756 tw14617222483516278133
 tw14611616552423853409 tw14607143338591219252 tw14594842627406614536 tw14577027041581768965 tw14560624547652848805 tw14556482736207283325 tw14537775516033599862 tw14454166528178196959 tw1442379640649564109 tw14404928986312190071 tw14398111036562950334 tw14346322387006502589 tw14341141199694864594 tw14334995849660946996 tw14332157829676619468 tw14329579894275425762 tw14321067358777074657 tw14261769069557060686
 tw14243238205550065757 tw14226173905949225808 tw14219159868682941630 tw14173793092197918974 tw14154597600763967237 tw14116014176715886054 tw14061609134260724683 tw1405720946626083897 tw14036186469904095446 tw1401067106901849026 tw13996866031312336078 tw13946496683202179788 tw13932396165709540929 tw13931877327420345601 tw13913613514976480042 tw13885670934486923800 tw13851515409511356469 tw1383625962624193546
 tw13813618637161013713 tw13812277999558781770 tw1378205811072252300 tw13769103115541136327 tw13705283562680751584 tw13669536469129627823 tw13601115934706021691 tw13557862171009465336 tw13459084325293418506 tw13444670453868202053 tw13421457143807847188 tw1342123614928995077 tw13385558918117058561 tw13384656265869573321 tw13367274342830030513 tw13307065042914920193 tw13282000867657480947 tw13257283266767686631
 tw13164499291161521807 tw13141587033338554882 tw13135312941875745310 tw13082796549270168242 tw13055953723892786844 tw12997797890453418503 tw12960429369202013873 tw12936088452001202715 tw12921946191010883867 tw12917704675397863716 tw12903330217458380548 tw12887044766017154078 tw12886655626623354442 tw12858089460409395330 tw12843764043397292189 tw12826555694032677247 tw12809436989009611891 tw12750670339961964742
 tw12747814925858328940 tw12740759652641322565 tw12738610918357793766 tw12727641955093265886 tw12669407529647801677 tw12627051441459223148 tw12542895121996172375 tw12528533614272120300 tw12528221419883600679 tw12524954882073270795 tw12477129341811645039 tw12461081396071149458 tw12431713363859531893 tw12408111787983249662 tw12369848792361866835 tw12360917755211006479 tw12330612334027959195 tw12325864989022198202
 tw12314708539913122752 tw12297992134047619483 tw12292279215369614323 tw12158318874351436921 tw12151077715039277381 tw12138319994727072339 tw12132712098797836567 tw12132596417379514657 tw12125097214300078407 tw12091442091272426231 tw12076989928817844590 tw12064304430848566033 tw12041797014711123256 tw12020253756985099128 tw1198783387198779033 tw11962351593759143498 tw11863963456291920697 tw11859619671507778021
 tw11853640710764476214 tw11844019762684407370 tw11824586356888161845 tw11823594873375168262 tw11757307120078846540 tw11738243743197964597 tw11717715558655726156 tw11707130962622978684 tw11566098044289413073 tw11564986514327137767 tw11525993766095887173 tw11524815483048965402 tw1149798457248472902 tw11434409910335936926 tw1142673529048489019 tw11401859456886640639 tw11384182702204212275 tw11368310244458860372
 tw11317637306720784765 tw11308061921803828041 tw11280630913190679075 tw11266997524610791606 tw1125065396945160393 tw11219443903484984970 tw11212356425047092601 tw11207431853666184334 tw11161164713144168021 tw11120740854625124088 tw11107512795663914464 tw11066385474520676512 tw11024694936033576346 tw10910644110388302437 tw1090689591775485030 tw10886659093417053267 tw10868321568973259252 tw10861573186032746274
 tw10851082721055443051 tw10799429511968010386 tw10741264400317747893 tw10713865542653931438 tw10624116801336726872 tw10550934584343373414 tw10538165733446703262 tw10519837036962490867 tw10510019762269167821 tw10479991185640055810 tw104648801707901014 tw1045582712504079209 tw10406584006884427733 tw10388488172074580225 tw10374632558016547081 tw10373885705245885314 tw10341888390210383824 tw10310341975313369176
 tw10295913840692754127 tw10294118229990073760 tw10284273198859499032 tw10228342955482612591 tw10198052994689861382 tw10167646349310259628 tw10164718903369591474 tw10159399881129095643 tw10146569101766770184 tw10095894221667365369 tw10076701801029333439 tw10016285971185400693 tw10000665274644299833 tw9919008367099125623 tw9806118890596472461 tw9678289623588505577 tw9646623106273453227 tw9433028549170029634
 tw9387514328989991554 tw9320515035125037321 tw9003107776662980439 tw8995945545434573385 tw8565224436197482051 tw8428246938381088814 tw8374155422468719031 tw8331849164307833061 tw8176730645128964420 tw8171798328758944481 tw8115137120850386438 tw7998583776865276027 tw772564365185477556 tw7557421358154311045 tw7322748291113730364 tw7217548393331319763 tw7086961617601330827 tw7007286002206832825 tw6851275008772768644
 tw6822071536725586909 tw6557801498797044033 tw6542358382571353910 tw6526287140368922620 tw6408400580700104982 tw640624198105042115 tw6259241058660970061 tw615563214671542189 tw6084841979344569690 tw5874822333441161849 tw5805800948307579973 tw5667099127317398114 tw5665240888008139550 tw539538531456391632 tw506581581156960101 tw5010956058597451964 tw4860023922305330110 tw4635989785427082552 tw4561898282857576226
 tw4512776594637900181 tw4483904966330829159 tw4051853165826885262 tw3778530596728393105 tw3681537716864247207 tw3419001889969749887 tw3374319085511977134 tw3238445694619138142 tw3049343062529576306 tw2990168724187919761 tw2950685276103557050 tw2869065659524454656 tw2781441929908095834 tw2629151800749243262 tw2527701527901579348 tw2466311954974566718 tw2244103112122482387 tw2228412568605170491 tw2144661209622563809
 tw2078950565319712143 tw1998347030407657756 tw1891733041441978011 tw18335596039185421423 tw18031968618487185184 tw17883462748017686043 tw17590876675597686902 tw17577329170770402720 tw17334828202450815106 tw17260811203177919210 tw17137270108147033825 tw16955839230299176341 tw16773468814595293053 tw16753820520455620202 tw16412085850373738351 tw16309811473084048462 tw1630143524128594353 tw16248296213531012650
 tw16226643914720891334 tw15870398105094248349 tw15554417296805563061 tw15539815450414544023 tw15499940227032437249 tw14934011241717051027 tw14819390147424179368 tw14736888041290939073 tw14703100239697439463 tw14441679199631801671 tw14081431093454284249 tw14074196154385387334 tw13956191218907399338 tw13831308528885131752 tw13622603851894308203 tw13547939009206843870 tw13484562703626004877 tw13160504802963445071
 tw13069393092227542028 tw13053770412826190925 tw1293241653719404408 tw12488014758255163090 tw1205604411410820431 tw1158361714356455011 tw11481637867367846703 tw11468729153070441980 tw11421057715548341654 tw11408881796089955267 tw11373181179767321252 tw11267315532378154396 tw11153475782318119604 tw10988312798546598065 tw10958628066121416707 tw10956520680868813917 tw10879749546641988924 tw10876078143196172821
 tw10826640976665885199 tw1070438729232803039 tw10576836333797772347 tw10551173667578312727:True)
open_top hd for PySem.Challenge.rw_minders_k11_whole_answered_as_its_way_sa
abbrev fC:=@if_neg
abbrev gy:=@decide_eq_true
abbrev fR:=@if_pos
abbrev iB:=@of_decide_eq_true
abbrev iR:=@decide_eq_false
abbrev iY:=@congrArg
abbrev pD:=@decide_eq_true_iff
abbrev wu:=@of_decide_eq_false
abbrev xc:=@beq_iff_eq
abbrev ajI:=@beq_eq_false_iff_ne
abbrev ajL:=@decide_eq_decide
abbrev al2:=@beq_self_eq_true
abbrev amM:=@bne_iff_ne
abbrev amP:=@ite_self
open PySem renaming Addr->eF,Value->fy,Shared->fX,Stmt->gF,wpAny_bind->kb,Program->iU,Expr->hH,World->iP,Heap->h7,Around->jg,wpAny_pure->pq,FuncData->pG,wpAny_mono->tM,wpAny_truthy_bool->ajn,mem_of_lookup->ajq,sizeLine_eq->LQ,wpAny_passesOwn->ajQ,wpAny_pyIter_list->ajV,Spec->ajW,Scope->uf,wpAny_Call_Name_kw->aj8,wpAny_loadPart_at->ake,codeAny_mono->akD,Model->Al,typeIs_str->akL,call_meets->akN,wpAny_holding->akW,ExceptHandler->akY,NameKind->ak1,wpAny_execs_nil->ak9,codeAny_call_builtin->alc,wpAny_field->alx,tupleKind_room_in1->alz,wpAny_standAt->alG,BindsTo->alW,wpAny_comprehension_free->al1,CmpOp->NB,IsRangeIter->amh,wpAny_pyNext_range_end->ami,wpAny_pyIter_rangeiter->amj,Paired->amt,wpAny_isTrue_Compare1->amu,intText?->amx,codeAny_handlers_test->amy,lookup_relabel_local->amL,wpAny_pyIter_revIter->amO,wpAny_handleBy_cons->amZ,Within->am4,wpAny_Constant_int->am5,wpAny_pyIter_range->am6,seqIndex_neg->anb,step_same->ano,Keyword->anv,wpAny_assign_Name->anz,list_append->anA,wpAny_newObj_type->anC,wpAny_pyIter_enum->anH,seqIndex_of->anL,wpAny_execs_cons->anP,Operator->anQ,wpAny_Name->an0,wpAny_call->an2,PlainAttrs->aoa,wpAny_Compare1->aoh,wpAny_loadPart->aoj,Builtin->aol,PassesOwn->aoq,intBits_le_64->aot,evalPart_none->aou,call_list_seq->aov,GenState->aoA
open List renaming getElem?_eq_getElem->hY,length_map->gQ,range->hD,getElem?_map->i6,length_append->jm,size_toArray->js,mem_cons_self->lq,mem_cons_of_mem->mf,getD_eq_getElem?_getD->ot,map_append->kr,range'->jj,replicate->ko,mem_singleton->l9,getElem?_eq_some_iff->rx,length_range->mK,mem_filter->mJ,filter_cons->nS,append_nil->ov,filter_append->su,getElem?_append_left->zW,mem_cons->oT,mem_append_right->yw,length_cons->rN,length_filter_le->yS,mem_append->ro,getElem?_append_right->FZ,mem_range->qG,length_take->ve,getElem_mem->uy,filter_eq_nil_iff->CN,append_assoc->zL,take_length->zN,take_add_one->AD,filter_congr->B8,mem_map->tU,nil_append->zI,all_eq_true->z8,map_cons->xl,replicate_succ->IH,getElem?_range->Jb,mem_of_getElem?->JO,lookup_cons->Ft,length_replicate->NC,length_eq_zero_iff->Yw,range_succ->F1,filter_nil->GZ,getElem?_eq_none->aje,cons_ne_nil->WB,range'_succ->Xf,filter_filter->ajj,mem_reverse->OH,cons_append->ajw,foldlM_cons->YP,mem_replicate->ajA,lookup->ID,mem_append_left->ajD,range'_append_1->ajH,length_reverse->ajJ,length_drop->ajK,range_eq_range'->ajY,map_congr_left->aj3,any_cons->aj6,find?_cons->aj9,take_of_length_le->akb,foldl_append->akf,mem_range'_1->akg,map_nil->aki,contains_iff_mem->akk,map_map->akl,mem_iff_getElem->akt,replicate_zero->akx,length_pos_iff->akz,length_nil->akA,drop_eq_getElem_cons->akB,length_range'->akH,pairwise_cons->akI,getElem?_set_self->akT,range_succ_eq_map->akU,map_take->ak0,getElem_map->ak2,singleton_append->ak5,take_append_drop->ak6,pairwise_reverse->ak7,getElem?_set_ne->ak8,nodup_cons->ala,getElem_toArray->ald,foldl_cons->ale,sum_append->alg,mem_of_mem_take->alh,take_append_of_le_length->aln,filterMap_cons->alo,filter_eq_self->alr,getElem?_drop->alD,find?_eq_none->alF,all_cons->alH,takeWhile_cons_of_neg->alK,dropWhile_cons_of_neg->alL,sum_cons->alM,flatten_cons->alR,getElem?_take_of_lt->alZ,not_mem_nil->al4,of_mem_zip->amc,mem_range'->amg,drop_eq_nil_of_le->amo,length_singleton->amw,drop_zero->amB,map_drop->amS,getElem_of_mem->amX,map_eq_nil_iff->am0,mem_filterMap->am7,all_map->ang,getElem_range->anl,range'_concat->anm,map_singleton->ant,ext_getElem?->anI,getElem?_inj->anJ,filter->anN,range'_zero->anV,drop_length->anZ,takeWhile->aom,take_zero->aon,any_nil->aoI,map_id->aoS
open Nat renaming le_refl->gx,testBit->hI,le_trans->jC,ne_of_lt->me,lt_of_lt_of_le->rr,lt_of_le_of_lt->uk,zero_le->qj,not_lt_zero->ze,le_of_lt->vC,testBit_and->Cf,mod_two_eq_zero_or_one->YD,lt_succ_self->Ji,sub_self->Bn,zero_testBit->Tf,mul_le_mul_left->ajs,lt_irrefl->Mo,lt_trans->KX,eq_of_testBit_eq->ajF,testBit_xor->ajG,le_succ->LM,le_add_right->aj2,add_mul->akc,one_mul->akd,pow_le_pow_right->aks,testBit_two_pow->akw,ne_of_gt->akC,add_sub_cancel_left->akQ,mul_add->akV,strongRecOn->alf,succ_pos->ali,zero_mul->alj,zero_add->alk,mul_le_mul_right->alm,testBit_or->alv,log2->alw,testBit_two_pow_sub_one->alE,succ_le_succ->al0,and_le_right->al5,two_pow_pos->amf,testBit_lt_two_pow->amq,add_le_add_left->amV,le_of_eq->am8,add_right_comm->ank,mul_zero->anq,lt_succ_of_lt->anD,le_succ_of_le->anG,mul_one->anM,log2_lt->anO,testBit_zero->anU,testBit_log2->anW,le_max_right->anY,zero_lt_one->aoe,le_max_left->aog,mul_le_mul->aop,mul_comm->aoD,pow_succ->aoE,add_zero->aoF,sub_zero->aoG
open PySem.W renaming Frag->gI,mg_of->nh,findIn->ri,mroIn->xn,mg_none_of->F2,kitOne->DV,emptyDict->Nx,nsIn->FE,fnOf->GI,keepIn->Nb,instObj->ajC,plainGet->akp,looks_findIn->akq,excIn->aku,callWith_K->akE,kitCls->akO,hasDictIn->akS,methodCall_KW->ak4,plainGet_of->alq,lookIn->als,codeIn->alu,methodObj->alN,plainOver->alO,isFn->alY,takerIn->ama,makesIn->amb,OpenLaw->ame,cellsFrom_some->aml,callWith_K0->amT,looks_mroIn->amY,specialIn->anF,handedIn->anR,readsIn->aoc,findCls->aod,InstAt->aoi,typeIn->aok,WalkO->aow,clsIn->aoy
open Option.some renaming inj->iJ
open Bool renaming false_ne_true->jT,and_eq_true->mu,eq_iff_iff->tL,or_false->rW,true_and->so,not_eq_true'->Ma,false_and->Hy,or_eq_true->Nw,false_or->ajT,and_false->akj,eq_false_iff->alP,and_true->amR,true_or->ane,or_true->anf,not_eq_false'->anp,and_comm->aoz
open PySem.Heap renaming get?_push_of_some->nr,lt_size->lD,get?_push_size->rX,get?_none_of_le->ajX,get?_update_other->aka,size_push->akh,SameBut->alX,get?_update_self->amv
open PySem.F renaming plainAttrs_list->xZ,slot_list_append->Aq,type_list_append->B6,plainAttrs_str->ajc,args_str_split_2->alB,entry_str_split->alQ,slot_str_split->al3,slot_str_lstrip->al7,type_str_lstrip->al8,slot_str_split->amr,type_str_split->ams,typeOf_object_class->amz,slot_enumerate_next->amD,slot_str_join->amE,type_str_join->amF,slot_list_pop->amG,type_list_pop->amH,args_list_append_2->amK,entry_list_append->amU,slot_list_append->anc
open Option renaming bind_some->tW,isSome_map->anB,getD_none->anS,none->aoR
open PySem.Value renaming ref->nk,int->Sl,str->Pc,none->ako,builtin->alI,bool->alS,type->alT,isStrOf->aos,isInt->aoJ,bytes->aoK,float->aoL
open PySem.PassesOwn renaming never->yu
open PySem.Builtin renaming bitAnd->yU,bitNot->ajZ,bitOr->akX
open PyProof.Rows renaming callWith_type1->ai9,AllBare->L1,subscriptTail_builtinR->amm,Subscript_->amI,IntsAre->anx,boot_range->an1,boot_enumerate->aoo,split_len->aor
open List.Pairwise renaming filter->ajl
open Int renaming eq_ofNat_of_zero_le->ajm,toNat_natCast->ajo,le_refl->akv,natCast_nonneg->akG,emod_lt_of_pos->alC,add_zero->al6,toNat->anj,zero_add->anr,emod_nonneg->aof,le_of_eq->aoH
open PySem.Builtin.Str renaming strKind->ajr,occurrences->aj5
open False renaming elim->DA
open True renaming intro->ajN
open PySem.Str renaming ofString->SE,length_append->akR,empty->aly
open PySem.Txt renaming lstripChars->ajR,startswith->amA,join->amN
open PySem.Calls renaming Name_function_global->ajS,loadGlobal_global->akP,callWith_builtin->amn,evalArgs_plain->amJ
open Array renaming getElem?_eq_some_iff->ajU,getElem?_toList->ak3,length_toList->alp,toList->aoB
open PySem.AutoSeq1 renaming wpAny_loadPart'->aj1
open PySem.Builtin.Range renaming rangeSize->aj4,small->am1
open PySem.Obj renaming mapSeq->akr,data_mapFields->akF,cls_mapFields->anE
open PySem.Builtin.Int renaming intBits->aky
open PySem.SeqAt renaming EqAt->akM
open List.cons renaming inj->akZ
open ForInStep renaming yield->alb
open PySem.SeqAt.RcNeAt renaming lists_lengths->alJ,lists->anh
open Sum renaming inl->alU,inr->alV
open PySem.SeqAt.EqAt renaming same->amd,int_str->am2,str_int->am3,of_refs->ani
open PyProof renaming noPylong_small->amk
open PySem.Value.type renaming inj->amC
open PySem.Paired renaming length->amQ,snoc->aoQ
open PySem.EntryCells renaming newEntry->amW
open PySem.Around renaming under->am9
open PySem.Code renaming isFrame->ana,frames->aoP
open PySem.In renaming nil->anu
open Sum.inr renaming inj->anK
open PySem.IsL renaming update->anT
open Or renaming inr->aob,inl->aoC
open PySem.Value.ref renaming inj->aox
open PySem.Data renaming fields->aoM
open PySem.Walks renaming range->aoN,list->aoT
open PySem.IsRange renaming new->aoO
open PySem.W.WData renaming int->aoU
section
set_option compiler.extract_closed false
set_option bootstrap.genMatcherCode false

theorem d2{a b G:Prop}(h:a/\b)(k:a->b->G):G:=k h.1 h.2
theorem d3{a b c G:Prop}(h:a/\b/\c)(k:a->b->c->G):G:=k h.1 h.2.1 h.2.2
theorem d4{a b c d G:Prop}(h:a/\b/\c/\d)(k:a->b->c->d->G):G:=k h.1 h.2.1 h.2.2.1 h.2.2.2
theorem d5{a b c d e G:Prop}(h:a/\b/\c/\d/\e)(k:a->b->c->d->e->G):G:=k h.1 h.2.1 h.2.2.1 h.2.2.2.1 h.2.2.2.2
theorem d6{a b c d e f G:Prop}(h:a/\b/\c/\d/\e/\f)(k:a->b->c->d->e->f->G):G:=k h.1 h.2.1 h.2.2.1 h.2.2.2.1 h.2.2.2.2.1 h.2.2.2.2.2
theorem d7{a b c d e f g G:Prop}(h:a/\b/\c/\d/\e/\f/\g)(k:a->b->c->d->e->f->g->G):G:=k h.1 h.2.1 h.2.2.1 h.2.2.2.1 h.2.2.2.2.1 h.2.2.2.2.2.1 h.2.2.2.2.2.2
theorem d8{a b c d e f g i G:Prop}(h:a/\b/\c/\d/\e/\f/\g/\i)(k:a->b->c->d->e->f->g->i->G):G:=k h.1 h.2.1 h.2.2.1 h.2.2.2.1 h.2.2.2.2.1 h.2.2.2.2.2.1 h.2.2.2.2.2.2.1 h.2.2.2.2.2.2.2
theorem d9{a b c d e f g i j G:Prop}(h:a/\b/\c/\d/\e/\f/\g/\i/\j)(k:a->b->c->d->e->f->g->i->j->G):G:=k h.1 h.2.1 h.2.2.1 h.2.2.2.1 h.2.2.2.2.1 h.2.2.2.2.2.1 h.2.2.2.2.2.2.1 h.2.2.2.2.2.2.2.1 h.2.2.2.2.2.2.2.2
theorem d10{a b c d e f g i j l G:Prop}(h:a/\b/\c/\d/\e/\f/\g/\i/\j/\l)(k:a->b->c->d->e->f->g->i->j->l->G):G:=k h.1 h.2.1 h.2.2.1 h.2.2.2.1 h.2.2.2.2.1 h.2.2.2.2.2.1 h.2.2.2.2.2.2.1 h.2.2.2.2.2.2.2.1 h.2.2.2.2.2.2.2.2.1 h.2.2.2.2.2.2.2.2.2
theorem d11{a b c d e f g i j l m G:Prop}(h:a/\b/\c/\d/\e/\f/\g/\i/\j/\l/\m)(k:a->b->c->d->e->f->g->i->j->l->m->G):G:=k h.1 h.2.1 h.2.2.1 h.2.2.2.1 h.2.2.2.2.1 h.2.2.2.2.2.1 h.2.2.2.2.2.2.1 h.2.2.2.2.2.2.2.1 h.2.2.2.2.2.2.2.2.1 h.2.2.2.2.2.2.2.2.2.1 h.2.2.2.2.2.2.2.2.2.2
theorem d12{a b c d e f g i j l m n G:Prop}(h:a/\b/\c/\d/\e/\f/\g/\i/\j/\l/\m/\n)(k:a->b->c->d->e->f->g->i->j->l->m->n->G):G:=k h.1 h.2.1 h.2.2.1 h.2.2.2.1 h.2.2.2.2.1 h.2.2.2.2.2.1 h.2.2.2.2.2.2.1 h.2.2.2.2.2.2.2.1 h.2.2.2.2.2.2.2.2.1 h.2.2.2.2.2.2.2.2.2.1 h.2.2.2.2.2.2.2.2.2.2.1 h.2.2.2.2.2.2.2.2.2.2.2
theorem e1{R:A'->Prop}{G:Prop}(h:∃a,R a)(k:∀a,R a->G):G:=h.elim k
theorem e2{R:A'->B'->Prop}{G:Prop}(h:∃a b,R a b)(k:∀a b,R a b->G):G:=h.elim λa h=>e1 h (k a)
theorem e3{R:A'->B'->C'->Prop}{G:Prop}(h:∃a b c,R a b c)(k:∀a b c,R a b c->G):G:=h.elim λa h=>e2 h (k a)
theorem e4{R:A'->B'->C'->D'->Prop}{G:Prop}(h:∃a b c d,R a b c d)(k:∀a b c d,R a b c d->G):G:=h.elim λa h=>e3 h (k a)
theorem e5{R:A'->B'->C'->D'->E'->Prop}{G:Prop}(h:∃a b c d e,R a b c d e)(k:∀a b c d e,R a b c d e->G):G:=h.elim λa h=>e4 h (k a)
theorem e6{R:A'->B'->C'->D'->E'->F'->Prop}{G:Prop}(h:∃a b c d e f,R a b c d e f)(k:∀a b c d e f,R a b c d e f->G):G:=h.elim λa h=>e5 h (k a)
theorem e7{R:A'->B'->C'->D'->E'->F'->G'->Prop}{G:Prop}(h:∃a b c d e f g,R a b c d e f g)(k:∀a b c d e f g,R a b c d e f g->G):G:=h.elim λa h=>e6 h (k a)
theorem e8{R:A'->B'->C'->D'->E'->F'->G'->I'->Prop}{G:Prop}(h:∃a b c d e f g i,R a b c d e f g i)(k:∀a b c d e f g i,R a b c d e f g i->G):G:=h.elim λa h=>e7 h (k a)
theorem e9{R:A'->B'->C'->D'->E'->F'->G'->I'->J'->Prop}{G:Prop}(h:∃a b c d e f g i j,R a b c d e f g i j)(k:∀a b c d e f g i j,R a b c d e f g i j->G):G:=h.elim λa h=>e8 h (k a)
theorem e10{R:A'->B'->C'->D'->E'->F'->G'->I'->J'->L'->Prop}{G:Prop}(h:∃a b c d e f g i j l,R a b c d e f g i j l)(k:∀a b c d e f g i j l,R a b c d e f g i j l->G):G:=h.elim λa h=>e9 h (k a)
local macro_rules | `(tactic|obtain ⟨$ps,*⟩:=$h) => `(tactic|rcases $h:term with ⟨$ps,*⟩)
local macro_rules | `(tactic|rcases $h:term with ⟨$ps,*⟩) => do
  let n := ps.getElems.size
  let mut xs := #[]
  let mut ts := #[]
  let z := Lean.mkIdent (← Lean.Macro.addMacroScope `z)
  for p in ps.getElems do
    match p with
    | `(Lean.Parser.Tactic.rcasesPatLo| $x:ident) =>
      if x.getId != `rfl then
        xs := xs.push x
        continue
    | _ => pure ()
    let y := Lean.mkIdent (z.getId.appendIndexAfter xs.size)
    xs := xs.push y
    ts := ts.push (← `(tactic|rcases $y:ident with $p:rcasesPatLo))
  let st c i (h : Lean.Term) (ys : Array Lean.Ident) := `(tactic|(refine $(Lean.mkIdent (`_root_ ++ .mkSimple s!"{c}{i}")) $h ?_; (try clear $(⟨h.raw⟩):ident); intro $ys*))
  let a := ps.getElems[:11].toArray
  let b := ps.getElems[11:].toArray
  let mut r ← if n > 12 then `(tactic|rcases $h:term with ⟨$a,*,⟨$b,*⟩⟩) else `(tactic|rcases $h:term with (⟨$ps,*⟩))
  for k in [1:n+1] do
    let k := n - k
    let mut t ← if k = 0 then st "d" n h xs else st "e" k h (xs[:k].toArray.push (if k + 1 = n then xs[k]! else z))
    if k > 0 && k + 1 < n then t ← `(tactic|$t <;> $(← st "d" (n - k) z xs[k:]))
    for s in ts do t ← `(tactic|$t <;> $s)
    r ← `(tactic|first|$t:tactic|$r:tactic)
  return r
local macro_rules|`(())=>`(by lia)|`(∅)=>`(by decide)|`(⋯)=>`(by rfl)|`(($a,$b,*))=>`(⟨$a,$b,*⟩)
open Lean in
local macro_rules|`($f:ident $x $y*)=>do
 let i:=mkIdent
 match f.getId with
 |`zn=>`($(i `zFn) $(i `P) $(i `w) $(i `K) $(i `mg) $(i `eC) $x $(i `f) $(i `fd) $y*)
 |`xz=>`($(i `bh) $(i `P) $(i `w) $(i `K) $(i `mg) $(i `eC) $x $y*)
 |`wE=>`($(i `iX) $(i `P) $(i `w) $(i `K) $(i `mg) $(i `eC) $x $y*)
 |`wP=>`($(i `aD) $(i `P) $(i `w) $(i `K) $(i `mg) $(i `eC) $x $y*)
 |`wS=>`($(i `zFn) $(i `P) $(i `w) $(i `K) $(i `mg) $(i `eC) $x $y*)
 |`wT=>`($(i `MethAt) $(i `P) $(i `w) $(i `K) $(i `mg) $(i `eC) $x $y*)
 |`wr=>`($(i `C0) $(i `P) $(i `w) $(i `K) $(i `mg) $(i `eC) $x $y*)
 |`wv=>`($(i `aI) $(i `K) $x $x $y* $(i `dV) $(i `f) $(i `fd))
 |_=>Macro.throwUnsupported
local macro_rules|`(def $n:declId $s:optDeclSig:=by $x)=>`(theorem $n:declId $(⟨.node .none ``Lean.Parser.Command.declSig #[s.raw[0],s.raw[1][0]]⟩):declSig:=by $x)
local macro_rules|`(tactic|let $d:letDecl)=>`(tactic|have $d:letDecl)
open Lean in
local macro_rules|`(tactic|let ⟨$ps,*⟩:=$h)=>do
 let rec f:Nat->Term->MacroM (TSyntax `rcasesPat)
  |n+1,t=>match t with
   |`(($x,$xs,*))=>do
    let ys<-(#[x]++xs.getElems).mapM (f n)
    let zs<-ys.mapM λy=>`(Parser.Tactic.rcasesPatLo|$y:rcasesPat)
    `(rcasesPat|⟨$zs,*⟩)
   |`(⟨$xs,*⟩)=>do
    let ys<-xs.getElems.mapM (f n)
    let zs<-ys.mapM λy=>`(Parser.Tactic.rcasesPatLo|$y:rcasesPat)
    `(rcasesPat|⟨$zs,*⟩)
   |`($x:ident)=>`(rcasesPat|$x:ident)
   |_=>`(rcasesPat|_)
  |_,_=>`(rcasesPat|_)
 let zs<-ps.getElems.mapM λp=>do `(Parser.Tactic.rcasesPatLo|$(<-f 9 p):rcasesPat)
 `(tactic|rcases $h:term with ⟨$zs,*⟩)
local macro_rules|`(tactic|let($p,$ps,*):=$h)=>`(tactic|let ⟨$p,$ps,*⟩:=$h)
namespace Internal
namespace L2
open PySem PySem.Spec PyProof.Rows
abbrev Key:=Sum Int Str
def LZ:Key->fy->Bool
 |.inl k,v=>aoJ k v
 |.inr x,v=>aos x v
def ahb(w:iP):Key->Int
 |.inl k=>hashInt k
 |.inr x=>hashStr w x
theorem eu:∀{k:Key} {v:fy},LZ k v=true->(∃i t,k=alU i/\v=Sl i t)\/(∃x t,k=alV x/\v=Pc x t)
 |.inl i,v,h=>by
  let(t,e):=Value.isInt_shape h;exact .inl (i,t,rfl,e)
 |.inr x,v,h=>by
  let(t,e):=Value.isStrOf_shape h;exact .inr (x,t,rfl,e)
def Vs(i:Int)(t:Tok):LZ (.inl i) (.int i t)=true:=by simp[LZ,aoJ]
def Wc(x:Str)(t:Tok):LZ (.inr x) (.str x t)=true:=by simp[LZ,aos]
def aeC(a b:Int):decide ((alU a:Key)=alU b)=(a==b):=by
 by_cases e:a=b
 .subst e;simp
 simp_all
def aee(a b:Str):decide ((alV a:Key)=alV b)=decide (a=b):=by
 simp
theorem afx(a:Int)(b:Str):decide ((alU a:Key)=alV b)=false:=iR (λq=>nomatch q)
theorem afl(a:Str)(b:Int):decide ((alV a:Key)=alU b)=false:=iR (λq=>nomatch q)
def fJ(prog:iU)(w:iP):PySem.KeyKind prog w Key where
 is:=LZ
 hash:=ahb w
 inj:=λv a b m f=>by
  rcases eu m with⟨i,t,rfl,rfl⟩|⟨x,t,rfl,rfl⟩
  .rcases eu f with⟨j,u,rfl,e⟩|⟨y,u,rfl,e⟩
   .injection e with e1 _;rw[e1]
   .exact nomatch e
  .rcases eu f with⟨j,u,rfl,e⟩|⟨y,u,rfl,e⟩
   .exact nomatch e
   .injection e with e1 _;rw[e1]
 byValue:=λk v h=>by
  rcases eu h with⟨i,t,rfl,rfl⟩|⟨x,t,rfl,rfl⟩<;>rfl
 pyHash:=λc h=>by
  rcases eu c with⟨i,t,rfl,rfl⟩|⟨x,t,rfl,rfl⟩
  .exact wpAny_pyHash_int h
  .exact wpAny_pyHash_str h
 eqBool:=λg c h=>by
  rcases eu g with⟨i,t,rfl,rfl⟩|⟨x,t,rfl,rfl⟩
  .rcases eu c with⟨j,u,rfl,rfl⟩|⟨y,u,rfl,rfl⟩
   .rw[aeC]at h;exact wpAny_eqBool_int h
   .exact am2 i t y u _ _ _ _ h
  .rcases eu c with⟨j,u,rfl,rfl⟩|⟨y,u,rfl,rfl⟩
   .exact am3 x t j u _ _ _ _ h
   .rw[aee]at h;exact wpAny_eqBool_str h
 «strs»:=λk x t v h=>by
  rcases eu h with⟨i,u,rfl,e⟩|⟨y,u,rfl,e⟩
  .exact nomatch e
  .injection e with e1 _;subst e1;cases v<;>rfl
theorem P9(prog:iU)(w:iP)(i:Int)(t:Tok):(fJ prog w).is (.inl i) (.int i t)=true:=Vs i t
theorem Qx(prog:iU)(w:iP)(x:Str)(t:Tok):(fJ prog w).is (.inr x) (.str x t)=true:=Wc x t
inductive V where
 |non|bl (b:Bool)|int (i:Int)|str (x:Str)|byt (b:Array UInt8)|flt (b:UInt64)|ref (a:eF)|ty (n:String)
 deriving DecidableEq
def RelV:V->fy->Prop
 |.non,u=>u=ako
 |.bl b,u=>u=alS b
 |.int i,u=>∃t,u=Sl i t
 |.str x,u=>∃t,u=Pc x t
 |.byt b,u=>∃t,u=aoK b t
 |.flt b,u=>∃t,u=aoL b t
 |.ref a,u=>u=nk a
 |.ty n,u=>u=alT n
abbrev Vals:List V->List fy->Prop:=amt RelV
theorem Vals.length{xs:List V}{us:List fy}(r:Vals xs us):xs.length=us.length:=amQ r
theorem Vals.get:∀{xs:List V} {us:List fy} {i:Nat} {x:V},Vals xs us->xs[i]? =some x->∃u,us[i]? =some u/\RelV x u
 |_,_,_,_,.nil,e=>by simp at e
 |_,_,0,_,.cons r _,e=>by simp at e;subst e;exact(_,rfl,r)
 |_,_,i+1,x,.cons _ t,e=>by
  let(u,a,c):=Vals.get t (by simpa using e);exact(u,by simpa using a,c)
theorem Vals.set{x:V}{u:fy}(r:RelV x u):∀{xs:List V} {us:List fy} (i:Nat),Vals xs us->Vals (xs.set i x) (us.set i u)
 |_,_,_,.nil=>.nil
 |_,_,0,.cons _ t=>.cons r t
 |_,_,i+1,.cons q t=>.cons q (Vals.set r i t)
theorem Vals.append:∀{xs ys:List V} {us a:List fy},Vals xs us->Vals ys a->Vals (xs++ys) (us++a)
 |_,_,_,_,.nil,s=>s
 |_,_,_,_,.cons r t,s=>.cons r (Vals.append t s)
theorem Vals.take:∀{xs:List V} {us:List fy} (n:Nat),Vals xs us->Vals (xs.take n) (us.take n)
 |_,_,0,_=>.nil
 |_,_,_+1,.nil=>.nil
 |_,_,n+1,.cons r t=>.cons r (Vals.take n t)
theorem Vals.drop:∀{xs:List V} {us:List fy} (n:Nat),Vals xs us->Vals (xs.drop n) (us.drop n)
 |_,_,0,r=>r
 |_,_,_+1,.nil=>.nil
 |_,_,n+1,.cons _ t=>Vals.drop n t
def zU:Option V->Option fy->Prop
 |some v,some u=>RelV v u
 |none,none=>True
 |_,_=>False
def KV{a:Type}:List (a×V)->List (a×fy)->Prop:=amt λ(p:a×V) (q:a×fy)=>p.1=q.1/\RelV p.2 q.2
def kV:Key->V
 |.inl i=>.int i
 |.inr x=>.str x
inductive HO where
 |lst (xs:List V)
 |tup (xs:List V)
 |dK (kvs:List (Key×V))|dT (kvs:List (List Key×V))
 |set (S:Int->Bool) (n:Nat)
 |ins (C dx:eF) (fs:List (Str×V))
 |own (x:eF)
 |xd (fs:List (Str×V))
 |met (f x:eF)
 |rng (lo hi:Int)
 |frz (o:Obj) (u:HO)
 |tbl (ps:Array fy)
 |ext (φ:h7->Prop)
abbrev Hp:=eF->Option HO
def upd(H:Hp)(a:eF)(o:HO):Hp:=λb=>if b=a then some o else H b
def ae{H:Hp}{a:eF}{o:HO}:upd H a o a=some o:=by unfold upd;rw[fR rfl]
def ag{H:Hp}{a b:eF}{o:HO}(h:b≠a):upd H a o b=H b:=by unfold upd;rw[fC h]
def bp{H:Hp}{a:eF}{o u:HO}:upd (upd H a o) a u=upd H a u:=by
 funext b;unfold upd;split<;>rfl
def Qh{H:Hp}{a b:eF}{o u:HO}(h:H a=some o)(h':H b=some u)(d:o≠u):a≠b:=by
 intro e;subst e;rw[h]at h';exact d (iJ h')
def ao{H:Hp}{a b:eF}{o:HO}(h:H a=some o)(h':H b=none):a≠b:=by
 intro e;simp_all
section
variable(P:iU)(w:iP)
def gw(H:Hp)(h:h7)(a:eF):HO->Prop
 |.lst xs=>xs.length<=sizeLine/\∃(its:List fy) (n:Nat),Vals xs its/\h.get? a=some {cls:= .type "list",data:= .seq its.toArray n}
 |.tup xs=>xs.length<=sizeLine/\∃its:List fy,Vals xs its/\IsTup h a its.toArray
 |.dK c=>c.length<=sizeLine/\(a==sysModules)=false/\∃vs,KV c vs/\h.DictOf (fJ P w) a vs
 |.dT c=>c.length<=sizeLine/\(a==sysModules)=false/\∃xs:List (List Key×eF×fy),
   amt (λ(p:List Key×V) (q:List Key×eF×fy)=>p.1=q.1/\H q.2.1=some (.tup (p.1.map kV))/\RelV p.2 q.2.2) c xs∧
   ∃o es s,h.get? a=some o/\o.ExactDict/\o.data=.dict es s/\es.toList=xs.map (entryOfKey (tupleKind (fJ P w)))/\(xs.map (·.1)).Nodup
 |.set S n=>h.SetOf (intKind P w) a S n
 |.ins C g fs=>H g=some (.own a)/\fs.length<=1000/\g≠a/\h.get? a=some (ajC C g)∧
   ∃e,h.Ns1 g e/\(∀f,zU (fs.lookup f) (e f))/\am4 e (fs.map (·.1))
 |.own _=>∃o,h.get? a=some o
 |.xd fs=>∃e,h.Ns1 a e/\∀f,zU (fs.lookup f) (e f)
 |.rng lo r=>∃t u v,h.get? a=some {cls:= .type "range",data:= .fields #[.int lo t,.int r u,.int 1 v]}
 |.frz o u=>h.get? a=some o/\gw H h a u
 |.tbl ps=>h.get? a=some {cls:= .none,data:= .fields ps}
 |.met f x=>h.get? a=some (alN (.ref f) (.ref x))
 |.ext i=>i h/\(∃o,h.get? a=some o)/\∀j m:h7,i j->(∀o,j.get? a=some o->m.get? a=some o)->i m
def mT(H:Hp)(h:h7):Prop:=∀a o,H a=some o->gw P w H h a o
end
section
variable{P:iU}{w:iP}{H H':Hp}{h h':h7}{a:eF}{o:HO}
def gw.lt(x:gw P w H h a o):a<h.objs.size:=by
 cases o with
 |lst xs=>let(_,_,_,_,e):=x;exact lD e
 |tup xs=>let(_,_,_,p):=x;exact p.lt
 |dK c=>let(_,_,_,_,o,_,_,e,_):=x;exact lD e
 |dT c=>let(_,_,_,_,o,_,_,e,_):=x;exact lD e
 |set S n=>let(o,_,_,_,e,_):=x;exact lD e
 |ins C i fs=>let(_,_,_,e,_):=x;exact lD e
 |own y=>let(_,e):=x;exact lD e
 |xd fs=>let(_,(_,_,_,e,_),_):=x;exact lD e
 |rng lo j=>let(_,_,_,e):=x;exact lD e
 |frz m u=>let(e,_):=x;exact lD e
 |tbl ps=>exact lD (show h.get? a=some _ from x)
 |met f y=>exact lD (show h.get? a=some _ from x)
 |ext g=>let(_,(_,e),_):=x;exact lD e
theorem Paired.ae7{g i:Type}{F G:g->i->Prop}:∀{c:List g} {e:List i},amt F c e->(∀a b,F a b->G a b)->amt G c e
 |_,_,.nil,_=>.nil
 |_,_,.cons r t,f=>.cons (f _ _ r) (Paired.ae7 t f)
def gw.OI(x:gw P w H h a o)(k:∀b u,(b=a\/H b=some (.own a))->h.get? b=some u->h'.get? b=some u)
  (B:∀b,H b=some (.own a)->H' b=some (.own a)) (A:∀b xs,H b=some (.tup xs)->H' b=some (.tup xs)):gw P w H' h' a o:=by
 induction o with
 |lst xs=>let(z,its,n,r,e):=x;exact(z,its,n,r,k _ _ (.inl rfl) e)
 |tup xs=>let(z,its,r,g,e,c):=x;exact(z,its,r,g,k _ _ (.inl rfl) e,c)
 |dK s=>let(z,y,vs,r,g,es,i,e,c):=x;exact(z,y,vs,r,g,es,i,k _ _ (.inl rfl) e,c)
 |dT s=>
  let(z,y,xs,r,g,es,i,e,c):=x;exact(z,y,xs,Paired.ae7 r λp q z=>(z.1,A _ _ z.2.1,z.2.2),g,es,i,k _ _ (.inl rfl) e,c)
 |set S n=>let(g,es,i,t,e,c):=x;exact(g,es,i,t,k _ _ (.inl rfl) e,c)
 |ins C F fs=>
  let(d,z,ne,e,m,(j,es,i,e2,c),r):=x;exact(B _ d,z,ne,k _ _ (.inl rfl) e,m,(j,es,i,k _ _ (.inr d) e2,c),r)
 |own y=>let(g,e):=x;exact(g,k _ _ (.inl rfl) e)
 |xd fs=>let(m,(j,es,i,e,c),r):=x;exact(m,(j,es,i,k _ _ (.inl rfl) e,c),r)
 |rng lo G=>let(t,u,v,e):=x;exact(t,u,v,k _ _ (.inl rfl) e)
 |frz g u D=>let(e,q):=x;exact(k _ _ (.inl rfl) e,D q)
 |tbl ps=>
  let e:=x;exact k a _ (.inl rfl) e
 |met f y=>
  let e:=x;exact k a _ (.inl rfl) e
 |ext E=>let(p,(o,e),st):=x;exact(st _ _ p λo q=>k _ _ (.inl rfl) q,(o,k _ _ (.inl rfl) e),st)
theorem mT.lt(x:mT P w H h)(e:H a=some o):a<h.objs.size:=(x a o e).lt
def mT.fresh(x:mT P w H h)(e:h.objs.size<=a):H a=none:=by
 cases q:H a with
 |none=>rfl
 |some u=>exact absurd (rr (x.lt q) e) (Mo _)
theorem mT.kept(x:mT P w H h)(k:∀b u,h.get? b=some u->h'.get? b=some u):mT P w H h':=λa o e=>
 (x a o e).OI (λb u _ q=>k b u q) (λ_ q=>q) λ_ _ q=>q
theorem mT.laid(x:mT P w H h)(k:∀b u,h.get? b=some u->h'.get? b=some u)(i:h.objs.size<=a)(new:gw P w (upd H a o) h' a o):mT P w (upd H a o) h':=λb u e=>by
 let f:=x.fresh i;by_cases g:b=a
 .subst g;rw[ae]at e;simp_all
 .rw[ag g]at e;exact(x b u e).OI (λc v _ q=>k c v q) (λc q=>by rwa[ag (ao q f)]) λc xs q=>by rwa[ag (ao q f)]
end
def Rd(H:Hp)(a:eF)(u:HO):Prop:=H a=some u\/∃o,H a=some (.frz o u)
def Rd.ok{P:iU}{w:iP}{H:Hp}{h:h7}{a:eF}{u:HO}(r:Rd H a u)(x:mT P w H h):gw P w H h a u:=by
 rcases r with r|⟨o,r⟩
 .exact x a u r
 .let(_,q):=x a _ r;exact q
def Mut:Option HO->Prop
 |some (.lst _)=>True
 |some (.dK _)=>True
 |some (.dT _)=>True
 |some (.set _ _)=>True
 |some (.ins _ _ _)=>True
 |some (.ext _)=>True
 |_=>False
section
variable{P:iU}{w:iP}{H:Hp}{h h':h7}{x e:eF}{o':HO}
theorem mT.write(ok:mT P w H h)(j:Mut (H x))(o:e=x\/H e=some (.own x))(k:∀b u,b≠e->h.get? b=some u->h'.get? b=some u)(n:∃u,h'.get? e=some u)
  (new:gw P w (upd H x o') h' x o'):mT P w (upd H x o') h':=λb u q=>by
 let f:∀c y,H c=some (.own y)->c≠x:=λc y r z=>by subst z;rw[r]at j;exact j
 let g:∀c xs,H c=some (.tup xs)->c≠x:=λc xs r z=>by subst z;rw[r]at j;exact j
 by_cases m:b=x
 .subst m;rw[ae]at q;simp_all
 .rw[ag m]at q;by_cases a:b=e
  .let q':H b=some (.own x):=by
    rcases o with z|z
    .exact absurd (a.trans z) m
    .rwa[a]
   rw[q]at q';cases q';let(v,p):=n;exact(v,by rwa[a])
  .refine (ok b u q).OI (λc v i r=>k c v ?_ r) (λc r=>by rwa[ag (f c b r)]) λc xs r=>by rwa[ag (g c xs r)]
   rcases i with rfl|i
   .exact a
   .rintro rfl;simp_all
end
structure Un(fs ex:List eF)(H H':Hp)(h h':h7):Prop where
 keep:∀b o,h.get? b=some o->H b=none->b∉fs->b∉ex->h'.get? b=some o
 slot:∀b o,h.get? b=some o->H b=none->b∈fs->b∉ex->∃sl,h'.get? b=some {o with slots:=sl}
 free:∀b o,h.get? b=some o->H b=none->b∉ex->H' b=none
 there:∀b o,h.get? b=some o->b∉ex->∃o',h'.get? b=some o'
 La:∀b xs,H b=some (.tup xs)->H' b=some (.tup xs)
 HH:∀b o u,H b=some (.frz o u)->H' b=some (.frz o u)
 Lr:∀b ps,H b=some (.tbl ps)->∃more,H' b=some (.tbl (ps++more))
section
variable{fs fs' ex ex':List eF}{H H1 H2:Hp}{h h1 h2 h':h7}{a x e:eF}{o:HO}
def Un.any(u:Un fs ex H H1 h h1){b:eF}{c:Obj}(q:h.get? b=some c)(n:H b=none)(f:b∉ex):∃i,h1.get? b=some {c with slots:=i}:=by
 by_cases g:b∈fs
 .exact u.slot b c q n g f
 .exact (c.slots,u.keep b c q n g f)
theorem Un.kept(k:∀b u,h.get? b=some u->h'.get? b=some u):Un fs ex H H h h':=
 (λb c q _ _ _=>k b c q,λb c q _ _ _=>(c.slots,k b c q),λ_ _ _ n _=>n,λb c q _=>(c,k b c q),λ_ _ q=>q,λ_ _ _ q=>q,λ_ ps q=>(#[],by rw[q];simp))
theorem Un.refl:Un fs ex H H h h:=Un.kept λ_ _ q=>q
theorem Un.laid(k:∀b u,h.get? b=some u->h'.get? b=some u)(f:h.objs.size<=a)(c:H a=none):Un fs ex H (upd H a o) h h' where
 keep:=λb u q _ _ _=>k b u q
 slot:=λb u q _ _ _=>(u.slots,k b u q)
 free:=λb u q n _=>by rwa[ag (me (rr (lD q) f))]
 there:=λb u q _=>(u,k b u q)
 La:=λb xs q=>by rwa[ag (ao q c)]
 HH:=λb u xs q=>by rwa[ag (ao q c)]
 Lr:=λb ps q=>(#[],by rw[ag (ao q c),q];simp)
def Un.write(f:Mut (H x))(p:e=x\/H e=some (.own x))(k:∀b u,b≠e->h.get? b=some u->h'.get? b=some u)(i:∃u,h'.get? e=some u):Un fs ex H (upd H x o) h h':=by
 let j:∀b,H b=none->b≠x:=λb n z=>by subst z;rw[n]at f;exact f
 let m:∀b,H b=none->b≠e:=λb n z=>by
  simp_all
 let g:∀b u,H b=some u->¬Mut (some u)->b≠x:=λb u q nm z=>by simp_all
 refine(λb u q n _ _=>k b u (m b n) q,λb u q n _ _=>(u.slots,k b u (m b n) q),λb u q n _=>by rwa[ag (j b n)],λb u q _=>?_,
  λb xs q=>by rwa[ag (g b _ q λz=>z)],λb u xs q=>by rwa[ag (g b _ q λz=>z)],λb ps q=>(#[],by rw[ag (g b _ q λz=>z),q];simp))
 by_cases c:b=e
 .simp_all
 .exact (u,k b u c q)
end
def trk(h:h7)(H:Hp):List eF:=(hD h.objs.size).filter λa=>(H a).isSome
def ND(h:h7)(H:Hp):h7:=PySem.W.hideAll h (trk h H)
theorem WD(h:h7)(H:Hp):(ND h H).objs.size=h.objs.size:=PySem.W.hideAll_size _ _
theorem Ys{h:h7}{H:Hp}{b:eF}{o:Obj}(e:h.get? b=some o)(n:H b=none):(ND h H).get? b=some o:=
 PySem.W.hideAll_get _ e λa=>by
  let q:=(mJ.mp a).2;rw[n]at q;simp at q
def acE{h:h7}{H:Hp}{b:eF}{o:Obj}(e:(ND h H).get? b=some o):h.get? b=some o/\H b=none:=by
 let a:=PySem.W.of_hideAll (trk h H) e;refine(a,?_);cases q:H b with
 |none=>rfl
 |some x=>
  let c:b∈trk h H:=mJ.mpr (qG.mpr (lD a),by simp[q]);let z:(ND h H).get? b=none:=PySem.W.hideAll_none (trk h H) c;simp_all
structure Mod(K:gI)(mg:Str->Option fy)(eC:h7):Prop where
 kin:K.In eC
 glob:eC.Ns mainGlobals mg
 blt:∃mb,eC.Ns builtinsNs mb/\∀x:Str,x≠"__name__"->mb x=bootBuiltins x
 nolimit:eC.NoLimit
structure Cx where
 prog:iU
 w:iP
 K:gI
 mg:Str->Option fy
 eC:h7
 A:jg
 N:List Str
 s₀:fX
 H₀:Hp
 env:Env
 fM:List Env
 stack:List Env
 ex:List eF
 fn:Str->Bool
 calm:Bool
 pn:List (eF×Obj)
 xe:fy->fX->Prop
def vr(l:List Env):List eF:=l.filterMap (·.frame)
abbrev Cx.fs(X:Cx):List eF:=vr X.fM
def Vis(a:uf)(x:Str):Prop:=a.names.lookup x=some .local\/a.names.lookup x=some .cell\/a.names.lookup x=some .free
def Loc(a:uf)(x:Str):Prop:=a.names.lookup x=some .local\/a.names.lookup x=some .cell
def Look(env:Env)(h:h7)(m:Str->Option fy)(x:Str)(u:fy):Prop:=
 (env.kindOf x=some .local/\m x=some u)\/((env.kindOf x=some .cell\/env.kindOf x=some .free)/\∃c,env.cells.lookup x=some c/\h.IsCell c (some u))
structure Cx.Ok(X:Cx):Prop where
 mod:Mod X.K X.mg X.eC
 kind:X.env.scope.kind=.function
 glob:X.env.globals=mainGlobals
 blt:X.env.builtins=builtinsNs
 above:X.s₀.heap.objs.size<=X.env.locals
 inj:∀x y c,X.env.cells.lookup x=some c->X.env.cells.lookup y=some c->x=y
 has:∀x,(X.env.kindOf x=some .cell\/X.env.kindOf x=some .free)->∃c,X.env.cells.lookup x=some c
 cab:∀x c,X.fn x=true->X.env.cells.lookup x=some c->X.s₀.heap.objs.size<=c
 hd:X.calm=true->X.A.handled=none
 frames:X.A.frames=some X.stack
 stk:X.stack=X.fM\/(X.stack=X.env::X.fM/\X.env.frame=some X.env.locals)
 exf:∀b∈X.ex,b≠X.env.locals/\∀x c,X.env.cells.lookup x=some c->c≠b
 bs:∀b o,X.eC.get? b=some o->X.s₀.heap.get? b=some o/\X.H₀ b=none
 bsz:X.eC.objs.size<=X.s₀.heap.objs.size
 NW:∀b o,X.eC.get? b=some o->b∉X.ex
 Oa:∀b∈X.ex,b∉X.fs
 yC:X.s₀.heap.FunFrames X.eC X.fM
 frf:∀b∈X.fs,X.H₀ b=none
structure Inv(X:Cx)(fw:List (eF×Obj))(σ:List (Option V))(H:Hp)(s:fX):Prop where
 ok:X.Ok
 os:s.os=X.s₀.os
 bare:L1 s.gens
 eC:Un X.fs X.ex X.H₀ H X.s₀.heap s.heap
 loc:∃m,s.heap.Ns X.env.locals m/\∀(i:Nat) (x:Str) (v:V),X.N[i]? =some x->σ[i]? =some (some v)->Vis X.env.scope x->∃u,RelV v u/\Look X.env s.heap m x u
 cell:∀x c,X.env.cells.lookup x=some c->∃v,s.heap.IsCell c v
 free:H X.env.locals=none
 mD:∀x c,X.env.cells.lookup x=some c->H c=none
 pin:∀p∈X.pn++fw,s.heap.get? p.1=some p.2/\H p.1=none/\p.1≠X.env.locals/\p.1∉X.fs/\∀v,p.2.data≠ .cell v
 hok:mT X.prog X.w H s.heap
 len:σ.length=X.N.length
section
variable{X:Cx}{fw:List (eF×Obj)}{σ:List (Option V)}{H H':Hp}{s:fX}{h':h7}
theorem Cx.Ok.aha(ok:X.Ok){b:eF}{o:Obj}(e:X.eC.get? b=some o):b∉X.fs:=λa=>by
 let:=(ok.yC.mem a).1;simp_all
theorem Inv.bs(I:Inv X fw σ H s):∀b o,X.eC.get? b=some o->s.heap.get? b=some o/\H b=none:=λb o e=>
 (I.eC.keep b o (I.ok.bs b o e).1 (I.ok.bs b o e).2 (I.ok.aha e) (I.ok.NW b o e),I.eC.free b o (I.ok.bs b o e).1 (I.ok.bs b o e).2 (I.ok.NW b o e))
theorem Inv.bk(I:Inv X fw σ H s):∀b o,X.eC.get? b=some o->s.heap.get? b=some o:=λb o e=>(I.bs b o e).1
theorem Inv.mod(I:Inv X fw σ H s):Mod X.K X.mg X.eC:=I.ok.mod
theorem Inv.ry(I:Inv X fw σ H s):X.K.In s.heap:=I.ok.mod.kin.keeps I.bk
theorem Inv.lt(I:Inv X fw σ H s):X.env.locals<s.heap.objs.size:=let (_,hn,_):=I.loc;hn.lt
theorem Inv.sz(I:Inv X fw σ H s):X.s₀.heap.objs.size<=s.heap.objs.size:=jC I.ok.above (vC I.lt)
theorem Inv.ahc(I:Inv X fw σ H s){a:eF}(h:s.heap.objs.size<=a):a∉X.fs:=λe=>by
 let(_,o,c,_):=I.ok.yC.mem e;exact absurd (rr (lD c) (jC I.sz h)) (Mo _)
theorem Inv.T8(I:Inv X fw σ H s):∀x c,X.env.cells.lookup x=some c->c≠X.env.locals:=λx c e z=>by
 let(v,o,g,hd):=I.cell x c e;let(m,(h,es,i,f,a,_),_):=I.loc;simp_all
def Inv.yC(I:Inv X fw σ H s):s.heap.FunFrames X.eC X.fM:=by
 let all:∀(l:List Env),(∀b∈vr l,b∈X.fs)->X.s₀.heap.FunFrames X.eC l->s.heap.FunFrames X.eC l:=by
  intro l
  induction l with
  |nil=>intro _ _;trivial
  |cons env r n=>
   intro hs g;let(j,(L,o,f,i,m,hd),h):=g;let a:=hs L (by unfold vr;rw[alo,f];exact lq);let(p,e):=I.eC.slot L o m (I.ok.frf L a) a λz=>I.ok.Oa L z a;exact(j,(L,_,f,i,e,hd),n (λb c=>hs b (by unfold vr;rw[alo,f];exact mf _ c)) h)
 exact all X.fM (λ_ c=>c) I.ok.yC
def Inv.stack(I:Inv X fw σ H s):s.heap.FunFrames X.eC X.stack:=by
 rcases I.ok.stk with e|⟨e,c⟩
 .rw[e];exact I.yC
 .rw[e];let(m,a,_):=I.loc;refine .cons (by rw[I.ok.kind];decide) c a ?_ I.yC;exact ajX (jC I.ok.bsz I.ok.above)
theorem Inv.SR(I:Inv X fw σ H s):∀b∈vr X.stack,b∈X.env.locals::X.fs:=λb a=>by
 rcases I.ok.stk with e|⟨e,c⟩
 .rw[e]at a;exact mf _ a
 .rw[e]at a;unfold vr at a;rw[alo,c]at a;exact a
theorem Inv.Np(I:Inv X fw σ H s):∀b∈vr X.stack,H b=none:=λb a=>by
 rcases oT.mp (I.SR b a) with e|a
 .rw[e];exact I.free
 .let(_,o,ho,_):=I.ok.yC.mem a;exact I.eC.free b o ho (I.ok.frf b a) λz=>I.ok.Oa b z a
def Inv.step{g':Array aoA}{t':Nat}{d':Drawn}{ch:List eF}(I:Inv X fw σ H s)
  (h:∀b∈ch,(b∈X.ex\/X.s₀.heap.get? b=none)/\b≠X.env.locals/\(∀x c,X.env.cells.lookup x=some c->c≠b)/\∀p∈X.pn++fw,p.1≠b)
  (keep:∀b o,b≠X.env.locals->b∉X.fs->b∉ch->s.heap.get? b=some o->H b=none->h'.get? b=some o)
  (slot:∀b o,b≠X.env.locals->b∈X.fs->b∉ch->s.heap.get? b=some o->H b=none->∃D,h'.get? b=some {o with slots:=D}) (free:∀b o,b∉ch->s.heap.get? b=some o->H b=none->H' b=none)
  (there:∀b o,b∉ch->s.heap.get? b=some o->∃B,h'.get? b=some B)
  (La:∀b xs,H b=some (.tup xs)->H' b=some (.tup xs)) (HH:∀b o u,H b=some (.frz o u)->H' b=some (.frz o u)) (Lr:∀b ps,H b=some (.tbl ps)->∃more,H' b=some (.tbl (ps++more)))
  (ns:∀m,s.heap.Ns X.env.locals m->h'.Ns X.env.locals m) (hok:mT X.prog X.w H' h') (J:L1 g'):
  Inv X fw σ H' {s with heap:=h',gens:=g',drawn:=d',toks:=t'}:=by
 let A:∀b o,X.s₀.heap.get? b=some o->b≠X.env.locals:=λb o e=>me (rr (lD e) I.ok.above)
 let j:∀b o,X.s₀.heap.get? b=some o->b∉X.ex->b∉ch:=λb o e a t=>by
  rcases(h b t).1 with z|z
  .exact a z
  simp_all
 let f:∀x c,X.env.cells.lookup x=some c->∀v,s.heap.IsCell c v->h'.IsCell c v:=λx c e v (o,y,hd)=>by
  let g:=λz=>(h c z).2.2.1 x c e rfl;by_cases E:c∈X.fs
  .let(D,q):=slot c o (I.T8 x c e) E g y (I.mD x c e);exact(_,q,hd)
  .exact (o,keep c o (I.T8 x c e) E g y (I.mD x c e),hd)
 refine(I.ok,I.os,J,(λb o e n t a=>?_,λb o e n t a=>?_,λb o e n a=>?_,λb o e a=>?_,λb xs e=>La b xs (I.eC.La b xs e),λb o xs e=>HH b o xs (I.eC.HH b o xs e),λb ps e=>?_),?_,λx c e=>?_,?_,λx c e=>?_,λp F=>?_,hok,I.len)
 .exact keep b o (A b o e) t (j b o e a) (I.eC.keep b o e n t a) (I.eC.free b o e n a)
 .let(D,e1):=I.eC.slot b o e n t a;let(C,e2):=slot b _ (A b o e) t (j b o e a) e1 (I.eC.free b o e n a);exact(C,e2)
 .let(B,e1):=I.eC.there b o e a;exact free b B (j b o e a) e1 (I.eC.free b o e n a)
 .let(B,e1):=I.eC.there b o e a;exact there b B (j b o e a) e1
 .let(m1,e1):=I.eC.Lr b ps e;let(G,e2):=Lr b _ e1;exact(m1++G,by simp_all)
 .let(m,hn,hl):=I.loc;refine(m,ns m hn,λi x v e1 e2 e3=>?_);let(u,r,l):=hl i x v e1 e2 e3;refine(u,r,?_);rcases l with l|⟨k,c,e,z⟩
  .exact .inl l
  .exact .inr (k,c,e,f x c e _ z)
 .let(v,z):=I.cell x c e;exact(v,f x c e v z)
 .let(m,(o,_,_,y,_),_):=I.loc;exact free _ o (λz=>(h _ z).2.1 rfl) y I.free
 .let(v,o,y,hd):=I.cell x c e;exact free c o (λz=>(h c z).2.2.1 x c e rfl) y (I.mD x c e)
 .let(e,n,ne,nf,d):=I.pin p F;let g:=λz=>(h p.1 z).2.2.2 p F rfl;exact(keep p.1 p.2 ne nf g e n,free p.1 p.2 g e n,ne,nf,d)
def Inv.un{t':Nat}(I:Inv X fw σ H s)(u:Un X.fs [] H H' s.heap h')(hok:mT X.prog X.w H' h'):Inv X fw σ H' {s with heap:=h',toks:=t'}:=by
 let(m,(o,es,x,h,r),_):=id I.loc;let(q,j):=u.any h I.free (by simp)
 exact I.step (ch:=[]) (λ_ z=>nomatch z) (λb o _ c _ e n=>u.keep b o e n c (by simp)) (λb o _ c _ e n=>u.slot b o e n c (by simp)) (λb o _ e n=>u.free b o e n (by simp)) (λb o _ e=>u.there b o e (by simp)) u.La u.HH u.Lr (λt p=>by
  let(v,f,g,a,i):=p;rw[h]at a;cases a;exact(_,f,g,j,i)) hok I.bare
def Inv.call{g':Array aoA}{t':Nat}{d':Drawn}{ch:List eF}(I:Inv X fw σ H s)(u:Un (vr X.stack) ch H H' s.heap h')(hok:mT X.prog X.w H' h')(y:L1 g')
  (g:∀b∈ch,(b∈X.ex\/X.s₀.heap.get? b=none)/\b≠X.env.locals/\(∀x c,X.env.cells.lookup x=some c->c≠b)/\∀p∈X.pn++fw,p.1≠b):
  Inv X fw σ H' {s with heap:=h',gens:=g',drawn:=d',toks:=t'}:=by
 let(m,(o,es,E,q,r),_):=id I.loc;let(B,h):=u.any q I.free λz=>(g _ z).2.1 rfl
 exact I.step g (λb o h v a e n=>u.keep b o e n (λz=>(oT.mp (I.SR b z)).elim h v) a) (λb o _ _ a e n=>u.any e n a) (λb o a e n=>u.free b o e n a) (λb o a e=>u.there b o e a) u.La u.HH u.Lr (λC A=>by
  let(D,i,j,f,t):=A;rw[q]at f;cases f;exact(_,i,j,h,t)) hok y
def Inv.turned{t':Nat}{it:eF}(I:Inv X fw σ H s)(k:∀b o,b≠it->s.heap.get? b=some o->h'.get? b=some o)(t:H it=none)(g:it≠X.env.locals)
  (i:it∈X.ex\/X.s₀.heap.get? it=none) (j:∀x c,X.env.cells.lookup x=some c->c≠it) (w:∀p∈X.pn++fw,p.1≠it):Inv X fw σ H {s with heap:=h',toks:=t'}:=by
 let f:∀b u,H b=some u->b≠it:=λb u e z=>by simp_all
 refine I.step (ch:=[it]) (λb h=>?_) (λb o _ _ a e _=>k b o (λz=>a (by simp[z])) e) (λb o _ _ a e _=>(o.slots,k b o (λz=>a (by simp[z])) e)) (λ_ _ _ _ n=>n)
  (λb o a e=>(o,k b o (λz=>a (by simp[z])) e)) (λ_ _ e=>e) (λ_ _ _ e=>e) (λb ps e=>(#[],by rw[e];simp)) (λm y=>?_) (λb u e=>?_) I.bare
 .let e:=by simpa using h
  subst e;exact(i,g,j,w)
 .let(o,es,ep,ho,r):=y;exact(o,es,ep,k _ o (Ne.symm g) ho,r)
 .refine (I.hok b u e).OI (λc v a q=>k c v ?_ q) (λ_ q=>q) λ_ _ q=>q;rcases a with z|z
  .rw[z];exact f b u e
  .exact f c _ z
theorem Inv.tok(I:Inv X fw σ H s)(t:Nat):Inv X fw σ H {s with toks:=t}:=I.un (h':=s.heap) (t':=t) Un.refl I.hok
theorem Inv.kept{t':Nat}(I:Inv X fw σ H s)(k:∀b u,s.heap.get? b=some u->h'.get? b=some u):Inv X fw σ H {s with heap:=h',toks:=t'}:=I.un (Un.kept k) (I.hok.kept k)
theorem Inv.laid{a:eF}{o:HO}{t':Nat}(I:Inv X fw σ H s)(k:∀b u,s.heap.get? b=some u->h'.get? b=some u)(c:s.heap.objs.size<=a)(new:gw X.prog X.w (upd H a o) h' a o):
  Inv X fw σ (upd H a o) {s with heap:=h',toks:=t'}:=I.un (Un.laid k c (I.hok.fresh c)) (I.hok.laid k c new)
theorem Inv.write{x e:eF}{o:HO}{t':Nat}(I:Inv X fw σ H s)(c:Mut (H x))(f:e=x\/H e=some (.own x))(k:∀b u,b≠e->s.heap.get? b=some u->h'.get? b=some u)(a:∃u,h'.get? e=some u)
  (new:gw X.prog X.w (upd H x o) h' x o):Inv X fw σ (upd H x o) {s with heap:=h',toks:=t'}:=I.un (Un.write c f k a) (I.hok.write c f k a new)
theorem Inv.Hd{a:List (eF×Obj)}(I:Inv X fw σ H s)(h:∀p∈a,s.heap.get? p.1=some p.2/\H p.1=none/\p.1≠X.env.locals/\p.1∉X.fs/\∀v,p.2.data≠ .cell v):Inv X a σ H s:=
 (I.ok,I.os,I.bare,I.eC,I.loc,I.cell,I.free,I.mD,λp c=>(ro.mp c).elim (λz=>I.pin p (ajD _ z)) (h p),I.hok,I.len)
def Kh{N:List Str}(c:N.Nodup){i j:Nat}{x:Str}(a:N[i]? =some x)(b:N[j]? =some x):i=j:=by
 let(e,e1):=rx.mp a;let(f,e2):=rx.mp b;exact(List.getElem_inj c).mp (e1.trans e2.symm)
def LR{M:Al}{A:jg}{E:fy->fX->Prop}{i:Nat}{x:Str}{v:V}{u:fy}{Q:Unit->fX->Prop}(I:Inv X fw σ H s)(hN:X.N.Nodup)(L:X.N[i]? =some x)(t:Loc X.env.scope x)(r:RelV v u)
  (h:∀T,Inv X fw (σ.set i (some v)) H T->(∃a,alX a s.heap T.heap/\(a=X.env.locals\/X.env.cells.lookup x=some a))->Q .unit T) (hf:X.fn x=true\/X.env.scope.names.lookup x=some .local:=by first|exact .inl rfl|exact .inr rfl|assumption):wpAny M A (storeName X.env x u) Q E s:=by
 let(m,hn,hl):=id I.loc;let K:(X.env.scope.kind== .class||(X.env.scope.kind== .module&&X.env.locals != X.env.globals))=false:=by rw[I.ok.kind];rfl
 let C:i<σ.length:=by rw[I.len];exact(rx.mp L).1
 let T8:=I.T8
 let f:∀{a:eF} {h':h7},(∃o,s.heap.get? a=some o/\H a=none)->alX a s.heap h'->mT X.prog X.w H h':=λ{a h'} ha hs b ob e=>by
  let(_,_,B):=ha;refine(I.hok b ob e).OI (λc P g q=>(hs.2 c ?_).trans q) (λ_ q=>q) λ_ _ q=>q;lia
 rcases t with D|D
 .refine wpAny_storeName_local D hn (λh' Y hs=>?_) K;let(oL,_,_,ab,_):=id hn;refine h _ (I.ok,I.os,I.bare,(λb o e n F t=>?_,λb o e n F t=>?_,I.eC.free,λb o e t=>?_,I.eC.La,I.eC.HH,I.eC.Lr),(_,Y,λj y S e1 e2 e3=>?_),λy c e=>?_,I.free,I.mD,λp Z=>?_,f (oL,ab,I.free) hs,by simpa using I.len) (_,hs,.inl rfl)
  .exact (hs.2 b (me (rr (lD e) I.ok.above))).trans (I.eC.keep b o e n F t)
  .let(sl,e1):=I.eC.slot b o e n F t;exact(sl,(hs.2 b (me (rr (lD e) I.ok.above))).trans e1)
  .let(o',e1):=I.eC.there b o e t;exact(o',(hs.2 b (me (rr (lD e) I.ok.above))).trans e1)
  .by_cases hj:j=i
   .subst hj;rw[L]at e1;cases e1;rw[akT C]at e2;cases e2;exact(u,r,.inl (D,by simp))
   .rw[ak8 (Ne.symm hj)]at e2;let(U,W,q):=hl j y S e1 e2 e3;refine(U,W,?_);rcases q with⟨k,e⟩|⟨k,c,e,z⟩
    .refine .inl (k,?_);let:y≠x:=λe=>hj (Kh hN e1 (e ▸ L));simp[this,e]
    .exact .inr (k,c,e,z.sameBut hs (T8 y c e))
  .let(P,z):=I.cell y c e;exact(P,z.sameBut hs (T8 y c e))
  .let(e,n,ne,nf,d):=I.pin p Z;exact((hs.2 p.1 ne).trans e,n,ne,nf,d)
 .let hfn:X.fn x=true:=by
   simp_all
  let(c,g):=I.ok.has x (.inl D);let(P,z):=I.cell x c g;refine wpAny_storeName_cell I.ok.kind D g z (λh' G hs=>?_);let(oc,O,J):=id z;refine h {s with heap:=h'} (I.ok,I.os,I.bare,(λb o e n F t=>?_,λb o e n F t=>?_,I.eC.free,λb o e t=>?_,I.eC.La,I.eC.HH,I.eC.Lr),(m,hn.sameBut hs (Ne.symm (T8 x c g)),λj y S e1 e2 e3=>?_),λy R e=>?_,I.free,I.mD,λp Z=>?_,f (oc,O,I.mD x c g) hs,by simpa using I.len) (c,hs,.inr g)
  .exact (hs.2 b (me (rr (lD e) (I.ok.cab x c hfn g)))).trans (I.eC.keep b o e n F t)
  .let(sl,e1):=I.eC.slot b o e n F t;exact(sl,(hs.2 b (me (rr (lD e) (I.ok.cab x c hfn g)))).trans e1)
  .let(o',e1):=I.eC.there b o e t;exact(o',(hs.2 b (me (rr (lD e) (I.ok.cab x c hfn g)))).trans e1)
  .by_cases hj:j=i
   .subst hj;rw[L]at e1;cases e1;rw[akT C]at e2;cases e2;exact(u,r,.inr (.inl D,c,g,G))
   .rw[ak8 (Ne.symm hj)]at e2;let(U,W,q):=hl j y S e1 e2 e3;refine(U,W,?_);rcases q with q|⟨k,R,e,z'⟩
    .exact .inl q
    .refine .inr (k,R,e,z'.sameBut hs ?_);rintro rfl;exact hj (Kh hN e1 (I.ok.inj _ _ _ e g ▸ L))
  .by_cases hcc:R=c
   .subst hcc;exact(_,G)
   .let(w2,z2):=I.cell y R e;exact(w2,z2.sameBut hs hcc)
  .let(e,n,ne,nf,d):=I.pin p Z;refine((hs.2 p.1 ?_).trans e,n,ne,nf,d);intro q;simp_all
theorem Jr{M:Al}{A:jg}{E:fy->fX->Prop}{i:Nat}{x:Str}{v:V}{u:fy}{Q:Unit->fX->Prop}(I:Inv X fw σ H s)(g:X.N.Nodup)(j:X.N[i]? =some x)(e:Loc X.env.scope x)(r:RelV v u)
  (h:∀a,Inv X fw (σ.set i (some v)) H a->Q .unit a) (c:X.fn x=true\/X.env.scope.names.lookup x=some .local:=by first|exact .inl rfl|exact .inr rfl|assumption):wpAny M A (storeName X.env x u) Q E s:=
 LR I g j e r (λa f _=>h a f) c
def Inv.adk{a:fX}{ch:List eF}(I:Inv X fw σ H s)(i:a.os=s.os)(u:Un (vr X.stack) ch H H' s.heap a.heap)(hok:mT X.prog X.w H' a.heap)(h:L1 a.gens)
  (f:∀b∈ch,(b∈X.ex\/X.s₀.heap.get? b=none)/\b≠X.env.locals/\(∀x c,X.env.cells.lookup x=some c->c≠b)/\∀p∈X.pn++fw,p.1≠b):Inv X fw σ H' a:=by
 let(h',g',d',t',g):=a;let e:=i;subst e;exact I.call u hok h f
end
abbrev XK:=fy->Option eF->Hp->Prop
abbrev St:=List (Option V)
abbrev VK:=V->Hp->Prop
abbrev TE:=St->Hp->VK->Prop
abbrev TT:=St->Hp->(Bool->Hp->Prop)->Prop
abbrev TA:=St->Hp->(List V->Hp->Prop)->Prop
structure Ends where
 nx:St->Hp->Prop
 rt:VK
 bk:St->Hp->Prop:=λ_ _=>False
 ct:St->Hp->Prop:=λ_ _=>False
abbrev TS:=Ends->St->Hp->Prop
def EP(X:Cx)(a:List (eF×Obj))(c:St)(Q:VK)(u:fy)(e:fX):Prop:=∃v H',Inv X a c H' e/\RelV v u/\Q v H'
def TP(X:Cx)(a:List (eF×Obj))(c:St)(Q:Bool->Hp->Prop)(b:Bool)(e:fX):Prop:=∃H',Inv X a c H' e/\Q b H'
def AP(X:Cx)(a:List (eF×Obj))(c:St)(Q:List V->Hp->Prop)(us:List fy)(e:fX):Prop:=∃vs H',Inv X a c H' e/\Vals vs us/\Q vs H'
def SP(X:Cx)(c:List (eF×Obj))(D:Ends)(f:Flow)(e:fX):Prop:=
 match f with
 |.next=>∃a H',Inv X c a H' e/\D.nx a H'
 |.brk=>∃a H',Inv X c a H' e/\D.bk a H'
 |.cont=>∃a H',Inv X c a H' e/\D.ct a H'
 |.ret u=>∃v a H',Inv X c a H' e/\RelV v u/\D.rt v H'
def PE(X:Cx)(e:hH)(t:TE):Prop:=
 ∀(a:List (eF×Obj)) (s:fX) (c:St) (H:Hp) (Q:VK),Inv X a c H s->t c H Q->wpAny (model X.prog X.w) X.A (eval e X.env) (EP X a c Q) X.xe s
def PT(X:Cx)(e:hH)(t:TT):Prop:=
 ∀(a:List (eF×Obj)) (s:fX) (c:St) (H:Hp) (Q:Bool->Hp->Prop),Inv X a c H s->t c H Q->wpAny (model X.prog X.w) X.A (isTrue e X.env (eval e X.env)) (TP X a c Q) X.xe s
def PW(X:Cx)(e:hH)(t:TT):Prop:=
 ∀(c:Sem fy) (a:List (eF×Obj)) (s:fX) (f:St) (H:Hp) (Q:Bool->Hp->Prop),Inv X a f H s->t f H Q->wpAny (model X.prog X.w) X.A (isTrue e X.env c) (TP X a f Q) X.xe s
theorem PW.pt{X:Cx}{e:hH}{t:TT}(h:PW X e t):PT X e t:=h _
def PA(X:Cx)(es:List hH)(t:TA):Prop:=
 ∀(c:Pos) (a:List (eF×Obj)) (s:fX) (e:St) (H:Hp) (Q:List V->Hp->Prop),Inv X a e H s->t e H Q->wpAny (model X.prog X.w) X.A (spliced (backTo c (starEach es X.env))) (AP X a e Q) X.xe s
def PS(X:Cx)(st:gF)(t:TS):Prop:=
 ∀(a:List (eF×Obj)) (s:fX) (c:St) (H:Hp) (D:Ends),Inv X a c H s->t D c H->wpAny (model X.prog X.w) X.A (exec st X.env) (SP X a D) X.xe s
def nN(X:Cx)(st:List gF)(t:TS):Prop:=
 ∀(a:List (eF×Obj)) (s:fX) (c:St) (H:Hp) (D:Ends),Inv X a c H s->t D c H->wpAny (model X.prog X.w) X.A (execs st X.env) (SP X a D) X.xe s
theorem k9{e:Type}{t:Sem e}{Q c:e->fX->Prop}{M:Al}{A:jg}{E:fy->fX->Prop}{s:fX}(h:wpAny M A t Q E s)(f:∀a s,Q a s->c a s):wpAny M A t c E s:=tM h f λ_ _ x=>x
variable{X:Cx}{fw:List (eF×Obj)}{σ:St}{H:Hp}{s:fX}
theorem thE{Q:VK}{t:Sem fy}{c:fy->fX->Prop}{M:Al}{A:jg}{E:fy->fX->Prop}(h:wpAny M A t (EP X fw σ Q) E s)(k:∀u a v H',Inv X fw σ H' a->RelV v u->Q v H'->c u a):wpAny M A t c E s:=k9 h λu a h=>e2 h λv H' h=>d3 h (k u a v H')
theorem thA{Q:List V->Hp->Prop}{t:Sem (List fy)}{c:List fy->fX->Prop}{M:Al}{A:jg}{E:fy->fX->Prop}(h:wpAny M A t (AP X fw σ Q) E s)(k:∀u a v H',Inv X fw σ H' a->Vals v u->Q v H'->c u a):wpAny M A t c E s:=k9 h λu a h=>e2 h λv H' h=>d3 h (k u a v H')
theorem thT{Q:Bool->Hp->Prop}{t:Sem Bool}{c:Bool->fX->Prop}{M:Al}{A:jg}{E:fy->fX->Prop}(h:wpAny M A t (TP X fw σ Q) E s)(k:∀u a H',Inv X fw σ H' a->Q u H'->c u a):wpAny M A t c E s:=k9 h λu a h=>e1 h λH' h=>d2 h (k u a H')
theorem PE.th{e:hH}{t:TE}{Q:VK}{c:fy->fX->Prop}(h:PE X e t)(I:Inv X fw σ H s)(w:t σ H Q)(k:∀u a v H',Inv X fw σ H' a->RelV v u->Q v H'->c u a):wpAny (model X.prog X.w) X.A (eval e X.env) c X.xe s:=thE (h fw s σ H Q I w) k
theorem PA.th{e:List hH}{t:TA}{a:Pos}{Q:List V->Hp->Prop}{c:List fy->fX->Prop}(h:PA X e t)(I:Inv X fw σ H s)(w:t σ H Q)(k:∀u f v H',Inv X fw σ H' f->Vals v u->Q v H'->c u f):wpAny (model X.prog X.w) X.A (spliced (backTo a (starEach e X.env))) c X.xe s:=thA (h a fw s σ H Q I w) k
theorem PT.th{e:hH}{t:TT}{Q:Bool->Hp->Prop}{c:Bool->fX->Prop}(h:PT X e t)(I:Inv X fw σ H s)(w:t σ H Q)(k:∀u a H',Inv X fw σ H' a->Q u H'->c u a):wpAny (model X.prog X.w) X.A (isTrue e X.env (eval e X.env)) c X.xe s:=thT (h fw s σ H Q I w) k
section
variable{X:Cx}
def Zm(i:Nat):TE:=λσ H Q=>∃v,σ[i]? =some (some v)/\Q v H
def tC(v:V):TE:=λ_ H Q=>Q v H
def adP{i:Nat}{x:Str}{n:Pos}(y:X.N[i]? =some x)(q:Vis X.env.scope x)(hd:(x==("__debug__":Str))=false:=by decide)(j:(x==("__classdict__":Str))=false:=by decide):PE X (.Name x n) (Zm i):=by
 intro fw s σ H Q I h;let(v,e,h):=h;let(m,p,t):=I.loc;let(u,r,l):=t i x v y e q;let f:EP X fw σ Q u s:=(v,H,I,r,h);rcases l with⟨g,w⟩|⟨g,c,o,a⟩
 .exact an0 (wpAny_loadName_local I.ok.kind g p w f) hd
 .rcases g with g|g
  .exact an0 (wpAny_loadName_cell I.ok.kind g o a f) hd
  .exact an0 (wpAny_loadName_free I.ok.kind g o a f j) hd
theorem ai{i j a}:PE X (.Constant (.int i) j a) (tC (.int i)):=λ_ _ _ H _ I h=>am5 (.int i,H,I.tok _,(_,rfl),h)
theorem cP{b j a}:PE X (.Constant (.bool b) j a) (tC (.bl b)):=λ_ _ _ H _ I h=>Constant_bool (.bl b,H,I,rfl,h)
theorem fO{j a}:PE X (.Constant .none j a) (tC .non):=λ_ _ _ H _ I h=>Constant_none (.non,H,I,rfl,h)
theorem aj{x j a}:PE X (.Constant (.str x) j a) (tC (.str x)):=λ_ _ _ H _ I h=>Calls.Constant_str (.str x,H,I.tok _,(_,rfl),h)
def Gl(X:Cx)(x:Str):Prop:=X.env.kindOf x=some .globalImplicit
theorem zA{E:fy->fX->Prop}{fw:List (eF×Obj)}{s:fX}{σ:St}{H:Hp}{x:Str}{u:fy}{a:Pos}{Q:fy->fX->Prop}(I:Inv X fw σ H s)(e:Gl X x)(c:X.mg x=some u)(h:Q u s)
  (hd:(x==("__debug__":Str))=false:=by decide):wpAny (model X.prog X.w) X.A (eval (.Name x a) X.env) Q E s:=
 ajS I.ok.kind e (akP (by rw[I.ok.glob];exact I.mod.glob.keeps I.bk) c h) hd
def xy{E:fy->fX->Prop}{fw:List (eF×Obj)}{s:fX}{σ:St}{H:Hp}{x:Str}{u:fy}{a:Pos}{Q:fy->fX->Prop}(I:Inv X fw σ H s)(i:Gl X x)(j:X.mg x=none)(c:bootBuiltins x=some u)(h:Q u s)
  (g:x≠"__name__":=by decide) (hd:(x==("__debug__":Str))=false:=by decide):wpAny (model X.prog X.w) X.A (eval (.Name x a) X.env) Q E s:=by
 let(m,e,f):=I.mod.blt;exact ajS I.ok.kind i (Calls.loadGlobal_builtin (by rw[I.ok.glob];exact I.mod.glob.keeps I.bk) j (by rw[I.ok.blt];exact e.keeps I.bk) ((f x g).trans c) h) hd
theorem MZ{x:Str}{v:V}{u:fy}{a:Pos}(c:Gl X x)(e:X.mg x=some u)(r:RelV v u)(hd:autoParam ((x==("__debug__":Str))=false) L2.adP._auto_2):PE X (.Name x a) (tC v):=
 λ_ _ _ H _ I h=>zA I c e (v,H,I,r,h) hd
variable{a b:hH}{ta tb:TE}{pos:Pos}
def PC(X:Cx)(f:NB)(a b:hH)(t:TE):Prop:=
 ∀(fw:List (eF×Obj)) (s:fX) (σ:St) (H:Hp) (Q:VK),Inv X fw σ H s->t σ H Q→
  wpAny (model X.prog X.w) X.A (eval a X.env) (λv c=>wpAny (model X.prog X.w) X.A (eval b X.env) (λu e=>wpAny (model X.prog X.w) X.A (compareOp f v u) (EP X fw σ Q) X.xe e) X.xe c) X.xe s
def tB(t:TE):TT:=λσ H Q=>t σ H λx e=>∃c,x=.bl c/\Q c e
theorem afq{c:NB}{t:TE}(h:PC X c a b t)(e:behindInMarks c b=false:=by first|exact nobehind _ ∅ ∅|rfl):PE X (.Compare a [c] [b] pos) t:=λfw s σ H Q I f=>aoh (h fw s σ H Q I f) e
def afz{f:NB}{t:TE}(h:PC X f a b t)(e:autoParam (behindInMarks f b=false) L2.afq._auto_1):PT X (.Compare a [f] [b] pos) (tB t):=by
 intro fw s σ H Q I n;refine amu (k9 (h fw s σ H _ I n) λv w e=>k9 e λu r m=>k9 m λc y i=>?_) e;let(x,g,p,j,o):=i;let(d,rfl,q):=o;cases j;exact ajn (g,p,q)
def bx{e:hH}{t:TE}(h:PE X e t)(n:∀c,isTrue e X.env c=(do let v<-c;standAt e.pos;holding [v] (truthy v)):=by intro _;rfl):PT X e (tB t):=by
 intro fw s σ H Q I i;refine isTrue_plain (h.th I i λv o x f m g j=>?_) (n _);let(d,rfl,q):=j;cases g;exact ajn (f,m,q)
variable{tA tB':TT}{rest:List hH}
def ahd(t u:TT):TT:=λσ H Q=>t σ H λc e=>if c=true then u σ e Q else Q false e
def tOr(t u:TT):TT:=λσ H Q=>t σ H λc e=>if c=true then Q true e else u σ e Q
def ahh(t:TT):TT:=λσ H Q=>t σ H λc e=>Q (!c) e
def eU(f:PT X a tA):PW X (.BoolOp .And [a] pos) tA:=by
 intro g fw s σ H Q I h;refine isTrue_and (k9 (f fw s σ H Q I h) λc i e=>?_);cases c with
 |true=>exact isTrue_and_nil e
 |false=>exact e
def qp(f:PT X a tA):PW X (.BoolOp .Or [a] pos) tA:=by
 intro g fw s σ H Q I h;refine isTrue_or (k9 (f fw s σ H Q I h) λc i e=>?_);cases c with
 |false=>exact isTrue_or_nil e
 |true=>exact e
def iq(m:PT X a tA)(n:PW X (.BoolOp .And (b::rest) pos) tB'):PW X (.BoolOp .And (a::b::rest) pos) (ahd tA tB'):=by
 intro i fw s σ H Q I h;refine isTrue_and (m.th I h λc j e g f=>?_);cases c with
 |true=>exact n i fw j σ e Q g f
 |false=>exact(e,g,f)
def nR(m:PT X a tA)(n:PW X (.BoolOp .Or (b::rest) pos) tB'):PW X (.BoolOp .Or (a::b::rest) pos) (tOr tA tB'):=by
 intro i fw s σ H Q I h;refine isTrue_or (m.th I h λc j e g f=>?_);cases c with
 |true=>exact(e,g,f)
 |false=>exact n i fw j σ e Q g f
def fA(f:PT X a tA):PT X (.UnaryOp .Not a pos) (ahh tA):=by
 intro fw s σ H Q I h;exact isTrue_not (f fw s σ H (λc e=>Q (!c) e) I h)
def afL(ta tb:TE):TE:=λσ H Q=>ta σ H λx e=>∃c,x=.bl c/\if c=true then tb σ e Q else Q (.bl false) e
def ag0(ta tb:TE):TE:=λσ H Q=>ta σ H λx e=>∃c,x=.bl c/\if c=true then Q (.bl true) e else tb σ e Q
def afE(ta:TE):TE:=λσ H Q=>ta σ H λx e=>∃c,x=.bl c/\Q (.bl (!c)) e
theorem ly{e}{t:TE}(h:PE X a t):PE X (.BoolOp e [a] pos) t:=λfw s σ H Q I c=>BoolOp_one (h fw s σ H Q I c)
def pA(m:PE X a ta)(n:PE X (.BoolOp .And (b::rest) pos) tb):PE X (.BoolOp .And (a::b::rest) pos) (afL ta tb):=by
 intro fw s σ H Q I h;refine BoolOp_and (m.th I h λv i x f g j e=>?_);let(c,rfl,e):=e;cases j;refine ajn ?_;cases c with
 |true=>exact n fw i σ f Q g e
 |false=>exact(.bl false,f,g,rfl,e)
def YX(m:PE X a ta)(n:PE X (.BoolOp .Or (b::rest) pos) tb):PE X (.BoolOp .Or (a::b::rest) pos) (ag0 ta tb):=by
 intro fw s σ H Q I h;refine BoolOp_or (m.th I h λv i x f g j e=>?_);let(c,rfl,e):=e;cases j;refine ajn ?_;cases c with
 |false=>exact n fw i σ f Q g e
 |true=>exact(.bl true,f,g,rfl,e)
def Jx(j:PE X a ta):PE X (.UnaryOp .Not a pos) (afE ta):=by
 intro fw s σ H Q I h;refine UnaryOp_ (j.th I h λv m x f i g e=>?_);let(c,rfl,e):=e;cases g;exact not_of (ajn (.bl (!c),f,i,rfl,e))
def tIf(t:TT)(ta tb:TE):TE:=λσ H Q=>t σ H λc e=>if c=true then ta σ e Q else tb σ e Q
def pR{c:hH}(j:PT X c tA)(m:PE X a ta)(n:PE X b tb):PE X (.IfExp c a b pos) (tIf tA ta tb):=by
 intro fw s σ H Q I h;refine wpAny_IfExp (j.th I h λd e f i g=>?_);cases d with
 |true=>exact m fw e σ f Q i g
 |false=>exact n fw e σ f Q i g
end
def fT(K:gI)(H:Hp)(a:eF)(xs:List V):Prop:=
 Rd H a (.lst xs)∨
  ∃(o:Obj) (its:Array fy) (n:Nat),K.lookup a=some o/\o.cls=.type "list"/\o.dict=none/\o.data=.seq its n/\its.size<=sizeLine/\Vals xs its.toList
def jx(K:gI)(H:Hp)(a:eF)(xs:List V):Prop:=
 Rd H a (.tup xs)∨
  ∃(o:Obj) (its:Array fy) (n:Nat),K.lookup a=some o/\o.cls=.type "tuple"/\o.data=.seq its n/\its.size<=sizeLine/\Vals xs its.toList
def ahm:fy->Option V
 |.none=>some .non
 |.bool b=>some (.bl b)
 |.int i _=>some (.int i)
 |.str x _=>some (.str x)
 |.bytes b _=>some (.byt b)
 |.float b _=>some (.flt b)
 |.ref a=>some (.ref a)
 |.type n=>some (.ty n)
 |_=>none
def RelV.abs{x:V}{u:fy}(r:RelV x u):ahm u=some x:=by
 cases x with
 |non=>cases r;rfl
 |bl _=>cases r;rfl
 |int _=>let(t,rfl):=r;rfl
 |str _=>let(t,rfl):=r;rfl
 |byt _=>let(t,rfl):=r;rfl
 |flt _=>let(t,rfl):=r;rfl
 |ref _=>cases r;rfl
 |ty _=>cases r;rfl
theorem RelV.inj{x y:V}{u:fy}(r:RelV x u)(q:RelV y u):x=y:=iJ (r.abs.symm.trans q.abs)
theorem Vals.inj:∀{xs ys:List V} {us:List fy},Vals xs us->Vals ys us->xs=ys
 |_,_,_,.nil,.nil=>rfl
 |_,_,_,.cons r t,.cons r' t'=>by rw[r.inj r',Vals.inj t t']
section
variable{X:Cx}{fw:List (eF×Obj)}{σ:St}{H:Hp}{s:fX}{a:eF}{xs ys:List V}
theorem fT.of{K:gI}(h:H a=some (.lst xs)):fT K H a xs:= .inl (.inl h)
theorem jx.of{K:gI}(h:H a=some (.tup xs)):jx K H a xs:= .inl (.inl h)
def Inv.list(I:Inv X fw σ H s)(h:fT X.K H a xs):∃its:List fy,Vals xs its/\PlainL s.heap a its.toArray/\xs.length<=sizeLine:=by
 rcases h with h|⟨o,its,n,f,c,hd,hs,g,r⟩
 .let(z,its,n,r,e):=h.ok I.hok;exact(its,r,(_,n,e,rfl,rfl,rfl),z)
 .refine (its.toList,r,(o,n,I.ry a o f,c,hd,by simpa using hs),?_);let e:=r.length;simp only[alp]at e
  lia
def Inv.tuple(I:Inv X fw σ H s)(h:jx X.K H a xs):∃its:List fy,Vals xs its/\IsTup s.heap a its.toArray/\xs.length<=sizeLine:=by
 rcases h with h|⟨o,its,n,f,c,hs,g,r⟩
 .let(z,its,r,p):=h.ok I.hok;exact(its,r,p,z)
 .refine (its.toList,r,(o,I.ry a o f,c,n,by simpa using hs),?_);let e:=r.length;simp only[alp]at e
  lia
def Inv.xY(I:Inv X fw σ H s)(h:fT X.K H a xs)(h':fT X.K H a ys):xs=ys:=by
 let(its,r,(o,n,e,_,_,d),_):=I.list h;let(its',g,(i,j,c,_,_,d'),_):=I.list h';rw[e]at c;cases c;rw[d]at d';injection d' with f _;let:=by simpa using iY aoB f
 subst this;exact r.inj g
def Inv.VW(I:Inv X fw σ H s)(h:jx X.K H a xs)(h':jx X.K H a ys):xs=ys:=by
 let(its,r,(o,e,_,n,d),_):=I.tuple h;let(its',g,(i,c,_,j,d'),_):=I.tuple h';rw[e]at c;cases c;rw[d]at d';injection d' with f _;let:=by simpa using iY aoB f
 subst this;exact r.inj g
end
abbrev Cx.K4(X:Cx)(E:fy->fX->Prop):Cx:={X with xe:=E}
abbrev Cx.je(X:Cx):Cx:=X.K4 λ_ _=>False
theorem Cx.Ok.K4{X:Cx}(ok:X.Ok)(E:fy->fX->Prop):(X.K4 E).Ok:=
 (ok.mod,ok.kind,ok.glob,ok.blt,ok.above,ok.inj,ok.has,ok.cab,ok.hd,ok.frames,ok.stk,ok.exf,ok.bs,ok.bsz,ok.NW,ok.Oa,ok.yC,ok.frf)
theorem Cx.Ok.x9{X:Cx}{E:fy->fX->Prop}(ok:(X.K4 E).Ok):X.Ok:=
 (ok.mod,ok.kind,ok.glob,ok.blt,ok.above,ok.inj,ok.has,ok.cab,ok.hd,ok.frames,ok.stk,ok.exf,ok.bs,ok.bsz,ok.NW,ok.Oa,ok.yC,ok.frf)
section
variable{X:Cx}{fw:List (eF×Obj)}{σ:St}{H:Hp}{s:fX}{E:fy->fX->Prop}
theorem Inv.K4(I:Inv X fw σ H s)(E:fy->fX->Prop):Inv (X.K4 E) fw σ H s:=(I.ok.K4 E,I.os,I.bare,I.eC,I.loc,I.cell,I.free,I.mD,I.pin,I.hok,I.len)
theorem Inv.x9(I:Inv (X.K4 E) fw σ H s):Inv X fw σ H s:=(I.ok.x9,I.os,I.bare,I.eC,I.loc,I.cell,I.free,I.mD,I.pin,I.hok,I.len)
def SP.x9{D:Ends}{f:Flow}{c:fX}(h:SP (X.K4 E) fw D f c):SP X fw D f c:=by
 cases f with
 |next=>let(a,H',I,q):=h;exact(a,H',I.x9,q)
 |brk=>let(a,H',I,q):=h;exact(a,H',I.x9,q)
 |cont=>let(a,H',I,q):=h;exact(a,H',I.x9,q)
 |ret u=>let(v,a,H',I,r,q):=h;exact(v,a,H',I.x9,r,q)
theorem nN.je{st:List gF}{t:TS}(h:nN X.je st t):nN X st t:=λfw s σ H D I a=>
 tM (h fw s σ H D (I.K4 _) a) (λ_ _ q=>q.x9) λ_ _ z=>DA z
end
section
variable{X:Cx}{st:gF}{rest:List gF}{t u:TS}{e:hH}{te:TE}{pos:Pos}
def af6:TS:=λD σ H=>D.nx σ H
def wM(t u:TS):TS:=λD σ H=>t {D with nx:=u D} σ H
theorem ay:nN X [] af6:=λ_ _ σ H _ I h=>ak9 (σ,H,I,h)
def aa(g:PS X st t)(j:nN X rest u):nN X (st::rest) (wM t u):=by
 intro fw s σ H D I h;refine anP (k9 (g fw s σ H {D with nx:=u D} I h) λf c q=>?_);cases f with
 |next=>
  let(a,H',i,q):=q;exact j fw c a H' D i q
 |ret v=>exact q
 |brk=>exact q
 |cont=>exact q
def af(a:PS X st t):nN X [st] t:=by
 intro fw s σ H D I h;refine anP (k9 (a fw s σ H D I h) λf c q=>?_);cases f with
 |next=>exact ak9 q
 |ret v=>exact q
 |brk=>exact q
 |cont=>exact q
def Inv.quiet{fw:List (eF×Obj)}{σ:St}{H:Hp}{s:fX}(I:Inv X fw σ H s):interactive X.env=false:=by simp[interactive,I.ok.kind]
def agw(te:TE):TS:=λD σ H=>te σ H λ_ a=>D.nx σ a
def aE(g:PE X e te)(hs:swapsWith e none pos.line X.env=pure false:=by rfl):PS X (.Expr e pos) (agw te):=by
 intro fw s σ H D I h;exact wpAny_Expr_any (g.th I h λv i x a f j c=>(σ,a,f,c)) I.quiet hs
def ahg(te:TE):TS:=λD σ H=>te σ H D.rt
def au(i:PE X e te):PS X (.Return (some e) pos) (ahg te):=by
 intro fw s σ H D I h;exact wpAny_Return_some (i.th I h λv j x a g c f=>(x,σ,a,g,c,f))
def agb:TS:=λD _ H=>D.rt .non H
theorem TU:PS X (.Return none pos) agb:=λ_ _ σ H _ I h=>wpAny_Return_none (.non,σ,H,I,rfl,h)
def agM(c:TT)(t u:TS):TS:=λD σ H=>c σ H λb a=>if b=true then t D σ a else u D σ a
def aO{c:hH}{a b:List gF}{m:TT}(n:PT X c m)(p:nN X a t)(o:nN X b u):PS X (.If c a b pos) (agM m t u):=by
 intro fw s σ H D I h;refine wpAny_If (n.th I h λd g f j i=>?_);cases d with
 |true=>exact p fw g σ f D j i
 |false=>exact o fw g σ f D j i
def adK:TS:=λ_ _ _=>False
theorem yR:PS X st adK:=λ_ _ _ _ _ _ h=>h.elim
end
abbrev TG:=V->St->Hp->(St->Hp->Prop)->Prop
abbrev TGs:=List V->St->Hp->(St->Hp->Prop)->Prop
def PG(X:Cx)(a:hH)(t:TG):Prop:=
 ∀(fw:List (eF×Obj)) (s:fX) (σ:St) (H:Hp) (v:V) (u:fy) (Q:St->Hp->Prop),Inv X fw σ H s->RelV v u->t v σ H Q→
  wpAny (model X.prog X.w) X.A (assign a X.env u) (λ_ e=>∃c H',Inv X fw c H' e/\Q c H') X.xe s
def PGs(X:Cx)(ts:List hH)(t:TGs):Prop:=
 ∀(fw:List (eF×Obj)) (s:fX) (σ:St) (H:Hp) (vs:List V) (us:List fy) (Q:St->Hp->Prop),Inv X fw σ H s->Vals vs us->t vs σ H Q→
  wpAny (model X.prog X.w) X.A (assignInOrder ((assignEach ts X.env).map (·.2)) us) (λ_ c=>∃a H',Inv X fw a H' c/\Q a H') X.xe s
abbrev afu:=V->V->V->Hp->(Hp->Prop)->Prop
def aeJ(X:Cx)(t:afu):Prop:=
 ∀(fw:List (eF×Obj)) (s:fX) (σ:St) (H:Hp) (o i v:V) (c a u:fy) (Q:Hp->Prop),Inv X fw σ H s->RelV o c->RelV i a->RelV v u->t o i v H Q→
  wpAny (model X.prog X.w) X.A (setItem c a u) (λ_ e=>∃H',Inv X fw σ H' e/\Q H') X.xe s
abbrev TIp:=V->V->Hp->VK->Prop
def PIp(X:Cx)(a:anQ)(t:TIp):Prop:=
 ∀(fw:List (eF×Obj)) (s:fX) (σ:St) (H:Hp) (x y:V) (v u:fy) (Q:VK),Inv X fw σ H s->RelV x v->RelV y u->t x y H Q→
  wpAny (model X.prog X.w) X.A (inplaceOp a v u) (EP X fw σ Q) X.xe s
section
variable{X:Cx}{pos:Pos}
def AI(i:Nat):TG:=λv σ H Q=>Q (σ.set i (some v)) H
def c9{i:Nat}{x:Str}(g:X.N.Nodup)(c:X.N[i]? =some x)(a:Loc X.env.scope x)(e:X.fn x=true\/X.env.scope.names.lookup x=some .local:=by first|exact .inl rfl|exact .inr rfl|assumption):PG X (.Name x pos) (AI i):=by
 intro fw s σ H v u Q I r h;exact anz (Jr I g c a r (λj f=>(_,H,f,h)) e)
def ahe:TGs:=λvs σ H Q=>vs=[]/\Q σ H
def agB(t:TG)(u:TGs):TGs:=λvs σ H Q=>∃v r,vs=v::r/\t v σ H λa H'=>u r a H' Q
def MC:PGs X [] ahe:=by
 intro fw s σ H vs us Q I r h;let(e,h):=h;exact assignInOrder_nil (σ,H,I,h)
def mh{e:hH}{es:List hH}{t:TG}{u:TGs}(j:PG X e t)(o:PGs X es u)
  (hs:(assignEach (e::es) X.env).map (·.2)=assign e X.env::(assignEach es X.env).map (·.2):=by rfl):PGs X (e::es) (agB t u):=by
 intro fw s σ H vs us Q I r h;let(v,p,e1,h):=h;subst e1;cases r with
 |cons r i=>
  rw[hs];refine assignInOrder_cons (k9 (j fw s σ H _ _ _ I r h) λ_ g c=>?_);let(a,f,n,m):=c;exact o fw g a f _ _ Q n i m
def ahi(K:gI)(n:Nat)(t:TGs):TG:=λv σ H Q=>∃a xs,v=.ref a/\jx K H a xs/\xs.length=n/\t xs σ H Q
def RS{es:List hH}{k:Nat}{t:TGs}{n:Nat}(j:X.calm=true)(h:PGs X es t)
  (i:(assignEach es X.env).length=n:=by rfl) (c:(assignEach es X.env).findIdx? (·.1)=none:=by rfl):PG X (.Tuple es k pos) (ahi X.K n t):=by
 intro fw s σ H v u Q I r f;let(a,xs,e1,w,q,f):=f;subst e1;cases r;let(its,g,p,y):=I.tuple w;refine assign_Tuple_tuple (I.ok.hd j) p (by simp[i,<-q,g.length]) c λh' m=>?_;let x:=I.kept (t':=s.toks) λb o e=>m b o (me (lD e)) e;exact h fw _ σ H xs _ Q x (by simp_all) f
def agU(g e:TE)(t:afu):TG:=λv σ H Q=>g σ H λo a=>e σ a λi c=>t o i v c λf=>Q σ f
def kI{o i:hH}{e f:TE}{t:afu}(F:PE X o e)(A:PE X i f)(hs:aeJ X t)
  (p:∀v,assign (.Subscript o i pos) X.env v=(do
   let a<-holding [v] (eval o X.env)
   let c<-holding [v,a] (eval i X.env)
   standAt pos
   holding [v,a,c] (setItem a c v)
   release [v,a,c] []):=by intro _;rfl):PG X (.Subscript o i pos) (agU e f t):=by
 intro fw s σ H v u Q I r h;rw[p];refine kb (akW (F.th I h λa K x J D g C=>?_));refine kb (akW (A.th D C λc z y n E B w=>?_));refine kb (alG (kb (akW (k9 (hs fw z σ n x y v a c u _ E g B r w) λ_ L j=>?_))));let(q,G,m):=j;exact wpAny_release (σ,q,G,m)
def acd(c:TE)(g:TG):TS:=λD σ H=>c σ H λx a=>g x σ a D.nx
def jy{a e:hH}{c:TE}{g:TG}(t:PE X e c)(m:PG X a g)(hs:autoParam (swapsWithSole [a] e pos.line X.env=pure false) L2.aE._auto_1)(o:autoParam (swappedStores [a] e X.env=pure none) L2.aE._auto_1)
  (j:(assignEach [a] X.env).map (·.2)=[assign a X.env]:=by rfl):PS X (.Assign [a] e pos) (acd c g):=by
 intro fw s σ H D I h;refine wpAny_Assign_stores (t.th I h λv n x f r i p=>?_) hs o;rw[j];exact k9 (m fw n σ f x v _ r i p) λ_ u q=>q
def ad2{i:Nat}{x:Str}{e:hH}{c:TE}{a:Pos}(t:X.N.Nodup)(m:X.N[i]? =some x)(j:Loc X.env.scope x)(r:PE X e c)(hs:autoParam (swapsWith e (some (.Name x a)) pos.line X.env=pure false) L2.aE._auto_1)(n:autoParam (X.fn x=true\/X.env.scope.names.lookup x=some .local) L2.c9._auto_1):
  PS X (.Assign [.Name x a] e pos) (acd c (AI i)):=by
 intro fw s σ H D I h;refine wpAny_Assign_Name (r.th I h λv w y f p g o=>?_) hs;exact Jr p t m j g (λu q=>(_,f,q,o)) n
end
section
variable{X:Cx}{pos:Pos}
def ae8(c:TT)(g:TS):TS:=λD σ H=>∃W:Nat->St->Hp->Prop,(∃m,W m σ H)/\∀m σ H,W m σ H→
 c σ H λb f=>if b=true then ∃N:St->Hp->Prop,(∀a H',N a H'->∃e,e<m/\W e a H')/\g {D with nx:=N,ct:=N,bk:=D.nx} σ f else D.nx σ f
def HN{c:hH}{g:List gF}{y:TT}{C:TS}(z:aoq (model X.prog X.w) X.A X.env X.xe)(G:PT X c y)(J:nN X g C):PS X (.While c g [] pos) (ae8 y C):=by
 intro fw s σ H D I h;let(W,(L,M),turn):=h;refine wpAny_While (codeAny_whileLoop (λn K=>∃j H',Inv X fw j H' K/\W n j H') ?_ L (σ,H,I,M));rintro n P ⟨e,x,R,Q⟩;refine ajQ z (thT (G fw P e x _ R (turn n e x Q)) λb O B E m=>?_);cases b with
 |true=>
  let(N,F,m):=m;refine ajQ z (k9 (J fw O e B _ E m) λf S o=>?_);cases f with
  |next=>
   let(a,i,r,t):=o;let(p,u,q):=F a i t;exact(p,u,a,i,r,q)
  |cont=>
   let(a,i,r,t):=o;let(p,u,q):=F a i t;exact(p,u,a,i,r,q)
  |brk=>exact o
  |ret v=>exact o
 |false=>
  exact ak9 (e,B,E,m)
end
structure It where
 go:Nat->Hp->Prop
 yld:Nat->Hp->V->Hp->Prop
 stop:Nat->Hp->Prop
def kP(X:Cx)(fw:List (eF×Obj))(H:Hp)(b:eF):Prop:=
 H b=none/\b≠X.env.locals/\b∉X.fs/\(b∈X.ex\/X.s₀.heap.get? b=none)/\(∀x c,X.env.cells.lookup x=some c->c≠b)/\∀p∈X.pn++fw,p.1≠b
def Inv.QV{X:Cx}{fw:List (eF×Obj)}{σ:St}{H H':Hp}{s:fX}{b:eF}(I:Inv X fw σ H s)(a:s.heap.objs.size<=b)(f:H' b=none):kP X fw H' b:=by
 refine(f,akC (rr I.lt a),I.ahc a,.inr (ajX (jC I.sz a)),λx c e z=>?_,λp g z=>?_)
 .let(v,q):=I.cell x c e;exact absurd (rr q.lt (by rwa[z])) (Mo _)
 .exact absurd (rr (lD (I.pin p g).1) (by rwa[z])) (Mo _)
structure Turn(P:iU)(w:iP)(K:gI)(tg:hH)(J:It)(fp:List eF)(it:eF)(tn:Nat->h7->Prop):Prop where
 mem:it∈fp
 obj:∀i h,tn i h->∀b∈fp,∃o,h.get? b=some o/\∀v,o.data≠ .cell v
 keep:∀i h h',tn i h->(∀b∈fp,∀o,h.get? b=some o->h'.get? b=some o)->tn i h'
 item:∀(X:Cx),X.prog=P->X.w=w->X.K=K->X.calm=true->∀(i:Nat) (fw:List (eF×Obj)) (s:fX) (σ:St) (H:Hp) (E:fy->fX->Prop),Inv X fw σ H s->(∀b∈fp,kP X fw H b)->tn i s.heap->J.go i H→
  wpAny (model P w) X.A (pyNext (.ref it)) (λr s1=>∃u,r=some u∧
   wpAny (model P w) X.A (letOwnedTupleGo tg (.ref it) u) (λ_ s2=>∃x H',Inv X fw σ H' s2/\RelV x u/\J.yld i H x H'/\tn (i+1) s2.heap/\∀b∈fp,H' b=none) E s1) E s
 done:∀(X:Cx),X.prog=P->X.w=w->X.K=K->X.calm=true->∀(i:Nat) (fw:List (eF×Obj)) (s:fX) (σ:St) (H:Hp) (E:fy->fX->Prop),Inv X fw σ H s->(∀b∈fp,kP X fw H b)->tn i s.heap->J.stop i H→
  wpAny (model P w) X.A (pyNext (.ref it)) (λr s1=>r=none/\Inv X fw σ H s1) E s
 self:∀(A:jg) (i:Nat) (s:fX) (Q:fy->fX->Prop) (E:fy->fX->Prop),tn i s.heap->Q (.ref it) s->wpAny (model P w) A (pyIter (.ref it)) Q E s
abbrev TI:=St->Hp->(It->Hp->Prop)->Prop
def PIE(X:Cx)(fw:List (eF×Obj))(σ:St)(g:hH)(R:It->Hp->Prop)(a:fy)(c:fX):Prop:=
 ∃(it:eF) (e:List eF) (f:Nat->h7->Prop) (J:It) (H':Hp),a=.ref it/\Inv X fw σ H' c/\Turn X.prog X.w X.K g J e it f/\f 0 c.heap/\(∀b∈e,kP X fw H' b)/\R J H'
def PI(X:Cx)(f a:hH)(c:TI):Prop:=
 ∀(fw:List (eF×Obj)) (s:fX) (σ:St) (H:Hp) (R:It->Hp->Prop),Inv X fw σ H s->c σ H R→
  wpAny (model X.prog X.w) X.A (eval a X.env) (λv e=>wpAny (model X.prog X.w) X.A (pyIter v) (PIE X fw σ f R) X.xe e) X.xe s
def Uc{M:Al}{A:jg}{E:fy->fX->Prop}{s:fX}{c:hH}{it:eF}{u:fy}{o:Obj}{n:String}{vs:Array fy}{Q:Unit->fX->Prop}(g:s.heap.get? it=some o)(f:o.cls=.type n)(hd:o.data=.fields vs)
    (e:["enumerate","zip","dict_itemiterator","dict_reverseitemiterator","odict_iterator","itertools.zip_longest","itertools.pairwise"].contains n=false) (a:Q .unit s):wpAny M A (letOwnedTupleGo c (.ref it) u) Q E s:=by
  cases c<;>first
    |exact pq a
    | (cases u<;>first
        |exact pq a
        | (refine kb (wpAny_load g ?_)
           rw[f,hd];show wpAny M A (if (["enumerate","zip","dict_itemiterator","dict_reverseitemiterator","odict_iterator","itertools.zip_longest","itertools.pairwise"].contains n&&vs[0]? ==some (rawInt _))=true then _ else _) Q E s;rw[fC (by intro h;rw[e,Hy]at h;cases h)];exact pq a))
def Itl(K:gI)(a:eF):It:=
 (λi H=>∃xs x,fT K H a xs/\xs[i]? =some x,λi H x H'=>H'=H/\∀xs,fT K H a xs->xs[i]? =some x,λi H=>∃xs,fT K H a xs/\xs.length<=i)
def MR(lo:Int)(n:Nat):It:=(λi _=>i<n,λi H x H'=>H'=H/\x=.int (lo+i),λi _=>n<=i)
def W2{P:iU}{w:iP}{K:gI}{N:hH}(a it:eF):Turn P w K N (Itl K a) [it] it (λi h=>h.IsListIter it a i) where
 mem:=by simp
 obj:=λi h st b f=>by
  let e:=by simpa using f
  subst e;let(o,e,c,d):=st;exact(o,e,λv z=>by simp_all)
 keep:=λi h h' st k=>st.at λo e=>k it (by simp) o e
 item:=by
  intro X n F y J i fw s σ H E I m st D;subst n F y;let(xs,x,j,t):=D;let(its,q,p,R):=I.list j;let(u,S,O):=q.get t;let(A,G,L,r,C,B):=m it (by simp);refine wpAny_pyNext_list_item st p.isList (by simpa using S) λh' g Q=>?_;let U:=I.turned (t':=s.toks) (λb o f e=>(Q.2 b f).trans e) A G r C B;let(o,e,c,d):=id g;exact(u,rfl,Uc e c d ∅ (x,H,U,O,(rfl,λys M=>by rwa[I.xY M j]),g,λb f=>(m b f).1))
 done:=by
  intro X n F y J i fw s σ H E I m st D;subst n F y;let(xs,j,t):=D;let(its,q,p,R):=I.list j;let(A,G,L,r,C,B):=m it (by simp);let W:=q.length;exact wpAny_pyNext_list_end (I.ok.hd J) st p.isList (by simp;lia) λh' T=>(rfl,I.turned (λb o f e=>T b o f e) A G r C B)
 self:=λ_ _ _ _ _ st h=>wpAny_pyIter_listiter st h
def Rz{P:iU}{w:iP}{K:gI}{D:hH}(it:eF)(lo:Int)(n:Nat):Turn P w K D (MR lo n) [it] it (λi h=>amh h it (lo+(i:Nat)*1) ((n:Int)-(i:Nat)) 1) where
 mem:=by simp
 obj:=λi h st b a=>by
  let e:=by simpa using a
  subst e
  exact(_,st,λv z=>by
   let F:=z;cases F)
 keep:=λi h h' st k=>k it (by simp) _ st
 item:=by
  intro X j y p g i fw s σ H E I f st x;subst j y p;let(q,A,B,m,u,r):=f it (by simp);let W:=aoN (prog:=X.prog) (w:=X.w) (I.ok.hd g) it lo 1 n;refine W.item i s _ _ x st λv h' tk C c kk=>?_;let(t,rfl):=C;let J:Inv X fw σ H {s with heap:=h',toks:=tk}:=I.turned (λb o a e=>kk b o (by simpa using a) e) q A m u r;refine(_,rfl,Uc c rfl rfl ∅ (.int (lo+i),H,J,(t,?_),(rfl,rfl),c,λb a=>(f b a).1));rw[Int.mul_one]
 done:=by
  intro X j y p g i fw s σ H E I f st x;let(q,A,B,m,u,r):=f it (by simp);exact ami (I.ok.hd g) st (by let:n<=i:=x;lia) λh' G=>(rfl,I.turned (λb o a e=>G b o a e) q A m u r)
 self:=λ_ _ _ _ _ st h=>amj st h
section
variable{X:Cx}{tg:hH}
def agK(K:gI)(tl:TE):TI:=λσ H R=>tl σ H λx c=>∃a,x=.ref a/\(∃xs,fT K c a xs)/\R (Itl K a) c
def eo{l:hH}{tl:TE}(m:PE X l tl):PI X tg l (agK X.K tl):=by
 intro fw s σ H R I h;refine k9 (m fw s σ H _ I h) λv c i=>?_;let(x,g,f,j,t):=i;let(a,e,(xs,r),q):=t;subst e;cases j;let(its,w,p,u):=f.list r;refine ajV p.isList ?_;refine(c.heap.objs.size,[c.heap.objs.size],_,_,g,rfl,f.kept λb o e=>nr _ e,W2 a _,(_,rX _ rfl,rfl,rfl),λb n=>?_,q);let e:=by simpa using n
 subst e;exact f.QV (gx _) (f.hok.fresh (gx _))
def Q6{fw:List (eF×Obj)}{σ:St}{H:Hp}{s:fX}{R:It->Hp->Prop}{E:fy->fX->Prop}{lo a:Int}{t u v:Tok}{tk:Nat}(I:Inv X fw σ H s)(h: -(2^62)<=lo)(i:lo<2^62)(j: -(2^62)<=a)(f:a<2^62)
  (q:R (MR lo (a-lo).toNat) H):wpAny (model X.prog X.w) X.A (pyIter (.ref s.heap.objs.size)) (PIE X fw σ tg R) E {s with heap:=s.heap.push {cls:= .type "range",data:= .fields #[.int lo t,.int a u,.int 1 v]},toks:=tk}:=by
 refine am6 (aoO ..) (small_one h i j f) ?_;let c:Inv X fw σ H {s with heap:=s.heap.push {cls:= .type "range",data:= .fields #[.int lo t,.int a u,.int 1 v]},toks:=tk}:=I.kept λb o e=>nr _ e
 refine((s.heap.push {cls:= .type "range",data:= .fields #[.int lo t,.int a u,.int 1 v]}).objs.size,[(s.heap.push {cls:= .type "range",data:= .fields #[.int lo t,.int a u,.int 1 v]}).objs.size],_,_,H,rfl,
  c.kept λb o e=>nr _ e,Rz _ lo (a-lo).toNat,?_,λb g=>?_,q)
 .let e1:lo+((0:Nat))*1=lo:=by simp
  let e2:(((a-lo).toNat:Nat))-((0:Nat))=aj4 lo a 1:=by rw[rangeSize_one];split<;>lia
  rw[e1,e2];exact rX _ rfl
 .let e:b=(s.heap.push {cls:= .type "range",data:= .fields #[.int lo t,.int a u,.int 1 v]}).objs.size:=by simpa using g
  subst e;exact c.QV (gx _) (c.hok.fresh (gx _))
def agx(a:TA):TI:=λσ H R=>a σ H λvs c=>∃j:Int,vs=[.int j]/\ -(2^62)<=j/\j<2^62/\R (MR 0 j.toNat) c
def agD(a:TA):TI:=λσ H R=>a σ H λvs c=>∃i j:Int,vs=[.int i,.int j]/\(-(2^62)<=i/\i<2^62/\ -(2^62)<=j/\j<2^62)/\R (MR i (j-i).toNat) c
def jN{a:hH}{g:TA}{p c:Pos}(n:Gl X "range")(u:X.mg "range"=none)(w:PA X [a] g)(hs:autoParam (starEach [a] X.env=[(false,eval a X.env)]) L2.aE._auto_1):PI X tg (.Call (.Name "range" p) [a] [] c) (agx g):=by
 intro fw s σ H R I h;refine Call_ (xy I n u an1 (ai9 (w.th I h λus y vs x v i f=>?_) hs rfl));let(j,e,f,m,q):=f;subst e;cases i with
 |cons r o=>
  cases o;let(t,rfl):=r;exact call_range_1 (Q6 v () () f m (by simp_all))
def VN{a b:hH}{n:TA}{p g:Pos}(z:Gl X "range")(A:X.mg "range"=none)(x:PA X [a,b] n)(hs:autoParam (starEach [a,b] X.env=[(false,eval a X.env),(false,eval b X.env)]) L2.aE._auto_1)(c:autoParam (starEach [b] X.env=[(false,eval b X.env)]) L2.aE._auto_1):
  PI X tg (.Call (.Name "range" p) [a,b] [] g) (agD n):=by
 intro fw s σ H R I h;refine Call_ (xy I z A an1 (ai9 (x.th I h λus D vs C B o m=>?_) (by rw[hs,c]) (by rw[c];rfl)));let(i,j,e,(m,y,w,u),q):=m;subst e;cases o with
 |cons r f=>
  cases f with
  |cons v f=>
   cases f;let(t,rfl):=r;let(t',rfl):=v;exact call_range_2 (Q6 B m y w u q)
def agW(f:TI)(g:TG)(n:TS):TS:=λD σ H=>f σ H λJ h=>∃W:Nat->Nat->St->Hp->Prop,(∃m,W 0 m σ h)/\∀i m σ H,W i m σ H→
 (J.stop i H/\D.nx σ H)\/(J.go i H/\∃N:St->Hp->Prop,(∀a H',N a H'->∃e,e<m/\W (i+1) e a H')/\∀x H',J.yld i H x H'->g x σ H' λc j=>n {D with nx:=N,ct:=N,bk:=D.nx} c j)
def uY(a:List eF)(h:h7):List (eF×Obj):=a.filterMap λb=>(h.get? b).map λo=>(b,o)
theorem vw{a:List eF}{h:h7}{b:eF}{o:Obj}(c:b∈a)(e:h.get? b=some o):(b,o)∈uY a h:=am7.mpr (b,c,by rw[e];rfl)
def Mv{a:List eF}{h:h7}{p:eF×Obj}(g:p∈uY a h):p.1∈a/\h.get? p.1=some p.2:=by
 let(b,f,e):=am7.mp g;cases q:h.get? b with
 |none=>simp_all
 |some o=>
  rw[q]at e;let c:=iJ e;subst c;exact(f,q)
theorem Inv.pinned{fw:List (eF×Obj)}{σ:St}{H:Hp}{s:fX}{a:List eF}(I:Inv X fw σ H s)(i:∀b∈a,kP X fw H b)(j:∀b∈a,∃o,s.heap.get? b=some o/\∀v,o.data≠ .cell v):Inv X (fw++uY a s.heap) σ H s:=
 I.Hd λp n=>(ro.mp n).elim (λz=>I.pin p (yw _ z)) λz=>by
  let(c,e):=Mv z;let(h,m,g,_):=i p.1 c;let(o,f,d):=j p.1 c;rw[e]at f;cases f;exact(e,h,m,g,d)
theorem Inv.Cp{fw pl:List (eF×Obj)}{σ:St}{H:Hp}{s:fX}(I:Inv X (fw++pl) σ H s):Inv X fw σ H s:=I.Hd λp a=>I.pin p (yw _ (ajD _ a))
def lM{t:hH}{E:List gF}{wi:TI}{g:TG}{tb:TS}{Z:Pos}(K:aoq (model X.prog X.w) X.A X.env X.xe)(hc:X.calm=true)(hi:PI X tg t wi)(hg:PG X tg g)(q:nN X E tb)
  (hs:∀x,foldedSetIterable t X.env x=pure x:=by intro _;rfl):PS X (.For tg t E [] Z) (agW wi g tb):=by
 intro fw s σ H D I h;refine wpAny_For (k9 (hi fw s σ H _ I h) λv s1 h1=>k9 h1 λad s2 h2=>?_) hs;let(it,M,tn,J,H2,e,I2,T,Y,f2,W,(m0,w0),turn):=h2;subst e;let y:∀{H':Hp},(∀b∈M,H' b=none)->∀b∈M,kP X fw H' b:=λhn b q=>(hn b q,(f2 b q).2);refine codeAny_forLoop_any (λn s'=>∃i z H',Inv X fw z H' s'/\tn i s'.heap/\(∀b∈M,H' b=none)/\W i n z H') ?_ m0 (0,σ,H2,I2,Y,λb q=>(f2 b q).1,w0);rintro n s3 ⟨i,j,Q,I3,O,P,w3⟩;rcases turn i n j Q w3 with⟨stop,qn⟩|⟨go,N,hN,step⟩
 .refine ajQ K (k9 (T.done X rfl rfl rfl hc i fw s3 j Q X.xe I3 (y P) O stop) λr s4 G=>?_);let(U,I4):=G;subst U;exact ak9 (j,Q,I4,qn)
 .refine ajQ K (k9 (T.item X rfl rfl rfl hc i fw s3 j Q X.xe I3 (y P) O go) λr s4 G=>?_);let(u,U,h4):=G;subst U;refine ajQ K (k9 h4 λ_ s5 G=>?_);let(x,H5,I5,r5,y5,F,ac):=G;let S:=I5.pinned (y ac) (T.obj _ _ F);refine ajQ K (k9 (hg _ s5 j H5 x u _ S r5 (step x H5 y5)) λ_ s6 G=>?_);let(ab,H6,I6,q6):=G;refine ajQ K (k9 (q _ s6 ab H6 _ I6 q6) λf R C=>?_)
  let p:∀{a:St} {c:Hp},Inv X (fw++uY M s5.heap) a c R->N a c->∃m,m<n/\∃i z H',Inv X fw z H' R/\tn i R.heap/\(∀b∈M,H' b=none)/\W i m z H':=λ{a c} B L=>by
   let(m',hm,w7):=hN a c L;refine(m',hm,i+1,a,c,B.Cp,T.keep _ _ _ F λb q o e=>(B.pin (b,o) (yw _ (yw _ (vw q e)))).1,λb q=>?_,w7);let(o,e,d):=T.obj _ _ F b q;exact(B.pin (b,o) (yw _ (yw _ (vw q e)))).2.1
  cases f with
  |next=>let(a,c,B,L):=C;exact p B L
  |cont=>let(a,c,B,L):=C;exact p B L
  |brk=>let(a,c,B,C):=C;exact(a,c,B.Cp,C)
  |ret v=>let(x7,a,c,B,r7,C):=C;exact(x7,a,c,B.Cp,r7,C)
end
def zl{lo:Int}{n:Nat}{g:TG}{q:TS}{D:Ends}{σ:St}{H:Hp}(h:Nat->St->Hp->Prop)(t:h 0 σ H)
  (hs:∀i σ H,i<n->h i σ H->g (.int (lo+i)) σ H λa j=>q {D with nx:=h (i+1),ct:=h (i+1),bk:=D.nx} a j) (hd:∀σ H,h n σ H->D.nx σ H):
  ∃W:Nat->Nat->St->Hp->Prop,(∃m,W 0 m σ H)/\∀i m σ H,W i m σ H→
   ((MR lo n).stop i H/\D.nx σ H)\/((MR lo n).go i H/\∃N:St->Hp->Prop,(∀f H',N f H'->∃o,o<m/\W (i+1) o f H')/\∀x H',(MR lo n).yld i H x H'->g x σ H' λa j=>q {D with nx:=N,ct:=N,bk:=D.nx} a j):=by
 refine(λi m σ H=>m=n-i/\i<=n/\h i σ H,(n,by simp,qj _,t),?_);rintro i m σ H ⟨rfl,u,p⟩;by_cases c:i<n
 .refine .inr (c,h (i+1),λf H' r=>(n-(i+1),(),rfl,c,r),λx H' y=>?_);let(e,y):=y;subst e y;exact hs i σ _ c p
 .let e:i=n:=by lia
  subst e;exact .inl (gx _,hd σ H p)
abbrev R2:=V->V->Hp->VK->Prop
def mn(X:Cx)(f:fy->fy->Sem fy)(r:R2):Prop:=
 ∀(fw:List (eF×Obj)) (s:fX) (σ:St) (H:Hp) (x y:V) (v u:fy) (Q:VK),Inv X fw σ H s->RelV x v->RelV y u->r x y H Q→
  wpAny (model X.prog X.w) X.A (f v u) (EP X fw σ Q) X.xe s
def UnR(X:Cx)(f:fy->Sem fy)(r:V->Hp->VK->Prop):Prop:=
 ∀(fw:List (eF×Obj)) (s:fX) (σ:St) (H:Hp) (x:V) (v:fy) (Q:VK),Inv X fw σ H s->RelV x v->r x H Q→
  wpAny (model X.prog X.w) X.A (f v) (EP X fw σ Q) X.xe s
def wA(X:Cx)(f:fy)(r:List V->Hp->VK->Prop):Prop:=
 ∀(fw:List (eF×Obj)) (s:fX) (σ:St) (H:Hp) (xs:List V) (us:List fy) (Q:VK),Inv X fw σ H s->Vals xs us->r xs H Q→
  wpAny (model X.prog X.w) X.A (call f us) (EP X fw σ Q) X.xe s
def Yn(r:R2)(a f:TE):TE:=λσ H Q=>a σ H λx c=>f σ c λy e=>r x y e Q
def tUn(r:V->Hp->VK->Prop)(a:TE):TE:=λσ H Q=>a σ H λx c=>r x c Q
def rI(C:Int->Int->Prop)(g:Int->Int->V):R2:=λx y H Q=>∃i j,x=.int i/\y=.int j/\C i j/\Q (g i j) H
def Mc(g:Int->Int->V):R2:=λx y H Q=>∃i j,x=.int i/\y=.int j/\Q (g i j) H
def rU(g:Int->V):V->Hp->VK->Prop:=λx H Q=>∃i,x=.int i/\Q (g i) H
section
variable{X:Cx}{a b c:hH}{ta tb tc:TE}{pos:Pos}
def abj(p:PE X a ta)(o:PE X b tb){fw:List (eF×Obj)}{s:fX}{σ:St}{H:Hp}{R:V->V->Hp->Prop}(I:Inv X fw σ H s)
  (h:ta σ H λx m=>tb σ m λy e=>R x y e) {Q:fy->fX->Prop} {f:fy->fy->Sem fy}
  (t:∀v u j x y e,Inv X fw σ e j->RelV x v->RelV y u->R x y e->wpAny (model X.prog X.w) X.A (f v u) Q X.xe j):
  wpAny (model X.prog X.w) X.A (eval a X.env) (λv g=>wpAny (model X.prog X.w) X.A (eval b X.env) (λu i=>wpAny (model X.prog X.w) X.A (f v u) Q X.xe i) X.xe g) X.xe s:=by
 refine p.th I h λv D x m B n z=>?_;refine o.th B z λu j y e C r q=>?_;exact t v u j x y e C n r q
def aG{e:anQ}{r:R2}(n:mn X (binaryOp e) r)(p:PE X a ta)(g:PE X b tb):PE X (.BinOp a e b pos) (Yn r ta tb):=by
 intro fw s σ H Q I h;exact wpAny_BinOp (abj p g I h λv u f x y j o i m q=>n fw f σ j x y v u Q o i m q)
def Ds{e:UnaryOp}{r:V->Hp->VK->Prop}(n:UnR X (unaryOp e) r)(o:PE X a ta):PE X (.UnaryOp e a pos) (tUn r ta):=by
 intro fw s σ H Q I h;exact UnaryOp_ (o.th I h λv f x g m i j=>n fw f σ g x v Q m i j)
def opI{f:fy->fy->Sem fy}{C:Int->Int->Prop}{g:Int->Int->Int}
  (e:∀(i j:Int) (t u:Tok) (s:fX) (Q:fy->fX->Prop) (E:fy->fX->Prop),C i j->Q (.int (g i j) s.toks) {s with toks:=s.toks+1}->wpAny (model X.prog X.w) X.A (f (.int i t) (.int j u)) Q E s):
  mn X f (rI C λi j=>.int (g i j)):=by
 intro fw s σ H x y v u Q I n o h;let(i,j,rfl,rfl,m,q):=h;let(t,rfl):=n;let(t',rfl):=o;exact e i j t t' s _ _ m (.int (g i j),H,I.tok _,(_,rfl),q)
def abJ{f:fy->fy->Sem fy}{g:Int->Int->Int}
  (e:∀(i j:Int) (t u:Tok) (s:fX) (Q:fy->fX->Prop) (E:fy->fX->Prop),Q (.int (g i j) s.toks) {s with toks:=s.toks+1}->wpAny (model X.prog X.w) X.A (f (.int i t) (.int j u)) Q E s):
  mn X f (Mc λi j=>.int (g i j)):=by
 intro fw s σ H x y v u Q I m n h;let(i,j,rfl,rfl,q):=h;let(t,rfl):=m;let(t',rfl):=n;exact e i j t t' s _ _ (.int (g i j),H,I.tok _,(_,rfl),q)
def aaN{f:fy->fy->Sem fy}{g:Int->Int->Bool}
  (e:∀(i j:Int) (t u:Tok) (s:fX) (Q:fy->fX->Prop) (E:fy->fX->Prop),Q (.bool (g i j)) s->wpAny (model X.prog X.w) X.A (f (.int i t) (.int j u)) Q E s):
  mn X f (Mc λi j=>.bl (g i j)):=by
 intro fw s σ H x y v u Q I m n h;let(i,j,rfl,rfl,q):=h;let(t,rfl):=m;let(t',rfl):=n;exact e i j t t' s _ _ (.bl (g i j),H,I,rfl,q)
def agi(i j:Int):Prop:=0<j/\j<1073741824
def agT(i j:Int):Prop:=0<=j/\j<=1000000/\i.natAbs<2^64
def adY(i j:Int):Prop:=(-(2^64)<i/\i<2^64)\/(-(2^64)<j/\j<2^64)
def adY.ok{i j:Int}(h:adY i j):IntMulOk i j:=by
 rcases h with⟨e,f⟩|⟨e,f⟩
 .exact .of_left (aot e f)
 .exact .of_right (aot e f)
theorem gG:mn X (binaryOp .Add) (Mc λi j=>.int (i+j)):=abJ λ_ _ _ _ _ _ _ q=>add_int q
theorem E7:mn X (binaryOp .Sub) (Mc λi j=>.int (i-j)):=abJ λ_ _ _ _ _ _ _ q=>sub_int q
theorem adS:mn X (binaryOp .Mult) (rI adY λi j=>.int (i*j)):=opI λ_ _ _ _ _ _ _ e q=>mul_int q e.ok
theorem eh:mn X (binaryOp .FloorDiv) (rI agi λi j=>.int (i/j)):=opI λi j _ _ _ _ _ e q=>by
 let f:=e.1;let g:=e.2;exact floordiv_int () (by rwa[Int.fdiv_eq_ediv_of_nonneg i ()]) (.inl (amk ()))
theorem cu:mn X (binaryOp .Mod) (rI (λ_ j=>0<j) λi j=>.int (i%j)):=opI λi j _ _ _ _ _ e q=>by
 exact mod_int' () (by rwa[Int.fmod_eq_emod_of_nonneg i ()])
theorem Z6:mn X (binaryOp .LShift) (rI agT λi j=>.int (i*2^j.toNat)):=opI λ_ _ _ _ _ _ _ e q=>lshift_int_small e.1 e.2.1 e.2.2 q
theorem Kb:mn X (binaryOp .BitAnd) (Mc λi j=>.int (yU i j)):=abJ λ_ _ _ _ _ _ _ q=>and_int q
theorem afV:mn X (binaryOp .BitOr) (Mc λi j=>.int (akX i j)):=abJ λ_ _ _ _ _ _ _ q=>or_int q
def unI{f:fy->Sem fy}{g:Int->Int}
  (e:∀(i:Int) (t:Tok) (s:fX) (Q:fy->fX->Prop) (E:fy->fX->Prop),Q (.int (g i) s.toks) {s with toks:=s.toks+1}->wpAny (model X.prog X.w) X.A (f (.int i t)) Q E s):
  UnR X f (rU λi=>.int (g i)):=by
 intro fw s σ H x v Q I j h;let(i,rfl,q):=h;let(t,rfl):=j;exact e i t s _ _ (.int (g i),H,I.tok _,(_,rfl),q)
theorem yk:UnR X (unaryOp .USub) (rU λi=>.int (-i)):=unI λ_ _ _ _ _ q=>neg_int q
theorem adF:UnR X (unaryOp .Invert) (rU λi=>.int (ajZ i)):=unI λ_ _ _ _ _ q=>invert_int q
end
def agf:V->V->Bool
 |.non,.non=>true| .non,.int _=>true| .int _,.non=>true| .non,.bl _=>true| .bl _,.non=>true| .non,.str _=>true| .str _,.non=>true
 |.int _,.int _=>true| .bl _,.bl _=>true| .str _,.str _=>true| .byt _,.byt _=>true
 |.int _,.str _=>true| .str _,.int _=>true| .bl _,.str _=>true| .str _,.bl _=>true
 |_,_=>false
def rEq:R2:=λx y H Q=>agf x y=true/\Q (.bl (decide (x=y))) H
def rNe:R2:=λx y H Q=>agf x y=true/\Q (.bl (!decide (x=y))) H
def T9{i j:Int}:decide (V.int i=V.int j)=(i==j):=by
 rw[tL];simp
def aaE{i j:Bool}:decide (V.bl i=V.bl j)=(i==j):=by
 rw[tL];simp
def TY{i j:Str}:decide (V.str i=V.str j)=(i==j):=by
 rw[tL];simp
def TK{i j:Array UInt8}:decide (V.byt i=V.byt j)=(i.toList==j.toList):=by
 rw[tL];simp
section
variable{X:Cx}{a b c:hH}{ta tb tc:TE}{pos:Pos}
def bY{fw:List (eF×Obj)}{σ:St}{H:Hp}{s:fX}{Q:VK}{k f:Bool}(I:Inv X fw σ H s)(q:Q (.bl k) H)(e:k=f):EP X fw σ Q (.bool f) s:=by
 subst e;exact(.bl k,H,I,rfl,q)
def cq:mn X (compareOp .Eq) rEq:=by
 intro fw s σ H x y v u Q I f e h;let(hs,q):=h;cases x with
 |non=>
  cases f;cases y with
  |non=>cases e;exact PySem.EqNone.eq_none_none (bY I q (by simp))
  |bl j=>cases e;exact PySem.EqNone.eq_none_bool (bY I q (by simp))
  |int j=>let(t',rfl):=e;exact PySem.EqNone.eq_none_int (bY I q (by simp))
  |str j=>let(t',rfl):=e;exact PySem.EqNone.eq_none_str (bY I q (by simp))
  |_=>exact absurd (show false=true from hs) jT
 |bl i=>
  cases f;cases y with
  |non=>cases e;exact PySem.EqNone.eq_bool_none (bY I q (by simp))
  |bl j=>cases e;exact eq_bool (bY I q aaE)
  |str j=>let(t',rfl):=e;exact PySem.EqMixed.eq_bool_str (bY I q (by simp))
  |_=>exact absurd (show false=true from hs) jT
 |int i=>
  let(t,rfl):=f;cases y with
  |non=>cases e;exact PySem.EqNone.eq_int_none (bY I q (by simp))
  |int j=>let(t',rfl):=e;exact eq_int (bY I q T9)
  |str j=>let(t',rfl):=e;exact PySem.EqMixed.eq_int_str (bY I q (by simp))
  |_=>exact absurd (show false=true from hs) jT
 |str i=>
  let(t,rfl):=f;cases y with
  |non=>cases e;exact PySem.EqNone.eq_str_none (bY I q (by simp))
  |bl j=>cases e;exact PySem.EqMixed.eq_str_bool (bY I q (by simp))
  |int j=>let(t',rfl):=e;exact PySem.EqMixed.eq_str_int (bY I q (by simp))
  |str j=>let(t',rfl):=e;exact eq_str (bY I q TY)
  |_=>exact absurd (show false=true from hs) jT
 |byt i=>
  let(t,rfl):=f;cases y with
  |byt j=>let(t',rfl):=e;exact PySem.W.eq_bytes (bY I q TK)
  |_=>exact absurd (show false=true from hs) jT
 |_=>cases y<;>exact absurd (show false=true from hs) jT
def uO:mn X (compareOp .NotEq) rNe:=by
 intro fw s σ H x y v u Q I f e h;let(hs,q):=h;cases x with
 |non=>
  cases f;cases y with
  |non=>cases e;exact PySem.EqNone.ne_none_none (bY I q (by simp))
  |bl j=>cases e;exact PySem.EqNone.ne_none_bool (bY I q (by simp))
  |int j=>let(t',rfl):=e;exact PySem.EqNone.ne_none_int (bY I q (by simp))
  |str j=>let(t',rfl):=e;exact PySem.EqNone.ne_none_str (bY I q (by simp))
  |_=>exact absurd (show false=true from hs) jT
 |bl i=>
  cases f;cases y with
  |non=>cases e;exact PySem.EqNone.ne_bool_none (bY I q (by simp))
  |bl j=>cases e;exact ne_bool (bY I q (iY not aaE))
  |str j=>let(t',rfl):=e;exact PySem.EqMixed.ne_bool_str (bY I q (by simp))
  |_=>exact absurd (show false=true from hs) jT
 |int i=>
  let(t,rfl):=f;cases y with
  |non=>cases e;exact PySem.EqNone.ne_int_none (bY I q (by simp))
  |int j=>let(t',rfl):=e;exact ne_int (bY I q (iY not T9))
  |str j=>let(t',rfl):=e;exact PySem.EqMixed.ne_int_str (bY I q (by simp))
  |_=>exact absurd (show false=true from hs) jT
 |str i=>
  let(t,rfl):=f;cases y with
  |non=>cases e;exact PySem.EqNone.ne_str_none (bY I q (by simp))
  |bl j=>cases e;exact PySem.EqMixed.ne_str_bool (bY I q (by simp))
  |int j=>let(t',rfl):=e;exact PySem.EqMixed.ne_str_int (bY I q (by simp))
  |str j=>let(t',rfl):=e;exact ne_str (bY I q (iY not TY))
  |_=>exact absurd (show false=true from hs) jT
 |byt i=>
  let(t,rfl):=f;cases y with
  |byt j=>let(t',rfl):=e;exact PySem.W.ne_bytes (bY I q (iY not TK))
  |_=>exact absurd (show false=true from hs) jT
 |_=>cases y<;>exact absurd (show false=true from hs) jT
theorem nI:mn X (compareOp .Lt) (Mc λi j=>.bl (decide (i<j))):=aaN λ_ _ _ _ _ _ _ q=>lt_int q
theorem adm:mn X (compareOp .LtE) (Mc λi j=>.bl (decide (i<=j))):=aaN λ_ _ _ _ _ _ _ q=>le_int q
theorem LH:mn X (compareOp .Gt) (Mc λi j=>.bl (decide (j<i))):=aaN λ_ _ _ _ _ _ _ q=>gt_int q
theorem Ym:mn X (compareOp .GtE) (Mc λi j=>.bl (decide (j<=i))):=aaN λ_ _ _ _ _ _ _ q=>ge_int q
def Vl:mn X (compareOp .In) (λx y H Q=>∃i j,x=.str i/\y=.str j/\Q (.bl (!(aj5 j i 0 j.length 1).isEmpty)) H):=by
 intro fw s σ H x y v u Q I e f h;let(i,j,rfl,rfl,q):=h;let(t,rfl):=e;let(t',rfl):=f;exact in_str (bY I q rfl)
def ES:mn X (compareOp .Is) (λx y H Q=>y=.non/\Q (.bl (decide (x=.non))) H):=by
 intro fw s σ H x y v u Q I e f h;let(rfl,q):=h;cases f;refine is_none_gen (bY I q ?_)
 cases x<;>first
  |(cases e;rfl)
  |(obtain⟨t,rfl⟩:=e;rfl)
def UU:mn X (compareOp .IsNot) (λx y H Q=>y=.non/\Q (.bl (!decide (x=.non))) H):=by
 intro fw s σ H x y v u Q I e f h;let(rfl,q):=h;cases f;refine isnot_none_gen (bY I q ?_)
 cases x<;>first
  |(cases e;rfl)
  |(obtain⟨t,rfl⟩:=e;rfl)
def BP(b:hH){e:NB}(h:autoParam (e≠ .In) L2.adP._auto_2)(f:autoParam (e≠ .NotIn) L2.adP._auto_2):behindInMarks e b=false:=by
 let e1:(e==CmpOp.In)=false:=by lia
 let e2:(e==CmpOp.NotIn)=false:=by lia
 cases b<;>simp[behindInMarks,e1,e2]
def TH{e:NB}{r:R2}(o:mn X (compareOp e) r)(t:PE X a ta)(g:PE X b tb)(n:behindInMarks e b=false):PE X (.Compare a [e] [b] pos) (Yn r ta tb):=by
 intro fw s σ H Q I h;exact aoh (abj t g I h λv u f x y j p i m q=>o fw f σ j x y v u Q p i m q) n
def ac6(t:TE):TT:=λσ H Q=>t σ H λx H'=>∃k,x=.bl k/\Q k H'
def zF{f:NB}{r:R2}(C:mn X (compareOp f) r)(F:PE X a ta)(n:PE X b tb)(A:behindInMarks f b=false):PT X (.Compare a [f] [b] pos) (ac6 (Yn r ta tb)):=by
 intro fw s σ H Q I h
 refine amu (F.th I h λv K x J B i w=>n.th B w λu m y q D t g=>
  thE (C fw m σ q x y v u _ D i t g) λc L z G E o j=>?_) A
 let(k,e,p):=j;subst e;cases o;exact ajn (G,E,p)
def adN(r h:R2)(ta tb tc:TE):TE:=λσ H Q=>ta σ H λx g=>tb σ g λy j=>r x y j λz e=>∃k,z=.bl k∧
 (if k=true then tc σ e λf i=>h y f i Q else Q (.bl false) e)
def XU{i f:NB}{r j:R2}(U:mn X (compareOp i) r)(g:mn X (compareOp f) j)(G:PE X a ta)(C:PE X b tb)(q:PE X c tc)
  (R:lastMarks [i,f] [b,c]=false:=by with_unfolding_all rfl):PE X (.Compare a [i,f] [b,c] pos) (adN r j ta tb tc):=by
 intro fw s σ H Q I h
 refine Compare_chain (G.th I h λv Y x W S w P=>chain_link (C.th S P λu M y F T n K=>
  thE (U fw M σ F x y v u _ T w n K) λd Z z J o E t=>?_)) R
 let(k,e,m):=t;subst e;cases E;refine ajn ?_;cases k with
 |false=>exact ite_ff (.bl false,J,o,rfl,m)
 |true=>exact ite_tt (chain_last (q.th o m λp N L O B D A=>g fw N σ O y L u p Q B n D A))
def Jm:(sizeLine:Nat)<2^63:=by decide
def o6:mn X (binaryOp .Add) (λx y H Q=>∃i j,x=.str i/\y=.str j/\i.length+j.length<=sizeLine/\Q (.str (i++j)) H):=by
 intro fw s σ H x y v u Q I f g h;let(i,j,rfl,rfl,e,q):=h;let(t,rfl):=f;let(t',rfl):=g;exact add_str (λt' tk=>(.str (i++j),H,I.tok _,(_,rfl),q)) e
def Yq(b:hH):Prop:=∀o i,subscripted b false o i=operate [o,i] (getItem o i)
def rD(p:PE X a ta)(g:PE X b tb)(hs:Yq b):
  PE X (.Subscript a b pos) (Yn (λx y H Q=>∃z i c,x=.str z/\y=.int i/\0<=i/\i<2^63/\i<z.length/\z.cps[i.toNat]? =some c/\Q (.str ⟨#[c]⟩) H) ta tb):=by
 intro fw s σ H Q I h;refine amI (abj p g I h λv u A x y m B j n q=>?_);let(z,i,c,rfl,rfl,w,r,o,f,q):=q;let(t,rfl):=j;let(t',rfl):=n;let e:=PySem.StrLaws.seqIndex_nonneg w o
 exact tail_any (akL A z t) slot_str_getitem.lookup (getItem_str (by
  let e1:decide (i < -(2^63))=false:=iR ();let e2:decide (i>=2^63)=false:=iR ();rw[e1,e2]<;>rfl) (by rwa[e]) (.str ⟨#[c]⟩,m,B.tok _,(_,rfl),q)) (hs _ _)
def vals1{x:V}{us:List fy}(r:Vals [x] us):∃u,us=[u]/\RelV x u:=by
 cases r with
 |cons f e=>cases e;exact(_,rfl,f)
def vals2{x y:V}{us:List fy}(r:Vals [x,y] us):∃u e,us=[u,e]/\RelV x u/\RelV y e:=by
 cases r with
 |cons i h=>
  cases h with
  |cons g f=>cases f;exact(_,_,rfl,i,g)
def WA(f:X.calm=true):wA X (.builtin "min") (λxs H Q=>∃i j,xs=[.int i,.int j]/\Q (.int (if j<i then j else i)) H):=by
 intro fw s σ H xs us Q I r h;let(i,j,rfl,q):=h;let(u,g,rfl,(t,rfl),(t',rfl)):=vals2 r;refine min_two_ints (I.ok.hd f) λh' tk k=>(_,H,I.kept k,?_,q);by_cases e:j<i
 .rw[fR e,fR e];exact(_,rfl)
 .rw[fC e,fC e];exact(_,rfl)
def bV:wA X (.type "str") (λxs H Q=>∃i,xs=[.int i]/\i.natAbs.log2<1920/\Q (.str (toString i)) H):=by
 intro fw s σ H xs us Q I r h;let(i,rfl,e,q):=h;let(u,rfl,t,rfl):=vals1 r;exact PySem.P.str_of_int e (.str _,H,I.tok _,(_,rfl),q)
end
structure SD(h:h7)(x dx C:eF)(mA:Str->Option fy):Prop where
 obj:h.get? x=some (ajC C dx)
 ns:h.Ns1 dx mA
 ne:dx≠x
def WQ{h:h7}{i:eF}{g:Str->Option fy}(n:h.Ns1 i g):∃f,h.get? i=some f/\∀name,als name f=some (g name):=by
 let(o,es,v,r,hd,u,_,m):=n;refine(o,r,λname=>?_);let e:=m name;unfold nsFind findBy at e;rw[<- Array.find?_toList]at e;unfold als;rw[hd];dsimp only
 split
 .rename_i y q
  rw[q]at e;exact iY some e
 .rename_i q
  rw[q]at e
  let a:es.toList.any (·.refKey)=false:=by
   rw[List.any_eq_false];intro y j;let(z,t,c):=u y (Array.mem_toList_iff.mp j);simp[DictEntry.refKey,c]
  let p:¬es.toList.any (·.refKey)=true:=by rw[a];exact jT
  rw[fC p];exact iY some e
theorem SD.look{h:h7}{x e C:eF}{c:Str->Option fy}(I:SD h x e C c):∃a,aoi h x (ajC C e) C (some a)/\∀name,als name a=some (c name):=
 let (a,ho,hl):=WQ I.ns
 (a,(I.obj,rfl,rfl,ho),hl)
section
variable{prog:iU}{w:iP}{A:jg}{E:fy->fX->Prop}{s:fX}{K:gI}{x dx C f:eF}{mA:Str->Option fy}{name:Str}{v:fy}
def get_map{a:Bool}{Q:fy->fX->Prop}(X:K.In s.heap)(I:SD s.heap x dx C mA)(g:akp K C name=true)(j:akS K C=true)
  (i:ri K (.ref C) name=some none) (e:mA name=some v) (c:anR v=true) (h:Q v {s with toks:=s.toks+1}):
  wpAny (model prog w) A (getAttr (.ref x) name a) Q E s:=by
 let(n,J,m):=I.look;exact PySem.W.get_value X J (alq g).1 (PySem.W.findObj_own j i rfl (by rw[m,e])) c h
def Zq{pl:Sem Bool}{Q:fy×List fy->fX->Prop}(X:K.In s.heap)(I:SD s.heap x dx C mA)(a:akp K C name=true)
  (e:ri K (.ref C) name=some (some (.ref f))) (c:alY K (.ref f)=true) (i:mA name=none) (h:Q (.ref f,[.ref x]) s):
  wpAny (model prog w) A (getMethod (.ref x) name pl) Q E s:=by
 let(g,J,j):=I.look;exact PySem.W.method_fn X J (alq a).1 (alq a).2 e (xc.mp c) (by show(als name g).map (·.isSome)=some false;rw[j,i];rfl) h
def abb{ns:List Str}{Q:Unit->fX->Prop}(X:K.In s.heap)(I:SD s.heap x dx C mA)
  (hs:ri K (.ref C) "__setattr__"=some (some (.builtin "object.__setattr__"))) (t:alO K C=true) (p:ama K C name=some none) (q:akS K C=true)
  (z:am4 mA ns) (hsz:ns.length<=sizeLine)
  (h:∀h',SD h' x dx C (λy=>if y=name then some v else mA y)->alX dx s.heap h'->Q .unit {s with heap:=h',toks:=s.toks+2}):
  wpAny (model prog w) A (setAttr (.ref x) name v) Q E s:=by
 let(L,J,G):=I.look;refine PySem.W.set_plain X J hs (PySem.W.osa_open X J t p λb=>?_);let(F,n,i):=PySem.W.any_some q;let u:=I.obj;refine kb (pq (kb (kb (aoj u (kb (PySem.W.Looks.here (PySem.W.looks_clsIn X n) ?_))))));rw[i];refine pq (kb (pq (kb ?_)));refine wpAny_nsSet1 I.ns λh' c e=>?_;let(D,B,o,j,m,g):=c.count (PySem.Within.cons name v z);refine kb (wpAny_lookBehind j (by rw[m];exact pastItsLine_dict (jC g (by rw[rN];lia))) ?_);exact pq (h _ ((e.2 _ (Ne.symm I.ne)).trans I.obj,c,I.ne) e)
def YR{R:Result->fX->Prop}{vs:List fy}{kw:List (Str×fy)}(X:K.In s.heap)(e:amb K C=true)
  (a:ri K (.ref C) "__init__"=some (some (.ref f))) (c:aok K (.ref f)=some (.type "function"))
  (h:codeAny (model prog w) (A.under (.builtin "type.__call__" (.ref C::vs,kw))) (.call (.ref f) (.ref (s.heap.objs.size+1)::vs,kw)) (PySem.W.InitBack (s.heap.objs.size+1) R)
   {s with heap:=(s.heap.push Nx).push (ajC C s.heap.objs.size)}):
  codeAny (model prog w) A (.call (.ref C) (vs,kw)) R s:=by
 exact PySem.W.make_core (PySem.W.makes_of X e) (akq X a) (λself=>PySem.W.bind_fn X self c) (.inl rfl) h
end
def lC(f:Str)(v:V):List (Str×V)->List (Str×V)
 |[]=>[(f,v)]
 |(g,x)::r=>if g=f then (g,v)::r else (g,x)::lC f v r
theorem FX(f g:Str)(v:V):∀fs:List (Str×V),(lC f v fs).lookup g=if g=f then some v else fs.lookup g
 |[]=>by
  show ID g [(f,v)]=_;by_cases h:g=f
  .simp_all
  .let hb:=ajI.mpr h;simp only[ID,hb,fC h]
 |(k,x)::r=>by
  let c:=FX f g v r;rw[show lC f v ((k,x)::r)=(if k=f then (k,v)::r else (k,x)::lC f v r) from rfl];by_cases a:k=f
  .rw[fR a];by_cases h:g=k
   .simp_all
   .let hb:=ajI.mpr h;simp only[ID,hb,fC (λe:g=f=>h (e.trans a.symm))]
  .rw[fC a];by_cases h:g=k
   .simp_all
   .let hb:=ajI.mpr h;simp only[ID,hb];exact c
theorem D9(f:Str)(v:V):∀fs:List (Str×V),f∈(lC f v fs).map (·.1)/\∀g,g∈fs.map (·.1)->g∈(lC f v fs).map (·.1)
 |[]=>(by simp[lC],λg h=>by simp at h)
 |(k,x)::r=>by
  let(i,c):=D9 f v r;rw[show lC f v ((k,x)::r)=(if k=f then (k,v)::r else (k,x)::lC f v r) from rfl];by_cases a:k=f
  .rw[fR a];grind
  .rw[fC a];refine(?_,λg h=>?_)
   .exact mf _ i
   .rcases oT.mp h with e|e
    .exact oT.mpr (.inl e)
    .exact mf _ (c g e)
theorem FY(f:Str)(v:V):∀fs:List (Str×V),(lC f v fs).length<=fs.length+1
 |[]=>by simp[lC]
 |(k,x)::r=>by
  let c:=FY f v r;rw[show lC f v ((k,x)::r)=(if k=f then (k,v)::r else (k,x)::lC f v r) from rfl];by_cases a:k=f
  .rw[fR a,rN,rN];lia
  simp_all
def zU.some_of{v:V}{o:Option fy}(r:zU (some v) o):∃u,o=some u/\RelV v u:=by
 cases o with
 |none=>exact(show False from r).elim
 |some u=>exact(u,rfl,r)
def zU.none_of{o:Option fy}(r:zU none o):o=none:=by
 cases o with
 |none=>rfl
 |some u=>exact(show False from r).elim
def WW{v:V}{u:fy}(r:RelV v u):anR u=true:=by
 cases v with
 |non=>cases (show u=ako from r);rfl
 |bl b=>cases (show u=alS b from r);rfl
 |int i=>let(t,e):=(show ∃t,u=Sl i t from r);cases e;rfl
 |str x=>let(t,e):=(show ∃t,u=Pc x t from r);cases e;rfl
 |byt b=>let(t,e):=(show ∃t,u=aoK b t from r);cases e;rfl
 |flt b=>let(t,e):=(show ∃t,u=aoL b t from r);cases e;rfl
 |ref a=>cases (show u=nk a from r);rfl
 |ty n=>cases (show u=alT n from r);rfl
section
variable{P:iU}{w:iP}{H H':Hp}{h h':h7}{a C dx:eF}{fs fs':List (Str×V)}
def OY(hok:mT P w H h)(e:H a=some (.ins C dx fs)):∃c,SD h a dx C c/\(∀f,zU (fs.lookup f) (c f))/\am4 c (fs.map (·.1))/\fs.length<=1000/\H dx=some (.own a):=by
 let(d,z,ne,g,c,n,r,q):=(show gw P w H h a (.ins C dx fs) from hok a _ e);exact(c,(g,n,ne),r,q,z,d)
end
structure rz(K:gI)(C:eF):Prop where
 pg:akp K C aly=true
 hd:akS K C=true
 po:alO K C=true
 sa:ri K (.ref C) "__setattr__"=some (some (.builtin "object.__setattr__"))
theorem rz.get{K:gI}{C:eF}(c:rz K C)(f:Str):akp K C f=true:=c.pg
def bw(K:gI)(C:eF)(f:Str):Prop:=ri K (.ref C) f=some none
def bw.af9{K:gI}{C:eF}{f:Str}(n:bw K C f):ama K C f=some none:=by
 unfold ama;rw[show ri K (.ref C) f=some none from n]
 rfl
structure Meth(K:gI)(C:eF)(m:Str)(f:eF):Prop where
 at_:ri K (.ref C) m=some (some (.ref f))
 fn:alY K (.ref f)=true
 kp:Nb K (.ref f)=true
section
variable{X:Cx}{fw:List (eF×Obj)}{σ:St}{H:Hp}{s:fX}{a C dx:eF}{fs:List (Str×V)}{f:Str}{v:V}{A:jg}{E:fy->fX->Prop}
def JD{b:Bool}{Q:fy->fX->Prop}(I:Inv X fw σ H s)(e:H a=some (.ins C dx fs))(c:rz X.K C)(n:bw X.K C f)(l:fs.lookup f=some v)
  (h:∀u i,Inv X fw σ H i->RelV v u->Q u i):wpAny (model X.prog X.w) A (getAttr (.ref a) f b) Q E s:=by
 let(m,O,r,_,_,_):=OY I.hok e;let(u,j,g):=zU.some_of (by rw[<- l];exact r f);exact get_map I.ry O (c.get f) c.hd n j (WW g) (h u _ (I.tok _) g)
def JK{m:Str}{g:eF}{pl:Sem Bool}{Q:fy×List fy->fX->Prop}(I:Inv X fw σ H s)(e:H a=some (.ins C dx fs))(c:rz X.K C)(k:Meth X.K C m g)(l:fs.lookup m=none)
  (h:Q (.ref g,[.ref a]) s):wpAny (model X.prog X.w) A (getMethod (.ref a) m pl) Q E s:=by
 let(j,O,r,_,_,_):=OY I.hok e;let i:=zU.none_of (by rw[<- l];exact r m);exact Zq I.ry O (c.get m) k.at_ k.fn i h
def HU{y:V}{u:fy}{Q:Unit->fX->Prop}(I:Inv X fw σ H s)(e:H a=some (.ins C dx fs))(c:rz X.K C)(n:bw X.K C f)(L:fs.length<1000)(F:RelV y u)
  (h:∀j,Inv X fw σ (upd H a (.ins C dx (lC f y fs))) j->Q .unit j):wpAny (model X.prog X.w) A (setAttr (.ref a) f u) Q E s:=by
 let(p,O,r,m,_,t):=OY I.hok e;let B:(fs.map (·.1)).length<=sizeLine:=by rw[gQ,LQ];lia
 refine abb I.ry O c.sa c.po n.af9 c.hd m B λh' i J=>h _ ?_;let hd:∃o,h'.get? dx=some o:=let (o,_,_,e',_):=i.ns;(o,e');refine I.write (by rw[e];exact ajN) (.inr t) (λb q D z=>(J.2 b D).trans z) hd ?_;refine(by rw[ag O.ne];exact t,?_,O.ne,i.obj,_,i.ns,λg=>?_,λg G=>?_)
 .let:=FY f y fs;lia
 .rw[FX];by_cases q:g=f
  .rwa[fR q,fR q]
  simp_all
 .by_cases q:g=f
  .rw[q];exact(D9 f y fs).1
  .refine (D9 f y fs).2 g (m g λz=>G ?_);show(if g=f then some u else p g)=none;rwa[fC q]
def Inv.made(I:Inv X fw σ H s):Inv X fw σ (upd (upd H s.heap.objs.size (.own (s.heap.objs.size+1))) (s.heap.objs.size+1) (.ins C s.heap.objs.size []))
  {s with heap:=(s.heap.push Nx).push (ajC C s.heap.objs.size)}:=by
 let e1:(s.heap.push Nx).get? s.heap.objs.size=some Nx:=rX s.heap rfl
 let e2:=by
  let:=rX (s.heap.push Nx) (o:=ajC C s.heap.objs.size) rfl;rwa [akh]at this
 let e3:(s.heap.push Nx).Ns s.heap.objs.size (λ_=>none):=(Nx,#[],_,e1,rfl,(λe h=>absurd h (by simp)),λ_=>rfl);let g:=I.laid (o:= .own (s.heap.objs.size+1)) (t':=s.toks) (λb u q=>nr _ q) (gx _) (_,e1);refine g.laid (λb u q=>nr _ q) (am8 (akh _ _)) ?_;let ne:s.heap.objs.size≠s.heap.objs.size+1:=me (Ji _);refine(by rw[ag ne,ae],qj _,ne,e2,λ_=>none,(Heap.Ns1.of_empty e3).at λo q=>nr _ q,λ_=>ajN,λy c=>absurd rfl c)
theorem aca{prog:iU}{w:iP}{env:Env}{e:hH}{f:Str}{g:Pos}{s:fX}{Q:fy->fX->Prop}(i:attributeBase e f env (eval e env)=eval e env)
  (h:wpAny (model prog w) A (eval e env) (λo c=>wpAny (model prog w) A (getAttr o f true) Q E c) E s):wpAny (model prog w) A (eval (.Attribute e f g) env) Q E s:=
 Attribute_any_ h (by rw[arm_eval_Attribute,i])
end
def af4(K:gI)(e:TE)(f:Str):TE:=λσ H Q=>e σ H λx c=>∃a C g fs v,x=.ref a/\c a=some (.ins C g fs)/\rz K C/\bw K C f/\fs.lookup f=some v/\Q v c
def afH(K:gI)(g i:TE)(f:Str):TS:=λD σ H=>i σ H λy h=>g σ h λx c=>∃a C e fs,x=.ref a/\c a=some (.ins C e fs)/\rz K C/\bw K C f/\fs.length<1000∧
 D.nx σ (upd c a (.ins C e (lC f y fs)))
def aeB(X:Cx)(a:anQ)(rd:V->V->Hp->VK->Prop):Prop:=
 ∀(fw:List (eF×Obj)) (s:fX) (σ:St) (H:Hp) (x y:V) (u v:fy) (Q:VK),Inv X fw σ H s->RelV x u->RelV y v->rd x y H Q->wpAny (model X.prog X.w) X.A (inplaceOp a u v) (EP X fw σ Q) X.xe s
def abN(K:gI)(i j:TE)(rd:V->V->Hp->VK->Prop)(f:Str):TS:=λD σ H=>i σ H λx g=>∃a C m fs v,x=.ref a/\g a=some (.ins C m fs)/\rz K C/\bw K C f/\fs.lookup f=some v∧
 j σ g λy n=>rd v y n λz h=>∃e c,h a=some (.ins C e c)/\c.length<1000/\D.nx σ (upd h a (.ins C e (lC f z c)))
section
variable{X:Cx}{o e value:hH}{f:Str}{pos pos' tpos:Pos}{ta tv:TE}
def av(y:PE X e ta)(j:attributeBase e f X.env (eval e X.env)=eval e X.env):PE X (.Attribute e f pos) (af4 X.K ta f):=by
 intro fw s σ H Q I h;refine aca j (y.th I h λu D x g t m i=>?_);let(a,C,B,fs,v,ex,r,c,n,l,q):=i;subst ex;obtain rfl:u=nk a:=m;exact JD t r c n l λz A w p=>(v,g,w,p,q)
def aJ(r:PE X o ta)(i:PE X value tv)(hs:swapsWith value (some (.Attribute o f pos')) pos.line X.env=pure false):PS X (.Assign [.Attribute o f pos'] value pos) (afH X.K ta tv f):=by
 intro fw s σ H D I h;refine plainObj_wpAny_Assign_Attribute (i.th I h λu J y B w p q=>r.th w q λj F x E z m g=>?_) hs;let(a,C,G,fs,ex,t,c,n,l,v):=g;subst ex;obtain rfl:j=nk a:=m;exact HU z t c n l p λL A=>(σ,_,A,v)
def zH{m:anQ}{rd:V->V->Hp->VK->Prop}(Q:PE X o ta)(r:PE X value tv)(g:aeB X m rd):PS X (.AugAssign (.Attribute o f tpos) m value pos) (abN X.K ta tv rd f):=by
 intro fw s σ H D I h;refine wpAny_AugAssign_AttributeAny (Q.th I h λJ s1 x W S M i=>?_);let(a,C,dx,fs,v,ex,A,c,n,l,q):=i;subst ex;obtain rfl:J=nk a:=M;refine JD S A c n l λu Y T w=>r.th T q λB U y N E O P=>thE (g fw U σ N v y u B _ E w O P) λw4 Z z H3 G t i=>?_;let(L,R,j,l',F):=i;exact HU G j c n l' t λs5 p=>(σ,_,p,F)
def ag9:V->V->Hp->VK->Prop:=λx y H Q=>∃i j,x=.int i/\y=.int j/\Q (.int (i+j)) H
def ag4:V->V->Hp->VK->Prop:=λx y H Q=>∃i j,x=.int i/\y=.int j/\Q (.int (i-j)) H
def Zy:aeB X .Add ag9:=by
 rintro fw s σ H x y u v Q I a c ⟨i,j,rfl,rfl,q⟩;let(t,rfl):=(show ∃t,u=Sl i t from a);let(t',rfl):=(show ∃t',v=Sl j t' from c);exact PyProof.Rows.iadd_int (.int (i+j),H,I.tok _,(_,rfl),q)
def X1:aeB X .Sub ag4:=by
 rintro fw s σ H x y u v Q I a c ⟨i,j,rfl,rfl,q⟩;let(t,rfl):=(show ∃t,u=Sl i t from a);let(t',rfl):=(show ∃t',v=Sl j t' from c);exact PyProof.Rows.isub_int (.int (i-j),H,I.tok _,(_,rfl),q)
end
section
variable{X:Cx}{fw:List (eF×Obj)}{σ:St}{H:Hp}{s:fX}{A:jg}{E:fy->fX->Prop}{Q:fy->fX->Prop}{c:fy}{b:Bool}
end
structure eT(cm:Bool)(k:Nat)(A:jg):Prop where
 hd:cm=true->A.handled=none
 dp:A.depth+3*k+5<recursionLimit
 un:A.units+16*k+200<cLine
theorem eT.mono{j k:Nat}{A:jg}(r:eT cm k A)(h:j<=k):eT cm j A:=(r.hd,by let:=r.dp;lia,by let:=r.un;lia)
theorem eT.deeper{k:Nat}{A:jg}(r:eT cm (k+1) A)(env:Env):eT cm k (A.deeper env):=
 (r.hd,by let:=r.dp;show A.depth+1+3*k+5<_;lia,by let:=r.un;show A.units+3+16*k+200<_;lia)
def RU{A:jg}{C:eF}{us:List fy}{kw:List (Str×fy)}:(A.under (.builtin "type.__call__" (.ref C::us,kw))).depth=A.depth+1:=by
 rfl
def Ry{A:jg}{C:eF}{us:List fy}{kw:List (Str×fy)}:(A.under (.builtin "type.__call__" (.ref C::us,kw))).units=A.units+1:=by
 rfl
theorem eT.make{k:Nat}{A:jg}(r:eT cm (k+1) A)(C:eF)(us:List fy)(kw:List (Str×fy)):eT cm k (A.under (.builtin "type.__call__" (.ref C::us,kw))):=
 (r.hd,by let:=r.dp;rw[RU];lia,by let:=r.un;rw[Ry];lia)
def eT.depth{k:Nat}{A:jg}(r:eT cm k A):A.depth<recursionLimit:=by let:=r.dp;lia
def eT.units{k:Nat}{A:jg}(r:eT cm k A):A.units+64<cLine:=by let:=r.un;lia
def Vg:TA:=λ_ H Q=>Q [] H
def ade(a:TE)(c:TA):TA:=λσ H Q=>a σ H λx e=>c σ e λxs f=>Q (x::xs) f
section
variable{X:Cx}{e:hH}{es:List hH}{te:TE}{t:TA}{pos:Pos}
theorem bQ:PA X [] Vg:=λ_ _ _ _ H Q I h=>Calls.spliced_nil ([],H,I,.nil,h)
def TQ(i:PE X e te)(g:PA X es t)(hs:autoParam (starEach (e::es) X.env=(false,eval e X.env)::starEach es X.env) L2.aE._auto_1):PA X (e::es) (ade te t):=by
 intro pos fw s σ H Q I h;rw[hs];refine Calls.spliced_cons (i.th I h λu m x a p c o=>?_);exact thA (g pos fw m σ a _ p o) λus r xs f q n j=>(x::xs,f,q,.cons c n,j)
def ag2(t:TA):TE:=λσ H Q=>t σ H λxs a=>xs.length<=sizeLine/\∀p,a p=none->Q (.ref p) (upd a p (.tup xs))
def agQ(t:TA):TE:=λσ H Q=>t σ H λxs a=>xs.length<=sizeLine/\∀p,a p=none->Q (.ref p) (upd a p (.lst xs))
def xB{g}(h:PA X es t):PE X (.Tuple es g pos) (ag2 t):=by
 intro fw s σ H Q I j;refine wpAny_Tuple_spliced (h.th I j λus a xs c f r (z,q)=>(by rwa[<- r.length],?_));let i:=f.hok.fresh (gx _);refine(.ref a.heap.objs.size,upd c a.heap.objs.size (.tup xs),f.laid (λb u e=>nr _ e) (gx _) ?_,rfl,q _ i);exact(z,us,r,(_,rX _ rfl,rfl,_,rfl))
def aP(h:PA X es t):PE X (.List es pos) (agQ t):=by
 intro fw s σ H Q I i;refine wpAny_List_spliced (h.th I i λus a xs c f r (z,q)=>(by rwa[<- r.length],?_));let g:=f.hok.fresh (gx _);refine(.ref a.heap.objs.size,upd c a.heap.objs.size (.lst xs),f.laid (λb u e=>nr _ e) (gx _) ?_,rfl,q _ g);exact(z,us,0,r,rX _ rfl)
end
abbrev Sp:=List V->Hp->VK->XK->Prop
abbrev wH:=List Env->Hp->fX->XK->fy->fX->Prop
structure R7(P:iU)(w:iP)(K:gI)(mg:Str->Option fy)(eC:h7)(A:jg)(fM:List Env)(s:fX)(H:Hp):Prop where
 frames:A.frames=some fM
 mod:Mod K mg eC
 bs:∀b o,eC.get? b=some o->s.heap.get? b=some o/\H b=none
 bsz:eC.objs.size<=s.heap.objs.size
 yC:s.heap.FunFrames eC fM
 frf:∀b∈vr fM,H b=none
 hok:mT P w H s.heap
 bare:L1 s.gens
def CE(fM:List Env)(P:iU)(w:iP)(H:Hp)(s:fX)(Q:VK)(u:fy)(a:fX):Prop:=
 ∃v H',a.os=s.os/\L1 a.gens/\Un (vr fM) [] H H' s.heap a.heap/\mT P w H' a.heap/\RelV v u/\Q v H'
def CR(CX:wH)(fM:List Env)(P:iU)(w:iP)(H:Hp)(s:fX)(Q:VK)(E:XK)(r:Result)(a:fX):Prop:=
 match r with
 |.ok (.ret u)=>CE fM P w H s Q u a
 |.ok _=>False
 |.error e=>CX fM H s E e a
structure aD(P:iU)(w:iP)(K:gI)(mg:Str->Option fy)(eC:h7)(CX:wH)(cm:Bool)(k:Nat)(f:eF)(fd:pG)(ps:List Str)(sp:Sp):Prop where
 len:∀vs H Q E,sp vs H Q E->vs.length=ps.length
 run:∀(A:jg) (fM:List Env) (s:fX) (H:Hp) (args:Args) (us:List fy) (vs:List V) (Q:VK) (E:XK),eT cm k A->R7 P w K mg eC A fM s H->alW s fd args (ps.zip us)->Vals vs us->sp vs H Q E→
  codeAny (model P w) A (.call (.ref f) args) (CR CX fM P w H s Q E) s
theorem aD.mono{P:iU}{w:iP}{K:gI}{mg:Str->Option fy}{eC:h7}{CX:wH}{j k:Nat}{f:eF}{fd:pG}{ps:List Str}{sp:Sp}(F:wP CX cm j f fd ps sp)(h:j<=k):
  wP CX cm k f fd ps sp:=(F.len,λA fM s H args us vs Q E a=>F.run A fM s H args us vs Q E (a.mono h))
theorem aD.imp{P:iU}{w:iP}{K:gI}{mg:Str->Option fy}{eC:h7}{CX:wH}{k:Nat}{f:eF}{fd:pG}{ps:List Str}{sp a:Sp}(F:wP CX cm k f fd ps sp)
  (h:∀vs H Q E,a vs H Q E->sp vs H Q E):wP CX cm k f fd ps a:=
 (λvs H Q E q=>F.len vs H Q E (h _ _ _ _ q),λA fM s H args us vs Q E g i e c hs=>F.run A fM s H args us vs Q E g i e c (h _ _ _ _ hs))
theorem R7.make{P:iU}{w:iP}{K:gI}{mg:Str->Option fy}{eC:h7}{A:jg}{fM:List Env}{s:fX}{H:Hp}(e:R7 P w K mg eC A fM s H)(C:eF)(us:List fy)(kw:List (Str×fy)):
  R7 P w K mg eC (A.under (.builtin "type.__call__" (.ref C::us,kw))) fM s H:=(by first|exact e.frames|(simpa[am9,Code.envs,ana,pushEnvs] using e.frames),e.mod,e.bs,e.bsz,e.yC,e.frf,e.hok,e.bare)
section
variable{X:Cx}{fw:List (eF×Obj)}{σ:St}{H:Hp}{s s':fX}
theorem Inv.agl(I:Inv X fw σ H s):R7 X.prog X.w X.K X.mg X.eC X.A X.stack s H:=
 (I.ok.frames,I.ok.mod,I.bs,jC I.ok.bsz I.sz,I.stack,I.Np,I.hok,I.bare)
def Inv.after{Q:VK}{u:fy}(I:Inv X fw σ H s)(h:CE X.stack X.prog X.w H s Q u s'):EP X fw σ Q u s':=by
 let(v,H',os,bare,un,hok,r,q):=h;let(c,g,d,t,a):=s';obtain rfl:a=s.os:=os;exact(v,H',I.call un hok bare (λb z=>absurd z (by simp)),r,q)
end
def Pn(sp:Sp)(a:List V)(E:St->XK)(t:TA):TE:=λσ H Q=>t σ H λvs c=>sp (vs++a) c Q (E σ)
def UX(C:eF)(sp:Sp)(e:List V)(E:St->XK)(t:TA):TE:=λσ H Q=>t σ H λvs c=>∀x a,c x=none->c a=none->a≠x→
 sp (.ref x::(vs++e)) (upd (upd c a (.own x)) x (.ins C a [])) (λv f=>v=.non/\Q (.ref x) f) (E σ)
def Binds(K:gI)(fd:pG)(ps:List Str)(ds:List fy):Prop:=
 ∀(s:fX) (us:List fy),K.In s.heap->(us++ds).length=ps.length->alW s fd (us,[]) (ps.zip (us++ds))
theorem Binds.all{K:gI}{fd:pG}{ps:List Str}(h:∀us:List fy,us.length=ps.length->bindArgs fd (us,[])=pure (ps.zip us)):Binds K fd ps []:=λs us _ a=>by
 rw[ov]at a ⊢;exact .of_eq (h us a)
def Passes(CX:wH)(X:Cx)(E:St->XK):Prop:=∀(fw:List (eF×Obj)) (σ:St) (H:Hp) (s:fX) (e:fy) (a:fX),Inv X fw σ H s->CX X.stack H s (E σ) e a->X.xe e a
section
variable{X:Cx}{CX:wH}{k:Nat}{f C:eF}{fd:pG}{ps:List Str}{sp:Sp}{mx:List V}{ds:List fy}{E:St->XK}{x m:Str}{p pos apos:Pos}{e o:hH}{es:List hH}{ta:TE}{t:TA}
def NI{fw:List (eF×Obj)}{σ:St}{H:Hp}{s:fX}{Q:VK}{us:List fy}{vs:List V}(F:aD X.prog X.w X.K X.mg X.eC CX cm k f fd ps sp)(q:eT cm k X.A)(j:Binds X.K fd ps ds)(hd:Vals mx ds)(v:Passes CX X E)
  (I:Inv X fw σ H s) (r:Vals vs us) (h:sp (vs++mx) H Q (E σ)):wpAny (model X.prog X.w) X.A (call (.ref f) us) (EP X fw σ Q) X.xe s:=by
 let c:=r.append hd;let i:(us++ds).length=ps.length:=by rw[<- c.length];exact F.len _ _ _ _ h
 refine an2 (akD (F.run X.A X.stack s H (us,[]) (us++ds) (vs++mx) Q (E σ) q I.agl (j s us I.ry i) c h) λr g a=>?_);cases r with
 |error e=>exact v fw σ H s e g I a
 |ok n=>
  cases n with
  |ret u=>exact I.after a
  |next=>exact DA a
  |brk=>exact DA a
  |cont=>exact DA a
def abl(F:aD X.prog X.w X.K X.mg X.eC CX cm k f fd ps sp)(j:eT cm k X.A)(v:Gl X x)(y:X.mg x=some (.ref f))(z:Nb X.K (.ref f)=true)(i:Binds X.K fd ps ds)(hd:Vals mx ds)(u:Passes CX X E)
  (n:PA X (e::es) t) (a:(x==("__debug__":Str))=false:=by decide) (B:starEach (e::es) X.env=(false,eval e X.env)::starEach es X.env:=by rfl) (c:(backTo pos (starEach es X.env)).any (·.1)=false:=by rfl):
  PE X (.Call (.Name x p) (e::es) [] pos) (Pn sp mx E t):=by
 intro fw s σ H Q I h;refine aj8 (zA I v y ?_ a);refine akE I.ok.mod.kin z (n.th I h λus G vs D g r q=>(g.ry,?_)) B c;exact NI F j i hd u g r q
structure Mk(K:gI)(C f:eF):Prop where
 makes:amb K C=true
 init:ri K (.ref C) "__init__"=some (some (.ref f))
 fn:alY K (.ref f)=true
 kp:Nb K (.ref C)=true
def Q7{fw:List (eF×Obj)}{σ:St}{H:Hp}{s:fX}{Q:VK}{us:List fy}{vs:List V}(M:Mk X.K C f)(F:aD X.prog X.w X.K X.mg X.eC CX cm k f fd ps sp)(J:eT cm (k+1) X.A)(q:Binds X.K fd ps ds)(hd:Vals mx ds)
  (N:Passes CX X E) (I:Inv X fw σ H s) (r:Vals vs us)
  (h:∀x c,H x=none->H c=none->c≠x->sp (.ref x::(vs++mx)) (upd (upd H c (.own x)) x (.ins C c [])) (λv G=>v=.non/\Q (.ref x) G) (E σ)):
  wpAny (model X.prog X.w) X.A (call (.ref C) us) (EP X fw σ Q) X.xe s:=by
 let j:=h (s.heap.objs.size+1) s.heap.objs.size (I.hok.fresh (LM _)) (I.hok.fresh (gx _)) (me (Ji _));let g:=Inv.made (C:=C) I;let i:Vals (V.ref (s.heap.objs.size+1)::(vs++mx)) (nk (s.heap.objs.size+1)::(us++ds)):= .cons rfl (r.append hd)
 let y:=by
  let e:=i.length;rw[F.len _ _ _ _ j]at e;exact e.symm
 refine an2 (YR I.ry M.makes M.init (xc.mp M.fn) (akD (F.run _ X.stack _ _ (nk (s.heap.objs.size+1)::us,[]) (nk (s.heap.objs.size+1)::(us++ds)) _ _ (E σ) (J.make C us [])
  (g.agl.make C us []) (q _ (nk (s.heap.objs.size+1)::us) g.ry y) i j) λr z a=>?_))
 cases r with
 |error e=>exact N fw σ _ _ e z g a
 |ok B=>
  cases B with
  |ret u=>
   let(v,H',O,L,n,D):=g.after a;subst n;exact(L,(V.ref (s.heap.objs.size+1),H',O,rfl,D))
  |next=>exact DA a
  |brk=>exact DA a
  |cont=>exact DA a
def ab7(M:Mk X.K C f)(F:aD X.prog X.w X.K X.mg X.eC CX cm k f fd ps sp)(j:eT cm (k+1) X.A)(v:Gl X x)(y:X.mg x=some (.ref C))(i:Binds X.K fd ps ds)(hd:Vals mx ds)(u:Passes CX X E)
  (n:PA X (e::es) t) (a:(x==("__debug__":Str))=false:=by decide) (z:starEach (e::es) X.env=(false,eval e X.env)::starEach es X.env:=by rfl) (c:(backTo pos (starEach es X.env)).any (·.1)=false:=by rfl):
  PE X (.Call (.Name x p) (e::es) [] pos) (UX C sp mx E t):=by
 intro fw s σ H Q I h;refine aj8 (zA I v y ?_ a);refine akE I.ok.mod.kin M.kp (n.th I h λus D vs B g r q=>(g.ry,?_)) z c;exact Q7 M F j i hd u g r q
def X0(M:Mk X.K C f)(F:aD X.prog X.w X.K X.mg X.eC CX cm k f fd ps sp)(i:eT cm (k+1) X.A)(j:Gl X x)(g:X.mg x=some (.ref C))(n:Binds X.K fd ps ds)(hd:Vals mx ds)(c:Passes CX X E)
  (a:(x==("__debug__":Str))=false:=by decide):PE X (.Call (.Name x p) [] [] pos) (UX C sp mx E Vg):=by
 intro fw s σ H Q I h;refine aj8 (zA I j g ?_ a);exact amT I.ry M.kp (Q7 M F i n hd c I .nil h)
end
section
variable{X:Cx}{CX:wH}{k:Nat}{f C:eF}{fd:pG}{ps ks:List Str}{sp:Sp}{E:St->XK}{x m:Str}{p pos apos kpos:Pos}{e o:hH}{es:List hH}{kws:List anv}{te ta:TE}{t tk:TA}{nm:Option Str}
variable{g:List fy->List fy->List fy}{gV:List V->List V->List V}
end
structure ar(N P:List Str)(sc:uf):Prop where
 kind:sc.kind=.function
 co:sc.isCoroutine=false
 gen:sc.isGenerator=false
 nd:N.Nodup
 pre:N.take P.length=P
 par:∀x∈P,sc.names.lookup x=some .local\/sc.names.lookup x=some .cell
 adE:∀y∈sc.names,y.2≠ .free
def Mp{a:Str->Option ak1}{x:Str}:∀{binds:List (Str×fy)} {m:Str->Option fy},(∀v,(x,v)∉binds)->bindL a binds m x=m x
 |[],_,_=>rfl
 |(n,v)::r,m,h=>by
  unfold bindL;rw[Mp λw c=>h w (mf _ c)]
  split
  .let:x≠n:=by rintro rfl;exact h v lq
   simp[this]
  .rfl
def L5{a:Str->Option ak1}{x:Str}:∀{binds:List (Str×fy)} {m:Str->Option fy},(∀v,(x,v)∉binds)->bindC a binds m x=m x
 |[],_,_=>rfl
 |(n,v)::r,m,h=>by
  unfold bindC;rw[L5 λw c=>h w (mf _ c)]
  split
  .rfl
  .let:x≠n:=by rintro rfl;exact h v lq
   simp[this]
theorem LP{a:Str->Option ak1}{x:Str}{v:fy}:∀{P:List Str} {vs:List fy} {i:Nat} {m:Str->Option fy},P.Nodup->P[i]? =some x->vs[i]? =some v->a x=some .local→
  bindL a (P.zip vs) m x=some v
 |[],_,_,_,_,h,_,_=>by simp at h
 |_::_,[],_,_,_,_,h,_=>by simp at h
 |p::P,w::vs,0,m,nd,h1,h2,hk=>by
  simp at h1 h2;subst h1;subst h2;show bindL a ((p,w)::P.zip vs) m p=_;unfold bindL;rw[Mp λv c=>(ala.mp nd).1 (amc c).1,fR hk];simp
 |p::P,w::vs,i+1,m,nd,h1,h2,hk=>by
  show bindL a ((p,w)::P.zip vs) m x=_;exact LP (ala.mp nd).2 (by simpa using h1) (by simpa using h2) hk
theorem Lx{a:Str->Option ak1}{x:Str}{v:fy}:∀{P:List Str} {vs:List fy} {i:Nat} {m:Str->Option fy},P.Nodup->P[i]? =some x->vs[i]? =some v->a x≠some .local→
  bindC a (P.zip vs) m x=some v
 |[],_,_,_,_,h,_,_=>by simp at h
 |_::_,[],_,_,_,_,h,_=>by simp at h
 |p::P,w::vs,0,m,nd,h1,h2,hk=>by
  simp at h1 h2;subst h1;subst h2;show bindC a ((p,w)::P.zip vs) m p=_;unfold bindC;rw[L5 λv c=>(ala.mp nd).1 (amc c).1,fC hk];simp
 |p::P,w::vs,i+1,m,nd,h1,h2,hk=>by
  show bindC a ((p,w)::P.zip vs) m x=_;exact Lx (ala.mp nd).2 (by simpa using h1) (by simpa using h2) hk
def start(N:List Str)(vs:List V):St:=vs.map some++ko (N.length-vs.length) none
def w9(cm:Bool)(CX:wH)(P:iU)(w:iP)(K:gI)(mg:Str->Option fy)(eC:h7)(N:List Str)(a:Str)(scope:uf)(f:eF)(g:fy)(A:jg)(fM:List Env)(s:fX)(H:Hp)(E:XK):Cx where
 prog:=P
 w:=w
 K:=K
 mg:=mg
 eC:=eC
 A:=A.deeper (envOfC a scope s.heap.objs.size f g)
 N:=N
 s₀:=s
 H₀:=H
 env:=envOfC a scope s.heap.objs.size f g
 fM:=fM
 stack:=envOfC a scope s.heap.objs.size f g::fM
 ex:=[]
 calm:=cm
 fn:=λ_=>true
 pn:=[]
 xe:=λe h=>wpAny (model P w) (A.deeper (envOfC a scope s.heap.objs.size f g)) (leaving (envOfC a scope s.heap.objs.size f g) e) (λ_ c=>CX fM H s E e c) (λi c=>CX fM H s E i c) h
def PX{a:uf}{n:Nat}{x:Str}(h:a.names.lookup x=some .cell):∃c,(cellsFrom n a.names []).lookup x=some c:=by
 let q:=aml a.names n [] (.inl h);exact Option.isSome_iff_exists.mp q
def VG{CX:wH}{P:iU}{w:iP}{K:gI}{mg:Str->Option fy}{eC:h7}{N ps:List Str}{g:Str}{scope:uf}{f:eF}{D:fy}{A:jg}{fM:List Env}{s I:fX}{H:Hp}{E:XK}{us:List fy}{vs:List V}
  (S:ar N ps scope) (hd:cm=true->A.handled=none) (m:R7 P w K mg eC A fM s H) (T:vs.length=ps.length) (r:Vals vs us)
  (x:InCallC s s.heap.objs.size (bindL (envOfC g scope s.heap.objs.size f D).kindOf (ps.zip us) λ_=>none) (cellsFrom (s.heap.objs.size+1) scope.names []) (bindC (envOfC g scope s.heap.objs.size f D).kindOf (ps.zip us) λ_=>none) I):
  Inv (w9 cm CX P w K mg eC N g scope f D A fM s H E) [] (start N vs) H I:=by
 let Q:ps.length<=N.length:=by let:=iY List.length S.pre;rw[ve]at this;lia
 let(F,tk,rfl,J):=x.done;let t:∀b,b∉(w9 cm CX P w K mg eC N g scope f D A fM s H E).ex:=λb z=>absurd (show b∈([]) from z) (by simp)
 refine((m.mod,S.kind,rfl,rfl,gx _,λy z c F j=>?_,λy o=>?_,λy c _ h=>?_,hd,Around.frames_deeper m.frames,.inr (rfl,rfl),λb z=>absurd z (t b),m.bs,m.bsz,λb _ _=>t b,λb z=>absurd z (t b),m.yC,m.frf),
  rfl,m.bare,Un.kept J,(_,x.toInCall.ns,λi y v F j R=>?_),λy c h=>(_,x.cell y c h),m.hok.fresh (gx _),λy c h=>?_,λp B=>absurd (show p∈([]) from B) (by simp),m.hok.kept J,?_)
 .exact name_of_addr x.apart (ajq F) (ajq j)
 .rcases o with o|o
  .exact PX o
  .exact absurd rfl (S.adE _ (ajq o))
 .exact vC (x.above y c (ajq h))
 .let G:i<vs.length:=by
   unfold start at j;by_cases G:i<vs.length
   .exact G
   .rw[FZ (by simpa using G)]at j;rw[List.getElem?_replicate]at j
    simp_all
  let O:vs[i]? =some v:=by
   unfold start at j;rw[zW (by simpa using G)]at j;simp_all
  let(u,L,M):=r.get O
  let B:ps[i]? =some y:=by
   rwa[<- S.pre,alZ ()]
  let C:ps.Nodup:=by rw[<- S.pre];exact S.nd.sublist (List.take_sublist _ _)
  refine(u,M,?_);rcases S.par y (JO B) with k|k
  .exact .inl (k,LP C B L k)
  .let(c,e):=PX k;refine .inr (.inl k,c,e,?_);let q:=x.cell y c e;rw[Lx C B L (by show scope.names.lookup y≠_;rw[k];decide)]at q;exact q
 .exact m.hok.fresh (vC (x.above y c (ajq h)))
 .unfold start;show _=N.length;rw[jm,gQ,NC]
  lia
def agL{CX:wH}{P:iU}{w:iP}{K:gI}{mg:Str->Option fy}{eC:h7}{k:Nat}{f:eF}{name a:Str}{g:Arguments}{h:List gF}{scope:uf}{U kV z Z c ct oc:fy}{Y od:Option eF}
  {O:Array (Option fy)} {N ps:List Str} {sp:Sp} (lk:K.lookup f=some (oc,od,.func (GI name a g h scope U kV z Z Y c ct),O)) (L:alu K c a=true) (S:ar N ps scope)
  (len:∀vs H Q E,sp vs H Q E->vs.length=ps.length)
  (m:∀(A:jg) (fM:List Env) (s:fX) (H:Hp) (vs:List V) (Q:VK) (E:XK),eT cm k (A.deeper (envOfC a scope s.heap.objs.size f c))->sp vs H Q E→
   ∃t,nN (w9 cm CX P w K mg eC N a scope f c A fM s H E) h t/\t {nx:=λ_ H'=>Q .non H',rt:=Q} (start N vs) H):
  wP CX cm (k+1) f (GI name a g h scope U kV z Z Y c ct) ps sp:=by
 refine(len,λA fM s H args us vs Q E F C hb r B=>?_);let hl:=len _ _ _ _ B;let R:=C.mod.kin.keeps λb o e=>(C.bs b o e).1;let M:=C.mod.nolimit.keeps λb o e=>(C.bs b o e).1
 let j:∀y∈ps.zip us,scope.names.lookup y.1=some .local\/(scope.names.lookup y.1=some .cell/\((cellsFrom (s.heap.objs.size+1) scope.names []).lookup y.1).isSome=true):=λ(n,v) hy=>by
  rcases S.par n (amc hy).1 with q|q
  .exact .inl q
  .exact .inr (q,aml _ _ _ (.inl q))
 refine codeAny_call_function F.depth (R _ _ lk) rfl S.co S.gen rfl (PySem.W.codeRec_of R L) (hb _ _ _ _ ?_);refine wpAny_newFunctionEnv_cells S.kind j λenv he T x=>?_;subst he;refine(M.keeps x.toInCall.keep,codeAny_func ?_);let(t,ht,hq):=m A fM s H vs Q E (F.deeper _) B;let I:Inv (w9 cm CX P w K mg eC N a scope f c A fM s H E) [] (start N vs) H T:=VG S F.hd C hl r x;refine tM (ht [] T (start N vs) H _ I hq) (λfl D hs=>?_) λe D hs=>hs
 let p:∀{i:St} {H':Hp} {v:V} {u:fy},Inv (w9 cm CX P w K mg eC N a scope f c A fM s H E) [] i H' D->RelV v u->Q v H'->CE fM P w H s Q u D:=
  λ{i H' v u} J G q=>(v,H',J.os,J.bare,J.eC,J.hok,G,q)
 cases fl with
 |ret u=>
  let(v,i,H',J,G,q):=hs;exact p J G q
 |next=>
  let(i,H',J,q):=hs;exact p (v:=V.non) J rfl q
 |brk=>
  let(_,_,_,q):=hs;exact DA q
 |cont=>
  let(_,_,_,q):=hs;exact DA q
section
variable{X:Cx}{x:Str}{p pos:Pos}{e:hH}{es:List hH}{t:TA}{id T:String}{r:List V->Hp->VK->Prop}
def tCB(r:List V->Hp->VK->Prop)(t:TA):TE:=λσ H Q=>t σ H λvs a=>r vs a Q
def a9(f:wA X (.builtin id) r)(o:Gl X x)(v:X.mg x=none)(j:bootBuiltins x=some (.builtin id))(m:PA X (e::es) t)(n:autoParam (x≠"__name__") L2.adP._auto_2)(a:autoParam ((x==("__debug__":Str))=false) L2.adP._auto_2)
  (y:starEach (e::es) X.env=(false,eval e X.env)::starEach es X.env:=by rfl) (c:(backTo pos (starEach es X.env)).any (·.1)=false:=by rfl):PE X (.Call (.Name x p) (e::es) [] pos) (tCB r t):=by
 intro fw s σ H Q I h;refine aj8 (xy I o v j ?_ n a);exact PyProof.Rows.callWith_builtin1 (m.th I h λus q vs g w i u=>f fw q σ g vs us Q w i u) y c
def cv(f:wA X (.type T) r)(o:Gl X x)(v:X.mg x=none)(j:bootBuiltins x=some (.type T))(m:PA X (e::es) t)(n:autoParam (x≠"__name__") L2.adP._auto_2)(a:autoParam ((x==("__debug__":Str))=false) L2.adP._auto_2)
  (y:starEach (e::es) X.env=(false,eval e X.env)::starEach es X.env:=by rfl) (c:(backTo pos (starEach es X.env)).any (·.1)=false:=by rfl):PE X (.Call (.Name x p) (e::es) [] pos) (tCB r t):=by
 intro fw s σ H Q I h;refine aj8 (xy I o v j ?_ n a);exact ai9 (m.th I h λus q vs g w i u=>f fw q σ g vs us Q w i u) y c
end
end L2
namespace HT
open PySem PyProof.Rows
section
open PySem.SeqAt
open PySem.AutoSeq1 (wpAny_loadPart')
open PySem.MeetsSeq PySem.MeetsSeq2 PySem.MeetsSeq3
end
section
variable{prog:iU}{w:iP}{A:jg}{E:fy->fX->Prop}{s:fX}
def qq(n d:Nat):Option Int->Nat
 |none=>d
 |some v=>if v<0 then (v+(n:Int)).toNat else min v.toNat n
def UQ(n d k:Nat):qq n d (some (k:Int))=min k n:=by
 rfl
end
end HT
namespace L2
open PySem PySem.Spec PyProof.Rows
abbrev TO:=St->Hp->(Option Int->Hp->Prop)->Prop
def PO(X:Cx)(e:Option hH)(t:TO):Prop:=
 ∀(a:List (eF×Obj)) (s:fX) (c:St) (H:Hp) (Q:Option Int->Hp->Prop),Inv X a c H s->t c H Q→
  wpAny (model X.prog X.w) X.A (evalPart e X.env) (λu f=>∃o H',Inv X a c H' f/\IsPart u o/\Q o H') X.xe s
def abi:TO:=λ_ H Q=>Q none H
def afI(t:TE):TO:=λc H Q=>t c H λx a=>∃i,x=.int i/\Q (some i) a
section
variable{X:Cx}{e:hH}{te:TE}{lo hi:Option hH}{tl th:TO}{pos p2:Pos}
def C6:PO X none abi:=by
 intro a s c H Q I h;exact pq (none,H,I,.none,h)
def oG(h:PE X e te):PO X (some e) (afI te):=by
 intro a s o H Q I g;refine h.th I g λu n x c m f j=>?_;let(i,rfl,q):=j;let(t,rfl):=f;exact(some i,c,m,.int i t,q)
def SlR(X:Cx)(r:V->Option Int->Option Int->Hp->VK->Prop):Prop:=
 ∀(a:List (eF×Obj)) (s:fX) (c:St) (H:Hp) (x:V) (v vl g:fy) (lo hi:Option Int) (f:eF) (Q:VK),Inv X a c H s->RelV x v->s.heap.IsSliceOf f vl g .none->IsPart vl lo->IsPart g hi->r x lo hi H Q→
  ∃T id,typeLookup (.type T) "__getitem__"=pure (some (.builtin id))/\s.TypeIs v T/\wpAny (model X.prog X.w) X.A (getItem v (.ref f)) (EP X a c Q) X.xe s
def tSl(r:V->Option Int->Option Int->Hp->VK->Prop)(te:TE)(tl th:TO):TE:=λa H Q=>te a H λx c=>tl a c λl f=>th a f λu g=>r x l u g Q
def pO{r:V->Option Int->Option Int->Hp->VK->Prop}(o:SlR X r)(P:PE X e te)(G:PO X lo tl)(L:PO X hi th):PE X (.Subscript e (.Slice lo hi none p2) pos) (tSl r te tl th):=by
 intro a s f H Q I h;refine amI (P.th I h λv z x j N m B=>?_);refine wpAny_Slice (k9 (G a z f j _ N B) λvl t (l,K,O,pl,p)=>k9 (L a t f K _ O p) λg c E=>?_);let(u,i,D,C,J):=E;refine pq ?_;let F:Inv X a f i {c with heap:=c.heap.push {cls:= .type "slice",data:= .fields #[vl,g,.none]}}:=D.kept λb R q=>nr _ q;let(T,id,y,n,M):=o a {c with heap:=c.heap.push {cls:= .type "slice",data:= .fields #[vl,g,.none]}} f i x v vl g l u c.heap.objs.size Q F m (Heap.IsSliceOf.new ..) pl C J;exact tail_any n y M (by rfl)
def Bo(xs:List V)(lo hi:Option Int):List V:=(xs.drop (HT.qq xs.length 0 lo)).take (HT.qq xs.length xs.length hi-HT.qq xs.length 0 lo)
def PM(xs:List V)(lo hi:Option Int):(Bo xs lo hi).length<=xs.length:=by
 unfold Bo;rw[ve,ajK]
 lia
end
def xE(n:Nat)(i:Int):Option Nat:=if 0<=i then (if i<n then some i.toNat else none) else if -(n:Int)<=i then some (i+n).toNat else none
def ql{a:Type}(xs:List a)(i:Int):Option a:=(xE xs.length i).bind λj=>xs[j]?
def Us{n:Nat}{i:Int}{j:Nat}(h:xE n i=some j):seqIndex? i n=some j/\j<n/\ -(n:Int)<=i/\i<n:=by
 unfold xE at h;by_cases c:0<=i
 .rw[fR c]at h;by_cases a:i<n
  .rw[fR a]at h;let e:=iJ h;exact(by rw[anL c a,e],(),(),a)
  simp_all
 .rw[fC c]at h;by_cases a: -n<=i
  .rw[fR a]at h;let e:=iJ h;exact(by rw[anb () a,e],(),a,())
  simp_all
def UK{a:Type}{xs:List a}{i:Int}{v:a}(h:ql xs i=some v):∃j,seqIndex? i xs.length=some j/\xs[j]? =some v/\j<xs.length/\ -(xs.length:Int)<=i/\i<xs.length:=by
 unfold ql at h;cases e:xE xs.length i with
 |none=>simp_all
 |some j=>
  rw[e]at h;let(g,m,c,f):=Us e;exact(j,g,h,m,c,f)
def cb{a:Type}{xs:List a}{j:Nat}{v:a}(h:xs[j]? =some v):ql xs (j:Int)=some v:=by
 let c:=(rx.mp h).1
 let e:xE xs.length j=some j:=by
  unfold xE;simp_all
 unfold ql;rwa[e]
def U6(b:hH):Prop:=∀o i,subscripted b false o i=operate [o,i] (getItem o i)
def IxR(X:Cx)(r:R2):Prop:=
 ∀(e a:hH) (c:List (eF×Obj)) (s:fX) (f:St) (H:Hp) (x y:V) (v u:fy) (Q:VK),Inv X c f H s->RelV x v->RelV y u->r x y H Q→
  subscripted a false v u=operate [v,u] (getItem v u)->wpAny (model X.prog X.w) X.A (subscriptTail e a v u) (EP X c f Q) X.xe s
def MtR(X:Cx)(id:String)(r:V->List V->Hp->VK->Prop):Prop:=
 ∀(a:List (eF×Obj)) (s:fX) (c:St) (H:Hp) (x:V) (xs:List V) (v:fy) (us:List fy) (Q:VK),Inv X a c H s->RelV x v->Vals xs us->r x xs H Q→
  wpAny (model X.prog X.w) X.A (call (.builtin id) (v::us)) (EP X a c Q) X.xe s
section
variable{X:Cx}{a b:hH}{ta tb:TE}{pos:Pos}
def agd{r:R2}(n:IxR X r)(p:PE X a ta)(g:PE X b tb)(hs:U6 b):PE X (.Subscript a b pos) (Yn r ta tb):=by
 intro c s e H Q I h;exact amI (abj p g I h λv u f x y j o i m q=>n a b c f e j x y v u Q o i m q (hs _ _))
def afC(K:gI):R2:=λx y H Q=>∃p xs i v,x=.ref p/\y=.int i/\fT K H p xs/\ql xs i=some v/\Q v H
def afD(K:gI):R2:=λx y H Q=>∃p xs i v,x=.ref p/\y=.int i/\jx K H p xs/\ql xs i=some v/\Q v H
def aB:IxR X (afC X.K):=by
 intro m n c s o H x y v u Q I F G h hs;let(p,xs,i,z,rfl,rfl,M,N,q):=h;cases F;let(t,rfl):=G;let(its,r,pl,O):=I.list M;let(j,f,L,R,C,J):=UK N;let(w,B,g):=r.get L;let D:=r.length;let P:=Jm;let e:EP X c o Q w s:=(z,H,I,g,q);by_cases A:0<=i
 .let hj:=by
   rw[anL A J]at f;exact iJ f
  exact item_listR pl.isList A () (by rw[hj];simpa using B) e hs
 .let hj:(i+(its.toArray.size)).toNat=j:=by
   rw[anb () C]at f;rw[js,<-D];exact iJ f
  exact amm pl.isList.typeIs slot_list_getitem.lookup
   (wpAny_getItem_list_neg pl.isList () (by rw[js]<;>lia) () (by rw[hj];simpa using B) (rfl,e)) hs
def de:IxR X (afD X.K):=by
 intro g m c s n H x y v u Q I B C h hs;let(p,xs,i,z,rfl,rfl,G,J,q):=h;cases B;let(t,rfl):=C;let(its,r,pl,L):=I.tuple G;let(j,D,E,P,M,N):=UK J;let(w,F,f):=r.get E;let o:=r.length;let O:=Jm;let e:EP X c n Q w s:=(z,H,I,f,q)
 exact amm pl.typeIs slot_tuple_getitem.lookup
  (getItem_tuple pl () () (by rwa[js,<-o]) (by simpa using F) (rfl,e)) hs
def Rm(its:List fy)(n j:Nat)(u:fy):akr (·.setIfInBounds j u) {cls:= .type "list",data:= .seq its.toArray n}={cls:= .type "list",data:= .seq (its.set j u).toArray n}:=by
 simp[akr]
def Inv.lst{c:List (eF×Obj)}{f:St}{H:Hp}{s:fX}{p:eF}{xs:List V}(I:Inv X c f H s)(h:H p=some (.lst xs)):
  ∃(its:List fy) (n:Nat),Vals xs its/\s.heap.get? p=some {cls:= .type "list",data:= .seq its.toArray n}/\xs.length<=sizeLine:=by
 let(z,its,n,r,e):=I.hok p _ h;exact(its,n,r,e,z)
def Inv.afi{c:List (eF×Obj)}{i:St}{H:Hp}{s:fX}{p:eF}{xs ys:List V}{its its':List fy}{n g:Nat}{f:Obj->Obj}(I:Inv X c i H s)(h:H p=some (.lst xs))
  (v:s.heap.get? p=some {cls:= .type "list",data:= .seq its.toArray n}) (j:f {cls:= .type "list",data:= .seq its.toArray n}={cls:= .type "list",data:= .seq its'.toArray g}) (r:Vals ys its') (m:ys.length<=sizeLine) (t:Nat):
  Inv X c i (upd H p (.lst ys)) {s with heap:=s.heap.update p f,toks:=t}:=by
 let e:(s.heap.update p f).get? p=some {cls:= .type "list",data:= .seq its'.toArray g}:=by
  rw[amv f v (by rw[j]<;>rfl),j]
 refine I.write (by rw[h];trivial) (.inl rfl) (λb u o q=>(aka _ _ (Ne.symm o)).trans q) (_,e) ?_;exact(m,its',g,r,e)
def af2:V->V->V->Hp->(Hp->Prop)->Prop:=λo i v H Q=>∃p xs k j,o=.ref p/\i=.int k/\H p=some (.lst xs)/\xE xs.length k=some j/\Q (upd H p (.lst (xs.set j v)))
def set_list:aeJ X af2:=by
 intro c s D H o i v J G u Q I E F C h;let(p,xs,k,j,rfl,rfl,w,A,q):=h;cases E;let(t,rfl):=F;let(its,n,r,g,B):=I.lst w;let(e,K,x,m):=Us A;let f:=r.length;let L:=Jm
 let z:=
  I.afi w g (Rm its n j u) (r.set C j) (by rwa[List.length_set]) s.toks
 by_cases y:0<=k
 .let hk:=by
   rw[anL y m]at e;exact iJ e
  exact PySem.W.ki_setAt g y () (by rwa[js,<-f]) (by rw[hk];exact(_,z,q))
 .let hk:(k+(its.toArray.size)).toNat=j:=by
   rw[anb () x]at e;rw[js,<-f];exact iJ e
  exact PySem.W.ki_setBack g () (by rwa[js,<-f]) () (by rw[hk];exact(_,z,q))
def Nn(lo c:Option Int)(n:Nat):(sliceBounds lo c none n).1=((HT.qq n 0 lo:Nat):Int)/\(sliceBounds lo c none n).2.1=((HT.qq n n c:Nat):Int)/\(sliceBounds lo c none n).2.2=1:=by
 refine(?_,?_,rfl)
 .cases lo with
  |none=>rfl
  |some i=>
   simp only[sliceBounds,HT.qq,anS,if_true];by_cases h:i<0
   .simp only[h]<;>lia
   .simp only[h]<;>lia
 .cases c with
  |none=>rfl
  |some i=>
   simp only[sliceBounds,HT.qq,anS,if_true];by_cases h:i<0
   .simp only[h]<;>lia
   .simp only[h]<;>lia
def KW(its:List fy)(lo c:Option Int):slicePick its.toArray lo c none=((its.drop (HT.qq its.length 0 lo)).take (HT.qq its.length its.length c-HT.qq its.length 0 lo)).toArray:=by
 let(e,g,f):=Nn lo c its.toArray.size;unfold slicePick;rw[e,g,f];simp only[sliceRange_one,pick_run]<;>rfl
def ahf(K:gI):V->Option Int->Option Int->Hp->VK->Prop:=λx lo c H Q=>∃a xs,x=.ref a/\fT K H a xs/\∀p,H p=none->Q (.ref p) (upd H p (.lst (Bo xs lo c)))
def uT:SlR X (ahf X.K):=by
 intro g s u H x v vl w lo e t Q I j hs pl n h;let(a,xs,rfl,m,q):=h;cases j;let(its,r,f,i):=I.list m;let c:=r.length;refine("list",_,slot_list_getitem.lookup,f.isList.typeIs,?_);refine wpAny_getItem_list_slice f.isList hs pl n .none (by simp) ?_ (by rw[js]<;>lia)
 rw[KW,<-c];refine(.ref s.heap.objs.size,_,I.laid (λb p q=>nr _ q) (gx _) ?_,rfl,q _ (I.hok.fresh (gx _)));exact(jC (PM xs lo e) i,_,0,(r.drop (HT.qq xs.length 0 lo)).take (HT.qq xs.length xs.length e-HT.qq xs.length 0 lo),rX _ rfl)
def gH:V->Bool
 |.non=>true
 |.bl _=>true
 |.int _=>true
 |.str _=>true
 |_=>false
def pf:V->V->Bool
 |.non,.non=>true
 |.bl a,.bl b=>a==b
 |.bl a,.int b=>(if a then 1 else 0)==b
 |.int a,.bl b=>a==(if b then 1 else 0)
 |.int a,.int b=>a==b
 |.str a,.str b=>a==b
 |_,_=>false
def MI{A:jg}{s:fX}{y x:V}{u v:fy}(e:RelV y u)(c:RelV x v)(g:gH y=true)(f:gH x=true):akM A s u v (pf y x):=by
 cases y with
 |non=>
  cases e;cases x with
  |non=>cases c;exact amd _
  |bl b=>cases c;exact SeqAt.EqAt.none_bool b
  |int b=>let(t,rfl):=c;exact SeqAt.EqAt.none_int b t
  |str b=>let(t,rfl):=c;exact SeqAt.EqAt.none_str b t
  |_=>exact absurd (show false=true from f) jT
 |bl a=>
  cases e;cases x with
  |non=>cases c;exact SeqAt.EqAt.bool_none a
  |bl b=>cases c;exact SeqAt.EqAt.bool_bool a b
  |int b=>let(t,rfl):=c;exact SeqAt.EqAt.bool_int a b t
  |str b=>let(t,rfl):=c;exact SeqAt.EqAt.bool_str a b t
  |_=>exact absurd (show false=true from f) jT
 |int a=>
  let(t',rfl):=e;cases x with
  |non=>cases c;exact SeqAt.EqAt.int_none a t'
  |bl b=>cases c;exact SeqAt.EqAt.int_bool a t' b
  |int b=>let(t,rfl):=c;exact SeqAt.EqAt.int_int a t' b t
  |str b=>let(t,rfl):=c;exact am2 a t' b t
  |_=>exact absurd (show false=true from f) jT
 |str a=>
  let(t',rfl):=e;cases x with
  |non=>cases c;exact SeqAt.EqAt.str_none a t'
  |bl b=>cases c;exact SeqAt.EqAt.str_bool a t' b
  |int b=>let(t,rfl):=c;exact am3 a t' b t
  |str b=>let(t,rfl):=c;exact SeqAt.EqAt.str_str a t' b t
  |_=>exact absurd (show false=true from f) jT
 |_=>exact absurd (show false=true from g) jT
def vc(x:V)(u:fy):Bool:=match u with
 |.none=>pf .non x
 |.bool b=>pf (.bl b) x
 |.int i _=>pf (.int i) x
 |.str z _=>pf (.str z) x
 |_=>false
def Y6{x y:V}{u:fy}(r:RelV y u)(f:gH y=true):vc x u=pf y x:=by
 cases y with
 |non=>cases r;rfl
 |bl b=>cases r;rfl
 |int i=>let(t,rfl):=r;rfl
 |str z=>let(t,rfl):=r;rfl
 |_=>exact absurd (show false=true from f) jT
theorem CY{x:V}:∀{xs:List V} {us:List fy},Vals xs us->xs.all gH=true->us.any (vc x)=xs.any λy=>pf y x
 |_,_,.nil,_=>rfl
 |y::xs,u::us,.cons r t,f=>by
  rw[alH,mu]at f;rw[aj6,aj6,Y6 r f.1,CY t f.2]
theorem t9{A:jg}{s:fX}{x:V}{v:fy}(e:RelV x v)(g:gH x=true):∀{xs:List V} {us:List fy},Vals xs us->xs.all gH=true->∀u∈us,akM A s u v (vc x u)
 |_,_,.nil,_=>λu c=>by cases c
 |y::xs,u::us,.cons r t,f=>λh c=>by
  rw[alH,mu]at f;rcases oT.mp c with rfl|c
  .rw[Y6 r f.1];exact MI r e f.1 g
  .exact t9 e g t f.2 h c
def M5(x:V)(xs:List V):Bool:=xs.any λy=>pf y x
def rIn(K:gI)(c:Bool):R2:=λx y H Q=>∃p xs,y=.ref p/\(fT K H p xs\/jx K H p xs)/\gH x=true/\xs.all gH=true/\Q (.bl (if c then !M5 x xs else M5 x xs)) H
def Eu:mn X (compareOp .In) (rIn X.K false):=by
 intro g s m H x y v u Q I f j h;let(p,xs,rfl,c,i,fs,q):=h;cases j;rcases c with c|c
 .let(its,r,pl,hz):=I.list c;refine SeqAt.in_listAt (vc x) pl.isList (λw e=>t9 f i r fs w (by simp_all)) (.bl _,H,I,rfl,?_);rwa[show its.toArray.any (vc x)=its.any (vc x) by simp,CY r fs]
 .let(its,r,pl,hz):=I.tuple c;refine SeqAt.in_tupleAt (vc x) pl (λw e=>t9 f i r fs w (by simp_all)) (.bl _,H,I,rfl,?_);rwa[show its.toArray.any (vc x)=its.any (vc x) by simp,CY r fs]
def MX:mn X (compareOp .NotIn) (rIn X.K true):=by
 intro g s m H x y v u Q I f j h;let(p,xs,rfl,c,i,fs,q):=h;cases j;rcases c with c|c
 .let(its,r,pl,hz):=I.list c;refine SeqAt.notIn_listAt (vc x) pl.isList (λw e=>t9 f i r fs w (by simp_all)) (.bl _,H,I,rfl,?_);rwa[show its.toArray.any (vc x)=its.any (vc x) by simp,CY r fs]
 .let(its,r,pl,hz):=I.tuple c;refine SeqAt.notIn_tupleAt (vc x) pl (λw e=>t9 f i r fs w (by simp_all)) (.bl _,H,I,rfl,?_);rwa[show its.toArray.any (vc x)=its.any (vc x) by simp,CY r fs]
def aU:wA X (.builtin "len") (λxs H Q=>∃p ys,xs=[.ref p]/\(fT X.K H p ys\/jx X.K H p ys)/\Q (.int ys.length) H):=by
 intro f s j H xs us Q I r h;let(p,ys,rfl,e,q):=h;let(u,rfl,g):=vals1 r;cases g;let i:=Jm;rcases e with e|e
 .let(its,r',pl,hz):=I.list e;let c:=r'.length;exact Calls.call_len_list pl.isList (by simp only[js]<;>lia) (.int ys.length,H,I.tok _,(s.toks+1,by rw[js,c]),q)
 .let(its,r',pl,hz):=I.tuple e;let c:=r'.length;exact len_tuple pl (by simp only[js]<;>lia) (.int ys.length,H,I.tok _,(s.toks+1,by rw[js,c]),q)
def oy:wA X (.builtin "len") (λxs H Q=>∃z,xs=[.str z]/\z.length<=sizeLine/\Q (.int z.length) H):=by
 intro c s f H xs us Q I r h;let(z,rfl,g,q):=h;let(u,rfl,t,rfl):=vals1 r;let e:=Jm;exact len_str () (.int z.length,H,I.tok _,(_,rfl),q)
def CI:wA X (.type "list") (λxs H Q=>∃p ys,xs=[.ref p]/\(fT X.K H p ys\/jx X.K H p ys)/\∀l,H l=none->Q (.ref l) (upd H l (.lst ys))):=by
 intro v s A H xs us Q I r h;let(p,ys,rfl,t,q):=h;let(u,rfl,B):=vals1 r;cases B
 let j:∀(its:List fy),Vals ys its->ys.length<=sizeLine->∀(h':h7) (f:Nat),(∀b z,s.heap.get? b=some z->h'.get? b=some z)→
   h'.get? s.heap.objs.size=some {cls:= .type "list",dict:=none,data:= .seq its.toArray f,slots:=#[]}->EP X v A Q (.ref s.heap.objs.size) {s with heap:=h'}:=λits c m h' f i e=>
  (.ref s.heap.objs.size,_,I.laid i (gx _) (show gw X.prog X.w _ h' _ (.lst ys) from(m,its,f,c,e)),rfl,q _ (I.hok.fresh (gx _)))
 rcases t with t|t
 .let(its,c,pl,m):=I.list t;let g:=c.length;let(o,y,x,n,hd):=pl.isList;exact aov p (.inl rfl) y x hd (λh' f i e=>j its c m h' f i e) (by simp only[js]<;>lia)
 .let(its,c,pl,m):=I.tuple t;let g:=c.length;let(o,y,x,n,hd):=pl;exact aov p (.inr rfl) y x hd (λh' f i e=>j its c m h' f i e) (by simp only[js]<;>lia)
def tyV(K:gI)(T:String)(x:V)(H:Hp):Prop:=match x with
 |.str _=>T="str"
 |.int _=>T="int"
 |.ref p=>(T="list"/\∃xs,fT K H p xs)\/(T="tuple"/\∃o,K.lookup p=some o/\o.cls=.type "tuple"/\o.dict=none)∨
   (T="dict"/\((∃c,H p=some (.dK c))\/∃c,H p=some (.dT c)))\/(T="set"/\∃S n,H p=some (.set S n))
 |_=>False
def XR{g:List (eF×Obj)}{q:St}{H:Hp}{s:fX}{T:String}{x:V}{v:fy}(I:Inv X g q H s)(r:RelV x v)(ty:tyV X.K T x H):
  s.TypeIs v T/\∀a,v=.ref a->∃j,s.heap.get? a=some j/\j.dict=none:=by
 cases x with
 |str z=>
  let(t,rfl):=r;cases (show T="str" from ty);exact(akL s z t,λ_ e=>nomatch e)
 |int i=>
  let(t,rfl):=r;cases (show T="int" from ty);exact(typeIs_int s i t,λ_ e=>nomatch e)
 |ref p=>
  cases r;rcases ty with⟨rfl,xs,u⟩|⟨rfl,o,f,m,hd⟩|⟨rfl,f⟩|⟨rfl,S,n,f⟩
  .let(its,_,pl,_):=I.list u;refine(pl.isList.typeIs,λa e=>?_);cases e;let(o,n,e,c,hd,_):=pl;exact(o,e,hd)
  .refine ((o,I.ry p o f,m),λa e=>?_);cases e;exact(o,I.ry _ o f,hd)
  .let z:∃o,s.heap.get? p=some o/\o.ExactDict:=by
    rcases f with⟨h,f⟩|⟨h,f⟩
    .let(_,_,_,_,o,_,_,e,ex,_):=I.hok p _ f;exact(o,e,ex)
    .let(_,_,_,_,o,_,_,e,ex,_):=I.hok p _ f;exact(o,e,ex)
   let(o,e,ex):=z;refine((o,e,ex.1),λa e2=>?_);cases e2;exact(o,e,ex.2.1)
  .let(o,_,_,_,e,ex,_):=I.hok p _ f;refine((o,e,ex.1),λa e2=>?_);cases e2;exact(o,e,ex.2.1)
 |_=>exact DA ty
def ahj(K:gI)(T:String)(r:V->List V->Hp->VK->Prop)(f:TE):TE:=λe H Q=>f e H λx c=>tyV K T x c/\r x [] c Q
def tBM(K:gI)(T:String)(r:V->List V->Hp->VK->Prop)(f:TE)(t:TA):TE:=λe H Q=>f e H λx c=>tyV K T x c/\t e c λxs g=>r x xs g Q
variable{o e:hH}{es:List hH}{to:TE}{t:TA}{name:Str}{apos cpos:Pos}{T id:String}{r:V->List V->Hp->VK->Prop}
def afp(u:aoa T)(slot:Slot T name id)(i:typeOf (.builtin id)=pure (.type "method_descriptor"))(A:MtR X id r)(B:PE X o to)
  (f:attributeBase o name X.env (eval o X.env)=eval o X.env:=by rfl) (c:(apos.endLine==cpos.line)=true:=by rfl):PE X (.Call (.Attribute o name apos) [] [] cpos) (ahj X.K T r to):=by
 intro g s p H Q I h;refine wpAny_Call_method0_late f c (B.th I h λv w x n m j q=>?_);let(ty,z):=q;let(y,C):=XR m j ty;exact(T,id,u,slot,i,y,C,amn rfl (PySem.evalArgs_none (A g w p n x [] v [] Q m j .nil z)))
def gg(z:aoa T)(slot:Slot T name id)(n:typeOf (.builtin id)=pure (.type "method_descriptor"))(M:MtR X id r)(O:PE X o to)(D:PA X (e::es) t)
  (i:attributeBase o name X.env (eval o X.env)=eval o X.env:=by rfl)
  (j:((backTo cpos (starEach (e::es) X.env)).all (λx=> !x.1)&&(backToKw cpos (keywordEach [] X.env)).all (λx=>x.1.isSome)
   && decide ((e::es).length+([]:List anv).length+(if ([]:List anv).isEmpty then 0 else 1)<30))=true:=by rfl)
  (g:(apos.endLine==cpos.line)=true:=by rfl) (hs:starEach (e::es) X.env=(false,eval e X.env)::starEach es X.env:=by rfl) (c:(backTo cpos (starEach es X.env)).any (·.1)=false:=by rfl):
  PE X (.Call (.Attribute o name apos) (e::es) [] cpos) (tBM X.K T r to t):=by
 intro f s u H Q I h;refine wpAny_Call_method_late i j g rfl (O.th I h λv G x y w p m=>?_);let(ty,L):=m;let(B,C):=XR w p ty;refine(T,id,z,slot,n,B,C,?_);let q:=D cpos f G u y _ w L;rw[hs]at q ⊢;refine amn (by show(false||(backTo cpos (starEach es X.env)).any (·.1))=false;rw[c]<;>rfl) (amJ ?_)
 exact k9 q λus F m=>by let(vs,A,N,J,E):=m;exact M f F u A x vs v us Q N p J E
end
def T1(X:Cx)(id:String)(r:V->List V->Hp->VK->Prop):Prop:=
 ∀(a:List (eF×Obj)) (s:fX) (c:St) (H:Hp) (x:V) (xs:List V) (v:fy) (us:List fy) (Q:VK),Inv X a c H s->RelV x v->Vals xs us->r x xs H Q→
  wpAny (model X.prog X.w) X.A (call (.builtin id) (v::us)) (EP X a c Q) X.xe s
theorem Vals.one:∀{x:V} {us:List fy},Vals [x] us->∃u,us=[u]/\RelV x u
 |_,_,.cons r .nil=>(_,rfl,r)
theorem Vals.eraseIdx:∀{xs:List V} {us:List fy} (i:Nat),Vals xs us->Vals (xs.eraseIdx i) (us.eraseIdx i)
 |_,_,_,.nil=>.nil
 |_,_,0,.cons _ t=>t
 |_,_,i+1,.cons r t=>.cons r (Vals.eraseIdx i t)
theorem Mu{a:Type}:∀(l:List a) (i:Nat),(l.eraseIdx i).length<=l.length
 |[],_=>gx _
 |_::_,0=>LM _
 |_::r,i+1=>al0 (Mu r i)
section
variable{X:Cx}{fw:List (eF×Obj)}{σ:St}{H:Hp}{s:fX}{l b:eF}{xs ys zs:List V}
def Inv.agy{its its':List fy}{n:Nat}{f:Array fy->Array fy}{t':Nat}(I:Inv X fw σ H s)(c:H l=some (.lst xs))
  (e:s.heap.get? l=some {cls:= .type "list",data:= .seq its.toArray n}) (a:f its.toArray=its'.toArray) (h:Vals ys its') (i:ys.length<=sizeLine):
  Inv X fw σ (upd H l (.lst ys)) {s with heap:=s.heap.update l (akr f),toks:=t'}:=by
 let q:=anT e f;rw[a]at q;refine I.write (by rw[c];exact trivial) (.inl rfl) (λm u j g=>(aka s.heap (akr f) (Ne.symm j)).trans g) (_,q) ?_;exact(i,its',_,h,q)
theorem Inv.aeQ{its:List fy}{t':Nat}(I:Inv X fw σ H s)(a:Vals ys its)(c:ys.length<=sizeLine):
  Inv X fw σ (upd H s.heap.objs.size (.lst ys)) {s with heap:=s.heap.push {cls:= .type "list",data:= .seq its.toArray},toks:=t'}:=
 I.laid (λ_ _ q=>nr _ q) (gx _) (c,its,0,a,rX _ rfl)
theorem Inv.fresh(I:Inv X fw σ H s):H s.heap.objs.size=none:=I.hok.fresh (gx _)
def Inv.aa7(I:Inv X fw σ H s)(a:H l=some (.lst xs)):xs.length<=sizeLine/\∃(its:List fy) (n:Nat),Vals xs its/\xs.length=its.length/\s.heap.get? l=some {cls:= .type "list",data:= .seq its.toArray n}:=by
 let(z,its,n,r,e):=I.hok l _ a;exact(z,its,n,r,r.length,e)
end
section
variable{X:Cx}
def abn:V->List V->Hp->VK->Prop:=λx vs H Q=>∃l xs y,x=.ref l/\vs=[y]/\H l=some (.lst xs)/\xs.length<sizeLine/\Q .non (upd H l (.lst (xs++[y])))
def cX:T1 X "list.append" abn:=by
 intro c s o H x vs v us Q I f g h;let(l,xs,y,rfl,rfl,a,j,q):=h;cases f;let(u,rfl,i):=g.one;let(z,its,n,r,m,e):=I.aa7 a;refine akN anc (_,e,rfl) amU (amK _ _) (anA l its.toArray n u (by rw[js];lia)) (e,?_);refine(.non,_,I.agy a e (by simp) (r.append (.cons i .nil)) ?_,rfl,q);rw[jm,amw]
 lia
def adR:V->List V->Hp->VK->Prop:=λx vs H Q=>∃l xs i k y,x=.ref l/\vs=[.int i]/\H l=some (.lst xs)/\ -(2^63)<=i/\i<2^63/\seqIndex? i xs.length=some k/\xs[k]? =some y/\Q y (upd H l (.lst (xs.eraseIdx k)))
def Qo:T1 X "list.pop" adR:=by
 intro f s E H x vs v us Q I m p h;let(l,xs,i,k,y,rfl,rfl,c,o,A,D,g,q):=h;cases m;let(u,rfl,B):=p.one;let(t,rfl):=B;let(z,its,n,r,j,e):=I.aa7 c;let(w,C,a):=r.get g
 refine akN F.slot_list_pop (_,e,rfl) F.entry_list_pop (F.args_list_pop_2 _ _)
  (MeetsSeq.list_pop_at l its.toArray n i t k w (fitsIndex_both o A) (by rwa[js,<-j]) (by rwa[<- ak3]) (by rw[js];lia)) (e,?_)
 refine(y,_,I.agy c e ?_ (r.eraseIdx k) ?_,a,q)
 .simp
 .let:=Mu xs k
  lia
def ag3:R2:=λx y H Q=>∃l b xs a,x=.ref l/\y=.ref b/\H l=some (.lst xs)/\H b=some (.lst a)/\xs.length+a.length<=sizeLine/\∀p,H p=none->Q (.ref p) (upd H p (.lst (xs++a)))
def JX:mn X (binaryOp .Add) ag3:=by
 intro c s C H x y v u Q I f g h;let(l,b,xs,B,rfl,rfl,i,o,t,q):=h;cases f;cases g;let(z,its,n,r,w,e):=I.aa7 i;let(D,a,A,p,j,e2):=I.aa7 o;refine PySem.P.add_list e e2 ?_ (by rw[js,js];lia);let m:its.toArray++a.toArray=(its++a).toArray:=by simp
 rw[m];exact(.ref _,_,I.aeQ (r.append p) (by rw[jm];lia),rfl,q _ I.fresh)
end
section
variable{prog:iU}{w:iP}{A:jg}{E:fy->fX->Prop}{s:fX}
end
section
variable{X:Cx}
end
section
variable{κ:Type}[DecidableEq κ]
def Am(a:List (κ×V))(k:κ):Option V:=(a.find? λkv=>decide (kv.1=k)).map (·.2)
def putK(a:List (κ×V))(k:κ)(v:V):List (κ×V):=
 if (a.any λkv=>decide (kv.1=k))=true then a.map (λkv=>if kv.1=k then (kv.1,v) else kv) else a++[(k,v)]
def IC{p:κ×V}{r:List (κ×V)}{k:κ}(e:p.1=k):Am (p::r) k=some p.2:=by simp[Am,e]
def IG{p:κ×V}{r:List (κ×V)}{k:κ}(e:¬p.1=k):Am (p::r) k=Am r k:=by simp[Am,e]
theorem PN(k:κ):∀a:List (κ×V),(a.any λkv=>decide (kv.1=k))=(Am a k).isSome
 |[]=>rfl
 |p::r=>by
  rw[aj6];by_cases e:p.1=k
  .simp only[IC e,gy e,ane,Option.isSome_some]
  .rw[IG e,iR e];exact PN k r
def xt(a:List (κ×V))(k:κ)(v:V):(putK a k v).length<=a.length+1:=by
 unfold putK
 split
 .rw[gQ];lia
 simp
def zU.Ep{o:Option V}{u:Option fy}(r:zU o u):o.isSome=u.isSome:=by
 cases o with
 |none=>cases u with
  |none=>rfl
  |some _=>exact(show False from r).elim
 |some _=>cases u with
  |none=>exact(show False from r).elim
  |some _=>rfl
def KV.val{a:List (κ×V)}{vs:List (κ×fy)}(r:KV a vs)(k:κ):zU (Am a k) (valueAt vs k):=by
 induction r with
 |nil=>exact ajN
 |@cons p q ps qs h t ih=>
  let(c,f):=h;by_cases e:p.1=k
  .let e':=c.symm.trans e;let b:valueAt (q::qs) k=some q.2:=by simp[valueAt,e']
   rwa[IC e,b]
  .let e':¬q.1=k:=λz=>e (c.trans z);let b:valueAt (q::qs) k=valueAt qs k:=by simp[valueAt,e']
   rwa[IG e,b]
def KV.any{a:List (κ×V)}{vs:List (κ×fy)}(r:KV a vs)(k:κ):(a.any λkv=>decide (kv.1=k))=vs.any λkv=>decide (kv.1=k):=by
 induction r with
 |nil=>rfl
 |cons h t c=>simp_all
def KV.aet{a:List (κ×V)}{vs:List (κ×fy)}(r:KV a vs)(k:κ){y:V}{u:fy}(f:RelV y u):
  KV (a.map λkv=>if kv.1=k then (kv.1,y) else kv) (vs.map λkv=>if kv.1=k then (kv.1,u) else kv):=by
 induction r with
 |nil=>exact .nil
 |@cons p q ps qs h t ih=>
  rw[xl,xl];refine .cons ?_ ih;let(c,g):=h;by_cases e:p.1=k
  .rw[fR e,fR (c.symm.trans e)];exact(c,f)
  .rw[fC e,fC (λz=>e (c.trans z))];exact(c,g)
def KV.put{a:List (κ×V)}{vs:List (κ×fy)}(r:KV a vs)(k:κ){y:V}{u:fy}(c:RelV y u):KV (putK a k y) (stored vs k u):=by
 unfold putK stored;rw[r.any k];by_cases e:(vs.any λkv=>decide (kv.1=k))=true
 .rw[fR e,fR e];exact r.aet k c
 .rw[fC e,fC e];exact aoQ r (rfl,c)
theorem KV.length{a:List (κ×V)}{vs:List (κ×fy)}(r:KV a vs):a.length=vs.length:=amQ r
end
def Pg{P:iU}{w:iP}{k:Key}{u:fy}(r:RelV (kV k) u):(fJ P w).is k u=true:=by
 cases k with
 |inl i=>let(t,e):=(show ∃t,u=Sl i t from r);subst e;exact P9 P w i t
 |inr x=>let(t,e):=(show ∃t,u=Pc x t from r);subst e;exact Qx P w x t
theorem Mj{P:iU}{w:iP}:∀{a:List Key} {us:List fy},Vals (a.map kV) us->ItemsAre (fJ P w) a us
 |[],_,r=>by cases r;exact .nil
 |k::a,_,r=>by
  cases r with
  |cons h t=>exact .cons (Pg h) (Mj t)
abbrev KT(H:Hp):List (List Key×V)->List (List Key×eF×fy)->Prop:=amt λp q=>p.1=q.1/\H q.2.1=some (.tup (p.1.map kV))/\RelV p.2 q.2.2
def KT.val{H:Hp}{a:List (List Key×V)}{xs:List (List Key×eF×fy)}(r:KT H a xs)(k:List Key):zU (Am a k) ((atKey xs k).map (·.2)):=by
 induction r with
 |nil=>exact ajN
 |@cons p q ps qs h t ih=>
  let(c,_,f):=h;by_cases e:p.1=k
  .let e':=c.symm.trans e;let b:atKey (q::qs) k=some q.2:=by simp[atKey,e']
   rwa[IC e,b]
  .let e':¬q.1=k:=λz=>e (c.trans z);let b:atKey (q::qs) k=atKey qs k:=by simp[atKey,e']
   rwa[IG e,b]
def KT.aet{H:Hp}{a:List (List Key×V)}{xs:List (List Key×eF×fy)}(r:KT H a xs)(k:List Key){y:V}{u:fy}(i:RelV y u):
  KT H (a.map λkv=>if kv.1=k then (kv.1,y) else kv) (xs.map (putAt k u)):=by
 induction r with
 |nil=>exact .nil
 |@cons p q ps qs h t ih=>
  rw[xl];refine .cons ?_ ih;let(c,f,g):=h;unfold putAt;by_cases e:p.1=k
  .rw[fR e,fR (c.symm.trans e)];exact(c,f,i)
  .rw[fC e,fC (λz=>e (c.trans z))];exact(c,f,g)
def KT.put{H:Hp}{a:List (List Key×V)}{xs:List (List Key×eF×fy)}(r:KT H a xs)(k:List Key){b:eF}{y:V}{u:fy}(f:H b=some (.tup (k.map kV)))(c:RelV y u):
  KT H (putK a k y) (storedH xs k b u):=by
 let e:(a.any λkv=>decide (kv.1=k))=(atKey xs k).isSome:=by
  rw[PN,(r.val k).Ep,anB]
 unfold putK storedH;rw[e];by_cases q:(atKey xs k).isSome=true
 .rw[fR q,fR q];exact r.aet k c
 .rw[fC q,fC q];exact aoQ r (rfl,f,c)
theorem KT.keeps{H H':Hp}{a:List (List Key×V)}{xs:List (List Key×eF×fy)}(r:KT H a xs)(c:∀b ys,H b=some (.tup ys)->H' b=some (.tup ys)):KT H' a xs:=
 Paired.ae7 r λ_ _ z=>(z.1,c _ _ z.2.1,z.2.2)
section
variable{P:iU}{w:iP}{H:Hp}{h:h7}{a:eF}
theorem ac1{u:HO}(ok:mT P w H h)(e:Rd H a u):gw P w H h a u:=e.ok ok
theorem Tx{c:List (Key×V)}(ok:mT P w H h)(e:Rd H a (.dK c)):c.length<=sizeLine/\(a==sysModules)=false/\∃vs,KV c vs/\h.DictOf (fJ P w) a vs:=
 show gw P w H h a (.dK c) from ac1 ok e
theorem adB{c:List (Key×V)}(ok:mT P w H h)(e:H a=some (.dK c)):c.length<=sizeLine/\(a==sysModules)=false/\∃vs,KV c vs/\h.DictOf (fJ P w) a vs:=Tx ok (.inl e)
def NQ{c:List Key}(ok:mT P w H h)(e:H a=some (.tup (c.map kV))):(tupleKind (fJ P w)).is h c a:=by
 let(_,its,r,o,f,i,n,g):=(show gw P w H h a (.tup (c.map kV)) from ok a _ e);exact(o,its.toArray,n,f,i,g,by simpa using Mj r)
def Ua{c:List (List Key×V)}(ok:mT P w H h)(e:Rd H a (.dT c)):c.length<=sizeLine/\(a==sysModules)=false∧
  ∃xs,KT H c xs/\h.DictOfH (tupleKind (fJ P w)) a xs:=by
 let(z,y,xs,r,o,es,u,j,s,g,i,n):=(show gw P w H h a (.dT c) from ac1 ok e);refine(z,y,xs,r,o,es,u,j,s,g,i,λx f=>?_,n)
 let all:∀{l:List (List Key×V)} {m:List (List Key×eF×fy)},KT H l m->∀x∈m,(tupleKind (fJ P w)).is h x.1 x.2.1:=by
  intro l m q
  induction q with
  |nil=>intro x f;exact nomatch f
  |@cons p q ps qs hq t ih=>
   intro x f;rcases oT.mp f with e|f
   .exact NQ ok (by simp_all)
   .exact ih x f
 exact all r x f
theorem afM{c:List (List Key×V)}(ok:mT P w H h)(e:H a=some (.dT c)):c.length<=sizeLine/\(a==sysModules)=false∧
  ∃xs,KT H c xs/\h.DictOfH (tupleKind (fJ P w)) a xs:=Ua ok (.inl e)
end
def kT(H:Hp)(a:eF)(y:V)(r:Option V):Prop:=
 (∃c k,Rd H a (.dK c)/\y=kV k/\r=Am c k)\/∃c k b,Rd H a (.dT c)/\y=.ref b/\H b=some (.tup (k.map kV))/\r=Am c k
def Qt(H:Hp)(a:eF)(y v:V)(H':Hp):Prop:=
 (∃c k,H a=some (.dK c)/\y=kV k/\c.length<sizeLine/\H'=upd H a (.dK (putK c k v)))∨
 ∃c k b,H a=some (.dT c)/\y=.ref b/\H b=some (.tup (k.map kV))/\c.length<sizeLine/\H'=upd H a (.dT (putK c k v))
theorem kT.k{H:Hp}{a:eF}{c:List (Key×V)}{k:Key}(e:H a=some (.dK c)):kT H a (kV k) (Am c k):= .inl (c,k,.inl e,rfl,rfl)
theorem Qt.k{H:Hp}{a:eF}{c:List (Key×V)}{k:Key}{v:V}(e:H a=some (.dK c))(f:c.length<sizeLine):Qt H a (kV k) v (upd H a (.dK (putK c k v))):= .inl (c,k,e,rfl,f,rfl)
section
variable{X:Cx}{fw:List (eF×Obj)}{σ:St}{H:Hp}{s:fX}{a:eF}{y v:V}{u r:fy}{o:Option V}{A:jg}{E:fy->fX->Prop}
def Inv.big(I:Inv X fw σ H s):sysModules<s.heap.objs.size:=by
 let h:=(I.mod.glob.keeps I.bk).lt;exact KX ∅ h
def Wv{Q:fy->fX->Prop}(B:A.units+1<cLine)(I:Inv X fw σ H s)(g:kT H a y (some v))(x:RelV y u)(h:∀i t,Inv X fw σ H t->RelV v i->Q i t):
  wpAny (model X.prog X.w) A (getItem (.ref a) u) Q E s:=by
 rcases g with⟨m,k,e,n,l⟩|⟨m,k,b,e,n,D,l⟩
 .subst n;let(z,hd,vs,f,dd):=Tx I.hok e;let(i,q,c):=zU.some_of (by rw[l];exact f.val k);exact wpAny_getItem_of (Pg x) dd.mapOf q (h i _ (I.tok _) c)
 .subst n;cases (show u=nk b from x);let(z,hd,xs,f,dd):=Ua I.hok e;let(i,q,c):=zU.some_of (by rw[l];exact f.val k);let(p,C,j):=Option.map_eq_some_iff.mp q;refine wpAny_getItem_heap (alz B) (NQ I.hok D) dd C ?_;rw[j];exact h i _ (I.tok _) c
def abw{Q:fy->fX->Prop}(n:A.units+1<cLine)(I:Inv X fw σ H s)(g:kT H a y o)(m:RelV y u)(h:∀j,Inv X fw σ H j->Q (.bool (!o.isSome)) j):
  wpAny (model X.prog X.w) A (compareOp .NotIn u (.ref a)) Q E s:=by
 rcases g with⟨f,k,e,i,l⟩|⟨f,k,b,e,i,p,l⟩
 .subst i;let(z,hd,vs,c,dd):=Tx I.hok e;refine wpAny_notIn_of (Pg m) hd dd.mapOf ?_;rw[<- (c.val k).Ep,<-l];exact h _ (I.tok _)
 .subst i;cases (show u=nk b from m);let(z,hd,xs,c,dd):=Ua I.hok e;refine wpAny_notIn_heap (alz n) (NQ I.hok p) hd dd ?_;let q:=(c.val k).Ep;rw[anB]at q;rw[<- q,<-l];exact h _ (I.tok _)
theorem jk{h':h7}{t':Nat}{c:HO}(I:Inv X fw σ H s)(f:Mut (H a))(hs:alX a s.heap h')(h:∃q,h'.get? a=some q)(new:gw X.prog X.w (upd H a c) h' a c):
  Inv X fw σ (upd H a c) {s with heap:=h',toks:=t'}:=
 I.write (x:=a) (e:=a) f (.inl rfl) (λb q g z=>(hs.2 b g).trans z) h new
theorem YG{P:iU}{w:iP}{H':Hp}{h':h7}{c:List (Key×V)}{vs:List (Key×fy)}(z:c.length<=sizeLine)(hd:(a==sysModules)=false)(e:KV c vs)(dd:h'.DictOf (fJ P w) a vs):
  gw P w H' h' a (.dK c):=(z,hd,vs,e,dd)
def WL{H':Hp}{Q:Unit->fX->Prop}(O:A.units+1<cLine)(I:Inv X fw σ H s)(g:Qt H a y v H')(F:RelV y u)(C:RelV v r)(h:∀B,Inv X fw σ H' B->Q .unit B):
  wpAny (model X.prog X.w) A (setItem (.ref a) u r) Q E s:=by
 rcases g with⟨i,k,e,p,l,n⟩|⟨i,k,b,e,p,G,l,n⟩
 .subst p n;let(z,hd,vs,f,dd):=adB I.hok e;let t:vs.length<=sizeLine:=by rwa[<- f.length]
  let x:(putK i k v).length<=sizeLine:=by let:=xt i k v;lia
  refine wpAny_setItem_pairs (Pg F) dd λh' j hs=>h _ ?_;let P:∃q,h'.get? a=some q:=let (q,_,_,m,_):=j;(q,m);exact jk I (by rw[e];exact ajN) hs P (YG x hd (f.put k C) j)
 .subst p n;cases (show u=nk b from F);let(z,hd,xs,f,dd):=afM I.hok e;let t:xs.length<=sizeLine:=by rwa[<- amQ f]
  let x:(putK i k v).length<=sizeLine:=by let:=xt i k v;lia
  refine wpAny_setItem_heap (alz O) (NQ I.hok G) dd λh' j hs=>h _ ?_;let(q,es,L,m,J,K,M,_,N):=j;refine jk I (by rw[e];exact ajN) hs (q,m) (x,hd,_,(f.put k G C).keeps λc ys D=>?_,q,es,L,m,J,K,M,N);rw[ag (Qh D e (λz=>nomatch z))];exact D
end
section
variable{X:Cx}{fw:List (eF×Obj)}{σ:St}{H:Hp}{s:fX}{a:eF}{kvs:List (Key×V)}{k:Key}{u:fy}{A:jg}{E:fy->fX->Prop}
end
def ad5(i:hH):Prop:=∀a c,subscripted i false a c=operate [a,c] (getItem a c)
def aaL{prog:iU}{w:iP}{A:jg}{E:fy->fX->Prop}{s:fX}{env:Env}{c a:hH}{q:Pos}{T id:String}{Q:fy->fX->Prop}
  (u:typeLookup (.type T) "__getitem__"=pure (some (.builtin id))) (hs:ad5 a)
  (h:wpAny (model prog w) A (eval c env) (λo g=>wpAny (model prog w) A (eval a env) (λi e=>e.TypeIs o T/\wpAny (model prog w) A (getItem o i) Q E e) E g) E s):
  wpAny (model prog w) A (eval (.Subscript c a q) env) Q E s:=by
 refine amI (tM h (λo g p=>tM p (λi e f=>?_) λ_ _ x=>x) λ_ _ x=>x);let(t,f):=f;refine kb ?_;refine kb (wpAny_specialOf t u ?_)
 let m:wpAny (model prog w) A (subscripted a false o i) (λr j=>wpAny (model prog w) A (letTemporaryGo c o r >>= λ_=>pure r) Q E j) E e:=by
  rw[hs o i];exact wpAny_operating (tM f (λr j n=>kb (wpAny_letTemporaryGo (pq n))) λ_ _ x=>x)
 first
  |exact pq (kb m)
  |exact kb (pq (kb m))
  |exact kb m
def Pb{X:Cx}{c:List (eF×Obj)}{h:St}{H:Hp}{s:fX}{a:eF}{y:V}{o:Option V}(I:Inv X c h H s)(g:kT H a y o):s.TypeIs (.ref a) "dict":=by
 rcases g with⟨f,k,e,_,_⟩|⟨f,k,b,e,_,_,_⟩
 .let(_,_,vs,_,dd):=Tx I.hok e;exact dd.typeIs
 .let(_,_,xs,_,dd):=Ua I.hok e;exact dd.typeIs
def ac0(g ty:TE):TE:=λe H Q=>g e H λx f=>ty e f λy c=>∃a v,x=.ref a/\kT c a y (some v)/\Q v c
def acq(ty g:TE):TE:=λe H Q=>ty e H λy f=>g e f λx c=>∃a o,x=.ref a/\kT c a y o/\Q (.bl (!o.isSome)) c
def agu(i ty h:TE):TS:=λD c H=>h c H λv f=>i c f λx g=>ty c g λy j=>∃a e,x=.ref a/\Qt j a y v e/\D.nx c e
section
variable{X:Cx}{o i e value:hH}{pos pos' tpos:Pos}{td ty tv:TE}
def rE(t:X.A.units+1<cLine)(C:PE X o td)(w:PE X i ty)(hs:ad5 i):PE X (.Subscript o i pos) (ac0 td ty):=by
 intro f s K H Q I h;refine aaL PySem.F.slot_dict_getitem.lookup hs (C.th I h λu M x G B n z=>w.th B z λJ L y p j q m=>?_);let(a,v,ex,g,r):=m;subst ex;obtain rfl:u=nk a:=n;exact(Pb j g,Wv t j g q λE N D c=>(v,p,D,c,r))
def Mq(r:X.A.units+1<cLine)(t:PE X i ty)(B:PE X o td):PC X .NotIn i o (acq ty td):=by
 intro c s F H Q I h;refine t.th I h λE J y D w n v=>B.th w v λu G x p z m f=>?_;let(a,j,ex,g,q):=f;subst ex;obtain rfl:u=nk a:=m;exact abw r z g n λK C=>(.bl (!j.isSome),p,C,rfl,q)
def G8(J:X.A.units+1<cLine)(t:PE X o td)(n:PE X i ty)(f:PE X value tv)(hs:swapsWith value (some (.Subscript o i pos')) pos.line X.env=pure false):
  PS X (.Assign [.Subscript o i pos'] value pos) (agu td ty tv):=by
 intro c s G H D I h;refine wpAny_Assign_Subscript (f.th I h λr Q v M K j q=>t.th K q λu O x R L C m=>n.th L m λN T y S w E z=>?_) hs;let(a,p,ex,g,F):=z;subst ex;obtain rfl:u=nk a:=C;exact WL J w g E j λP B=>(G,p,B,F)
end
theorem Qb{P:iU}{w:iP}{H:Hp}(h:h7)(a:sysModules<h.objs.size):gw P w H (h.push {cls:= .type "dict",data:= .dict #[]}) h.objs.size (.dK []):=
 (qj _,ajI.mpr (Ne.symm (me a)),[],.nil,Heap.DictOf.new h)
def ad0:TE:=λ_ H Q=>∀p,H p=none->Q (.ref p) (upd H p (.dK []))
section
variable{X:Cx}{pos:Pos}
theorem ZX:PE X (.Dict [] [] pos) ad0:=λc s e H Q I h=>
 wpAny_Dict_empty (.ref s.heap.objs.size,_,I.laid (a:=s.heap.objs.size) (o:= .dK []) (t':=s.toks) (λ_ _ q=>nr _ q) (gx _) (Qb s.heap I.big),rfl,h _ (I.hok.fresh (gx _)))
end
def RE:List (TE×TE)->St->Hp->(List (V×V)->Hp->Prop)->Prop
 |[],_,H,Q=>Q [] H
 |(tk,tv)::r,σ,H,Q=>tk σ H λx a=>tv σ a λy c=>RE r σ c λps e=>Q ((x,y)::ps) e
abbrev VV:List (V×V)->List (fy×fy)->Prop:=amt λp q=>RelV p.1 q.1/\RelV p.2 q.2
def PPs(X:Cx)(f:Pos)(e:List (Option hH))(a:List hH)(h:List (TE×TE)):Prop:=
 ∀(c:List (eF×Obj)) (s:fX) (g:St) (H:Hp) (Q:List (V×V)->Hp->Prop),Inv X c g H s->RE h g H Q→
  wpAny (model X.prog X.w) X.A (evalPairs (pairTrees e a X.env f)) (λvs i=>∃ps H',Inv X c g H' i/\VV ps vs/\Q ps H') X.xe s
theorem abX{X:Cx}{a:Pos}:PPs X a [] [] []:=λc s e H Q I h=>pairTrees_nil_walk ([],H,I,.nil,h)
theorem IK{X:Cx}{e:Pos}{k v:hH}{g:List (Option hH)}{vs:List hH}{tk i:TE}{a:List (TE×TE)}(E:PE X k tk)(m:PE X v i)(r:PPs X e g vs a):
  PPs X e (some k::g) (v::vs) ((tk,i)::a):=λc s z H Q I h=>
 pairTrees_cons_walk (E.th I h λu L x J C n B=>m.th C B λK A y o D p w=>
  k9 (r c A z o _ D w) λG M j=>by let(ps,t,F,f,q):=j;exact((x,y)::ps,t,F,.cons (n,p) f,q))
def DR(a more:List (Key×V)):List (Key×V):=more.foldl (λc kv=>putK c kv.1 kv.2) a
def KV.merge:∀{more:List (Key×V)} {c:List (Key×fy)} {a:List (Key×V)} {vs:List (Key×fy)},KV more c->KV a vs->KV (DR a more) (merged vs c):=by
 intro more c a vs r;induction r generalizing a vs with
 |nil=>intro q;exact q
 |@cons p q ps qs h t ih=>
  intro f
  let e:KV (putK a p.1 p.2) (stored vs q.1 q.2):=by
   let:=f.put p.1 h.2;rwa[<- h.1]
  exact ih e
theorem AR:∀(more a:List (Key×V)),(DR a more).length<=a.length+more.length
 |[],a=>by show a.length<=a.length+0;lia
 |p::r,a=>by
  let e:=AR r (putK a p.1 p.2);let c:=xt a p.1 p.2;show(DR (putK a p.1 p.2) r).length<=_;rw[rN];lia
theorem Ho{P:iU}{w:iP}:∀{e:List (Key×V)} {g:List (fy×fy)},VV (e.map λkv=>(kV kv.1,kv.2)) g->∃f,Carries (fJ P w) g f/\KV e f
 |[],_,r=>by cases r;exact([],ajN,.nil)
 |p::e,_,r=>by
  cases r with
  |@cons a b as bs h t=>
   let(f,c,q):=Ho t;let(i,b2):=b;exact((p.1,b2)::f,(Pg h.1,rfl,c),.cons (rfl,h.2) q)
def agn(c:List (TE×TE)):TE:=λf H Q=>∀p,H p=none->RE c f (upd H p (.dK [])) λps e=>e p=some (.dK [])/\∃a:List (Key×V),ps=a.map (λkv=>(kV kv.1,kv.2))/\a.length<=15/\Q (.ref p) (upd e p (.dK (DR [] a)))
def ack{X:Cx}{n:Pos}{f:List (Option hH)}{g:List hH}{i:List (TE×TE)}(h:PPs X n f g i)(m:f.all (·.isSome)=true)(B:f.length=g.length)(K:f≠[])
  (u:f.length<=15):PE X (.Dict f g n) (agn i):=by
 intro j s F H Q I q;let E:=I.hok.fresh (gx s.heap.objs.size);let M:=I.laid (t':=s.toks) (λ_ _ q=>nr _ q) (gx _) (Qb s.heap I.big);refine wpAny_Dict_walk (knd:=fJ X.prog X.w) m B K u (k9 (h j _ F _ _ M (q _ E)) λR T x=>?_);let(ps,S,v,t,e,p,O,lk,G):=x;subst O;let(D,c,y):=Ho t;let(z,hd,L,J,dd):=adB v.hok e;cases J;refine(D,c,dd,λh' r hs=>(.ref s.heap.objs.size,_,?_,rfl,G))
 let A:(DR [] p).length<=sizeLine:=by
  let C:=AR p [];rw[akA]at C;rw[LQ];lia
 let N:∃q,h'.get? s.heap.objs.size=some q:=let (q,_,_,hq,_):=r;(q,hq);exact jk v (by rw[e];exact ajN) hs N (YG A hd (y.merge .nil) r)
section
variable{X:Cx}{fw:List (eF×Obj)}{σ:St}{H:Hp}{s:fX}{a:eF}{y d:V}{u r:fy}{o:Option V}{A:jg}{E:fy->fX->Prop}
end
section
variable{X:Cx}{o e f:hH}{apos cpos:Pos}{td ty tx:TE}
end
section
variable{X:Cx}{fw:List (eF×Obj)}{σ:St}{H:Hp}{s:fX}{a:eF}{kvs:List (Key×V)}{A:jg}{E:fy->fX->Prop}
end
section
variable{X:Cx}{fw:List (eF×Obj)}{σ:St}{H:Hp}{s:fX}{a:eF}{y:V}{u:fy}{A:jg}{E:fy->fX->Prop}
end
end L2
namespace Att
open PySem PySem.W PySem.Calls PyProof.Rows
def Gh{P:Params}{h:h7}:∀(ns:List Int) (vs:List fy),WellAll P h vs (ns.map aoU)->anx vs ns:=by
 intro ns
 induction ns with
 |nil=>
  intro vs w;cases w;exact .nil
 |cons n ns c=>
  intro vs w;cases w with
  |cons a b=>
   cases a;exact .cons _ _ (c _ b)
def WG{l:OpenLaw}{n:Nat}(w:l.most=some n){P:Params}{h:h7}{args:List WData}{c:List fy}
  (e:l.row.toRowW.claim.pre args=true) (m:WellAll P h c args):
  ∃a vs ns,c=[nk a]/\args=[WData.list (ns.map aoU)]/\h.get? a=some {cls:= .type "list",data:= .seq vs.toArray}/\anx vs ns/\ns.length<=n:=by
 let o:=(pre_splitW e).1;let p:=(pre_splitW e).2;let(d,r,rfl,u,v):=hasAllW_cons o;obtain rfl:=hasAllW_nil v;let(xs,rfl,y):=hasW_list u;let(ns,rfl):=items_int y
 let f:ns.length<=n:=by
  let i:=by
   let i:=(holds_andW p).1;rw[w]at i;exact i
  let j:=condW_of i (w_not (w_lt w_lit (w_len_list (w_arg rfl))));simp_all
 cases m with
 |cons x s=>
  cases s;cases x with
  |list z g=>exact(_,_,ns,rfl,rfl,z,Gh ns _ g,f)
theorem WZ(l:OpenLaw)(args:List WData):l.row.toRowW.claim.post args (.bool true) args=true:=
 postW_of (r:=l.row.toRowW) (X:=(true==true))
  (show WShape.has [] (.bool true) .bool=true by rfl)
  (show(WTm.eq .res (.lit (.bool true))).value [] {args:=args,res:=some (.bool true),after:=args}=some (.bool (true==true)) from w_eq_bool (w_res rfl) w_lit) rfl
def QJ{l:OpenLaw}{n:Nat}{q:iU}{e:List Str}{C:(Str->Option fy)->h7->Prop}{E:iP->h7->Prop}{d:DefRec}
  (H:l.most=some n) (u:d.params.defaults=[])
  (call:∀(w:iP) (s₀ c:fX) (mg x:Str->Option fy) (fa:eF) (o:Obj) (z p g:fy) (a:eF) (vs:List fy) (ns:List Int),
   Ground q e [] C w s₀ mg x c.heap->E w c.heap→
   c.heap.get? fa=some o->o.data=.func (docDef d.name d.params d.body d.scope z p g)->c.heap.CodeRec p d.name->mg d.name=some (.ref fa)→
   c.heap.get? a=some {cls:= .type "list",data:= .seq vs.toArray}->anx vs ns->ns.length<=n->c.gens=#[]→
   codeAny (model l.prog w) callerA (.call (.ref fa) ([.ref a],[])) (λr s=>r=.ok (.ret (.bool true))/\OldK c.heap s.heap/\s.os=c.os/\L1 s.gens) c):
  WalkO q e C E l.row.toRowW d [] (λf vs=>PySem.call f vs):=by
 intro w s₀ c mg x G Y fa o z p g J kV L hd y B v N args A as m D O t Q;obtain rfl:J=.none:=Dflts.none B u;obtain rfl:kV=.none:=Dflts.noKw B;let(a,vs,ns,rfl,rfl,j,h,i):=WG H m t;refine enter_call (akD (call w s₀ c mg x fa o z p g a vs ns G Y L (fd_plain hd) y v j h i N) λr s K=>?_);let(rfl,F,I,M):=K;exact(.inl (.bool true,.bool true,[],rfl,λ_=>rfl,.bool true,WZ l _,λ_=>(List.Pairwise.nil,λ_ P=>(nomatch P))),F,I,M)
section
variable{prog:iU}{w:iP}{A:jg}{E:fy->fX->Prop}{s:fX}{K:Frag}
end
end Att
namespace L2
open PySem PySem.Spec PyProof.Rows
theorem LF:∀{vs:List fy} {ns:List Int},anx vs ns->Vals (ns.map V.int) vs
 |_,_,.nil=>.nil
 |_,_,.cons n t h=>.cons (t,rfl) (LF h)
def afr(H:Hp):Prop:=∀b,H b=none\/∃o xs,H b=some (.frz o (.lst xs))
def XI{P:iU}{w:iP}{K:gI}{mg M:Str->Option fy}{CX:wH}{k:Nat}{fa a:eF}{fd:pG}{x:Str}{sp:Sp}{c:fX}{vs:List fy}{ns:List Int}
  (S:K.In c.heap) (y:c.heap.Ns mainGlobals mg) (g:c.heap.Ns builtinsNs M) (J:∀x:Str,x≠"__name__"->M x=bootBuiltins x) (C:c.heap.NoLimit) (hg:c.gens=#[])
  (I:c.heap.get? a=some {cls:= .type "list",data:= .seq vs.toArray}) (T:anx vs ns) (U:ns.length<=sizeLine) (hr:eT cm k callerA)
  (F:∀eC:h7,K.In eC->eC.Ns mainGlobals mg->wP CX cm k fa fd [x] sp) (t:∀(s:fX) (u:fy),alW s fd ([u],[]) [(x,u)])
  (L:∀H:Hp,afr H->fT K H a (ns.map V.int)->sp [.ref a] H (λv _=>v=.bl true) λ_ _ _=>False)
  (N:∀H e i,CX [] H c (λ_ _ _=>False) e i->False):
  codeAny (model P w) callerA (.call (.ref fa) ([.ref a],[])) (λr i=>r=.ok (.ret (.bool true))/\OldK c.heap i.heap/\i.os=c.os/\L1 i.gens) c:=by
 let R:=LF T;let D:=T.length
 let p:∀H,afr H->fT K H a (ns.map V.int)->mT P w H c.heap->(∀b,H b≠none->b=a)->(H a≠none->K.lookup a=none)→
   codeAny (model P w) callerA (.call (.ref fa) ([.ref a],[])) (λr i=>r=.ok (.ret (.bool true))/\OldK c.heap i.heap/\i.os=c.os/\L1 i.gens) c:=by
  intro H X hS hok W hK;let f:∀{b:eF} {o:Obj},c.heap.get? b=some o->H b=none->(ND c.heap H).get? b=some o:=λe n=>Ys e n
  let Q:∀{b:eF} {o:Obj} {es:Array DictEntry} {B:Nat},c.heap.get? b=some o->o.data=.dict es B->H b=none:=λ{b o es B} e d=>by
   grind
  let j:∀{b:eF} {m:Str->Option fy},c.heap.Ns b m->(ND c.heap H).Ns b m:=λ{b m} (o,es,B,e,d,r)=>(o,es,B,f e (Q e d),d,r)
  let G:=λb o e=>f (S b o e) (by
   grind)
  let hM:Mod K mg (ND c.heap H):=(G,j y,(M,j g,J),let (mc,h1,h2):=C;(mc,j h1,h2));let e0:R7 P w K mg (ND c.heap H) callerA [] c H:=(rfl,hM,λb o e=>acE e,am8 (WD _ _),trivial,λb g=>absurd (show b∈([]) from g) (by simp),hok,.of_eq hg);refine akD ((F _ G (j y)).run callerA [] c H ([.ref a],[]) [.ref a] [.ref a] _ _ hr e0 (t c (.ref a)) (.cons rfl .nil) (L H X hS)) λr i h=>?_;cases r with
  |error e=>exact(N H e i h).elim
  |ok Z=>
   cases Z with
   |next=>exact DA h
   |brk=>exact DA h
   |cont=>exact DA h
   |ret u=>
    let(v,H',os,bare,un,E,Y,q):=h;let q':=q;subst q';obtain rfl:u=alS true:=Y;refine(rfl,OldK.of_keep λb o e=>?_,os,bare);cases q:H b with
    |none=>exact un.keep b o e q (by intro z;exact absurd (show b∈([]) from z) (by simp)) (by simp)
    |some u=>
     rcases X b with z|⟨ob,xs,z⟩
     .simp_all
     .let z2:=un.HH b ob _ z;let(e1,_):=hok b _ z;let(e2,_):=E b _ z2;lia
 cases hk:K.lookup a with
 |some o=>
  let e:=S a o hk;rw[I]at e;cases e;refine p (λ_=>none) (λ_=>.inl rfl) (.inr (_,vs.toArray,_,hk,rfl,rfl,rfl,by rwa[js,D],by simp_all)) (λb u z=>by simp_all) (λb z=>absurd rfl z) λz=>absurd rfl z
 |none=>
  refine p (λb=>if b=a then some (.frz {cls:= .type "list",data:= .seq vs.toArray} (.lst (ns.map V.int))) else none) (λb=>?_) (.inl (.inr ({cls:= .type "list",data:= .seq vs.toArray},fR rfl))) (λb u z=>?_) (λb z=>?_) λ_=>hk
  .by_cases g:b=a
   .exact .inr (_,_,fR g)
   .exact .inl (fC g)
  .by_cases g:b=a
   .let A:=(fR g).symm.trans z;cases A;subst g;exact(I,by rwa[gQ],vs,_,R,I)
   simp_all
  .by_cases g:b=a
   .exact g
   .exact absurd (fC g) z
def aaY{l:ame}{n k:Nat}{q:iU}{i:List Str}{N:(Str->Option fy)->h7->Prop}{D:iP->h7->Prop}{d:DefRec}{K:Params->gI}{CX:iP->wH}{sp:iP->Sp}{x:Str}
  (L:l.most=some n) (B:n<=sizeLine) (y:d.params.defaults=[]) (I:eT cm k callerA)
  (O:∀(w:iP) (h:h7),D w h->(K w.params).In h)
  (F:∀(w:iP) (mg:Str->Option fy) (fa:eF) (h:h7),(K w.params).In h->h.Ns mainGlobals mg->mg d.name=some (.ref fa)→
   ∃fd:pG,(∀(s:fX) (u:fy),alW s fd ([u],[]) [(x,u)])∧
    ∀eC:h7,(K w.params).In eC->eC.Ns mainGlobals mg->aD l.prog w (K w.params) mg eC (CX w) cm k fa fd [x] (sp w))
  (t:∀(w:iP) (H:Hp) (a:eF) (ns:List Int),ns.length<=n->afr H->fT (K w.params) H a (ns.map V.int)->sp w [.ref a] H (λv _=>v=.bl true) λ_ _ _=>False)
  (A:∀(w:iP) (H:Hp) (s:fX) (e:fy) (r:fX),CX w [] H s (λ_ _ _=>False) e r->False):
  aow q i N D l.row.toRowW d [] (λf vs=>PySem.call f vs):=by
 refine Att.QJ L y λw s₀ m mg X fa o Z U J a vs ns G Y W hd M z p j c R=>?_;let C:=O w _ Y;let(fd,E,Q):=F w mg fa _ C G.T.g z;exact XI C G.T.g G.T.b G.T.builtins G.T.nolimit R p j (jC c B) I Q E (λH P S=>t w H a ns c P S) λH e r=>A w H m e r
def oN(s:gF):Arguments:=match s with
 |.FunctionDef _ a _ _ _ _ _ _ _ _=>a
 |_=>{posonlyargs:=[],args:=[],vararg:=none,kwonlyargs:=[],kw_defaults:=[],kwarg:=none,defaults:=[]}
def cZ(s:gF):List gF:=match s with
 |.FunctionDef _ _ b _ _ _ _ _ _ _=>b
 |_=>[]
def ah(s:gF):uf:=match s with
 |.FunctionDef _ _ _ _ _ _ a _ _ _=>a
 |_=>{kind:= .function,names:=[],isGenerator:=false,isCoroutine:=false}
section
variable{P:iU}{w:iP}{K:gI}{mg:Str->Option fy}{eC:h7}
end
theorem pI{A:jg}{k:Nat}(a:eT cm k A):A.units+1<cLine:=uk (amV (by decide:1<=64) _) a.units
theorem aM{n:Nat}(h:n<=1000):n<sizeLine:=uk h ∅
section
variable{X:Cx}
theorem pv(i:Nat){x:Str}{c:Pos}(f:autoParam (X.N[i]? =some x) L2.aE._auto_1)(e:Vis X.env.scope x:=by first|exact aoC rfl|exact aob (aoC rfl)|exact aob (aob rfl))(hd:autoParam ((x==("__debug__":Str))=false) L2.adP._auto_2)
  (a:(x==("__classdict__":Str))=false:=by decide):PE X (.Name x c) (Zm i):=adP f e hd a
end
def af7{A B:Prop}(h:B):if false=true then A else B:=by
 rwa[fC jT]
def agv{A B:Prop}(h:A):if true=true then A else B:=by
 rwa[fR rfl]
def bR{c A B:Prop}[Decidable c](e:c->A)(a:¬c->B):if c then A else B:=by
 simp_all
def aH(H H':Hp):Prop:=∀b o,H b=some o->H' b=some o
theorem aH.refl(H:Hp):aH H H:=λ_ _ h=>h
theorem aH.trans{H e f:Hp}(a:aH H e)(b:aH e f):aH H f:=λc o h=>b c o (a c o h)
def aH.free{H H':Hp}(e:aH H H'){l:eF}(h:H' l=aoR):H l=aoR:=by
 cases q:H l with
 |none=>rfl
 |some o=>
  rw[e l o q]at h;cases h
def aH.seq{K:gI}{H H':Hp}{a:eF}{xs:List V}(e:aH H H')(h:fT K H a xs):fT K H' a xs:=by
 rcases h with(h|⟨o,h⟩)|h
 .exact .inl (.inl (e _ _ h))
 .exact .inl (.inr (o,e _ _ h))
 .exact .inr h
section
variable{κ:Type}[DecidableEq κ]
end
theorem ju{f:Sort _}{p r:f->Prop}{a:f}(e:p a)(h:r a):∃c,p c/\r c:=(a,e,h)
theorem jl{e:Sort _}{c:Sort _}{R:e->c->Prop}(a:e)(b:c)(f:R a b):∃a b,R a b:=(a,b,f)
theorem mI{g:Sort _}{f:Sort _}{e:Sort _}{R:g->f->e->Prop}(a:g)(b:f)(c:e)(h:R a b c):∃a b c,R a b c:=(a,b,c,h)
theorem iG{h:Sort _}{f:Sort _}{e:Sort _}{g:Sort _}{R:h->f->e->g->Prop}(a:h)(b:f)(c:e)(d:g)(i:R a b c d):∃a b c d,R a b c d:=(a,b,c,d,i)
theorem oi{j:Sort _}{g:Sort _}{f:Sort _}{h:Sort _}{i:Sort _}{R:j->g->f->h->i->Prop}(a:j)(b:g)(c:f)(d:h)(e:i)(m:R a b c d e):∃a b c d e,R a b c d e:=(a,b,c,d,e,m)
theorem j0{n:Sort _}{i:Sort _}{h:Sort _}{j:Sort _}{m:Sort _}{g:Sort _}{R:n->i->h->j->m->g->Prop}(a:n)(b:i)(c:h)(d:j)(e:m)(f:g)(o:R a b c d e f):∃a b c d e f,R a b c d e f:=(a,b,c,d,e,f,o)
theorem ml{p:Sort _}{j:Sort _}{i:Sort _}{m:Sort _}{o:Sort _}{h:Sort _}{n:Sort _}{R:p->j->i->m->o->h->n->Prop}(a:p)(b:j)(c:i)(d:m)(e:o)(f:h)(g:n)(q:R a b c d e f g):∃a b c d e f g,R a b c d e f g:=(a,b,c,d,e,f,g,q)
theorem ex8{r:Sort _}{n:Sort _}{j:Sort _}{o:Sort _}{q:Sort _}{i:Sort _}{p:Sort _}{m:Sort _}{R:r->n->j->o->q->i->p->m->Prop}(a:r)(b:n)(c:j)(d:o)(e:q)(f:i)(g:p)(h:m)(s:R a b c d e f g h):∃a b c d e f g h,R a b c d e f g h:=(a,b,c,d,e,f,g,h,s)
theorem ex9{t:Sort _}{p:Sort _}{j:Sort _}{q:Sort _}{s:Sort _}{n:Sort _}{m:Sort _}{o:Sort _}{r:Sort _}{R:t->p->j->q->s->n->m->o->r->Prop}(a:t)(b:p)(c:j)(d:q)(e:s)(f:n)(g:m)(h:o)(i:r)(u:R a b c d e f g h i):∃a b c d e f g h i,R a b c d e f g h i:=(a,b,c,d,e,f,g,h,i,u)
theorem aaP{v:Sort _}{q:Sort _}{m:Sort _}{r:Sort _}{u:Sort _}{o:Sort _}{n:Sort _}{p:Sort _}{t:Sort _}{s:Sort _}{R:v->q->m->r->u->o->n->p->t->s->Prop}(a:v)(b:q)(c:m)(d:r)(e:u)(f:o)(g:n)(h:p)(i:t)(j:s)(w:R a b c d e f g h i j):∃a b c d e f g h i j,R a b c d e f g h i j:=(a,b,c,d,e,f,g,h,i,j,w)
theorem kz{a b c:Prop}(f:a)(g:b)(e:c):a/\b/\c:=(f,g,e)
theorem ll{a b c d:Prop}(e:a)(g:b)(f:c)(hd:d):a/\b/\c/\d:=(e,g,f,hd)
theorem gT{a b c d e:Prop}(h:a)(i:b)(f:c)(hd:d)(g:e):a/\b/\c/\d/\e:=(h,i,f,hd,g)
theorem pE{a b c d e f:Prop}(j:a)(m:b)(g:c)(hd:d)(i:e)(h:f):a/\b/\c/\d/\e/\f:=(j,m,g,hd,i,h)
theorem kR{a b c d e f g:Prop}(n:a)(o:b)(h:c)(hd:d)(j:e)(i:f)(m:g):a/\b/\c/\d/\e/\f/\g:=(n,o,h,hd,j,i,m)
theorem an8{a b c d e f g h:Prop}(p:a)(q:b)(i:c)(hd:d)(m:e)(j:f)(o:g)(n:h):a/\b/\c/\d/\e/\f/\g/\h:=(p,q,i,hd,m,j,o,n)
theorem DK{a b c d e f g h i:Prop}(r:a)(s:b)(j:c)(hd:d)(n:e)(m:f)(p:g)(o:h)(q:i):a/\b/\c/\d/\e/\f/\g/\h/\i:=(r,s,j,hd,n,m,p,o,q)
theorem R6{a b c d e f g h i j:Prop}(t:a)(p:b)(m:c)(hd:d)(s:e)(r:f)(o:g)(u:h)(q:i)(n:j):a/\b/\c/\d/\e/\f/\g/\h/\i/\j:=(t,p,m,hd,s,r,o,u,q,n)
section
variable{K:gI}{H:Hp}{f:Str}{a C dx:eF}{fs:List (Str×V)}{v:V}
theorem bA{R:eF->eF->V->Prop}(h:H a=some (.ins C dx fs))(c:rz K C)(n:bw K C f)(l:fs.lookup f=some v)(r:R a C v):∃e C dx fs v,V.ref a=.ref e/\H e=some (.ins C dx fs)/\rz K C/\bw K C f/\fs.lookup f=some v/\R e C v:=(a,C,dx,fs,v,rfl,h,c,n,l,r)
theorem cw{R:eF->eF->eF->List (Str×V)->Prop}(h:H a=some (.ins C dx fs))(c:rz K C)(n:bw K C f)(l:fs.length<1000)(r:R a C dx fs):∃e C dx fs,V.ref a=.ref e/\H e=some (.ins C dx fs)/\rz K C/\bw K C f/\fs.length<1000/\R e C dx fs:=(a,C,dx,fs,rfl,h,c,n,l,r)
theorem eS{Dt:eF->Sp->List V->Prop}{sp:Sp}{c:List V}{R:eF->Sp->List V->Prop}(h:H a=some (.ins C dx fs))(d:Dt C sp c)(l:fs.lookup f=none)(r:R a sp c):∃e C dx fs sp c,V.ref a=.ref e/\H e=some (.ins C dx fs)/\Dt C sp c/\fs.lookup f=none/\R e sp c:=(a,C,dx,fs,sp,c,rfl,h,d,l,r)
theorem gB{R:V->Prop}{p:eF}{xs:List V}{i:Int}{v:V}(s:fT K H p xs)(e:ql xs i=some v)(r:R v):∃g xs c v,V.ref p=.ref g/\V.int i=.int c/\fT K H g xs/\ql xs c=some v/\R v:=(p,xs,i,v,rfl,rfl,s,e,r)
theorem sR{R:V->Prop}{p:eF}{xs:List V}{i:Int}{v:V}(s:jx K H p xs)(e:ql xs i=some v)(r:R v):∃g xs c v,V.ref p=.ref g/\V.int i=.int c/\jx K H g xs/\ql xs c=some v/\R v:=(p,xs,i,v,rfl,rfl,s,e,r)
theorem lR{R:V->Prop}{y v:V}(d:kT H a y (some v))(r:R v):∃c v,V.ref a=.ref c/\kT H c y (some v)/\R v:=(a,v,rfl,d,r)
theorem EW{R:eF->List V->Nat->Prop}{p:eF}{xs:List V}{k:Int}{j:Nat}(h:H p=some (.lst xs))(e:xE xs.length k=some j)(r:R p xs j):∃c xs g j,V.ref p=.ref c/\V.int k=.int g/\H c=some (.lst xs)/\xE xs.length g=some j/\R c xs j:=(p,xs,k,j,rfl,rfl,h,e,r)
end
def Inv.adn{X:Cx}{f:List (eF×Obj)}{j:St}{H:Hp}{s:fX}{a:eF}{o:HO}(I:Inv X f j H s)(h:H a=none)(t:X.s₀.heap.get? a=none)(r:a≠X.env.locals)
  (m:∀x c,X.env.cells.lookup x=some c->c≠a) (v:∀p∈X.pn++f,p.1≠a) (new:gw X.prog X.w (upd H a o) s.heap a o):Inv X f j (upd H a o) s:=by
 refine(I.ok,I.os,I.bare,(I.eC.keep,I.eC.slot,λb i q n y=>?_,I.eC.there,λb xs q=>?_,λb i u q=>?_,λb ps q=>?_),I.loc,I.cell,?_,λx c e=>?_,λp g=>?_,λb u e=>?_,I.len)
 .rw[ag λz=>by simp_all];exact I.eC.free b i q n y
 .let z:=I.eC.La b xs q;rwa[ag (ao z h)]
 .let z:=I.eC.HH b i u q;rwa[ag (ao z h)]
 .let(more,z):=I.eC.Lr b ps q;exact(more,by rwa[ag (ao z h)])
 .rw[ag (Ne.symm r)];exact I.free
 .rw[ag (m x c e)];exact I.mD x c e
 .let(h1,h2,h3):=I.pin p g;exact(h1,by rwa[ag (v p g)],h3)
 .by_cases hb:b=a
  .grind[ae]
  .rw[ag hb]at e;exact(I.hok b u e).OI (λ_ _ _ q=>q) (λc q=>by rwa[ag (ao q h)]) λc xs q=>by rwa[ag (ao q h)]
section
variable{prog:iU}{w:iP}{A:jg}{R:Result->fX->Prop}{s:fX}
def OX{y a p:hH}{z:List hH}{scope:uf}{E:Pos}{it B:fy}{env:Env}(I:Nat->fX->Prop)
  (turn:∀n s,I n s->wpAny (model prog w) A (pyNext it) (λr e=>match r with
   |none=>R (.ok .next) e
   |some v=>wpAny (model prog w) A (letOwnedTupleGo a it v) (λ_ i=>wpAny (model prog w) A (assign a env v) (λ_ j=>
     wpAny (model prog w) A (forIn z true λc r=>if r=true then do let ok<-isTrue c env (eval c env);pure (alb ok) else pure (alb r)) (λok g=>
      if ok=true then wpAny (model prog w) A (eval y env) (λx u=>
       wpAny (model prog w) A (call (.builtin "list.append") [B,x]) (λ_ t=>∃m,m<n/\I m t) (λ_ _=>False) u) (λ_ _=>False) g
      else ∃m,m<n/\I m g) (λ_ _=>False) j) (λ_ _=>False) i) (λ_ _=>False) e) (λ_ _=>False) s)
  (n:Nat) (h:I n s):
  codeAny (model prog w) A (.compLoop (.ListComp y [(a,p,z,0)] scope E) 0 it B env) R s:=by
 refine codeAny_loop rfl I (λn s H=>?_) n h;refine wpAny_noted ?_;rw[compTurn_list];refine kb (alG (kb (tM (turn n s H) (λr e q=>?_) λ_ _ f=>f.elim)));cases r with
 |none=>exact pq q
 |some v=>
  refine kb (tM q (λ_ i C=>?_) λ_ _ f=>f.elim);refine kb (tM C (λ_ j G=>kb (tM G (λok g o=>?_) λ_ _ f=>f.elim)) λ_ _ f=>f.elim);cases ok with
  |false=>exact pq (rfl,o)
  |true=>
   exact kb (kb (tM o (λx u F=>kb (tM F (λ_ t D=>pq (pq (rfl,D))) λ_ _ f=>f.elim)) λ_ _ f=>f.elim))
end
def PF(X:Cx)(f:List hH)(t:TT):Prop:=
 ∀(a:List (eF×Obj)) (s:fX) (e:St) (H:Hp) (Q:Bool->Hp->Prop),Inv X a e H s->t e H Q→
  wpAny (model X.prog X.w) X.A (forIn f true λc r=>if r=true then do let ok<-isTrue c X.env (eval c X.env);pure (alb ok) else pure (alb r)) (TP X a e Q) X.xe s
def aew:TT:=λ_ H Q=>Q true H
theorem Br{X:Cx}:PF X [] aew:=λ_ _ _ H _ I h=>wpAny_tests_nil (H,I,h)
theorem mL{X:Cx}{c:hH}{t:TT}(h:PT X c t):PF X [c] t:=λa s e H Q I q=>wpAny_tests_one (h a s e H Q I q)
def Cx.comp(X:Cx)(a:List Str)(scope:uf)(cl:List (Str×eF))(C:eF)(e:List eF)(c:fX)(f:Hp):Cx:=
 {X with N:=a,s₀:=c,H₀:=f,env:=compEnvC scope cl C X.env,fM:=X.stack,ex:=e,fn:=λ_=>false,pn:=[],xe:=λ_ _=>False}
def SH{c:Type}(P:c->Prop):List c->Prop
 |[]=>True
 |a::r=>P a/\SH P r
theorem SH.mem{c:Type}{P:c->Prop}:∀{l:List c},SH P l->∀a∈l,P a
 |_::_,(h,_),_,.head _=>h
 |_::_,(_,t),_,.tail _ m=>SH.mem t _ m
structure BJ(X:Cx)(scope:uf)(x:Str)(fr:List (Str×Nat))(cl:List (Str×eF)):Prop where
 kind:scope.kind=.function
 af5:closureFor scope X.env=pure cl
 YZ:∀y∈scope.names,y.2≠ .cell
 names:∀y∈scope.names,y.2=.local->scope.names.lookup y.1=some .local
 own:scope.names.lookup x=some .local
 nd:(x::fr.map (·.1)).Nodup
 cells:SH (λp:Str×eF=>X.env.cells.lookup p.1=some p.2) cl
 has:SH (λy:Str×ak1=>y.2=.free->∃c,cl.lookup y.1=some c) scope.names
 slot:SH (λp:Str×Nat=>X.N[p.2]? =some p.1/\(X.env.kindOf p.1=some .cell\/X.env.kindOf p.1=some .free)/\scope.names.lookup p.1=some .free/\cl.lookup p.1=X.env.cells.lookup p.1) fr
theorem BJ.cell{X:Cx}{scope:uf}{x:Str}{fr:List (Str×Nat)}{cl:List (Str×eF)}(S:BJ X scope x fr cl){y:Str}{c:eF}(e:cl.lookup y=some c):X.env.cells.lookup y=some c:=
 S.cells.mem _ (ajq e)
theorem Du{scope:uf}{env:Env}{y:Str}:∀{l:List (Str×ak1)} {k:ak1},
  (l.map λ(n,k)=>if (k==NameKind.free&&env.scope.kind== .function&&env.kindOf n==some .cell) then (n,NameKind.cell) else (n,k)).lookup y=some k→
  ∃k0,l.lookup y=some k0/\(k=k0\/(k0=.free/\k=.cell))
 |[],_,h=>by simp at h
 |(n,k0)::r,k,h=>by
  let c:=@Du scope env y r k;let h:ID y ((if (k0==NameKind.free&&env.scope.kind== .function&&env.kindOf n==some .cell)=true then (n,NameKind.cell) else (n,k0))::(r.map λ(n,k)=>if (k==NameKind.free&&env.scope.kind== .function&&env.kindOf n==some .cell) then (n,NameKind.cell) else (n,k)))=some k:=h;cases hx:y==n with
  |true=>
   refine(k0,by simp[Ft,hx],?_);by_cases a:(k0==NameKind.free&&env.scope.kind== .function&&env.kindOf n==some .cell)=true
   .rw[fR a]at h;simp only[Ft,hx]at h;simp only[mu,xc]at a;exact .inr (a.1.1,(iJ h).symm)
   .rw[fC a]at h;simp only[Ft,hx]at h;exact .inl (iJ h).symm
  |false=>
   let h':ID y (r.map λ(n,k)=>if (k==NameKind.free&&env.scope.kind== .function&&env.kindOf n==some .cell) then (n,NameKind.cell) else (n,k))=some k:=by
    by_cases a:(k0==NameKind.free&&env.scope.kind== .function&&env.kindOf n==some .cell)=true
    .rw[fR a]at h;simpa only[Ft,hx] using h
    .rw[fC a]at h;simpa only[Ft,hx] using h
   let(k1,e1,e2):=c h';exact(k1,by simpa[Ft,hx] using e1,e2)
theorem Co{scope:uf}{env:Env}{y:Str}:∀{l:List (Str×ak1)},l.lookup y=some .free→
  (l.map λ(n,k)=>if (k==NameKind.free&&env.scope.kind== .function&&env.kindOf n==some .cell) then (n,NameKind.cell) else (n,k)).lookup y=some .free∨
  (l.map λ(n,k)=>if (k==NameKind.free&&env.scope.kind== .function&&env.kindOf n==some .cell) then (n,NameKind.cell) else (n,k)).lookup y=some .cell
 |[],h=>by simp at h
 |(n,k0)::r,h=>by
  let c:=@Co scope env y r;show ID y ((if (k0==NameKind.free&&env.scope.kind== .function&&env.kindOf n==some .cell)=true then (n,NameKind.cell) else (n,k0))::_)=_\/ID y ((if (k0==NameKind.free&&env.scope.kind== .function&&env.kindOf n==some .cell)=true then (n,NameKind.cell) else (n,k0))::_)=_;cases hx:y==n with
  |true=>
   simp only[Ft,hx]at h;cases h;by_cases a:(NameKind.free==NameKind.free&&env.scope.kind== .function&&env.kindOf n==some .cell)=true
   .rw[fR a];exact .inr (by simp[Ft,hx])
   .rw[fC a];exact .inl (by simp[Ft,hx])
  |false=>
   simp only[Ft,hx]at h;by_cases a:(k0==NameKind.free&&env.scope.kind== .function&&env.kindOf n==some .cell)=true
   .rw[fR a];simpa only[Ft,hx] using c h
   .rw[fC a];simpa only[Ft,hx] using c h
def inner(a:St)(fr:List (Str×Nat))(v:Option V):St:=v::fr.map λp=>(a[p.2]?).join
section
variable{X:Cx}{fw:List (eF×Obj)}{σ:St}{H2:Hp}{s2:fX}{scope:uf}{x:Str}{fr:List (Str×Nat)}{cl:List (Str×eF)}{C:eF}{fp:List eF}
theorem T7(S:BJ X scope x fr cl)(I:Inv X fw σ H2 s2)(r:s2.heap.objs.size<=C)(g:∀b∈fp,kP X fw H2 b)(j:∀b∈fp,b<s2.heap.objs.size):
  (X.comp (x::fr.map (·.1)) scope cl C fp s2 H2).Ok where
 mod:=I.mod
 kind:=S.kind
 glob:=I.ok.glob
 blt:=I.ok.blt
 above:=r
 inj:=λy z c s u=>I.ok.inj y z c (S.cell s) (S.cell u)
 has:=λy m=>by
  let m:(relabel scope X.env).names.lookup y=some .cell\/(relabel scope X.env).names.lookup y=some .free:=m
  let f:∀k,(relabel scope X.env).names.lookup y=some k->(k=.cell\/k=.free)->∃c,cl.lookup y=some c:=λk t n=>by
   let(k0,e1,e2):=Du (scope:=scope) t;let i:=ajq e1
   let p:k0=.free:=by
    rcases e2 with e2|e2
    .subst e2;rcases n with z|z
     .exact absurd z (S.YZ _ i)
     .exact z
    .exact e2.1
   exact S.has.mem _ i p
  rcases m with z|z
  .exact f _ z (.inl rfl)
  .exact f _ z (.inr rfl)
 cab:=λy c h _=>absurd (show(false:Bool)=true from h) ∅
 hd:=I.ok.hd
 frames:=I.ok.frames
 stk:= .inl rfl
 exf:=λb a=>(me (rr (j b a) r),λy c e=>(g b a).2.2.2.2.1 y c (S.cell e))
 bs:=I.bs
 bsz:=jC I.ok.bsz I.sz
 NW:=λb o e a=>by
  rcases(g b a).2.2.2.1 with z|z
  .exact I.ok.NW b o e z
  .let q:=(I.ok.bs b o e).1;simp_all
 Oa:=λb a i=>by
  rcases oT.mp (I.SR b i) with z|z
  .exact (g b a).2.1 z
  .exact (g b a).2.2.1 z
 yC:=I.stack
 frf:=I.Np
theorem YT{j:h7}{t1:Nat}(S:BJ X scope x fr cl)(I:Inv X fw σ H2 s2)(F:s2.heap.objs.size<=C)(Q:∀b∈fp,kP X fw H2 b)(w:∀b∈fp,b<s2.heap.objs.size)
  (a:∀b o,s2.heap.get? b=some o->j.get? b=some o) (L:j.Ns C λ_=>none) {D:eF} {h:Obj} (P:j.get? D=some h) (f:s2.heap.objs.size<=D) (t:D≠C) (B:∀v,h.data≠ .cell v):
  Inv (X.comp (x::fr.map (·.1)) scope cl C fp s2 H2) [(D,h)] (inner σ fr none) H2 {s2 with heap:=j,toks:=t1} where
 ok:=T7 S I F Q w
 os:=rfl
 bare:=I.bare
 eC:=Un.kept a
 loc:=by
  refine(_,L,λi y v e1 e2 e3=>?_);let(m,G,K):=I.loc;cases i with
  |zero=>simp[inner]at e2
  |succ i=>
   let e1:(fr.map (·.1))[i]? =some y:=e1;let e2:(fr.map λp=>(σ[p.2]?).join)[i]? =some (some v):=e2;rw[i6]at e1 e2;cases q:fr[i]? with
   |none=>simp_all
   |some p=>
    rw[q]at e1 e2;let e1:=iJ e1;let e2:(σ[p.2]?).join=some v:=iJ e2;subst e1;let(M,E,R,H):=S.slot.mem p (JO q)
    let n:σ[p.2]? =some (some v):=by
     cases r:σ[p.2]? with
     |none=>rw[r]at e2;cases e2
     |some O=>
      simp_all
    let s:Vis X.env.scope p.1:=by
     rcases E with z|z
     .exact .inr (.inl z)
     .exact .inr (.inr z)
    let(u,N,lk):=K p.2 p.1 v M n s;refine(u,N,.inr (?_,?_))
    .let:=Co (scope:=scope) (env:=X.env) R;rcases this with z|z
     .exact .inr z
     .exact .inl z
    .rcases lk with⟨k,_⟩|⟨_,c,ec,ic⟩
     .simp_all
     .refine (c,H.trans ec,?_);let(o,g,hd):=ic;exact(o,a _ _ g,hd)
 cell:=λy c e=>by
  let(v,o,g,hd):=I.cell y c (S.cell e);exact(v,o,a _ _ g,hd)
 free:=I.hok.fresh F
 mD:=λy c e=>I.mD y c (S.cell e)
 pin:=λp A=>by
  let A:=by simpa[Cx.comp] using A
  subst A;refine(P,I.hok.fresh f,t,λG=>?_,B);let(_,o,g,_):=I.stack.mem (show D∈X.stack.filterMap (·.frame) from G);exact absurd (rr (lD g) f) (Mo _)
 hok:=I.hok.kept a
 len:=by simp[inner,Cx.comp]
end
abbrev N9(its:List fy)(n:Nat):Obj:={cls:= .type "list",data:= .seq its.toArray n}
def Fv(J:It)(c:St)(fr:List (Str×Nat))(j:TT)(q:TE)(n:Hp)(Q:VK):Prop:=∃W:Nat->Nat->List V->Hp->Prop,(∃m,W 0 m [] n)/\∀i m ys H',W i m ys H'→
 (J.stop i H'/\ys.length<=sizeLine/\∀p,H' p=none->Q (.ref p) (upd H' p (.lst ys)))∨
 (J.go i H'/\∃N:List V->Hp->Prop,(∀g f,N g f->∃a,a<m/\W (i+1) a g f)/\∀v e,J.yld i H' v e->j (inner c fr (some v)) e λok h=>
  if ok=true then q (inner c fr (some v)) h λy o=>ys.length<sizeLine/\N (ys++[y]) o else N ys h)
def ady(c:TI)(fr:List (Str×Nat))(e:TT)(g:TE):TE:=λa H Q=>c a H λJ f=>Fv J a fr e g f Q
section
variable{X:Cx}{scope:uf}{x:Str}{fr:List (Str×Nat)}{cl:List (Str×eF)}{px pos:Pos}{iter elt:hH}{ifs:List hH}{wi:TI}{tf:TT}{te:TE}
def QX(S:BJ X scope x fr cl)(hc:X.calm=true)
  (hf:∀C B j L,PF (X.comp (x::fr.map (·.1)) scope cl C B j L) ifs tf) (he:∀C B j L,PE (X.comp (x::fr.map (·.1)) scope cl C B j L) elt te)
  {t:List (eF×Obj)} {H:St} {j:fX} {L:Hp} {it:eF} {B:List eF} {tn:Nat->h7->Prop} {J:It} {Q:V->Hp->Prop} {E:fy->fX->Prop} {RR:fy->eF->Result->fX->Prop}
  (I:Inv X t H L j) (T:Turn X.prog X.w X.K (.Name x px) J B it tn) (st:tn 0 j.heap) (fo:∀b∈B,kP X t L b)
  (h:Fv J H fr tf te L Q)
  (a4:∀D C m R H',Inv X t H H' R->R.heap.Ns C m->kP X t H' C->Q (.ref D) H'->RR (.ref D) C (.ok .next) R):
  wpAny (model X.prog X.w) X.A (newList []) (λaN aA=>wpAny (model X.prog X.w) X.A (newFunctionEnv scope X.env.globals cl [] X.env.qual none .none (some X.env)) (λad ap=>
   codeAny (model X.prog X.w) X.A (.compStart (.ListComp elt [(.Name x px,iter,ifs,0)] scope pos) 0 (.ref it) aN {ad with scope:=relabel scope X.env}) (RR aN ad.locals) ap) E aA) E j:=by
 let(W,(m0,w0),turn):=h;refine anC (wpAny_newFunctionEnv S.YZ (by intro y hy;simp at hy) (λF g s=>?_) S.kind);generalize hH2:j.heap.push {cls:= .type "list",dict:=none,data:= .seq ([]).toArray}=G2 at g s ⊢;let hC:G2.objs.size=j.heap.objs.size+1:=by rw[<- hH2,akh]
 let U:j.heap.objs.size≠G2.objs.size:=by rw[hC];exact me (Ji _)
 let G:j.heap.objs.size<=G2.objs.size:=by simp_all
 let below:∀b,b<j.heap.objs.size->b≠G2.objs.size:=λb f=>by rw[hC];exact me (anD f)
 let an:=λb o e=>s.extBut b o (below b (lD e)) (nr _ (hH2 ▸ nr _ e));let aK:=s.extBut _ _ U (nr _ (hH2 ▸ rX _ rfl))
 let ab:=λb f=>by
  let(o,e,_):=T.obj _ _ st b f;exact lD e
 generalize hDD:j.heap.objs.size=D at *;generalize hCC:G2.objs.size=C at *;let IY:=YT (t1:=j.toks+([]:List (Str×fy)).length) S I (by rwa[hDD]) fo (λb f=>by rw[hDD];exact ab b f) an g aK (by rw[hDD];exact gx _) U (λv z=>by cases z);let P:=T.keep _ _ _ st λb f o e=>an b o e
 let' Y:=X.comp (x::fr.map (·.1)) scope cl C B j L
 let am:∀{H':Hp} {oD:Obj},(∀b∈B,H' b=none)->∀b∈B,kP Y [(D,oD)] H' b:=λ{H' oD} hn b f=>
  (hn b f,below b (ab b f),λhm=>(T7 S I (by rwa[hDD]) fo (λb f=>by rw[hDD];exact ab b f)).Oa b f hm,.inl f,λy c e=>(fo b f).2.2.2.2.1 y c (S.cell e),λp Z=>by
   let Z:=by simpa[Y,Cx.comp] using Z
   subst Z;exact akC (ab b f))
 let bg:=S.nd;let pg:PG Y (.Name x px) (AI 0):=c9 bg rfl (.inl (amL S.own)) (.inr (amL S.own))
 let ak:∀s3,s3={j with heap:=F,toks:=j.toks+([]:List (Str×fy)).length}→
   codeAny (model X.prog X.w) X.A (.compLoop (.ListComp elt [(.Name x px,iter,ifs,0)] scope pos) 0 (.ref it) (.ref D) (compEnvC scope cl C X.env)) (RR (.ref D) C) s3:=by
  rintro s3 rfl;refine OX (λn R=>∃i v H' ys its k,Inv Y [(D,N9 its k)] (inner H fr v) H' R/\tn i R.heap/\(∀b∈B,H' b=none)/\Vals ys its/\W i n ys H') ?_ m0 (0,none,L,[],[],0,IY,P,λb f=>(fo b f).1,.nil,w0);rintro n s3 ⟨i,v0,H3,ys,its,k,I3,aF,az,ac,w3⟩;rcases turn i n ys H3 w3 with⟨stop,hz,qn⟩|⟨go,N,hN,step⟩
  .refine k9 (T.done Y rfl rfl rfl hc i _ s3 _ H3 _ I3 (am az) aF stop) λr s4 zz=>?_;let(hr,I4):=zz;subst hr;let O:=I4.pin (D,N9 its k) (yw _ (l9.mpr rfl));let(mC,a2,_):=I4.loc;let nC:=I4.free;let IX:=I.adk I4.os I4.eC I4.hok I4.bare λb f=>((fo b f).2.2.2.1,(fo b f).2.1,(fo b f).2.2.2.2.1,(fo b f).2.2.2.2.2);let nL:∀a,D<=a->a≠X.env.locals/\(∀y c,X.env.cells.lookup y=some c->c≠a)/\(∀p∈X.pn++t,p.1≠a)/\a∉X.fs:=λa ha=>by
    let ax:j.heap.objs.size<=a:=by rwa[hDD]
    let z:=I.QV ax (I.hok.fresh ax);exact(z.2.1,z.2.2.2.2.1,z.2.2.2.2.2,z.2.2.1)
   let sz:∀a,D<=a->X.s₀.heap.get? a=none:=λa ha=>ajX (jC I.sz (by rwa[hDD]));let(d1,d2,d3,d4):=nL D (gx _);let IT:=IX.adn (o:= .lst ys) O.2.1 (sz D (gx _)) d1 d2 d3 (hz,its,k,ac,O.1);let(c1,c2,c3,c4):=nL C G;exact a4 D C mC s4 _ IT a2 (by rwa[ag (Ne.symm U)],c1,c4,.inr (sz C G),c2,c3) (qn D O.2.1)
  .refine k9 (T.item Y rfl rfl rfl hc i _ s3 _ H3 _ I3 (am az) aF go) λr s4 zz=>?_;let(u,hr,h4):=zz;subst hr;refine k9 h4 λ_ s5 zz=>?_;let(v,H5,I5,r5,y5,al,bi):=zz;let bb:=I5.pinned (am bi) (T.obj _ _ al);let ev:(inner H fr v0).set 0 (some v)=inner H fr (some v):=rfl;refine k9 (pg _ s5 _ H5 v u _ bb r5 (show AI 0 v (inner H fr v0) H5 (λa0 H6=>a0=inner H fr (some v)/\H6=H5) from(ev,rfl))) λ_ s6 zz=>?_;let(a0,H6,I6,e6,a1):=zz;subst e6;subst a1;refine k9 (hf C B j L _ s6 _ _ _ I6 (step v _ y5)) λok s7 zz=>?_;let(H7,I7,q7):=zz
   let back:∀{vv:Option V} {H':Hp} {R:fX} {its':List fy} {k':Nat},Inv Y ([(D,N9 its' k')]++uY B s5.heap) (inner H fr vv) H' R->Inv Y [(D,N9 its' k')] (inner H fr vv) H' R/\tn (i+1) R.heap/\∀b∈B,H' b=none:=λ{vv H' R its' k'} J'=>by
    refine(J'.Cp,T.keep _ _ _ al λb f o e=>(J'.pin (b,o) (yw _ (yw _ (vw f e)))).1,λb f=>?_);let(o,e,d):=T.obj _ _ al b f;exact(J'.pin (b,o) (yw _ (yw _ (vw f e)))).2.1
   cases ok with
   |false=>
    let(m',hm,w7):=hN _ _ q7;let(J1,J2,J3):=back I7;exact(m',hm,i+1,some v,H7,ys,its,k,J1,J2,J3,ac,w7)
   |true=>
    refine k9 (he C B j L _ s7 _ _ _ I7 q7) λM s8 zz=>?_;let(y,H8,I8,r8,q8):=zz;let(hz,q8):=q8;let(m',hm,w8):=hN _ _ q8;let O:=I8.pin (D,N9 its k) (yw _ (ajD _ (l9.mpr rfl)));let bm:=ac.length;refine akN anc (_,O.1,rfl) amU (amK _ _) (anA D its.toArray k M (by rw[js];lia)) (O.1,?_);let q:=anT O.1 (·.push M);let bd:its.toArray.push M=(its++[M]).toArray:=by simp
    rw[bd]at q;obtain⟨k',q⟩:∃k',(s8.heap.update D (akr (·.push M))).get? D=some (N9 (its++[M]) k'):=(_,q);let a6:∀b o,b≠D->s8.heap.get? b=some o->(s8.heap.update D (akr (·.push M))).get? b=some o:=λb o f e=>(aka s8.heap _ (Ne.symm f)).trans e;let a7:=I8.Hd λp Z=>I8.pin p (yw _ (yw _ Z))
    let a5:∀p∈Y.pn++uY B s5.heap,p.1≠D:=λp Z=>by
     exact me (ab _ (Mv Z).1)
    let a3:∀y c,Y.env.cells.lookup y=some c->c≠D:=λy c e z=>by
     let(vv,o,ho,hd):=I8.cell y c e;rw[z,O.1]at ho;cases ho;cases hd
    let I9:=a7.turned (t':=s8.toks) a6 O.2.1 U (.inr (by show j.heap.get? D=none;exact ajX (by rw[hDD];exact gx _))) a3 a5
    let be:Inv Y ([(D,N9 (its++[M]) k')]++uY B s5.heap) (inner H fr (some v)) H8 {s8 with heap:=s8.heap.update D (akr (·.push M)),toks:=s8.toks}:=I9.Hd λp Z=>by
     rcases ro.mp Z with z|z
     .let z:=l9.mp z;subst z;exact(q,O.2.1,U,O.2.2.2.1,λvv z=>by cases z)
     .exact I9.pin p (yw _ z)
    let(J1,J2,J3):=back be;exact(m',hm,i+1,some v,H8,ys++[y],its++[M],k',J1,J2,J3,ac.append (.cons r8 .nil),w8)
 exact codeAny_compStart_list (ak _ rfl) (T.self _ 0 _ _ _ P (ak _ rfl))
def gU(S:BJ X scope x fr cl)(t:X.calm=true)(F:PI X (.Name x px) iter wi)
  (K:∀C g f i,PF (X.comp (x::fr.map (·.1)) scope cl C g f i) ifs tf) (O:∀C g f i,PE (X.comp (x::fr.map (·.1)) scope cl C g f i) elt te)
  (hs:∀v,foldedSetIterable iter X.env v=pure v:=by intro _;rfl):PE X (.ListComp elt [(.Name x px,iter,ifs,0)] scope pos) (ady wi fr tf te):=by
 intro a s r H Q I h;refine al1 rfl hs S.af5 S.kind S.names (k9 (F a s r H _ I h) λv P B=>k9 B λG f j=>?_);let(it,g,R,J,i,e,N,T,n,u,j):=j;subst e;refine QX S t K O N T n u j ?_;intro D C m y H' L M c q;refine(m,M,λh' E=>?_);exact(.ref D,H',L.turned (λb o z e=>(E.2 b z).trans e) c.1 c.2.1 c.2.2.2.1 c.2.2.2.2.1 c.2.2.2.2.2,rfl,q)
def lT{y:Str}{i f:Pos}{j:Nat}(hN:X.N.Nodup)(Y:X.N[j]? =some y)(U:Loc X.env.scope y)(S:BJ X scope x fr cl)(O:X.calm=true)(hi:PI X (.Name x px) iter wi)
  (hf:∀C t r p,PF (X.comp (x::fr.map (·.1)) scope cl C t r p) ifs tf) (he:∀C t r p,PE (X.comp (x::fr.map (·.1)) scope cl C t r p) elt te)
  (F:swapsWith (.ListComp elt [(.Name x px,iter,ifs,0)] scope pos) (some (.Name y i)) f.line X.env=pure true:=by rfl)
  (u:X.fn y=true\/X.env.scope.names.lookup y=some .local:=by first|exact .inl rfl|exact .inr rfl|assumption)
  (hs:∀v,foldedSetIterable iter X.env v=pure v:=by intro _;rfl):PS X (.Assign [.Name y i] (.ListComp elt [(.Name x px,iter,ifs,0)] scope pos) f) (acd (ady wi fr tf te) (AI j)):=by
 intro c s M H D I h;rw[exec_Assign_Name_used _ _ _ _ F];refine kb (alG (kb ?_));refine kb (tM (al1 rfl hs S.af5 S.kind S.names
  (k9 (hi c s M H _ I h) λv s1 h1=>k9 h1 λP r B=>?_)) (λ_ n hq=>pq (pq hq)) λ_ _ e=>e)
 let(it,t,tn,J,p,e,I2,T,E,R,B):=B;subst e;refine QX S O hf he I2 T E R B ?_;intro D' C m n H' I' hm g q;refine anz (LR I' hN Y U (show RelV (.ref D') (.ref D') from rfl) (λs3 I3 W=>?_) u);let(a,sb,ha):=W
 let G:C≠a:=by
  rcases ha with z|z
  .rw[z];exact g.2.1
  .exact λw=>g.2.2.2.2.1 y a z w.symm
 refine(m,hm.sameBut sb G,λh' L=>?_);exact(_,H',I3.turned (λb o Z e=>(L.2 b Z).trans e) g.1 g.2.1 g.2.2.2.1 g.2.2.2.2.1 g.2.2.2.2.2,q)
end
def cO{J:It}{n:Nat}{h:St}{fr:List (Str×Nat)}{r:TT}{s:TE}{H:Hp}{Q:VK}(a:Nat->List V->Hp->Prop)(x:a 0 [] H)(u:∀i ys H',i<n->a i ys H'->J.go i H')(stop:∀ys H',a n ys H'->J.stop n H')
  (step:∀i ys H' v c,i<n->a i ys H'->J.yld i H' v c->r (inner h fr (some v)) c λok o=>if ok=true then s (inner h fr (some v)) o λy A=>ys.length<sizeLine/\a (i+1) (ys++[y]) A else a (i+1) ys o)
  (g:∀ys H',a n ys H'->ys.length<=sizeLine/\∀p,H' p=none->Q (.ref p) (upd H' p (.lst ys))):
  Fv J h fr r s H Q:=by
 refine(λi m ys H'=>a i ys H'/\i<=n/\m=n-i,(n,x,qj _,rfl),?_);rintro i m ys H' ⟨f,z,rfl⟩;by_cases e:i=n
 .subst e;let(B,w):=g ys H' f;exact .inl (stop ys H' f,B,w)
 .let hlt:=Nat.lt_of_le_of_ne z e;exact .inr (u i ys H' hlt f,λj t=>a (i+1) j t,λj t q=>(n-(i+1),by omega,q,hlt,rfl),λv c y=>step i ys H' v c hlt f y)
def OK(h:h7)(e:eF)(cls:fy)(d:Option eF):Option (eF×fy)->Prop
 |none=>∃a vs,h.get? e=some a/\a.cls=cls/\a.dict=d/\a.data=.fields vs/\vs[1]? =some .none
 |some (T,fl)=>T≠e/\(∃a vs,h.get? e=some a/\a.cls=cls/\a.dict=d/\a.data=.fields vs/\vs[1]? =some (.ref T))/\∃c ts,h.get? T=some c/\c.data=.fields ts/\ts[3]? =some fl
structure Nt(fs ch:List eF)(h h':h7):Prop where
 keep:∀b o,b∉fs->b∉ch->h.get? b=some o->h'.get? b=some o
 slot:∀b o,b∉ch->h.get? b=some o->∃sl,h'.get? b=some {o with slots:=sl}
theorem Nt.refl(fs ch:List eF)(h:h7):Nt fs ch h h:=(λ_ _ _ _ e=>e,λ_ o _ e=>(o.slots,e))
theorem Nt.trans{fs ch:List eF}{h f g:h7}(a:Nt fs ch h f)(b:Nt fs ch f g):Nt fs ch h g:=
 (λc o f g e=>b.keep c o f g (a.keep c o f g e),λc o i e=>by
  let(_,e1):=a.slot c o i e;let(j,e2):=b.slot c _ i e1;exact(j,e2))
theorem Nt.mono{fs ch f:List eF}{h h':h7}(a:Nt fs ch h h')(s:∀b∈ch,b∈f):Nt fs f h h':=
 (λc o i j e=>a.keep c o i (λz=>j (s c z)) e,λc o g e=>a.slot c o (λz=>g (s c z)) e)
section
variable{M:Al}{A:jg}{E:fy->fX->Prop}{s:fX}{eC:h7}{env:Env}{fM:List Env}{L e:eF}
def ED{T:eF}{a:Obj}{ts:Array fy}{k:Nat}{v:fy}{Q:Unit->fX->Prop}(c:s.heap.get? T=some a)(hd:a.data=.fields ts)(f:k<ts.size)
  (h:∀h',h'.get? T=some (a.mapFields (·.setIfInBounds k v))->(∀b,b≠T->h'.get? b=s.heap.get? b)->h'.objs.size=s.heap.objs.size->Q .unit {s with heap:=h'}):wpAny M A (setField (.ref T) k v) Q E s:=by
 refine wpAny_setField c hd f (h _ ?_ (λb g=>aka _ _ (Ne.symm g)) (Heap.size_after_update ..));exact amv _ c (Obj.isFreed_of_fields (akF hd _))
def IV{i:Obj}{vs:Array fy}{c:fy}{n:Bool}{Q:Unit->fX->Prop}(t:A.frames=some (env::fM))(u:s.heap.FunFrames eC (env::fM))(G:env.frame=some L)
  (x:s.heap.get? e=some i) (hd:i.data=.fields vs) (hsz:1<vs.size)
  (h:∀h' T v ts,Nt (vr (env::fM)) [e] s.heap h'->s.heap.get? T=none->s.heap.objs.size<=T->h'.get? e=some (i.mapFields (·.setIfInBounds 1 (.ref T)))->h'.get? T=some v->v.data=.fields ts→
   ts[3]? =some (rawInt L)->Q .unit {s with heap:=h'}):
  wpAny M A (do let a<-frameOf env;let pl<-entryPlaceOf L n;let b<-amW c a .none (rawInt L) .none pl;setField (.ref e) 1 b) Q E s:=by
 let ne:e∉vr (env::fM):=λH=>by
  let(_,o,w,y):=u.mem H;simp_all
 refine kb (wpAny_frameOf_fun t u G λm g=>kb (wpAny_entryPlaceOf λpl f=>?_));refine kb (anC ?_ (f.sizeOk5 _ _ _ _ _));let e1:=(g.2.1 e ne).trans x;let p:=akC (lD e1);refine ED (nr _ e1) hd hsz λD F r _=>?_;refine h D m.objs.size _ _ (λb o B j q=>?_,λb o j q=>?_) (ajX (by rw[g.1];exact gx _)) (by rw[g.1];exact gx _) F ((r _ p).trans (rX _ rfl)) rfl ?_
 .let hb':b≠e:=λz=>j (by rw[z];exact l9.mpr rfl);rw[r b hb'];exact nr _ ((g.2.1 b B).trans q)
 .let hb':b≠e:=λz=>j (by rw[z];exact l9.mpr rfl);let(C,z):=g.2.2 b o q;exact(C,by rw[r b hb'];exact nr _ z)
 rfl
def XT(L:eF):Option (eF×fy)->Prop
 |none=>True
 |some (_,fl)=>fl=.none\/fl=rawInt L
def VO:Option (eF×fy)->List eF
 |none=>[]
 |some (T,_)=>[T]
def XA{cls:fy}{d:Option eF}{u:Option (eF×fy)}{Q:Unit->fX->Prop}(B:A.frames=some (env::fM))(U:s.heap.FunFrames eC (env::fM))(w:env.frame=some L)
  (x:OK s.heap e cls d u) (X:XT L u)
  (h:∀h' i,Nt (vr (env::fM)) (e::VO u) s.heap h'->(i∈VO u\/(s.heap.get? i=none/\s.heap.objs.size<=i))->OK h' e cls d (some (i,rawInt L))->Q .unit {s with heap:=h'}):
  wpAny M A (noteFrame (.ref e) env) Q E s:=by
 cases u with
 |none=>
  let(D,vs,g,C,a,hd,j):=x;let hsz:=(ajU.mp j).1;unfold noteFrame;simp only[w];refine kb (alx g hd j ?_);refine IV B U w g hd hsz λh' T J ts n f r K S t R=>h h' T n (.inr (f,r)) (?_,(_,_,K,?_,?_,akF hd _,by simp[hsz]),J,ts,S,t,R)
  .intro z;simp_all
  .rwa[anE]
  .let(c,dd,dt,sl):=D;cases dt<;>exact a
 |some p=>
  let(T,Y):=p;let(m,(D,vs,g,C,a,hd,j),J,ts,y,gd,t):=x;let hsz:=(ajU.mp j).1;let v:=(ajU.mp t).1;rcases X with rfl|rfl
  .unfold noteFrame;simp only[w];refine kb (alx g hd j ?_);refine kb (alx y gd t ?_);refine kb (ED y gd v λI k1 k2 k3=>?_);let H:Nt (vr (env::fM)) [e,T] s.heap I:=(λb o _ F q=>by rw[k2 b λz=>F (by simp[z])];exact q,λb o F q=>(o.slots,by rw[k2 b λz=>F (by simp[z])];exact q));let N:=U.of_keeps λb o q W=>(o,by rw[k2 b λz=>by simp_all];exact q,rfl);refine IV B N w ((k2 e (Ne.symm m)).trans g) hd hsz λh' i O P n f r K S G R=>h h' i (H.trans (n.mono (by simp))) (.inr (?_,?_)) (?_,(_,_,K,?_,?_,akF hd _,by simp[hsz]),O,P,S,G,R)
   .by_cases z:i=T
    .simp_all
    .rwa[<- k2 i z]
   .exact k3 ▸ r
   .intro z;rw[z,k2 e (Ne.symm m),g]at f;cases f
   .rwa[anE]
   .let(c,dd,dt,sl):=D;cases dt<;>exact a
  .refine wpAny_noteFrame_inFlight w g hd j y gd t ?_;exact h s.heap T (Nt.refl _ _ _) (.inl (by simp[VO])) (m,(D,vs,g,C,a,hd,j),J,ts,y,gd,t)
def FH{T:eF}{cls p:fy}{d:Option eF}{Q:Unit->fX->Prop}(x:OK s.heap e cls d (some (T,p)))
  (h:∀h',Nt [] [T] s.heap h'->OK h' e cls d (some (T,.none))->Q .unit {s with heap:=h'}):wpAny M A (setFlight (.ref e) none) Q E s:=by
 let(c,(n,vs,j,m,f,hd,i),u,ts,t,gd,r):=x;let a:=(ajU.mp r).1;refine kb (alx j hd i ?_);refine ED t gd a λh' k1 k2 _=>h h' (λb o _ g q=>by rw[k2 b λz=>g (by simp[z])];exact q,λb o g q=>(o.slots,by rw[k2 b λz=>g (by simp[z])];exact q)) ?_;exact(c,(n,vs,(k2 e (Ne.symm c)).trans j,m,f,hd,i),_,_,k1,akF gd _,by simp[a])
end
theorem Nt.adp{fs f ch:List eF}{h h':h7}(a:Nt fs ch h h')(s:∀b∈fs,b∈f):Nt f ch h h':=(λc o g i e=>a.keep c o (λz=>g (s c z)) i e,a.slot)
section
variable{X:Cx}{fw:List (eF×Obj)}{σ:St}{H:Hp}{s:fX}
def Inv.Tq{h':h7}{ch:List eF}{t':Nat}(I:Inv X fw σ H s)(n:Nt (vr X.stack) ch s.heap h')(a:∀b∈ch,kP X fw H b):Inv X fw σ H {s with heap:=h',toks:=t'}:=by
 refine I.call (λb o q _ f g=>n.keep b o f g q,λb o q _ _ g=>n.slot b o g q,λ_ _ _ z _=>z,λb o q g=>?_,λ_ _ z=>z,λ_ _ _ z=>z,λb ps z=>(#[],by rw[z];simp)) ?_ I.bare
  λb f=>((a b f).2.2.2.1,(a b f).2.1,(a b f).2.2.2.2.1,(a b f).2.2.2.2.2)
 .let(sl,z):=n.slot b o g q;exact(_,z)
 .intro b u e;refine(I.hok b u e).OI (λc v i q=>?_) (λ_ z=>z) λ_ _ z=>z
  let h:H c≠none:=by
   lia
  exact n.keep c v (λz=>h (I.Np c z)) (λz=>h (a c z).1) q
def Inv.UT{H':Hp}{b:eF}(I:Inv X fw σ H s)(a:s.heap.get? b=none)(f:H' b=none):kP X fw H' b:=by
 let ne:∀c o,s.heap.get? c=some o->c≠b:=λc o e z=>by simp_all
 refine(f,?_,λg=>?_,?_,λx c e=>?_,λp h=>?_)
 .let(m,(o,_,_,ho,_),_):=I.loc;exact Ne.symm (ne _ o ho)
 .let(_,o,ho,_):=I.yC.mem g;exact ne _ o ho rfl
 .by_cases hx:b∈X.ex
  .exact .inl hx
  .refine .inr ?_;cases q:X.s₀.heap.get? b with
   |none=>rfl
   |some o=>
    let(i,z):=I.eC.there b o q hx;simp_all
 .let(v,o,ho,_):=I.cell x c e;exact ne _ o ho
 .exact ne _ _ (I.pin p h).1
def Inv.Mw{b:eF}(I:Inv X fw σ H s)(g:s.heap.get? b=none):H b=none:=by
 cases q:H b with
 |none=>rfl
 |some o=>
  let z:=I.hok b o q
  let:∃a,s.heap.get? b=some a:=by
   cases o with
   |lst xs=>let(_,_,_,_,e):=z;exact(_,e)
   |tup xs=>let(_,_,_,a,e,_):=z;exact(_,e)
   |dK c=>let(_,_,_,_,a,_,_,e,_):=z;exact(_,e)
   |dT c=>let(_,_,_,_,a,_,_,e,_):=z;exact(_,e)
   |set S n=>let(a,_,_,_,e,_):=z;exact(_,e)
   |ins C i fs=>let(_,_,_,e,_):=z;exact(_,e)
   |own y=>let(_,e):=z;exact(_,e)
   |xd fs=>let(_,(_,_,_,e,_),_):=z;exact(_,e)
   |rng lo j=>let(_,_,_,e):=z;exact(_,e)
   |frz a u=>let(e,_):=z;exact(_,e)
   |tbl ps=>exact(_,show s.heap.get? b=some _ from z)
   |met f y=>exact(_,show s.heap.get? b=some _ from z)
   |ext h=>let(_,(_,e),_):=z;exact(_,e)
  simp_all
end
def gf(P:iU)(w:iP):wH:=λfM H s E c a=>∃(e:eF) (cls:fy) (d:Option eF) (T:eF) (H':Hp),c=.ref e/\a.os=s.os/\L1 a.gens/\Un (vr fM) [] H H' s.heap a.heap/\mT P w H' a.heap∧
 OK a.heap e cls d (some (T,.none))/\(H' e=none/\s.heap.get? e=none)/\(H' T=none/\s.heap.get? T=none)/\E cls d H'
structure Arr(X:Cx)(fw:List (eF×Obj))(σ:St)(H:Hp)(s:fX)(e:eF)(cls:fy)(d:Option eF):Prop where
 inv:Inv X fw σ H s
 tr:∃tr,OK s.heap e cls d tr/\XT X.env.locals tr/\∀T∈VO tr,kP X fw H T
 fp:kP X fw H e
def Throws(X:Cx)(E:St->XK):Prop:=∀(a:List (eF×Obj)) (c:St) (H:Hp) (s:fX) (e:eF) (cls:fy) (d:Option eF),Arr X a c H s e cls d->E c cls d H->X.xe (.ref e) s
def QM(X:Cx):Prop:=X.stack=X.env::X.fM/\X.env.frame=some X.env.locals/\X.ex=[]
section
variable{X:Cx}{fw:List (eF×Obj)}{σ:St}{H:Hp}{s:fX}{e:eF}{cls:fy}{d:Option eF}
def Arr.land{M:Al}{E:fy->fX->Prop}{Q:Unit->fX->Prop}(a:Arr X fw σ H s e cls d)(hd:QM X)
  (h:∀h' T,Inv X fw σ H {s with heap:=h'}->OK h' e cls d (some (T,.none))->kP X fw H T->Q .unit {s with heap:=h'}):
  wpAny M X.A (noteFrame (.ref e) X.env) (λ_ q=>wpAny M X.A (setFlight (.ref e) none) Q E q) E s:=by
 let(m,x,u,i):=a.tr;refine XA (by rw[<- hd.1];exact a.inv.ok.frames) (by rw[<- hd.1];exact a.inv.stack) hd.2.1 x u λw f n r p=>?_
 let g:kP X fw H f:=by
  rcases r with z|⟨z,_⟩
  .exact i f z
  .exact a.inv.UT z (a.inv.Mw z)
 refine FH p λj t o=>h j f ?_ o g
 let v:Nt (vr X.stack) (e::f::VO m) s.heap j:=by
  rw[hd.1];refine(n.mono λb c=>?_).trans ((t.mono λb c=>?_).adp λb c=>absurd c (by simp))
  .rcases oT.mp c with z|z
   .rw[z];exact lq
   .exact mf _ (mf _ z)
  .rw[l9.mp c];exact mf _ lq
 refine a.inv.Tq v λb c=>?_;rcases oT.mp c with z|z
 .rw[z];exact a.fp
 .rcases oT.mp z with z|z
  .rwa[z]
  .exact i b z
theorem passes{E:St->XK}(c:Throws X E):Passes (gf X.prog X.w) X E:=λfw σ H s p a I h=>by
 let(e,cls,d,T,H',rfl,os,bare,un,hok,x,(j,i),(f,o),q):=h;let n:=I.adk os un hok bare λb g=>absurd g (by simp);exact c fw σ H' a e cls d (n,(_,x,.inl rfl,λr m=>by rw[l9.mp m];exact I.UT o f),I.UT i j) q
end
theorem dG{P:iU}{w:iP}{K:gI}{mg:Str->Option fy}{eC:h7}{N:List Str}{c:Str}{scope:uf}{f:eF}{h:fy}{A:jg}{fM:List Env}{i:fX}{o:Hp}{E:XK}{cm:Bool}:
  Throws (w9 cm (gf P w) P w K mg eC N c scope f h A fM i o E) λ_=>E:=λm p H s e cls d a q=>by
 refine kb (a.land (rfl,rfl,rfl) λh' T g n j=>(e,cls,d,T,H,rfl,g.os,g.bare,g.eC,g.hok,n,(a.fp.1,?_),(j.1,?_),q))
 .rcases a.fp.2.2.2.1 with z|z
  .exact absurd (show e∈([]) from z) (by simp)
  .exact z
 .rcases j.2.2.2.1 with z|z
  .exact absurd (show T∈([]) from z) (by simp)
  .exact z
abbrev bmV:List fy:=[.type "ValueError",.type "Exception",.type "BaseException",.type "object"]
abbrev Ew(K:gI)(C:eF):Prop:=aku K C bmV "ValueError.__new__"=true
def Ew.obj{K:gI}{C:eF}{h:h7}(q:Ew K C)(k:K.In h):∃bm N nm e bs hdct sn sub ab col dd k0 k1 k2 k3 k5 mN,
  h.get? C=some (excClassObj nm e C N bs bm hdct sn sub ab col dd k0 k1 k2 k3 k5 "ValueError.__new__")/\h.Ns N mN/\mN "__init__"=none/\OwnTail h bmV bm:=by
 unfold Ew aku at q
 split at q
 .rename_i dd cd sl ho
  split at q
  .rename_i C' bm k0 k1 k2 k3 n k5 hm hs
   simp only[mu,xc,Ma]at q;let(((((rfl,rfl),a),g),hok),c):=q;let(nm,bs,i,ns,e,hd,sn,sub,ab,col,f):=cd;dsimp only at hm a hok c;subst hm a;let⟨l⟩:=sl;subst hs;exact(bm,ns,nm,e,bs,hd,sn,sub,ab,col,dd,k0,k1,k2,k3,k5,_,k _ _ ho,.of_isNs (PySem.W.isNs_of_in k hok),PySem.W.nsMap_none_of_in k hok c,PySem.W.tail_of_in k g)
  .cases q
 .cases q
def afo(C:eF)(E:St->XK)(c:TA):TS:=λ_ a H=>c a H λvs e=>vs.length<=sizeLine/\E a (.ref C) none e
section
variable{X:Cx}{x:Str}{C:eF}{np cpos pos:Pos}{a:hH}{es:List hH}{ta:TA}{E:St->XK}
def SQ{c:List (eF×Obj)}{f:St}{H:Hp}{s:fX}{h':h7}{e:eF}{vs:List fy}(i:Throws X E)(I:Inv X c f H s)(m:Heap.MadeExcOf s.heap h' e (.ref C) vs)(q:E f (.ref C) none H):
  X.xe (.ref e) {s with heap:=h'}:=by
 let(t,g,_,_):=m.there;exact i c f H _ e (.ref C) none (I.kept m.keeps,(none,(_,_,g,rfl,rfl,rfl,rfl),trivial,λT h=>absurd h (by simp[VO])),I.UT m.new (I.Mw m.new)) q
def IA(n:X.calm=true)(o:Throws X E)(r:Ew X.K C)(A:Gl X x)(J:X.mg x=some (.ref C))(u:PA X (a::es) ta)(hd:autoParam ((x==("__debug__":Str))=false) L2.adP._auto_2)
  (j:starEach (a::es) X.env=(false,eval a X.env)::starEach es X.env:=by rfl) (i:(backTo cpos (starEach es X.env)).any (·.1)=false:=by rfl):
  PS X (.Raise (some (.Call (.Name x np) (a::es) [] cpos)) none pos) (afo C E ta):=by
 intro c s v H D I h;let(bm,N,nm,z,bs,hdct,sn,sub,ab,col,dd,k0,k1,k2,k3,k5,mN,G,L,g,T):=r.obj I.mod.kin
 refine wpAny_Raise_call_subT (nm:=nm) (q:=z) (N:=N) (bs:=bs) (hdct:=hdct) (sn:=sn) (sub:=sub) (ab:=ab) (col:=col) (dd:=dd) (k0:=k0) (k1:=k1) (k2:=k2) (k3:=k3) (k5:=k5)
  PySem.F.excBase_ValueError (T.hasType PySem.F.excBase_ValueError.hasBase) (I.ok.hd n) (by rw[j];show(false||(backTo cpos (starEach es X.env)).any (·.1))=false;rw[i];rfl) g (zA I A J (rfl,?_) hd)
 let w:=u cpos c s v H _ I h;rw[j]at w ⊢;refine amJ (tM w (λus O t=>?_) λ_ _ y=>y);let(vs,M,f,B,p,q):=t;exact(rfl,by rwa[<- B.length],f.bk _ _ G,L.keeps f.bk,T.keeps f.bk,λh' e m=>SQ o f m q)
end
end L2
namespace Cut
open PySem PySem.Builtin PySem.Builtin.Str
end Cut
namespace L2
open PySem PySem.Spec PyProof.Rows
section
variable{X:Cx}
def AM:wA X (.type "int") (λxs H Q=>∃z n,xs=[.str z]/\amx z=some n/\z.length<=640/\Q (.int n) H):=by
 intro a s g H xs us Q I r h;let(z,n,rfl,c,f,q):=h;let(u,rfl,e):=vals1 r;let(t,rfl):=(show ∃t,u=Pc z t from e);exact PySem.W.KIN.call_text c f (.int n,H,I.tok _,(_,rfl),q)
def Its(z:Str):It:=(λi _=>i<z.cps.size,λi H x H'=>H'=H/\∃c,z.cps[i]? =some c/\x=.str ⟨#[c]⟩,λi _=>i=z.cps.size)
def aae{P:iU}{w:iP}{K:gI}{x:Str}{M:Pos}{it:eF}{ty:String}{z:Str}{t:Tok}(W:∀A:jg,A.handled=none->Walks P w A it [it] [it] z.cps.size (SignAt z) (λi h=>h.IsStrIter it ty z t i))
  (self:∀(A:jg) (i:Nat) (s:fX) (Q:fy->fX->Prop) (E:fy->fX->Prop),s.heap.IsStrIter it ty z t i->Q (.ref it) s->wpAny (model P w) A (pyIter (.ref it)) Q E s):
  Turn P w K (.Name x M) (Its z) [it] it (λi h=>h.IsStrIter it ty z t i) where
 mem:=by simp
 obj:=λi h st b f=>by
  let e:=by simpa using f
  subst e;let(o,e,c,d):=st;exact(o,e,λv q=>by simp_all)
 keep:=λi h h' st k=>let (o,ho,r):=st;(o,k it (by simp) o ho,r)
 item:=by
  intro X n G C m i a s L H E I j st g;let(D,J,N,y,p,F):=j it (by simp);refine(W X.A (I.ok.hd m)).item i s _ _ g st λv h' tk pv B k=>?_;let(c,u,e,rfl):=pv;let O:=I.turned (t':=tk) (λb o f q=>k b o (by simpa using f) q) D J y p F;exact(_,rfl,pq (.str ⟨#[c]⟩,H,O,(u,rfl),(rfl,c,e,rfl),B,λb f=>(j b f).1))
 done:=by
  intro X n G C m i a s L H E I j st g;subst g;let(D,J,N,y,p,F):=j it (by simp);exact(W X.A (I.ok.hd m)).done s _ _ st λh' tk k=>(rfl,I.turned (λb o f q=>k b o (by simpa using f) q) D J y p F)
 self:=self
def ag5(tl:TE):TI:=λc H R=>tl c H λx a=>∃z,x=.str z/\R (Its z) a
def aeX{l:hH}{tl:TE}{x:Str}{m:Pos}(D:PE X l tl):PI X (.Name x m) l (ag5 tl):=by
 intro c s n H R I h;refine k9 (D c s n H _ I h) λv a C=>?_;let(y,p,j,r,B):=C;let(z,rfl,q):=B;let(t,rfl):=(show ∃t,v=Pc z t from r)
 let f:∀{ty:String} {o:Obj},(∀A,A.handled=none->Walks X.prog X.w A a.heap.objs.size [a.heap.objs.size] [a.heap.objs.size] z.cps.size (SignAt z) (λi h=>h.IsStrIter a.heap.objs.size ty z t i))→
   (∀(A:jg) (i:Nat) (s:fX) (Q:fy->fX->Prop) (E:fy->fX->Prop),s.heap.IsStrIter a.heap.objs.size ty z t i->Q (.ref a.heap.objs.size) s->wpAny (model X.prog X.w) A (pyIter (.ref a.heap.objs.size)) Q E s)→
   (a.heap.push o).IsStrIter a.heap.objs.size ty z t 0->PIE X c n (.Name x m) R (.ref a.heap.objs.size) {a with heap:=a.heap.push o}:=λ{ty o} W self st=>by
  refine(a.heap.objs.size,[a.heap.objs.size],_,_,p,rfl,j.kept λb F e=>nr _ e,aae W self,st,λb u=>?_,q);let e:=by simpa using u
  subst e;exact j.QV (gx _) (j.hok.fresh (gx _))
 cases ha:z.cps.all (·<128)
 .exact wpAny_pyIter_wide ha (f (λA g=>Walks.strWide g _ z t) (λ_ _ _ _ _ st q=>wpAny_pyIter_striter_wide st q) (_,rX _ rfl,rfl,rfl))
 .exact wpAny_pyIter_ascii ha (f (λA g=>Walks.strAscii g _ z t) (λ_ _ _ _ _ st q=>wpAny_pyIter_striter_ascii st q) (_,rX _ rfl,rfl,rfl))
theorem afT{bs:List Bool}:∀{its:List fy} {i:Nat} {v:fy},Vals (bs.map V.bl) its->its[i]? =some v->∃b,bs[i]? =some b/\v=.bool b:=λ{its i v} r e=>by
 let g:=r.length
 let h:i<bs.length:=by
  let:=(rx.mp e).1;rw[gQ]at g
  lia
 let c:=hY h;let(u,a,f):=r.get (show(bs.map V.bl)[i]? =some (V.bl bs[i]) by rw[i6,c];rfl);rw[e]at a;cases a;exact(_,c,f)
def RO(bs:List Bool):((hD bs.length).all λi=>(bs[i]?).getD true)=bs.all id:=by
 rw[tL,z8,z8]
 constructor
 .intro h b hb;let(i,a,e):=amX hb;let:=h i (qG.mpr a);rw[hY a,e]at this;exact this
 .intro h i a;let a:=qG.mp a;rw[hY a];exact h _ (uy a)
def Z2(n:X.calm=true):wA X (.builtin "all") (λxs H Q=>∃(p:eF) (bs:List Bool),xs=[.ref p]/\fT X.K H p (bs.map V.bl)/\Q (.bl (bs.all id)) H):=by
 intro j s E H xs us Q I r h;let(p,bs,rfl,x,q):=h;let(u,rfl,y):=vals1 r;cases y;let(its,g,w,D):=I.list x;let c:=w.isList;let f:p<s.heap.objs.size:=by let(_,e,_):=c;exact lD e
 let a:its.length=bs.length:=by let:=g.length;rw[gQ]at this;lia
 refine call_all_walk (ajV c ?_)
 refine(s.heap.objs.size,[s.heap.objs.size,p],[s.heap.objs.size],its.toArray.size,_,_,λi=>(bs[i]?).getD true,rfl,aoT (A:=X.A.in1) (I.ok.hd n) _ p (me f) its.toArray,
  ((_,rX _ rfl,rfl,rfl),c.push _),λi v C F G t m=>?_,λh' tk z=>?_)
 .let(b,e,rfl):=afT g (by simpa using t);simp only[e]at m;exact ajn m
 .rw[js,a,RO];refine(.bl (bs.all id),H,I.kept λb o e=>z b o (λB=>?_) (nr _ e),rfl,q);rw[l9.mp B]at e;exact Mo _ (lD e)
def PJ(X:Cx)(es:List hH)(t:St->Hp->Str->(Str->Hp->Prop)->Prop):Prop:=∀(a:List (eF×Obj)) (s:fX) (e:St) (H:Hp) (c:Str) (Q:Str->Hp->Prop),Inv X a e H s->t e H c Q→
 wpAny (model X.prog X.w) X.A (joinParts c (evalEach es X.env)) (EP X a e λx H'=>∃z,x=.str z/\Q z H') X.xe s
theorem aaA:PJ X [] (λ_ H a Q=>a.length<=sizeLine/\Q a H):=λc s e H a Q I h=>joinParts_nil (.str a,H,I.tok _,(_,rfl),a,rfl,h.2) h.1
def Hc{e:hH}{es:List hH}{i:TE}{t:St->Hp->Str->(Str->Hp->Prop)->Prop}(u:PE X e i)(p:PJ X es t)(hs:autoParam (evalEach (e::es) X.env=eval e X.env::evalEach es X.env) L2.aE._auto_1):
  PJ X (e::es) (λf H a Q=>i f H λx g=>∃y,x=.str y/\(a++y).length<=sizeLine/\t f g (a++y) Q):=by
 intro c s f H a Q I h;refine joinParts_cons (u.th I h λv n x g r j o=>?_);let(y,rfl,m,q):=o;let(t,rfl):=(show ∃t,v=Pc y t from j);exact(m,p c n f g _ Q r q)
def Tt{f g:hH}{a:List hH}{i:Pos}{t:St->Hp->Str->(Str->Hp->Prop)->Prop}(h:PJ X (f::g::a) t)(hs:autoParam (evalEach (f::g::a) X.env=eval f X.env::eval g X.env::evalEach a X.env) L2.aE._auto_1):
  PE X (.JoinedStr (f::g::a) i) (λj H Q=>t j H aly λz H'=>Q (.str z) H'):=by
 intro c s j H Q I q;let w:=h c s j H aly _ I q;exact JoinedStr_many (k9 w λv u m=>by let(x,n,r,o,z,e,p):=m;exact(x,n,r,o,by rwa[e]))
def ac5{e:hH}{f:Pos}{n:TE}(h:PE X e n):PE X (.FormattedValue e (-1) none f) (λm H Q=>n m H λx a=>(∃i,x=.int i/\i.natAbs.log2<1920/\Q (.str (toString i)) a)\/∃y,x=.str y/\y.length<=sizeLine/\Q (.str y) a):=by
 intro j s m H Q I q;refine FormattedValue_plain (h.th I q λv u x a o g c=>?_);rcases c with⟨i,rfl,r,c⟩|⟨y,rfl,p,c⟩
 .let(t,rfl):=(show ∃t,v=Sl i t from g);exact formatField_int_small r (.str _,a,o.tok _,(_,rfl),c)
 .let(t,rfl):=(show ∃t,v=Pc y t from g);exact formatField_str (λt' tk=>(.str y,a,o.tok tk,(t',rfl),c)) p
end
section
variable{X:Cx}{fw pins':List (eF×Obj)}{σ:St}{H:Hp}{s:fX}{pn':List (eF×Obj)}{E':fy->fX->Prop}
abbrev Cx.tV(X:Cx)(pn':List (eF×Obj))(E':fy->fX->Prop):Cx:={X with pn:=pn',xe:=E'}
theorem Cx.Ok.tV(ok:X.Ok)(pn':List (eF×Obj))(E':fy->fX->Prop):(X.tV pn' E').Ok:=
 (ok.mod,ok.kind,ok.glob,ok.blt,ok.above,ok.inj,ok.has,ok.cab,ok.hd,ok.frames,ok.stk,ok.exf,ok.bs,ok.bsz,ok.NW,ok.Oa,ok.yC,ok.frf)
theorem Cx.Ok.gZ(ok:(X.tV pn' E').Ok):X.Ok:=
 (ok.mod,ok.kind,ok.glob,ok.blt,ok.above,ok.inj,ok.has,ok.cab,ok.hd,ok.frames,ok.stk,ok.exf,ok.bs,ok.bsz,ok.NW,ok.Oa,ok.yC,ok.frf)
theorem Inv.tV(I:Inv X fw σ H s)(E':fy->fX->Prop):Inv (X.tV (X.pn++fw) E') [] σ H s:=
 (I.ok.tV _ _,I.os,I.bare,I.eC,I.loc,I.cell,I.free,I.mD,λp a=>I.pin p (by simp_all),I.hok,I.len)
theorem Inv.gZ(I:Inv (X.tV (X.pn++fw) E') pins' σ H s):Inv X fw σ H s:=
 (I.ok.gZ,I.os,I.bare,I.eC,I.loc,I.cell,I.free,I.mD,λp a=>I.pin p (ajD _ a),I.hok,I.len)
theorem kP.gZ{b:eF}(f:kP (X.tV (X.pn++fw) E') pins' H b):kP X fw H b:=
 (f.1,f.2.1,f.2.2.1,f.2.2.2.1,f.2.2.2.2.1,λp a=>f.2.2.2.2.2 p (ajD _ a))
theorem Arr.gZ{e:eF}{cls:fy}{d:Option eF}(a:Arr (X.tV (X.pn++fw) E') pins' σ H s e cls d):Arr X fw σ H s e cls d:=
 (a.inv.gZ,let (tr,x,hk,ft):=a.tr;(tr,x,hk,λT c=>(ft T c).gZ),a.fp.gZ)
def PH(X:Cx)(hs:List akY)(t:Ends->St->XK):Prop:=∀(fw:List (eF×Obj)) (s:fX) (σ:St) (H:Hp) (e:eF) (cls:fy) (d:Option eF) (T:eF) (D:Ends),
 Inv X fw σ H s->OK s.heap e cls d (some (T,.none))->kP X fw H e->kP X fw H T->t D σ cls d H->wpAny (model X.prog X.w) X.A (handleBy (.ref e) X.env hs) (SP X fw D) X.xe s
def Si{j g:List gF}{y:akY}{hs:List akY}{x:Pos}{B:Ends->TS}{z:TS}{th:Ends->St->XK}(p:QM X)
  (E:∀D pn' E',Throws (X.tV pn' E') (th D)->aoq (model X.prog X.w) X.A X.env E'->nN (X.tV pn' E') j (B D)) (M:nN X g z) (F:PH X (y::hs) th):
  PS X (.Try j (y::hs) g [] x) (λD σ H=>B D {D with nx:=z D} σ H):=by
 intro fw s σ H D I h;refine wpAny_Try_except ?_
 let' E':=λt o=>wpAny (model X.prog X.w) X.A (noteFrame t X.env) (λ_ G=>wpAny (model X.prog X.w) X.A (setFlight t none) (λ_ N=>wpAny (model X.prog X.w) X.A (handleBy t X.env (y::hs)) (SP X fw D) X.xe N) X.xe G) X.xe o
 let J:Throws (X.tV (X.pn++fw) E') (th D):=λpins' c i o e cls d a q=>(a.gZ).land p λh' T L K C=>F fw _ c i e cls d T D L K a.gZ.fp C q;refine tM (E D _ E' J PassesOwn.looking [] s σ H _ (I.tV E') h) (λf o n=>?_) λt o n=>n;cases f with
 |next=>let(c,i,m,q):=n;exact M fw o c i D m.gZ q
 |brk=>let(c,i,m,q):=n;exact(c,i,m.gZ,q)
 |cont=>let(c,i,m,q):=n;exact(c,i,m.gZ,q)
 |ret u=>let(v,c,i,m,r,q):=n;exact(v,c,i,m.gZ,r,q)
end
section
variable{M:Al}{A:jg}{E:fy->fX->Prop}
def FC{K:gI}{s:fX}{e C a:eF}{c:Obj}{b:Bool}{Q:Bool->fX->Prop}(k:K.In s.heap)(q:s.heap.get? e=some c)(j:c.cls=.ref C)(o:Ew K a)(m:xn K C (.ref a)=some b)(h:Q b s):
  wpAny M A (excMatches (.ref e) (.ref a)) Q E s:=by
 let(bm,N,nm,u,bs,hdct,sn,sub,ab,col,dd,k0,k1,k2,k3,k5,mN,i,v,p,T):=o.obj k;let n:(nk a::bm).contains (.type "BaseException")=true:=by rw[List.contains_cons,T.hasType (show bmV.contains (.type "BaseException")=true from rfl),anf]
 let L:=amY (M:=M) k m;let(r,g,d,t,os):=s;let f:=tc_notTuple;repeat (first|(with_reducible refine ake q ?_;rw[j])|with_reducible refine ake i ?_|(with_reducible refine wpAny_isSubtype_exc i ?_;rw[n])|(with_reducible refine L.at ?_)|wp_step)
 cases b<;>(wp_walk;exact h)
end
def zw(e C:eF)(d:Option eF):HO:= .ext λh=>∃o vs,h.get? e=some o/\o.cls=.ref C/\o.dict=d/\o.data=.fields vs
def zw.ok{P:iU}{w:iP}{H:Hp}{h:h7}{e C:eF}{d:Option eF}(x:∃o vs,h.get? e=some o/\o.cls=.ref C/\o.dict=d/\o.data=.fields vs):gw P w H h e (zw e C d):=by
 refine(x,?_,λa c p k=>?_)
 .let(o,_,e1,_):=x;exact(o,e1)
 .let(o,vs,e1,r):=p;exact(o,vs,k o e1,r)
section
variable{X:Cx}{fw:List (eF×Obj)}{σ:St}{H:Hp}{s:fX}{e:eF}
abbrev Cx.eY(X:Cx)(e:eF):Cx:={X with A:=X.A.mark (some (.ref e)),calm:=false,xe:=λ_ _=>False}
theorem Cx.Ok.eY(ok:X.Ok)(e:eF):(X.eY e).Ok:=
 (ok.mod,ok.kind,ok.glob,ok.blt,ok.above,ok.inj,ok.has,ok.cab,λz=>absurd (show(false:Bool)=true from z) ∅,ok.frames,ok.stk,ok.exf,ok.bs,ok.bsz,ok.NW,ok.Oa,ok.yC,ok.frf)
theorem Inv.eY(I:Inv X fw σ H s)(e:eF):Inv (X.eY e) fw σ H s:=(I.ok.eY e,I.os,I.bare,I.eC,I.loc,I.cell,I.free,I.mD,I.pin,I.hok,I.len)
theorem Inv.jt(I:Inv (X.eY e) fw σ H s)(ok:X.Ok):Inv X fw σ H s:=(ok,I.os,I.bare,I.eC,I.loc,I.cell,I.free,I.mD,I.pin,I.hok,I.len)
def SP.jt{D:Ends}{f:Flow}(h:SP (X.eY e) fw D f s)(ok:X.Ok):SP X fw D f s:=by
 cases f with
 |next=>let(a,c,g,q):=h;exact(a,c,g.jt ok,q)
 |brk=>let(a,c,g,q):=h;exact(a,c,g.jt ok,q)
 |cont=>let(a,c,g,q):=h;exact(a,c,g.jt ok,q)
 |ret u=>let(v,a,c,g,r,q):=h;exact(v,a,c,g.jt ok,r,q)
def agj(i:Nat)(D:Ends):Ends:={nx:=λσ H=>D.nx (σ.set i none) H,rt:=D.rt,bk:=λσ H=>D.bk (σ.set i none) H,ct:=λσ H=>D.ct (σ.set i none) H}
def Inv.YL{M:Al}{A:jg}{E:fy->fX->Prop}{i:Nat}{n:Str}{t:Pos}{Q:Unit->fX->Prop}(I:Inv X fw σ H s)(L:X.N.Nodup)(B:X.N[i]? =some n)(F:X.env.kindOf n=some .local)
  (h:∀x,Inv X fw (σ.set i none) H x->Q .unit x):wpAny M A (do bindName X.env n .none;unbindBehindTheSuite X.env n t) Q E s:=by
 let(m,C,lo):=I.loc;let f:(X.env.scope.kind== .class||(X.env.scope.kind== .module&&X.env.locals != X.env.globals))=false:=by rw[I.ok.kind];rfl
 refine wpAny_nameGoes_keeps F C f λh' v J hs=>h _ ?_;refine(I.ok,I.os,I.bare,(λb o e n g a=>?_,λb o e n g a=>?_,I.eC.free,λb o e a=>?_,I.eC.La,I.eC.HH,I.eC.Lr),(_,J,λj y w e1 e2 e3=>?_),λy c e=>?_,I.free,I.mD,λp G=>?_,?_,by simpa using I.len)
 .exact (hs.2 b (me (rr (lD e) I.ok.above))).trans (I.eC.keep b o e n g a)
 .let(sl,q):=I.eC.slot b o e n g a;exact(sl,(hs.2 b (me (rr (lD e) I.ok.above))).trans q)
 .let(o',q):=I.eC.there b o e a;exact(o',(hs.2 b (me (rr (lD e) I.ok.above))).trans q)
 .by_cases hj:j=i
  .subst hj;let z:j<σ.length:=by rw[I.len];exact(rx.mp B).1
   rw[akT z]at e2;cases e2
  .rw[ak8 (Ne.symm hj)]at e2;let(u,r,q):=lo j y w e1 e2 e3;refine(u,r,?_);rcases q with⟨k,q⟩|⟨k,c,e,z⟩
   .refine .inl (k,?_);let:y≠n:=λq=>hj (Kh L e1 (q ▸ B));simp[this,q]
   .exact .inr (k,c,e,z.sameBut hs (I.T8 y c e))
 .let(w,z):=I.cell y c e;exact(w,z.sameBut hs (I.T8 y c e))
 .let(e,n,ne,nf,d):=I.pin p G;exact((hs.2 p.1 ne).trans e,n,ne,nf,d)
 .intro b u e;refine(I.hok b u e).OI (λc w D q=>(hs.2 c λz=>?_).trans q) (λ_ z=>z) λ_ _ z=>z;subst z;rcases D with z|z
  .rw[<- z]at e;rw[I.free]at e;cases e
  .rw[I.free]at z;cases z
end
section
variable{X:Cx}{x n:Str}{C':eF}{np pos:Pos}{b0:gF}{suite:List gF}{rest:List akY}{ts:TS}{tr:Ends->St->XK}
def Hz{a:List (eF×Obj)}{s:fX}{g:St}{H:Hp}{e:eF}{cls:fy}{d:Option eF}{T:eF}(f:QM X)(I:Inv X a g H s)(t:OK s.heap e cls d (some (T,.none)))(c:kP X a H e)(o:kP X a H T){C:eF}(m:cls=.ref C)
  {Q:Unit->fX->Prop} {M:Al} {A:jg} {E:fy->fX->Prop} (h:∀h',Inv X a g (upd H e (zw e C d)) {s with heap:=h'}->Q .unit {s with heap:=h'}):wpAny M A (setFlight (.ref e) none) Q E s:=by
 subst m;refine FH t λh' j q=>h h' ?_;let r:=I.Tq (t':=s.toks) (j.adp λb i=>absurd i (by simp)) λb i=>by rwa[l9.mp i]
 let(_,(p,vs,e1,e2,e3,e4,_),_):=q;rcases c.2.2.2.1 with z|z
 .rw[f.2.2]at z;simp_all
 .exact r.adn c.1 z c.2.1 c.2.2.2.2.1 c.2.2.2.2.2 (zw.ok (p,vs,e1,e2,e3,e4))
def agG{i:Nat}(t:QM X)(M:X.N.Nodup)(L:X.N[i]? =some n)(F:X.env.kindOf n=some .local)(Y:Gl X x)(hm:X.mg x=some (.ref C'))(R:Ew X.K C')(hs:∀e,nN (X.eY e) (b0::suite) ts)(U:PH X rest tr)
  (hd:(x==("__debug__":Str))=false:=by decide):
  PH X (.ExceptHandler (some (.Name x np)) (some n) (b0::suite) pos::rest) (λD y cls d H=>∃C b,cls=.ref C/\xn X.K C (.ref C')=some b∧
   if b=true then ∀e,H e=none->ts (agj i D) (y.set i (some (.ref e))) (upd H e (zw e C d)) else tr D y cls d H):=by
 intro c s y H e cls d T D I G E J h;let(C,b,rfl,m,q):=h;refine amZ (amy (ajS I.ok.kind Y (akP (by rw[I.ok.glob];exact I.mod.glob.keeps I.bk) hm ?_) hd)) (by intro z;cases z);let(oe,vs,e1,e2,_):=id G.2.1;refine FC I.ry e1 e2 R m ?_;cases b with
 |false=>exact U c s y H e _ d T D I G E J q
 |true=>
  refine codeAny_handlers_suite_as ?_;refine Hz t I G E J rfl λh' Z=>?_;let P:=Z.eY e;refine Jr (X:=X.eY e) P M L (.inl F) (show RelV (.ref e) (.ref e) from rfl) (λW I2=>?_) (.inr F);refine tM (hs e c W _ _ _ I2 (q e E.1)) (λf O B=>?_) λ_ _ z=>z.elim;let done:∀{a:St} {g:Hp} {Q:Unit->fX->Prop},Inv (X.eY e) c a g O->(∀r,Inv X c (a.set i none) g r->Q .unit r)->wpAny (model X.prog X.w) X.A (do bindName X.env n .none;unbindBehindTheSuite X.env n pos) Q X.xe O:=λ{a g Q} j k=>Inv.YL (j.jt I.ok) M L F k;cases f with
  |next=>let(a,g,j,p):=B;exact done j λr o=>(_,g,o,p)
  |brk=>let(a,g,j,p):=B;exact done j λr o=>(_,g,o,p)
  |cont=>let(a,g,j,p):=B;exact done j λr o=>(_,g,o,p)
  |ret u=>let(v,a,g,j,S,p):=B;exact done j λr o=>(v,_,g,o,S,p)
def Yv(c:QM X)(r:Gl X x)(w:X.mg x=some (.ref C'))(t:Ew X.K C')(hs:∀e,nN (X.eY e) (b0::suite) ts)(v:PH X rest tr)(hd:autoParam ((x==("__debug__":Str))=false) L2.adP._auto_2):
  PH X (.ExceptHandler (some (.Name x np)) none (b0::suite) pos::rest) (λD g cls d H=>∃C b,cls=.ref C/\xn X.K C (.ref C')=some b∧
   if b=true then ∀e,H e=none->ts D g (upd H e (zw e C d)) else tr D g cls d H):=by
 intro a s g H e cls d T D I j i o h;let(C,b,rfl,m,q):=h;refine amZ (amy (ajS I.ok.kind r (akP (by rw[I.ok.glob];exact I.mod.glob.keeps I.bk) w ?_) hd)) (by intro z;cases z);let(y,vs,e1,e2,_):=id j.2.1;refine FC I.ry e1 e2 t m ?_;cases b with
 |false=>exact v a s g H e _ d T D I j i o q
 |true=>
  refine codeAny_handlers_suite ?_;refine Hz c I j i o rfl λh' u=>?_;exact tM (hs e a _ _ _ _ (u.eY e) (q e i.1)) (λf A p=>SP.jt p I.ok) λ_ _ z=>z.elim
end
structure M0(K:gI)(C:eF):Prop where
 ga:ri K (.ref C) "__getattribute__"=some (some (.builtin "BaseException.__getattribute__"))
 gt:ri K (.ref C) "__getattr__"=some none
 cl:ri K (.ref C) "__class__"=some (some (.builtin "object.__class__"))
 mb:xn K C (.type "BaseException")=some true
 mo:xn K C (.type "object")=some true
section
variable{prog:iU}{w:iP}{A:jg}{E:fy->fX->Prop}{K:gI}{C a:eF}{o:Obj}{vs:Array fy}{h:h7}{g:Array aoA}{d:Drawn}{t:Nat}{os:OsState}
theorem acK{h:h7}(i:h.get? a=some o)(f:o.cls=.ref C)(hd:o.data=.fields vs)(e:o.dict=none):aoi h a o C none:=
 (i,f,by let(c,dd,j,m):=o;cases hd;rfl,by simp_all)
def Z7{tk:Tok}{Q:Fin->fX->Prop}(X:K.In h)(x:M0 K C)(e:h.get? a=some o)(c:o.cls=.ref C)(hd:o.data=.fields vs)(f:o.dict=none)(j:Q (.done (.ret (.ref C))) (h,g,d,t,os)):
  wpAny (model prog w) A (aol.«object.__getattribute__» ([.ref a,.str "__class__" tk],[])) Q E (h,g,d,t,os):=by
 let i:((h,g,d,t,os):fX).TypeIs (.builtin "object.__class__") "getset_descriptor":=amz;let L:=akq (M:=model prog w) X x.cl;let p:=amz;let m:=F.slot_gs_get.lookup;let n:=F.slot_gs_set.lookup
 repeat (any_goals (first|assumption|(with_reducible refine ake e ?_;rw[c])|(with_reducible refine L.at ?_)|wp_step))
 refine PySem.W.class_get X (acK e c hd f) x.mo ?_
 repeat (any_goals (first|assumption|wp_step))
def ZE{M:Al}{c:fy}{Q:Unit->fX->Prop}(X:K.In h)(x:M0 K C)(f:h.get? a=some o)(e:o.cls=.ref C)(i:Q .unit (h,g,d,t,os)):
  wpAny M A (checkBuiltinCall "BaseException.__getattribute__" ([.ref a,c],[])) Q E (h,g,d,t,os):=by
 let k1:builtinKind "BaseException.__getattribute__"=some .slot:=by decide +kernel
 let k2:splitId "BaseException.__getattribute__"=some ("BaseException","__getattribute__"):=by decide +kernel
 let L:=amY (M:=M) X x.mb;let j:=F.args_bexc_ga (.ref a) c;simp only[checkBuiltinCall,k1,k2];repeat (first|(with_reducible refine ake f ?_;rw[e])|(with_reducible refine L.at ?_)|wp_step)
 exact i
def agH{tk:Tok}{Q:fy->fX->Prop}(X:K.In h)(x:M0 K C)(e:h.get? a=some o)(c:o.cls=.ref C)(hd:o.data=.fields vs)(j:o.dict=none)(q:Q (.ref C) (h,g,d,t,os)):
  wpAny (model prog w) A (getAttrBy (.ref a) (.str "__class__" tk) false) Q E (h,g,d,t,os):=by
 let i:=PySem.F.attrBase_ValueError;let r:=i.ga.bind (.ref a);let f:(alI "BaseException.__getattribute__"==alI "object.__getattribute__")=false:=by lia
 let m:(onTheHeap (nk C)&&alI "BaseException.__getattribute__"==alI "object.__getattribute__")=false:=by rfl
 let n:=akq (M:=model prog w) X x.ga;let p:=akq (M:=model prog w) X x.gt
 repeat (any_goals (first|assumption|(with_reducible refine ake e ?_;rw[c])|(with_reducible refine n.at ?_)|(with_reducible refine p.at ?_)|wp_step))
 refine alc i.ga.plain F.entry_bexc_ga (ZE X x e c (Z7 X x e c hd j ?_))
 repeat (any_goals (first|assumption|wp_step))
def acT{Q:Option fy->fX->Prop}(X:K.In h)(x:M0 K C)(c:h.get? a=some o)(e:o.cls=.ref C)(hd:o.data=.fields vs)(f:o.dict=none)(i:Q (some (.ref C)) (h,g,d,t+1,os)):
  wpAny (model prog w) A (getAttr? (.ref a) "__class__") Q E (h,g,d,t,os):=by
 repeat (any_goals (first|assumption|with_reducible apply agH X x c e hd f|wp_step))
end
structure aI(K:gI)(x qual:Str)(st:gF)(dV:fy)(f:eF)(fd:pG):Prop where
 ex:∃(oc:fy) (od:Option eF) (kV doc pm:fy) (an:Option eF) (cdv ct:fy) (osl:Array (Option fy)),
  fd=GI x qual (oN st) (cZ st) (ah st) dV kV doc pm an cdv ct/\K.lookup f=some (oc,od,.func fd,osl)/\alu K cdv qual=true
 kp:Nb K (.ref f)=true
abbrev XNo:St->XK:=λ_ _ _ _=>False
theorem Sy{X:Cx}:Throws X.je XNo:=λ_ _ _ _ _ _ _ _ q=>q
theorem cI{X:Cx}:Passes (gf X.je.prog X.je.w) X.je XNo:=passes Sy
section
variable{P:iU}{w:iP}{K:gI}{mg:Str->Option fy}{eC:h7}{x qual:Str}{st:gF}{dV:fy}{f:eF}{fd:pG}{N ps:List Str}{k:Nat}{cm:Bool}{sp:Sp}
def aI.ok(F:aI K x qual st dV f fd)(S:ar N ps (ah st))(len:∀vs H Q E,sp vs H Q E->vs.length=ps.length)
  (c:∀(a:fy) (A:jg) (fM:List Env) (s:fX) (H:Hp) (vs:List V) (Q:VK) (E:XK),eT cm k (A.deeper (envOfC qual (ah st) s.heap.objs.size f a))->sp vs H Q E→
   ∃t,nN (w9 cm (gf P w) P w K mg eC N qual (ah st) f a A fM s H E) (cZ st) t/\t {nx:=λ_ H'=>Q .non H',rt:=Q} (start N vs) H):wP (gf P w) cm (k+1) f fd ps sp:=by
 let(n,m,kV,j,p,o,a,ct,h,rfl,lk,e):=F.ex;exact agL lk e S len λA fM s H vs Q E i g=>c a A fM s H vs Q E i g
theorem aI.okN(F:aI K x qual st dV f fd)(S:ar N ps (ah st))(len:∀vs H Q E,sp vs H Q E->vs.length=ps.length)
  (c:∀(a:fy) (A:jg) (fM:List Env) (s:fX) (H:Hp) (vs:List V) (Q:VK) (E:XK),eT cm k (A.deeper (envOfC qual (ah st) s.heap.objs.size f a))->sp vs H Q E→
   ∃t,nN (w9 cm (gf P w) P w K mg eC N qual (ah st) f a A fM s H E).je (cZ st) t/\t {nx:=λ_ H'=>Q .non H',rt:=Q} (start N vs) H):wP (gf P w) cm (k+1) f fd ps sp:=
 F.ok S len λa A fM s H vs Q E g e=>let (t,h,q):=c a A fM s H vs Q E g e;(t,h.je,q)
theorem aI.ok1(F:aI K x qual st dV f fd)(S:ar N ps (ah st))(h:∀vs H Q E,sp vs H Q E->vs.length=ps.length∧
   ∀(a:fy) (A:jg) (fM:List Env) (s:fX),eT cm k (A.deeper (envOfC qual (ah st) s.heap.objs.size f a))→
   ∃t,nN (w9 cm (gf P w) P w K mg eC N qual (ah st) f a A fM s H E) (cZ st) t/\t {nx:=λ_ H'=>Q .non H',rt:=Q} (start N vs) H):wP (gf P w) cm (k+1) f fd ps sp:=
 F.ok S (λvs H Q E q=>(h vs H Q E q).1) λa A fM s H vs Q E c q=>(h vs H Q E q).2 a A fM s c
theorem aI.CK(F:aI K x qual st dV f fd)(S:ar N ps (ah st))(h:∀vs H Q E,sp vs H Q E->vs.length=ps.length∧
   ∀(a:fy) (A:jg) (fM:List Env) (s:fX),eT cm k (A.deeper (envOfC qual (ah st) s.heap.objs.size f a))→
   ∃t,nN (w9 cm (gf P w) P w K mg eC N qual (ah st) f a A fM s H E).je (cZ st) t/\t {nx:=λ_ H'=>Q .non H',rt:=Q} (start N vs) H):wP (gf P w) cm (k+1) f fd ps sp:=
 F.okN S (λvs H Q E q=>(h vs H Q E q).1) λa A fM s H vs Q E c q=>(h vs H Q E q).2 a A fM s c
def aI.binds(F:aI K x qual st dV f fd)
  (h:∀(kV c g:fy) (e:Option eF) (a ct:fy) (us:List fy),us.length=ps.length->bindArgs (GI x qual (oN st) (cZ st) (ah st) dV kV c g e a ct) (us,[])=pure (ps.zip us)):Binds K fd ps []:=by
 let(m,n,kV,c,g,e,a,ct,j,rfl,lk,i):=F.ex;exact .all (h kV c g e a ct)
def aI.Nh{T:eF}{o:Obj}{items:Array fy}{n:Nat}{ds:List fy}(F:aI K x qual st (.ref T) f fd)(lt:K.lookup T=some o)(hs:o.data=.seq items n)
  (h:∀(kV a g:fy) (e:Option eF) (c ct:fy) (us:List fy),(us++ds).length=ps.length→
   ∃k,bindArgs (GI x qual (oN st) (cZ st) (ah st) (.ref T) kV a g e c ct) (us,[])=seqItems? (.ref T) >>= k/\k (some items)=pure (ps.zip (us++ds))):Binds K fd ps ds:=by
 let(u,t,kV,a,g,e,c,ct,p,rfl,lk,j):=F.ex;intro s us i m;let(kk,q,r):=h kV a g e c ct us m;exact BindsTo.of_defaults rfl (i _ _ lt) hs q r
theorem acv{j:fy}{m h:Option eF}{g:Array (Option fy)}{kV e i a ct:fy}(l:K.lookup f=some (j,m,.func (GI x qual (oN st) (cZ st) (ah st) dV kV e i h a ct),g))
  (c:alu K a qual=true) (k:Nb K (.ref f)=true):aI K x qual st dV f (GI x qual (oN st) (cZ st) (ah st) dV kV e i h a ct):=((j,m,kV,e,i,h,a,ct,g,rfl,l,c),k)
end
def IsC(K:gI)(C:eF):Prop:=∃dd c a,K.lookup C=some (.type "type",dd,.cls c,a)
def G7{K:gI}{C D:eF}{b:Bool}(a:IsC K D)(m:xn K C (.ref D)=some b)(ne:C=D->b=true):DV K (.ref C) (.ref D)=some b:=by
 let(dd,c,h,l):=a;unfold DV;by_cases e:C=D
 .rw[fR (by rw[e];exact al2 _),ne e]
 .rw[fC (by simp_all)];unfold akO;let f:aoy K D=some c:=by unfold aoy;rw[l]
  let g:aok K (.ref D)=some (.type "type"):=by
   show(K.lookup D).map (·.cls)=_;rw[l]
   rfl
  dsimp only;rwa[f,g]
theorem Zv{K:gI}{e C:eF}(x:M0 K C)(i:IsC K C):PySem.W.KitX K (.ref e) (.ref C) (λh=>∃o vs,h.get? e=some o/\o.cls=.ref C/\o.dict=none/\o.data=.fields vs) where
 ty:=λM h _ p=>by
  let(o,vs,a,c,_):=p;exact c ▸ (PySem.W.Looks.ld a).andThen .now
 it:=λM h X _=>by
  let(dd,j,m,l):=i;intro G H I D k q;exact kb (aoj (k _ _ (X _ _ l)) (pq q))
 ne:=λh y dd its n m X f=>by
  let(B,j,u,l):=i;refine alP.mpr λq=>?_;let e:=aox (xc.mp q);subst e;let z:=iY (λo=>o.data) (iJ ((X _ _ l).symm.trans f));cases z
 ca:=λ{prog w A E Q s} X p q=>by
  let(o,vs,a,c,r,v):=p;exact acT X x a c v r q
section
variable{X:Cx}
def ZK:wA X (.builtin "isinstance") (λxs H Q=>∃(e C:eF) (c:V) (f:fy) (b:Bool),xs=[.ref e,c]/\H e=some (zw e C none)/\M0 X.K C/\IsC X.K C/\RelV c f/\DV X.K (.ref C) f=some b/\Q (.bl b) H):=by
 intro o s w H xs us Q I r h;let(e,C,c,f,b,rfl,u,xi,v,rc,g,q):=h;let(x,j,rfl,p,m):=vals2 r;cases p
 let e2:=by
  cases c with
  |ref a=>exact(show j=nk a from m).trans (show f=nk a from rc).symm
  |ty n=>exact(show j=alT n from m).trans (show f=alT n from rc).symm
  |non=>exact(show j=ako from m).trans (show f=ako from rc).symm
  |bl y=>exact(show j=alS y from m).trans (show f=alS y from rc).symm
  |int i=>let(t,rfl):=rc;simp[DV,akO]at g
  |str y=>let(t,rfl):=rc;simp[DV,akO]at g
  |byt y=>let(t,rfl):=rc;simp[DV,akO]at g
  |flt y=>let(t,rfl):=rc;simp[DV,akO]at g
 subst e2;let ok:=(I.hok e _ u).1;exact PySem.W.kia_one (Zv xi v) I.ry ok g (λz=>nomatch z) λtk=>(.bl b,H,I.tok tk,rfl,q)
theorem uW{x:Str}{i:Int}{t:Tok}{a:Pos}(c:Gl X x)(e:X.mg x=some (.int i t))(hd:autoParam ((x==("__debug__":Str))=false) L2.adP._auto_2):PE X (.Name x a) (tC (.int i)):=MZ c e (t,rfl) hd
theorem Oh{x z:Str}{t:Tok}{a:Pos}(c:Gl X x)(e:X.mg x=some (.str z t))(hd:autoParam ((x==("__debug__":Str))=false) L2.adP._auto_2):PE X (.Name x a) (tC (.str z)):=MZ c e (t,rfl) hd
theorem zv{x:Str}{a:eF}{c:Pos}(e:Gl X x)(f:X.mg x=some (.ref a))(hd:autoParam ((x==("__debug__":Str))=false) L2.adP._auto_2):PE X (.Name x c) (tC (.ref a)):=MZ e f (v:= .ref a) rfl hd
end
section
variable{X:Cx}{x:Str}{C:eF}{np cpos pos:Pos}{E:St->XK}
end
def MethAt(P:iU)(w:iP)(K:gI)(mg:Str->Option fy)(eC:h7)(CX:wH)(cm:Bool)(k:Nat)(m:Str)(C:eF)(sp:Sp)(a:List V):Prop:=
 ∃f fd ps ds,rz K C/\Meth K C m f/\wP CX cm k f fd ps sp/\Binds K fd ps ds/\Vals a ds
def Nf(Dt:eF->Sp->List V->Prop)(m:Str)(E:St->XK)(g:TE)(t:TA):TE:=λe H Q=>g e H λx f=>∃a C h fs sp c,x=.ref a/\f a=some (.ins C h fs)/\Dt C sp c/\fs.lookup m=none∧
 t e f λvs i=>sp (x::(vs++c)) i Q (E e)
section
variable{X:Cx}{CX:wH}{k:Nat}{cm:Bool}{E:St->XK}{m:Str}{pos apos:Pos}{e o:hH}{es:List hH}{ta:TE}{t:TA}{Dt:eF->Sp->List V->Prop}
def xF{pl:Sem Bool}(T:PE X o ta)(S:∀C sp g,Dt C sp g->MethAt X.prog X.w X.K X.mg X.eC CX cm k m C sp g)(L:eT cm k X.A)(P:Passes CX X E)(M:PA X (e::es) t)
  (i:starEach (e::es) X.env=(false,eval e X.env)::starEach es X.env:=by rfl) (j:(backTo pos (starEach es X.env)).any (·.1)=false:=by rfl)
  (D:eval (.Call (.Attribute o m apos) (e::es) [] pos) X.env=(do
   let n<-eval o X.env
   standAt apos.atName
   let (f,first)<-holding [n] (getMethod n m pl)
   callWith pos f first (backTo pos (starEach (e::es) X.env)) (backToKw pos (keywordEach [] X.env))):=by rfl):
  PE X (.Call (.Attribute o m apos) (e::es) [] pos) (Nf Dt m E ta t):=by
 intro p s Y H Q I h;refine ak4 (T.th I h λu s1 x U v J B=>?_) D;let(a,C,dx,fs,sp,g,ex,N,R,l,q):=B;subst ex;obtain rfl:u=nk a:=J;let(f,fd,ps,ds,c,y,F,G,hd):=S C sp g R;refine JK v N c y l ?_;refine akE I.ok.mod.kin y.kp (M.th v q λus Z vs W z r O=>(z.ry,?_)) i j;exact NI (vs:= .ref a::vs) F L G hd P z (.cons rfl r) O
def jJ{pl:Sem Bool}(M:PE X o ta)(G:∀C sp g,Dt C sp g->MethAt X.prog X.w X.K X.mg X.eC CX cm k m C sp g)(y:eT cm k X.A)(B:Passes CX X E)
  (r:eval (.Call (.Attribute o m apos) [] [] pos) X.env=(do
   let n<-eval o X.env
   standAt apos.atName
   let (f,first)<-holding [n] (getMethod n m pl)
   callWith pos f first (backTo pos (starEach [] X.env)) (backToKw pos (keywordEach [] X.env))):=by rfl):
  PE X (.Call (.Attribute o m apos) [] [] pos) (Nf Dt m E ta Vg):=by
 intro j s P H Q I h;refine ak4 (M.th I h λu O x N i L J=>?_) r;let(a,C,R,fs,sp,g,ex,z,D,l,q):=J;subst ex;obtain rfl:u=nk a:=L;let(f,fd,ps,ds,c,p,F,v,hd):=G C sp g D;refine JK i z c p l ?_;exact amT i.ry p.kp (NI (vs:=[.ref a]) F y v hd B i (.cons rfl .nil) q)
end
structure Zi(K:gI)(C:eF)(m:Str)(f:eF):Prop where
 sp:anF K (.ref C) "__getattribute__"=some (some (.builtin "type.__getattribute__"))
 rd:aoc K C (.type "type")=true
 fc:aod K (.ref C) (.type "type") m=some (.val (.ref f))
 kp:Nb K (.ref f)=true
section
variable{X:Cx}{CX:wH}{k:Nat}{cm:Bool}{f C:eF}{fd:pG}{ps:List Str}{sp:Sp}{mx:List V}{ds:List fy}{E:St->XK}{x m:Str}{p pos apos:Pos}{e:hH}{es:List hH}{t:TA}
def Y8{pl:Sem Bool}(F:aD X.prog X.w X.K X.mg X.eC CX cm k f fd ps sp)(u:eT cm k X.A)(D:Gl X x)(G:X.mg x=some (.ref C))(bc:Zi X.K C m f)(q:Binds X.K fd ps ds)(hd:Vals mx ds)(B:Passes CX X E)(v:PA X (e::es) t)
  (c:(x==("__debug__":Str))=false:=by decide)
  (g:starEach (e::es) X.env=(false,eval e X.env)::starEach es X.env:=by rfl) (i:(backTo pos (starEach es X.env)).any (·.1)=false:=by rfl)
  (o:eval (.Call (.Attribute (.Name x p) m apos) (e::es) [] pos) X.env=(do
   let j<-eval (.Name x p) X.env
   standAt apos.atName
   let (f,first)<-holding [j] (getMethod j m pl)
   callWith pos f first (backTo pos (starEach (e::es) X.env)) (backToKw pos (keywordEach [] X.env))):=by rfl):
  PE X (.Call (.Attribute (.Name x p) m apos) (e::es) [] pos) (Pn sp mx E t):=by
 intro a s z H Q I h;refine ak4 (zA I D G ?_ c) o;refine PySem.W.method_cls I.ry bc.sp (PySem.W.cls_value I.ry bc.rd bc.fc rfl ?_);let J:Inv X a z H {s with toks:=s.toks+1}:=I.tok _;refine akE I.ok.mod.kin bc.kp (v.th J h λus M vs L n r y=>(n.ry,?_)) g i;exact NI F u q hd B n r y
end
def zQ:List V->List V->Bool
 |[],[]=>true
 |x::xs,y::ys=>pf x y&&zQ xs ys
 |_,_=>false
theorem Iw:∀{xs ys:List V},xs.length≠ys.length->zQ xs ys=false
 |[],[],h=>absurd rfl h
 |[],_::_,_=>rfl
 |_::_,[],_=>rfl
 |x::xs,y::ys,h=>by
  let:=Iw λz=>h (by rw[rN,rN,z]);show(pf x y&&zQ xs ys)=false;simp_all
theorem Bq:∀{xs ys:List V},xs.length=ys.length->((hD xs.length).all λj=>match xs[j]?,ys[j]? with|some a,some b=>pf a b|_,_=>true)=zQ xs ys
 |[],[],_=>rfl
 |x::xs,y::ys,h=>by
  let c:=Bq (by simpa using h);rw[rN,akU,alH,ang];show(pf x y&&(hD xs.length).all λj=>match xs[j]?,ys[j]? with|some a,some b=>pf a b|_,_=>true)=(pf x y&&zQ xs ys);rw[c]
section
variable{X:Cx}
def items_eqAt{A:jg}{s:fX}{xs ys:List V}{is c:List fy}(e:Vals xs is)(i:Vals ys c)(q:xs.all gH=true)(n:ys.all gH=true)(j:Nat)(f:j<is.toArray.size)(g:j<c.toArray.size):
  akM A s is.toArray[j] c.toArray[j] (match xs[j]?,ys[j]? with|some a,some b=>pf a b|_,_=>true):=by
 rw[js]at f g;let u:=e.length;let t:=i.length;let e1:xs[j]? =some xs[j]:=hY (by omega);let e2:ys[j]? =some ys[j]:=hY (by omega);let(r,m,o):=e.get e1;let(v,h,p):=i.get e2;rw[hY f]at m;rw[hY g]at h;cases m;cases h;rw[e1,e2];exact MI o p (z8.mp q _ (uy _)) (z8.mp n _ (uy _))
def ab2(K:gI)(c:Bool):R2:=λx y H Q=>∃(a b:eF) (xs ys:List V),x=.ref a/\y=.ref b/\fT K H a xs/\fT K H b ys/\xs.all gH=true/\ys.all gH=true/\Q (.bl (if c=true then !zQ xs ys else zQ xs ys)) H
def A1(n:X.A.units<cLine):mn X (compareOp .Eq) (ab2 X.K false):=by
 intro g s D H x y v u Q I r t h;let(a,b,xs,ys,rfl,rfl,w,z,C,p,q):=h;cases r;cases t;let(is,c,i,E):=I.list w;let(F,o,m,J):=I.list z;let B:=c.length;let G:=o.length;by_cases f:xs.length=ys.length
 .refine SeqAt.eq_listAt i.isList m.isList (by rw[js,js];lia) n (items_eqAt c o C p) ?_;rw[js,<-B,Bq f];exact(.bl _,H,I,rfl,q)
 .refine SeqAt.eq_list_lengthsAt i.isList m.isList (by rw[js,js,amM];lia) n ?_;rw[Iw f]at q;exact(.bl _,H,I,rfl,q)
def vR(n:X.A.units<cLine):mn X (compareOp .NotEq) (ab2 X.K true):=by
 intro g s D H x y v u Q I r t h;let(a,b,xs,ys,rfl,rfl,w,z,C,p,q):=h;cases r;cases t;let(is,c,i,E):=I.list w;let(F,o,m,J):=I.list z;let B:=c.length;let G:=o.length;by_cases f:xs.length=ys.length
 .refine anh i.isList m.isList (by rw[js,js];lia) n (items_eqAt c o C p) _ _ _ _ ?_;rw[js,<-B,Bq f];exact(.bl _,H,I,rfl,q)
 .refine alJ i.isList m.isList (by rw[js,js,amM];lia) n _ _ _ _ ?_;rw[Iw f]at q;exact(.bl _,H,I,rfl,q)
end
def iX(P:iU)(w:iP)(K:gI)(mg:Str->Option fy)(eC:h7)(cm:Bool)(k:Nat)(x:Str)(sp:Sp)(a:List V):Prop:=
 ∃f fd ps ds,wP (gf P w) cm k f fd ps sp/\mg x=some (.ref f)/\Nb K (.ref f)=true/\Binds K fd ps ds/\Vals a ds
def C0(P:iU)(w:iP)(K:gI)(mg:Str->Option fy)(eC:h7)(cm:Bool)(k:Nat)(x:Str)(C:eF)(sp:Sp)(a:List V):Prop:=
 ∃f fd ps ds,Mk K C f/\wP (gf P w) cm k f fd ps sp/\mg x=some (.ref C)/\Binds K fd ps ds/\Vals a ds
def UO(P:iU)(w:iP)(K:gI)(mg:Str->Option fy)(eC:h7)(cm:Bool)(k:Nat)(x m:Str)(sp:Sp)(a:List V):Prop:=
 ∃C f fd ps ds,Zi K C m f/\wP (gf P w) cm k f fd ps sp/\mg x=some (.ref C)/\Binds K fd ps ds/\Vals a ds
section
variable{X:Cx}{k:Nat}{cm:Bool}{C:eF}{sp:Sp}{mx:List V}{E:St->XK}{x m:Str}{p pos apos:Pos}{e:hH}{es:List hH}{t:TA}
def Iv(c:iX X.prog X.w X.K X.mg X.eC cm k x sp mx)(n:eT cm k X.A)(i:Gl X x)(h:Passes (gf X.prog X.w) X E)
  (s:PA X (e::es) t) (a:(x==("__debug__":Str))=false:=by decide) (r:starEach (e::es) X.env=(false,eval e X.env)::starEach es X.env:=by rfl) (g:(backTo pos (starEach es X.env)).any (·.1)=false:=by rfl):
  PE X (.Call (.Name x p) (e::es) [] pos) (Pn sp mx E t):=by
 let(f,fd,ps,ds,F,o,q,j,hd):=c;exact abl F n i o q j hd h s a r g
def vy(c:C0 X.prog X.w X.K X.mg X.eC cm k x C sp mx)(n:eT cm (k+1) X.A)(i:Gl X x)(h:Passes (gf X.prog X.w) X E)
  (r:PA X (e::es) t) (a:(x==("__debug__":Str))=false:=by decide) (q:starEach (e::es) X.env=(false,eval e X.env)::starEach es X.env:=by rfl) (g:(backTo pos (starEach es X.env)).any (·.1)=false:=by rfl):
  PE X (.Call (.Name x p) (e::es) [] pos) (UX C sp mx E t):=by
 let(f,fd,ps,ds,M,F,o,j,hd):=c;exact ab7 M F n i o j hd h r a q g
def Ig{pl:Sem Bool}(c:UO X.prog X.w X.K X.mg X.eC cm k x m sp mx)(o:eT cm k X.A)(s:Gl X x)(r:Passes (gf X.prog X.w) X E)(q:PA X (e::es) t)
  (a:(x==("__debug__":Str))=false:=by decide)
  (g:starEach (e::es) X.env=(false,eval e X.env)::starEach es X.env:=by rfl) (h:(backTo pos (starEach es X.env)).any (·.1)=false:=by rfl)
  (j:eval (.Call (.Attribute (.Name x p) m apos) (e::es) [] pos) X.env=(do
   let i<-eval (.Name x p) X.env
   standAt apos.atName
   let (f,first)<-holding [i] (getMethod i m pl)
   callWith pos f first (backTo pos (starEach (e::es) X.env)) (backToKw pos (keywordEach [] X.env))):=by rfl):
  PE X (.Call (.Attribute (.Name x p) m apos) (e::es) [] pos) (Pn sp mx E t):=by
 let(C,f,fd,ps,ds,bc,F,u,n,hd):=c;exact Y8 F o s u bc n hd r q a g h j
end
theorem zE{X:Cx}{a:List Str}{scope:uf}{cl:List (Str×eF)}{C:eF}{e:List eF}{c:fX}{f:Hp}:Passes (gf (X.comp a scope cl C e c f).prog (X.comp a scope cl C e c f).w) (X.comp a scope cl C e c f) XNo:=passes λ_ _ _ _ _ _ _ _ q=>q
section
variable{X:Cx}
end
def isStar:hH->Bool
 |.Starred .. =>true
 |_=>false
def Ub{e:hH}{es:List hH}{env:Env}(h:isStar e=false):starEach (e::es) env=(false,eval e env)::starEach es env:=by
 cases e<;>first|rfl|cases h
theorem ag1{X:Cx}{e:hH}{es:List hH}{a:TE}{t:TA}(c:PE X e a)(f:PA X es t)(h:autoParam (isStar e=false) L2.aE._auto_1):PA X (e::es) (ade a t):=TQ c f (Ub h)
def isConst:hH->Bool
 |.Constant (.str _) _ _=>true
 |.Constant (.int _) _ _=>true
 |_=>false
def XN:hH->V
 |.Constant (.str x) _ _=>.str x
 |.Constant (.int x) _ _=>.int x
 |_=>.non
def aa5(vs:List V):TA:=λ_ H Q=>Q vs H
def XE{e:hH}(h:isConst e=true):(∃x j p,e=.Constant (.str x) j p)\/∃x j p,e=.Constant (.int x) j p:=by
 unfold isConst at h
 split at h
 .exact .inl (_,_,_,rfl)
 .exact .inr (_,_,_,rfl)
 .cases h
theorem LU{X:Cx}:∀{es:List hH},es.all isConst=true->PA X es (aa5 (es.map XN))
 |[],_=>λc a s f H Q I h=>bQ c a s f H Q I h
 |e::es,h=>by
  rw[alH,mu]at h;let g:=LU (X:=X) h.2;intro c a s f H Q I q
  let hs:PE X e (tC (XN e))/\isStar e=false:=by
   rcases XE h.1 with⟨x,j,p,rfl⟩|⟨x,j,p,rfl⟩
   .exact (aj,rfl)
   .exact (ai,rfl)
  exact TQ hs.1 g (Ub hs.2) c a s f H Q I q
theorem iM{A:jg}{k:Nat}{cm:Bool}(a:eT cm k A):A.units<cLine:=Nat.lt_of_succ_lt (pI a)
def ba(c:gF)(j:Nat):gF:=match c with
 |.ClassDef _ _ _ body .. =>body.getD j (.Pass (0,0,0,0))
 |_=>.Pass (0,0,0,0)
def cW:bootBuiltins "len"=some (.builtin "len"):=by decide +kernel
def lY:bootBuiltins "isinstance"=some (.builtin "isinstance"):=by decide +kernel
def aef:bootBuiltins "min"=some (.builtin "min"):=by decide +kernel
def aeR:bootBuiltins "all"=some (.builtin "all"):=by decide +kernel
def Y3:bootBuiltins "int"=some (.type "int"):=by decide +kernel
def lE:bootBuiltins "str"=some (.type "str"):=by decide +kernel
def UY:bootBuiltins "list"=some (.type "list"):=by decide +kernel
def agJ{i j:Int}(h:(decide (0<j)&&decide (j<1073741824))=true):agi i j:=by
 rw[mu,pD,pD]at h;exact h
theorem Iy:∀{ys:List Str} {its:List fy},Vals (ys.map V.str) its->StrsAre its ys
 |[],[],_=>.nil
 |[],_::_,r=>by cases r
 |_::_,[],r=>by cases r
 |y::ys,_::its,r=>by
  cases r with
  |cons a c=>
   let(t,rfl):=a;exact .cons _ _ (Iy c)
section
variable{X:Cx}
theorem Uh{a:List (eF×Obj)}{s:fX}{c:St}{H:Hp}{Q:VK}{z:Str}(I:Inv X a c H s)(q:Q (.str z) H):∀(t':Tok) (k:Nat),EP X a c Q (.str z t') {s with toks:=k}:=λ_ _=>(.str z,H,I.tok _,(_,rfl),q)
def FR:T1 X "str.join" (λx vs H Q=>∃(a:Str) (p:eF) (ys:List Str),x=.str a/\vs=[.ref p]/\fT X.K H p (ys.map V.str)/\(ys.map (·.length)).sum+ys.length*a.length<=16777216/\Q (.str (amN a ys)) H):=by
 intro c s m H x vs v us Q I i j h;let(a,p,ys,rfl,rfl,g,f,q):=h;let(t,rfl):=i;let(u,rfl,e):=j.one;cases e;let(its,r,pl,_):=I.list g;exact join_list pl.isList (Iy r) f (Uh I q)
def yT:T1 X "str.lstrip" (λx vs H Q=>∃z y:Str,x=.str z/\vs=[.str y]/\z.length<=sizeLine/\Q (.str (ajR z y)) H):=by
 intro a s i H x vs v us Q I e f h;let(z,y,rfl,rfl,c,q):=h;let(t,rfl):=e;let(u,rfl,(g,rfl)):=f.one;exact call_gives F.slot_str_lstrip (akL _ _ _) F.entry_str_lstrip (F.args_str_lstrip_2 _ _) (gives_str_lstrip_chars z y t g) (post_val_or_made (λ_=>fits_stripped _ _ _ c) (Uh I q))
def Cg:T1 X "str.startswith" (λx vs H Q=>∃z y:Str,x=.str z/\vs=[.str y]/\Q (.bl (amA z y)) H):=by
 intro a s g H x vs v us Q I c e h;let(z,y,rfl,rfl,q):=h;let(t,rfl):=c;let(u,rfl,(f,rfl)):=e.one;exact call_gives F.slot_str_startswith (akL _ _ _) F.entry_str_startswith (F.args_str_startswith_2 _ _) (gives_str_startswith z y t f) (.bl _,H,I,rfl,q)
theorem Mb:∀(tk:Nat) (ys:List Str),Vals (ys.map V.str) (strsFrom tk ys)
 |_,[]=>.nil
 |tk,_::ys=>.cons (_,rfl) (Mb (tk+1) ys)
def Az:T1 X "str.split" (λx vs H Q=>∃z y:Str,x=.str z/\vs=[.str y]/\z.length<=sizeLine/\(y.length==0)=false/\(Builtin.Str.partsBetween z (aj5 z y 0 z.length (z.length+1)) y.length).length<=sizeLine∧
  (Txt.split z y).length<=sizeLine/\∀p,H p=none->Q (.ref p) (upd H p (.lst ((Txt.split z y).map V.str)))):=by
 intro c s r H x vs v us Q I m n h;let(z,y,rfl,rfl,j,i,o,f,q):=h;let(t,rfl):=m;let(u,rfl,(g,rfl)):=n.one;let q:=q _ I.fresh
 let one:∀(q:Q (.ref s.heap.objs.size) (upd H s.heap.objs.size (.lst [V.str z]))),EP X c r Q (.ref s.heap.objs.size) {s with heap:=s.heap.push {cls:= .type "list",data:= .seq [Pc z t].toArray}}:=λq=>
  (.ref _,_,I.aeQ (ys:=[V.str z]) (.cons (_,rfl) .nil) (by rw[amw,LQ];lia),rfl,q)
 unfold Txt.split at q f;by_cases a:(decide (z.length<y.length)||decide (ajr z<ajr y))=true
 .rw[fR a]at q;exact akN al3 (akL _ _ _) alQ (alB _ _) (meets_str_split_cannot_occur z y t g a) (one q)
 .rw[fC a]at q f;let a:=alP.mpr a;by_cases e:(aj5 z y 0 z.length (z.length+1)).isEmpty=true
  .rw[fR e]at q;exact akN al3 (akL _ _ _) alQ (alB _ _) (meets_str_split_not_found z y t g a i e) (one q)
  .rw[fC e]at q f;refine akN al3 (akL _ _ _) alQ (alB _ _) (meets_str_split_sep z y t g a i (alP.mpr e) j o) ?_;exact(.ref _,_,I.aeQ (Mb _ _) (by rwa[gQ]),rfl,q)
def BF:mn X (binaryOp .Mult) (λx y H Q=>∃(z:Str) (n:Nat),x=.str z/\y=.int n/\z.length*n<=100000/\n<=100000/\z.length<=100000/\Q (.str ⟨(ko n z.cps).foldl (·++·) #[]⟩) H):=by
 intro j s r H x y v u Q I o p h;let(z,n,rfl,rfl,g,B,w,q):=h;let(t,rfl):=o;let(A,rfl):=p;let hs:100000<=sizeLine:=by decide
 refine P.mul_str ?_ ?_ ?_ ?_
 .rw[iR (),iR ()];rfl
 .intro a b;let:(0:Int)<n:=by lia
  rw[Int.not_lt,Int.le_ediv_iff_mul_le this];let g:=Int.ofNat_le.mpr g;lia
 .intro a b;exact iR ()
 .by_cases a:(n:Int)<1
  .obtain rfl:n=0:=by lia
   exact(∅,.str _,H,I.tok _,(_,rfl),q)
  .rw[fC a];by_cases b:((n:Int)==1||z.length==0)=true
   .rw[fR b]
    let e:(⟨(ko n z.cps).foldl (·++·) #[]⟩)=z:=by
     rw[Nw,xc,xc]at b;rcases b with b|b
     .obtain rfl:n=1:=by lia
      simp
     .let z0:=Array.size_eq_zero_iff.mp b
      let f:∀m,(ko m (#[]:Array Nat)).foldl (·++·) #[]=#[]:=λm=>by
       induction m with
       |zero=>rfl
       |succ m i=>exact i
      rw[z0,f];exact iY Str.mk z0.symm
    rw[e]at q;exact(.str _,H,I,(_,rfl),q)
   .rw[fC b];refine(?_,.str _,H,I.tok _,(_,rfl),q)
    let sz:∀(m:Nat) (c:Array Nat),((ko m z.cps).foldl (·++·) c).size=c.size+m*z.cps.size:=λm=>by
     induction m with
     |zero=>simp
     |succ m i=>intro c;rw[IH,ale,i,Array.size_append,Nat.succ_mul];lia
    show((ko n z.cps).foldl (·++·) #[]).size<=sizeLine;rw[sz,aoD];let:z.cps.size*n<=100000:=g;simp only[js,akA]
    lia
end
def xo(K:gI)(H:Hp):Nat->V->V->Bool->Prop
 |0,x,y,b=>gH x=true/\gH y=true/\b=pf x y
 |n+1,x,y,b=>(gH x=true/\gH y=true/\b=pf x y)\/∃(a c:eF) (xs ys:List V),x=.ref a/\y=.ref c∧
   ((fT K H a xs/\fT K H c ys/\xs.length≠ys.length/\b=false)\/(((fT K H a xs/\fT K H c ys)\/(jx K H a xs/\jx K H c ys))/\xs.length=ys.length/\∃e:Nat->Bool,(∀(j:Nat) (g f:V),xs[j]? =some g->ys[j]? =some f->xo K H n g f (e j))/\b=(hD xs.length).all e))
def Px{x:V}(h:gH x=true):pf x x=true:=by
 cases x<;>first|rfl|exact al2 _|cases h
section
variable{X:Cx}{fw:List (eF×Obj)}{σ:St}{H:Hp}{s:fX}
def xo.refl(I:Inv X fw σ H s):∀{n:Nat} {x:V} {b:Bool},xo X.K H n x x b->b=true
 |0,x,b,h=>by rw[h.2.2];exact Px h.1
 |n+1,x,b,h=>by
  rcases h with h|⟨a,c,xs,ys,ex,o,h⟩
  .rw[h.2.2];exact Px h.1
  .subst ex;cases o;rcases h with⟨f,g,h,_⟩|⟨hs,_,e,p,m⟩
   .exact absurd (iY List.length (I.xY f g)) h
   .let ee:xs=ys:=by
     rcases hs with⟨f,g⟩|⟨f,g⟩
     .exact I.xY f g
     .exact I.VW f g
    subst ee;rw[m,z8];intro j i;let i:=qG.mp i;let e1:=hY i;exact xo.refl I (p j _ _ e1 e1)
def Ap{e:Nat->Bool}{n m:Nat}(h:n=m):((hD (min n m)).all e&&n==m)=(hD n).all e:=by
 subst h;rw[Nat.min_self,al2,amR]
def TZ{xs ys:List V}{is a:List fy}(c:Vals xs is)(f:Vals ys a){j:Nat}(h:j<is.length)(i:j<a.length):∃x y,xs[j]? =some x/\ys[j]? =some y/\RelV x is[j]/\RelV y a[j]:=by
 let q:=c.length;let p:=f.length;let e1:xs[j]? =some xs[j]:=hY (by omega);let e2:ys[j]? =some ys[j]:=hY (by omega);let(o,g,m):=c.get e1;let(r,e,n):=f.get e2;rw[hY h]at g;rw[hY i]at e;cases g;cases e;exact(_,_,e1,e2,m,n)
def xo.rc(I:Inv X fw σ H s):∀{n:Nat} {A:jg} {a c:eF} {b:Bool},A.units+n<cLine->xo X.K H n (.ref a) (.ref c) b->SeqAt.RcAt A s (.ref a) (.ref c) b
 |0,A,a,c,b,hu,h=>by cases h.1
 |n+1,A,a,c,b,hu,h=>by
  let q:A.units<cLine:=by lia
  rcases h with h|⟨S,R,xs,ys,ex,E,h⟩
  .cases h.1
  cases ex;cases E
  let item:∀{is o:List fy} (f:Vals xs is) (g:Vals ys o) {e:Nat->Bool},(∀(j:Nat) (J L:V),xs[j]? =some J->ys[j]? =some L->xo X.K H n J L (e j))->∀j (i:j<is.toArray.size) (m:j<o.toArray.size),akM A.in1 s is.toArray[j] o.toArray[j] (e j):=by
   intro is o f g e D j i m;let(x,y,e1,e2,w,B):=TZ f g i m;simp only[ald];let hd:=D j x y e1 e2
   let p:gH x=true/\gH y=true/\e j=pf x y->akM A.in1 s is[j] o[j] (e j):=λz=>by
    rw[z.2.2];exact MI w B z.1 z.2.1
   cases n with
   |zero=>exact p hd
   |succ n=>
    let r:=hd;rcases hd with z|⟨G,F,Q,O,ex,E,_⟩
    .exact p z
    .subst ex E;rw[w,B];by_cases u:G=F
     .subst u;rw[xo.refl I r];exact amd _
     .exact ani u (xo.rc I (by lia) r)
  rcases h with⟨i,m,P,v⟩|⟨hs,P,e,D,v⟩
  .let(is,f,p1,z1):=I.list i;let(o,g,t,N):=I.list m;let C:=f.length;let M:=g.length;rw[v];exact SeqAt.RcAt.lists_lengths p1.isList t.isList (by rw[js,js,amM];lia) q
  rcases hs with⟨i,m⟩|⟨i,m⟩
  .let(is,f,p1,z1):=I.list i;let(o,g,t,N):=I.list m;let C:=f.length;let M:=g.length;let:=SeqAt.RcAt.lists p1.isList t.isList (by rw[js,js];lia) q (item f g D);rw[js,<-C,<-v]at this;exact this
  .let(is,f,p1,z1):=I.tuple i;let(o,g,t,N):=I.tuple m;let C:=f.length;let M:=g.length;let:=SeqAt.RcAt.tuples p1 t q (item f g D);rw[js,js,Ap (),<-C,<-v]at this;exact this
def xo.ne(I:Inv X fw σ H s){n:Nat}{A:jg}{a c:eF}{b:Bool}(S:A.units+n<cLine)(h:xo X.K H n (.ref a) (.ref c) b):SeqAt.RcNeAt A s (.ref a) (.ref c) (!b):=by
 cases n with
 |zero=>cases h.1
 |succ n=>
  let q:A.units<cLine:=by lia
  rcases h with h|⟨T,R,xs,ys,ex,E,h⟩
  .cases h.1
  cases ex;cases E
  let item:∀{is o:List fy} (f:Vals xs is) (g:Vals ys o) {e:Nat->Bool},(∀(j:Nat) (J L:V),xs[j]? =some J->ys[j]? =some L->xo X.K H n J L (e j))->∀j (i:j<is.toArray.size) (m:j<o.toArray.size),akM A.in1 s is.toArray[j] o.toArray[j] (e j):=by
   intro is o f g e D j i m;let(x,y,e1,e2,w,B):=TZ f g i m;simp only[ald];let hd:=D j x y e1 e2
   let p:gH x=true/\gH y=true/\e j=pf x y->akM A.in1 s is[j] o[j] (e j):=λz=>by
    rw[z.2.2];exact MI w B z.1 z.2.1
   cases n with
   |zero=>exact p hd
   |succ n=>
    let r:=hd;rcases hd with z|⟨G,F,Q,O,ex,E,_⟩
    .exact p z
    .subst ex E;rw[w,B];by_cases u:G=F
     .subst u;rw[xo.refl I r];exact amd _
     .exact ani u (xo.rc I (by lia) r)
  rcases h with⟨i,m,P,v⟩|⟨hs,P,e,D,v⟩
  .let(is,f,p1,z1):=I.list i;let(o,g,t,N):=I.list m;let C:=f.length;let M:=g.length;rw[v];exact alJ p1.isList t.isList (by rw[js,js,amM];lia) q
  rcases hs with⟨i,m⟩|⟨i,m⟩
  .let(is,f,p1,z1):=I.list i;let(o,g,t,N):=I.list m;let C:=f.length;let M:=g.length;let:=anh p1.isList t.isList (by rw[js,js];lia) q (item f g D);rw[js,<-C,<-v]at this;exact this
  .let(is,f,p1,z1):=I.tuple i;let(o,g,t,N):=I.tuple m;let C:=f.length;let M:=g.length;let:=SeqAt.RcNeAt.tuples p1 t q (item f g D);rw[js,js,Ap (),<-C,<-v]at this;exact this
end
def ahk(K:gI)(e:Bool):R2:=λx y H Q=>∃(a c:eF) (n:Nat) (b:Bool),x=.ref a/\y=.ref c/\n<=8/\xo K H n (.ref a) (.ref c) b/\Q (.bl (if e=true then !b else b)) H
section
variable{X:Cx}
def YF(m:X.A.units+64<cLine):mn X (compareOp .NotEq) (ahk X.K true):=by
 intro e s j H x y v u Q I f g h;let(a,c,n,b,rfl,rfl,i,hd,q):=h;cases f;cases g;exact xo.ne I () hd _ _ _ _ (.bl (!b),H,I,rfl,q)
end
def Tz{A:jg}{k:Nat}{cm:Bool}(a:eT cm k A):A.units+64<cLine:=by let:=a.un;lia
theorem OC{X:Cx}{hs:List akY}:PH X hs (λ_ _ _ _ _=>False):=λ_ _ _ _ _ _ _ _ _ _ _ _ _ z=>z.elim
def Of{X:Cx}{K0:gI}(h:autoParam (X.K=K0) L2.aE._auto_1):T1 X "str.join" (λx vs H Q=>∃(a:Str) (p:eF) (ys:List Str),x=.str a/\vs=[.ref p]/\fT K0 H p (ys.map V.str)/\(ys.map (·.length)).sum+ys.length*a.length<=16777216/\Q (.str (amN a ys)) H):=by
 subst h;exact FR
section
variable{X:Cx}{K0:gI}
def ae0{T id:String}{name:Str}{r:V->List V->Hp->VK->Prop}{o e:hH}{es:List hH}{m:TE}{t:TA}{f a:Pos}(n:X.K=K0)(p:aoa T)(slot:Slot T name id)(j:typeOf (.builtin id)=pure (.type "method_descriptor"))(q:MtR X id r)(s:PE X o m)(u:PA X (e::es) t)
  (h:attributeBase o name X.env (eval o X.env)=eval o X.env:=by rfl)
  (i:((backTo a (starEach (e::es) X.env)).all (λx=> !x.1)&&(backToKw a (keywordEach [] X.env)).all (λx=>x.1.isSome)
   && decide ((e::es).length+([]:List anv).length+(if ([]:List anv).isEmpty then 0 else 1)<30))=true:=by rfl)
  (g:(f.endLine==a.line)=true:=by rfl) (hs:starEach (e::es) X.env=(false,eval e X.env)::starEach es X.env:=by rfl) (c:(backTo a (starEach es X.env)).any (·.1)=false:=by rfl):
  PE X (.Call (.Attribute o name f) (e::es) [] a) (tBM K0 T r m t):=by
 subst n;exact gg p slot j q s u h i g hs c
end
section
variable{X:Cx}{K0:gI}
def gM(h:X.K=K0):IxR X (afC K0):=by
 subst h;exact aB
def ab8(h:X.K=K0):IxR X (afD K0):=by
 subst h;exact de
end
end L2
namespace Shp
open PySem L2
structure Sh where
 kind:Nat
 keep:Str
 many:Int
 bU:Int
 cS:Int
 name:Str
structure Gk(s:Sh):Prop where
 kd:s.kind<=5
 kp:s.keep="always"\/s.keep="fallen"\/s.keep="never"
 m0:0<=s.many
 m1:s.many<=1000001
 g0:0<=s.bU
 g1:s.bU<=1000001
 s0:0<=s.cS
 s1:s.cS<=1000001
abbrev dN(i:Int):Str:=SE (toString i)
def words(s:Sh):List Str:=match s.kind with
 |0=>["leaf",s.keep,dN s.bU,dN s.cS,"idle"]
 |1=>["leaf",s.keep,dN s.bU,dN s.cS,"steady",dN s.many]
 |2=>["leaf",s.keep,dN s.bU,dN s.cS,"falls",dN s.many]
 |3=>["minder",s.keep,"one",dN s.bU,dN s.cS]
 |4=>["minder",s.keep,"all",dN s.bU,dN s.cS]
 |_=>["minder",s.keep,"rest",dN s.bU,dN s.cS]
def begun(s:Sh)(wd:Str):Bool:=decide (s.keep="always")||(decide (s.keep="fallen")&&(decide (wd="fallen")||decide (wd="gave up")))
def endAt(s:Sh)(n:Int):Str:=if s.kind=1/\n=s.many then "done" else if s.kind=2/\n=s.many then "fallen" else ""
abbrev Rep:=Hp->eF->Sh->Prop
def KQ(R:Rep)(C:eF)(mk:List V->Sh->Prop):Sp:=λvs H Q _=>∃(x c:eF) (a:Hp) (us:List V) (s:Sh),vs=.ref x::us/\mk us s/\a x=none/\a c=none/\c≠x∧
 H=upd (upd a c (.own x)) x (.ins C c [])/\∀H',aH a H'->R H' x s->Q .non H'
def YI(us:List V)(s:Sh):Prop:=∃(nm a:Str) (g l:Int),us=[.str nm,.str a,.int g,.int l]/\s=(0,a,0,g,l,nm)/\Gk s
def P1(us:List V)(s:Sh):Prop:=∃(nm a:Str) (m g l:Int),us=[.str nm,.str a,.int m,.int g,.int l]/\s=(1,a,m,g,l,nm)/\Gk s
def Q4(us:List V)(s:Sh):Prop:=∃(nm a:Str) (m g l:Int),us=[.str nm,.str a,.int m,.int g,.int l]/\s=(2,a,m,g,l,nm)/\Gk s
def CA(c:Nat)(us:List V)(s:Sh):Prop:=∃(nm a:Str) (g l:Int),us=[.str nm,.str a,.int g,.int l]/\s=(c,a,0,g,l,nm)/\Gk s
def Om(R:Rep)(C:eF):Sp:=λvs H Q _=>∃(a c:eF) (fs:List (Str×V)) (s:Sh),vs=[.ref a]/\R H a s/\H a=some (.ins C c fs)∧
 ∀(q:eF) (H':Hp),aH H H'->H q=none->H' q=some (.lst ((words s).map V.str))->Q (.ref q) H'
def xT(R:Rep)(C:eF):Sp:=λvs H Q _=>∃(a c:eF) (fs:List (Str×V)) (s:Sh),vs=[.ref a]/\R H a s/\H a=some (.ins C c fs)/\∀H',aH H H'->Q (.bl (decide (s.kind<3))) H'
def isWord(wd:Str):Prop:=wd="done"\/wd="fallen"\/wd="gave up"\/wd="ended"\/wd="cut"
def NF(R:Rep)(C:eF):Sp:=λvs H Q _=>∃(a c:eF) (fs:List (Str×V)) (s:Sh) (wd:Str),vs=[.ref a,.str wd]/\R H a s/\H a=some (.ins C c fs)/\isWord wd/\∀H',aH H H'->Q (.bl (begun s wd)) H'
def L9(R:Rep)(C:eF):Sp:=λvs H Q _=>∃(a c:eF) (fs:List (Str×V)) (s:Sh) (n:Int),vs=[.ref a,.int n]/\R H a s/\H a=some (.ins C c fs)/\s.kind<3/\0<=n/\(s.kind≠0->n<=s.many)/\∀H',aH H H'->Q (.str (endAt s n)) H'
def cV(f:Nat->Bool):Nat->Nat
 |0=>0
 |n+1=>cV f n+if f n=true then 2^n else 0
def gj(a pl ct:Nat)(f:Nat->Bool):Nat:=match a with
 |3=>0
 |4=>cV f ct
 |_=>cV (λk=>f k&&decide (pl<k)) ct
def anew(a pl ct:Nat)(g:Nat->Bool):Nat:=match a with
 |3=>cV (λk=>decide (k=pl)) ct
 |4=>cV (λk=> !g k) ct
 |_=>cV (λk=>decide (pl<=k)&& !g k) ct
def yy(R:Rep)(C:eF):Sp:=λvs H Q _=>∃(a c:eF) (fs:List (Str×V)) (s:Sh) (pl ct:Nat) (f g:Nat->Bool),vs=[.ref a,.int pl,.int ct,.int (cV f ct:Nat),.int (cV g ct:Nat)]/\R H a s/\H a=some (.ins C c fs)∧
 3<=s.kind/\pl<ct/\ct<=64/\f pl=false/\g pl=false∧
 ∀(q:eF) (H':Hp),aH H H'->H q=none->H' q=some (.tup [.int (gj s.kind pl ct f:Nat),.int (anew s.kind pl ct g:Nat)])->Q (.ref q) H'
structure If(P:iU)(w:iP)(K:gI)(mg:Str->Option fy)(eC:h7)(k:Nat)(R:Rep)(Cl:Nat->eF->Prop):Prop where
 mono:∀{H H':Hp} {a:eF} {s:Sh},aH H H'->R H a s->R H' a s
 ok:∀{H:Hp} {a:eF} {s:Sh},R H a s->Gk s
 inst:∀{H:Hp} {a:eF} {s:Sh},R H a s->∃C dx fs,H a=some (.ins C dx fs)/\Cl s.kind C/\fs.lookup ("words":Str)=none/\fs.lookup ("leaf":Str)=none/\fs.lookup ("begun_again":Str)=none/\fs.lookup ("end_at":Str)=none/\fs.lookup ("chosen":Str)=none
 words:∀{C j},Cl j C->wT (gf P w) true k "words" C (Om R C) []
 leaf:∀{C j},Cl j C->wT (gf P w) true k "leaf" C (xT R C) []
def bh(P:iU)(w:iP)(K:gI)(mg:Str->Option fy)(eC:h7)(k:Nat)(m:Str)(sp:eF->Sp)(a:eF->Prop):Prop:=∀C,a C->wT (gf P w) true k m C (sp C) []
def Dt(sp:eF->Sp)(c:eF->Prop)(C:eF)(s:Sp)(a:List V):Prop:=c C/\s=sp C/\a=[]
def bh.d{P:iU}{w:iP}{K:gI}{mg:Str->Option fy}{eC:h7}{k:Nat}{m:Str}{sp:eF->Sp}{e:eF->Prop}(h:xz k m sp e):
  ∀C s a,Dt sp e C s a->wT (gf P w) true k m C s a:=by
 rintro C s a ⟨c,rfl,rfl⟩;exact h C c
theorem pB(f:Nat->Bool):∀n,cV f n<2^n
 |0=>aoe
 |n+1=>by
  let:=pB f n;unfold cV;split<;>lia
theorem aT(f:Nat->Bool):∀(n k:Nat),(cV f n).testBit k=(decide (k<n)&&f k)
 |0,k=>by
  show hI 0 k=_;simp
 |n+1,k=>by
  let c:=pB f n;let a:=aT f n k;unfold cV;by_cases h:f n=true
  .let e0:=by
    let:=Nat.two_pow_add_eq_or_of_lt c 1;rwa [anM]at this
   rw[fR h,Nat.add_comm,e0,alv,a,akw];by_cases e:n=k
   .subst e;simp[h]
   .let:decide (k<n+1)=decide (k<n):=by lia
    rw[this,iR e,ajT]
  .rw[fC h,aoF,a];by_cases e:n=k
   .subst e;simp[h]
   .let:decide (k<n+1)=decide (k<n):=by lia
    rw[this]
theorem Dq{m:Nat}{f:Nat->Bool}{n:Nat}(h:∀k,m.testBit k=(decide (k<n)&&f k)):m=cV f n:=
 ajF λk=>by rw[h,aT]
def US(a b:Nat):(a ^^^ b)+2*(a &&& b)=a+b:=by
 induction a using alf generalizing b with
 |ind a j=>
  by_cases h:a=0
  .simp_all
  .let:=j (a/2) () (b/2);rw[<- Nat.xor_div_two,<-Nat.and_div_two]at this
   let g:(a ^^^ b)%2=(a%2+b%2)%2:=by
    rcases YD a with c|c<;>rcases YD b with e|e <;>
     .let t:=ajG a b 0;simp only[anU,c,e]at t;rcases YD (a ^^^ b) with f|f<;>simp_all
   let i:(a &&& b)%2=(a%2)*(b%2):=by
    rcases YD a with c|c<;>rcases YD b with e|e <;>
     .let t:=Cf a b 0;simp only[anU,c,e]at t;rcases YD (a &&& b) with f|f<;>simp_all
   rcases YD a with c|c<;>rcases YD b with e|e<;>rw[e]at g i<;>lia
def HM(a b:Nat):yU (a:Int) (b:Int)=((a &&& b:Nat):Int):=by
 rfl
def aex(a b:Nat):(a ||| b)+(a &&& b)=a+b:=by
 let h:(a ||| b)=(a ^^^ b)+(a &&& b):=by
  let e1:=US (a ^^^ b) (a &&& b)
  let z:(a ^^^ b) &&& (a &&& b)=0:=ajF λk=>by
   rw[Cf,ajG,Cf,Tf];cases a.testBit k<;>cases b.testBit k<;>rfl
  let y:(a ^^^ b) ^^^ (a &&& b)=a ||| b:=ajF λk=>by
   rw[ajG,ajG,Cf,alv];cases a.testBit k<;>cases b.testBit k<;>rfl
  lia
 let:=US a b
 lia
def Wq(a b:Nat):akX (a:Int) (b:Int)=((a ||| b:Nat):Int):=by
 unfold akX yU ajZ;rw[iR (),iR ()];let e1:(-(-(a:Int)-1)-1).toNat=a:=by lia
 let e2:(-(-(b:Int)-1)-1).toNat=b:=by lia
 lia
def Le(a b:Nat):yU (a:Int) (ajZ (b:Int))=((a &&& (a ^^^ b):Nat):Int):=by
 unfold yU;rw[gy (akG a),iR (by unfold ajZ;lia)];dsimp only;let e:(ajZ (ajZ b)).toNat=b:=by unfold ajZ;lia
 rw[e];let e3:(anj a)=a:=by lia
 rw[e3];let h:=aex (a &&& b) (a &&& (a ^^^ b))
 let z:(a &&& b) &&& (a &&& (a ^^^ b))=0:=ajF λk=>by
  simp_all
 let y:(a &&& b) ||| (a &&& (a ^^^ b))=a:=ajF λk=>by
  simp only[Cf,alv,ajG];cases a.testBit k<;>cases b.testBit k<;>rfl
 lia
def Uk(k:Nat):(1:Int)*2^((k:Int)).toNat=((2^k:Nat):Int):=by
 simp
def VF(n:Nat):(1:Int)*2^((n:Int)).toNat-1=((2^n-1:Nat):Int):=by
 rw[Uk];let:=amf n;omega
end Shp
namespace Nm
open PySem PySem.NumText PySem.StrLaws
abbrev gu(x:Str):List Nat:=x.cps.toList
def Au(l:List Nat):Str:=⟨l.toArray⟩
theorem CM(l:List Nat):gu (Au l)=l:=rfl
theorem vh{x y:Str}(h:gu x=gu y):x=y:=PyProof.Rows.ext_toList h
theorem Uj(x:Str):Au (gu x)=x:=vh rfl
theorem bT(x:Str):(gu x).length=x.length:=alp
theorem lK(x y:Str):gu (x++y)=gu x++gu y:=PySem.W.KT.app_list x y
def UB(x y:Str):(x++y).length=x.length+y.length:=by rw[<- bT,lK,jm,bT,bT]
def afv(x:Str)(c:Nat):(!(aj5 x ⟨#[c]⟩ 0 x.length 1).isEmpty)=(gu x).contains c:=by
 rw[tL,found_iff]
 constructor
 .rintro ⟨i,h⟩;exact akk.mpr (JO ((subAt_one x c i).mp h))
 .intro h;let(i,a):=List.mem_iff_getElem?.mp (akk.mp h);exact(i,(subAt_one x c i).mpr a)
def dg(m:Nat):List Nat:=(Nat.toDigits 10 m).map Char.toNat
def U2(m:Nat):dg m≠[]:=by
 unfold dg;simp
def aeo(m:Nat):(dg m).length<=7↔m<10^7:=by
 unfold dg;rw[gQ];exact Nat.length_toDigits_le_iff ∅ ∅
def WT{c:Char}(h:c.isDigit=true):48<=c.toNat/\c.toNat<=57:=by
 unfold Char.isDigit at h;simp only[mu,decide_eq_true_eq]at h;exact(h.1,h.2)
def ZQ{m c:Nat}(h:c∈dg m):48<=c/\c<=57:=by
 let(ch,a,e):=tU.mp h;rw[<- e];exact WT (Nat.isDigit_of_mem_toDigits ∅ ∅ a)
def QE{d:Nat}(h:d<10):(Nat.digitChar d).toNat=d+48:=by
 revert d;decide
def PR{m:Nat}(h:m<10):dg m=[m+48]:=by
 unfold dg;rw[Nat.toDigits_of_lt_base h,xl,aki,QE h]
def Xo{m:Nat}(h:10<=m):dg m=dg (m/10)++[m%10+48]:=by
 unfold dg;rw[Nat.toDigits_eq_if ∅,fC (),kr,xl,aki,QE ()]
def Iu(a:List Nat)(c:Nat):digitsVal (a++[c])=digitsVal a*10+(c-48):=by
 unfold digitsVal;rw[akf];rfl
def ad9(m:Nat):digitsVal (dg m)=m:=by
 induction m using alf with
 |_ m a=>
  by_cases h:m<10
  .rw[PR h];show 0*10+(m+48-48)=m
   lia
  .rw[Xo (),Iu,a (m/10) ()]
   lia
def aby(m:Nat):∀t,dg m=48::t->m=0/\t=[]:=by
 induction m using alf with
 |_ m c=>
  intro t e;by_cases h:m<10
  .rw[PR h]at e;injection e with e1 e2;exact((),e2.symm)
  .rw[Xo ()]at e;cases q:dg (m/10) with
   |nil=>exact absurd q (U2 _)
   |cons a r=>
    rw[q]at e;injection e with e1 e2;subst e1;let:=(c (m/10) () r q).1
    lia
def D0{v:Int}(a:0<=v):gu (PySem.Str.ofString (toString v))=dg v.toNat:=by
 let(m,rfl):=ajm a;exact PySem.W.KIN.signs_num m
def yV(c:Nat):Bool:=decide (48<=c/\c<=57)
def NZ(c:Nat):Bool:=decide (97<=c/\c<=122)||decide (48<=c/\c<=57)
def Wn:gu "0123456789"=[48,49,50,51,52,53,54,55,56,57]:=by decide +kernel
def abV(c:Nat):(gu "0123456789").contains c=yV c:=by
 rw[Wn,tL,akk];unfold yV;rw[pD];simp only[oT,al4,or_false];omega
def Xi:gu "abcdefghijklmnopqrstuvwxyz0123456789"=[97,98,99,100,101,102,103,104,105,106,107,108,109,110,111,112,113,114,115,116,117,118,119,120,121,122,48,49,50,51,52,53,54,55,56,57]:=by decide +kernel
def adU(c:Nat):(gu "abcdefghijklmnopqrstuvwxyz0123456789").contains c=NZ c:=by
 by_cases h:c<128
 .let q:∀c,c<128->[97,98,99,100,101,102,103,104,105,106,107,108,109,110,111,112,113,114,115,116,117,118,119,120,121,122,48,49,50,51,52,53,54,55,56,57].contains c=NZ c:=by decide +kernel
  exact q c h
 .let e:NZ c=false:=by
   unfold NZ;rw[iR (),iR ()]
   rfl
  rw[e,<-Bool.not_eq_true,akk];intro m;let q:∀x∈[97,98,99,100,101,102,103,104,105,106,107,108,109,110,111,112,113,114,115,116,117,118,119,120,121,122,48,49,50,51,52,53,54,55,56,57],x<128:=by decide +kernel
  exact h (q c m)
def ace(m k:Nat):(ko k 48++dg m).all yV=true:=by
 rw[z8];intro c a;unfold yV;rw[pD];rcases ro.mp a with h|h
 .rw[(ajA.mp h).2]
  lia
 .exact ZQ h
def lh(c:List Nat):List (List Nat)->List Nat
 |[]=>[]
 |[a]=>a
 |a::b::r=>a++c++lh c (b::r)
theorem AJ(c:Str):∀ys:List Str,gu (Str.join c ys)=lh (gu c) (ys.map gu)
 |[]=>rfl
 |[_]=>rfl
 |a::b::r=>by
  show gu (a++c++Str.join c (b::r))=gu a++gu c++lh (gu c) ((b::r).map gu);rw[lK,lK,AJ c (b::r)]
def I0(a:Str)(ys:List Str):gu (amN a ys)=lh (gu a) (ys.map gu):=by
 show gu (Builtin.Str.glued a ys)=_;rw[StrLaws.glued_eq_join,AJ]
theorem aa6{x:Str}(a:gu x≠[])(hd:(gu x).all yV=true)(f:x.length<=60):amx x=some ((digitsVal (gu x):Nat):Int):=
 intText_digits (λc e=>by let:=z8.mp hd c e;exact iB this) a ()
end Nm
namespace Tr
open PySem Shp Nm PySem.NumText
def mZ(x:Str):Prop:=1<=x.length/\x.length<=12/\(gu x).all NZ=true
structure Row where
 dep:Nat
 sh:Sh
abbrev Re:=List Row
def Row.DM(r:Row):Bool:=decide (3<=r.sh.kind)
instance:Inhabited Row:=⟨(0,(0,"",0,0,0,""))⟩
abbrev Path:=List (Nat×Bool)
def JC(p:Path)(k:Nat)(r:Row):Path:=p.take r.dep++[(k,r.DM)]
def cB(a:Re):Nat->Path
 |0=>[]
 |k+1=>JC (cB a k) k (a.getD k default)
def fits(p:Path)(k:Nat)(r:Row):Prop:=if k=0 then r.dep=0/\r.DM=true else 1<=r.dep/\r.dep<=8/\∃j,p[r.dep-1]? =some (j,true)
instance(p:Path)(k:Nat)(r:Row):Decidable (fits p k r):=by
 unfold fits;refine @instDecidableIte _ _ _ _ inferInstance ?_;refine @instDecidableAnd _ _ inferInstance (@instDecidableAnd _ _ inferInstance ?_);cases h:p[r.dep-1]? with
 |none=>exact isFalse λa=>by lia
 |some x=>
  let(j,b):=x;cases b with
  |true=>exact isTrue (j,rfl)
  |false=>exact isFalse λa=>by lia
def bP(a:Re)(k:Nat):Int:=match (cB a k)[(a.getD k default).dep-1]? with
 |some x=>if k=0 then -1 else (x.1:Int)
 |none=> -1
def pM{a:Type}(xs ys:List a)(d:a){k:Nat}(h:k<xs.length):(xs++ys).getD k d=xs.getD k d:=by
 rw[ot,ot,zW h]
theorem dH(a more:Re):∀k,k<=a.length->cB (a++more) k=cB a k
 |0,_=>rfl
 |k+1,h=>by
  unfold cB;rw[dH a more k (),pM _ _ _ ()]
def Ms(a more:Re){k:Nat}(h:k<a.length):bP (a++more) k=bP a k:=by
 unfold bP;rw[dH a more k (by omega),pM _ _ _ (by omega)]
structure ue(s:Sh):Prop where
 kd:s.kind<=5
 kp:s.keep="always"\/s.keep="fallen"\/s.keep="never"
 m0:0<=s.many
 m1:s.many<=1000000
 m2:¬(s.kind=1\/s.kind=2)->s.many=0
 g0:0<=s.bU
 g1:s.bU<=1000000
 s0:0<=s.cS
 s1:s.cS<=1000000
 s2:3<=s.kind->1<=s.cS
 nm:mZ s.name
theorem ue.okS{s:Sh}(h:ue s):Gk s:=(h.kd,h.kp,h.m0,by let:=h.m1;lia,h.g0,by let:=h.g1;lia,h.s0,by let:=h.s1;lia)
structure gD(rows:Re):Prop where
 ne:rows≠[]
 len:rows.length<=64
 fit:∀k,k<rows.length->fits (cB rows k) k (rows.getD k default)
 sh:∀r∈rows,ue r.sh
 nd:(rows.map (·.sh.name)).Nodup
def mE(c:Nat):List Nat->List (List Nat)
 |[]=>[[]]
 |a::r=>if a=c then []::mE c r else match mE c r with
  |[]=>[[a]]
  |w::ws=>(a::w)::ws
theorem yW(c a:Nat)(r:List Nat):mE c (a::r)=if a=c then []::mE c r else match mE c r with
  |[]=>[[a]]
  |w::ws=>(a::w)::ws:=rfl
theorem Rn(c:Nat):∀l,mE c l≠[]
 |[]=>WB _ _
 |a::r=>by
  unfold mE
  split
  .exact WB _ _
  .cases mE c r<;>exact WB _ _
theorem OR(c:Nat)(y:List Nat):∀x,mE c (x++c::y)=mE c x++mE c y
 |[]=>by
  show(if c=c then []::mE c y else _)=_;rw[fR rfl]
  rfl
 |a::r=>by
  let e:=OR c y r;rw[ajw,yW,yW];by_cases h:a=c
  .rw[fR h,fR h,e]
   rfl
  .rw[fC h,fC h,e];cases z:mE c r with
   |nil=>exact absurd z (Rn c r)
   |cons w f=>rfl
theorem Hb(c:Nat):∀x,c∉x->mE c x=[x]
 |[],_=>rfl
 |a::r,h=>by
  let f:a≠c:=λe=>h (by rw[e];exact lq);unfold mE;rw[fC f,Hb c r (λz=>h (mf _ z))]
theorem O9(c:Nat):∀ls:List (List Nat),ls≠[]->(∀l∈ls,c∉l)->mE c (lh [c] ls)=ls
 |[],h,_=>absurd rfl h
 |[a],_,h=>Hb c a (h a lq)
 |a::b::r,_,h=>by
  let f:=O9 c (b::r) (WB _ _) λl e=>h l (mf _ e);show mE c (a++[c]++lh [c] (b::r))=_;rw[zL,ak5,OR,f,Hb c a (h a lq)]
  rfl
def df(l:List Nat):List (List Nat):=(mE 32 l).filter λw=> !w.isEmpty
def Bd(x y:List Nat):df (x++32::y)=df x++df y:=by
 unfold df;rw[OR,su]
theorem SU:df []=[]:=rfl
def Wz(y:List Nat):df (32::y)=df y:=by
 rfl
def vW(n:Nat)(y:List Nat):df (ko n 32++y)=df y:=by
 induction n with
 |zero=>rfl
 |succ n a=>rw[IH,ajw,Wz,a]
def BI{w:List Nat}(h:w≠[])(c:32∉w):df w=[w]:=by
 unfold df;rw[Hb 32 w c];simp_all
theorem Fw(n m:Nat):∀f:List (List Nat),(∀w∈f,w≠[]/\32∉w)->df (lh (ko (n+1) 32) f++ko m 32)=f
 |[],_=>by
  let:=vW m [];rwa [ov]at this
 |[a],h=>by
  show df (a++_)=[a];let(c,e):=h a lq;cases m with
  |zero=>rw[akx,ov];exact BI c e
  |succ m=>
   rw[IH,Bd,BI c e];let:=vW m [];rw[ov]at this;rw[this]
   rfl
 |a::b::r,h=>by
  let(c,e):=h a lq;let g:=Fw n m (b::r) λw i=>h w (mf _ i);show df (a++ko (n+1) 32++lh _ (b::r)++_)=_;rw[IH]at g ⊢;rw[zL,zL,ajw,Bd,vW,BI c e];rw[g]
  rfl
def numOf(x:Str):Option Int:=if gu x≠[]/\(gu x).all yV=true/\((gu x).head? =some 48->gu x=[48])/\digitsVal (gu x)<=1000000 then some ((digitsVal (gu x):Nat):Int) else none
def eN(x:Str):Prop:=x="always"\/x="fallen"\/x="never"
instance(x:Str):Decidable (eN x):=inferInstanceAs (Decidable (_\/_))
instance(x:Str):Decidable (mZ x):=inferInstanceAs (Decidable (_/\_))
def RI(x:Str):Option Nat:=if x="one" then some 3 else if x="all" then some 4 else if x="rest" then some 5 else none
def rowOf:List Str->Option Sh
 |[a,kp,g,s,wk,nm]=>if a="leaf"/\eN kp/\wk="idle"/\mZ nm then (numOf g).bind λg=>(numOf s).bind λs=>some (0,kp,0,g,s,nm)
   else if a="minder"/\eN kp/\mZ nm then (RI g).bind λk=>(numOf s).bind λm=>(numOf wk).bind λp=>if p=0 then none else some (k,kp,0,m,p,nm) else none
 |[a,kp,g,s,wk,m,nm]=>if a="leaf"/\eN kp/\mZ nm then (if wk="steady" then some 1 else if wk="falls" then some 2 else none).bind λk=>(numOf g).bind λg=>(numOf s).bind λs=>(numOf m).bind λm=>some (k,kp,m,g,s,nm) else none
 |_=>none
def lead(l:List Nat):Nat:=(l.takeWhile (·==32)).length
def mH(l:List Nat):Bool:=match l.dropWhile (·==32) with
 |[]=>true
 |c::_=>c==35
def sI(l:List Nat):Option Row:=if lead l%2=0 then (rowOf ((df l).map Au)).map λs=>(lead l/2,s) else none
inductive Res
 |ok (rows:Re)
 |bad (n:Nat)
 |many
 |acZ
def scan(a:Re)(n:Nat):List (List Nat)->Res
 |[]=>if a=[] then .acZ else .ok a
 |l::ls=>if mH l=true then scan a (n+1) ls else match sI l with
  |none=>.bad (n+1)
  |some r=>if fits (cB a a.length) a.length r/\r.sh.name∉a.map (·.sh.name) then (if a.length=64 then .many else scan (a++[r]) (n+1) ls) else .bad (n+1)
theorem E3(a:Re)(n:Nat)(l:List Nat)(ls:List (List Nat)):scan a n (l::ls)=if mH l=true then scan a (n+1) ls else match sI l with
  |none=>.bad (n+1)
  |some r=>if fits (cB a a.length) a.length r/\r.sh.name∉a.map (·.sh.name) then (if a.length=64 then .many else scan (a++[r]) (n+1) ls) else .bad (n+1):=rfl
def parse(x:List Nat):Res:=scan [] 0 (mE 10 x)
def Sx{i:Int}(c:0<=i)(g:i<=1000000):numOf (dN i)=some i:=by
 let f:=D0 c;unfold numOf;rw[f,ad9,fR]
 .rw[Int.toNat_of_nonneg c]
 .refine (U2 _,?_,?_,())
  .let:=ace i.toNat 0;rwa [akx]at this
  .intro e;cases z:dg i.toNat with
   |nil=>exact absurd z (U2 _)
   |cons a r=>
    rw[z]at e;obtain rfl:a=48:=by simpa using e
    rw[(aby _ _ z).2]
def Sz(a w m p nm:Str)(c:eN a)(e:mZ nm):rowOf ["minder",a,w,m,p,nm]=(RI w).bind λk=>(numOf m).bind λm=>(numOf p).bind λp=>if p=0 then none else some (k,a,0,m,p,nm):=by
 unfold rowOf;dsimp only;rw[fC (λz=>absurd z.1 ∅),fR (rfl,c,e)]
def VJ{s:Sh}(h:ue s):rowOf (words s++[s.name])=some s:=by
 let(i,j,m,g,l,nm):=s;let r:i=0\/i=1\/i=2\/i=3\/i=4\/i=5:=by let:=h.kd;lia
 let f:=Sx h.g0 h.g1;let hs:=Sx h.s0 h.s1;let o:=Sx h.m0 h.m1;let a:eN j:=h.kp;let c:mZ nm:=h.nm;let p:=h.m2;let q:=h.s2;dsimp only at f hs o p q;rcases r with rfl|rfl|rfl|rfl|rfl|rfl
 .let e:=p ∅;subst e;show(if ("leaf":Str)="leaf"/\eN j/\("idle":Str)="idle"/\mZ nm then _ else _)=_;rw[fR (rfl,a,rfl,c),f,tW,hs,tW]
 .show (if ("leaf":Str)="leaf"/\eN j/\mZ nm then _ else _)=_;simp_all
 .show (if ("leaf":Str)="leaf"/\eN j/\mZ nm then _ else _)=_;rw[fR (rfl,a,c),fC ∅,fR rfl,tW,f,tW,hs,tW,o,tW]
 all_goals
  let e:m=0:=p ∅;subst e;let n:l≠0:=by let:=q ∅;lia
  show rowOf ["minder",j,_,dN g,dN l,nm]=_;rw[Sz _ _ _ _ _ a c];dsimp only[RI]
 .simp_all
 .rw[fC ∅,fR rfl,tW,f,tW,hs,tW,fC n]
 .rw[fC ∅,fC ∅,fR rfl,tW,f,tW,hs,tW,fC n]
def okW(w:List Nat):Prop:=w≠[]/\∀c∈w,33<=c/\c<=126
def OU{i:Int}(h:0<=i):okW (gu (dN i)):=by
 rw[show gu (dN i)=dg i.toNat from D0 h];exact(U2 _,λc a=>by let:=ZQ a;lia)
def ad4{x:Str}(h:mZ x):okW (gu x):=by
 refine(λe=>?_,λc a=>?_)
 .let:=bT x;rw[e]at this;let:=h.1;simp at *
  lia
 .let:=z8.mp h.2.2 c a;unfold NZ at this;lia
def UI(l:List Nat)(h:(!l.isEmpty&&l.all λc=>decide (33<=c/\c<=126))=true):okW l:=by
 rw[mu]at h;refine(λe=>?_,λc a=>iB (z8.mp h.2 c a));rw[e]at h;exact absurd h.1 ∅
def YC{x:Str}(h:eN x):okW (gu x):=by
 rcases h with rfl|rfl|rfl<;>exact UI _ (by decide +kernel)
def LI{s:Sh}(h:ue s):∀w∈(words s++[s.name]).map gu,okW w:=by
 intro w g;let(x,a,rfl):=tU.mp g;rcases ro.mp a with a|a
 .let hl:∀x:Str,x="leaf"\/x="minder"\/x="idle"\/x="steady"\/x="falls"\/x="one"\/x="all"\/x="rest"->okW (gu x):=by
   rintro x (rfl|rfl|rfl|rfl|rfl|rfl|rfl|rfl)<;>exact UI _ (by decide +kernel)
  let e:=OU h.g0;let hs:=OU h.s0;let f:=OU h.m0;let c:=YC h.kp;unfold words at a
  split at a<;>simp only[oT,al4,or_false]at a
  .rcases a with rfl|rfl|rfl|rfl|rfl
   .exact hl _ (by simp)
   .exact c
   .exact e
   .exact hs
   .exact hl _ (by simp)
  .rcases a with rfl|rfl|rfl|rfl|rfl|rfl
   .exact hl _ (by simp)
   .exact c
   .exact e
   .exact hs
   .exact hl _ (by simp)
   .exact f
  .rcases a with rfl|rfl|rfl|rfl|rfl|rfl
   .exact hl _ (by simp)
   .exact c
   .exact e
   .exact hs
   .exact hl _ (by simp)
   .exact f
  all_goals
   rcases a with rfl|rfl|rfl|rfl|rfl
   .exact hl _ (by simp)
   .exact c
   .exact hl _ (by simp)
   .exact e
   .exact hs
 .obtain rfl:x=s.name:=by simpa using a
  exact ad4 h.nm
def Yp(s:Sh):∃a r,words s++[s.name]=a::r/\(a="leaf"\/a="minder"):=by
 unfold words
 split
 .exact (_,_,rfl,.inl rfl)
 .exact (_,_,rfl,.inl rfl)
 .exact (_,_,rfl,.inl rfl)
 .exact (_,_,rfl,.inr rfl)
 .exact (_,_,rfl,.inr rfl)
 .exact (_,_,rfl,.inr rfl)
def Kj(e:List Nat){a:List Nat}{c:Nat}{t:List Nat}(r:List (List Nat))(h:a=c::t):∃u,lh e (a::r)=c::u:=by
 subst h;cases r with
 |nil=>exact(t,rfl)
 |cons b r=>exact(t++e++lh e (b::r),rfl)
def Bw(d n m:Nat)(s:Sh):List Nat:=ko (2*d) 32++(lh (ko (n+1) 32) ((words s++[s.name]).map gu)++ko m 32)
def Qe(d n m:Nat)(s:Sh):∃c u,(c=108\/c=109)/\Bw d n m s=ko (2*d) 32++c::u:=by
 let(a,r,e,f):=Yp s;unfold Bw;rw[e,xl];rcases f with rfl|rfl
 .let(u,hu):=Kj (ko (n+1) 32) (r.map gu) (show gu "leaf"=108::[101,97,102] by decide +kernel);exact(108,_,.inl rfl,by rw[hu,ajw])
 .let(u,hu):=Kj (ko (n+1) 32) (r.map gu) (show gu "minder"=109::[105,110,100,101,114] by decide +kernel);exact(109,_,.inr rfl,by rw[hu,ajw])
def adW(k:Nat){c:Nat}(u:List Nat)(h:c≠32):(ko k 32++c::u).takeWhile (·==32)=ko k 32:=by
 rw[List.takeWhile_append_of_pos (λa e=>by rw[(ajA.mp e).2];rfl),alK (by simpa using h),ov]
def aeN(k:Nat){c:Nat}(u:List Nat)(h:c≠32):(ko k 32++c::u).dropWhile (·==32)=c::u:=by
 rw[List.dropWhile_append_of_pos (λa e=>by rw[(ajA.mp e).2];rfl),alL (by simpa using h)]
def SJ(d n m:Nat)(s:Sh):mH (Bw d n m s)=false:=by
 let(c,u,a,e):=Qe d n m s;unfold mH;rw[e,aeN _ _ ()];lia
def Xh(d n m:Nat){s:Sh}(h:ue s):sI (Bw d n m s)=some (d,s):=by
 let(c,u,j,e):=Qe d n m s
 let f:lead (Bw d n m s)=2*d:=by
  unfold lead;rw[e,adW _ _ (),NC]
 let a:df (Bw d n m s)=(words s++[s.name]).map gu:=by
  unfold Bw;rw[vW,Fw];intro w a;let(g,i):=LI h w a;exact(g,λz=>by let:=i 32 z;lia)
 unfold sI;rw[f,a,fR (),akl,show Au∘gu=id from funext Uj,aoS,VJ h];show some ((2*d/2,s):Row)=_;rw[show 2*d/2=d by lia]
def aeI(d n m:Nat){s:Sh}(h:ue s):10∉Bw d n m s:=by
 intro z;rcases ro.mp z with z|z
 .let:=(ajA.mp z).2;lia
 rcases ro.mp z with z|z
 .let hj:∀c,(∀w∈c,okW w)->10∉lh (ko (n+1) 32) c:=by
   intro c
   induction c with
   |nil=>intro _ z;cases z
   |cons a r i=>
    intro e z;let f:=(e a lq).2;cases r with
    |nil=>let:=f 10 z;lia
    |cons b r=>
     rcases ro.mp z with z|z
     .rcases ro.mp z with z|z
      .let:=f 10 z;lia
      .let:=(ajA.mp z).2;lia
     .exact i (λw g=>e w (mf _ g)) z
  exact hj _ (LI h) z
 .let:=(ajA.mp z).2;lia
inductive F0:List (List Nat)->Re->Prop
 |nil:F0 [] []
 |skip {l:List Nat} {ls:List (List Nat)} {rows:Re}:mH l=true->F0 ls rows->F0 (l::ls) rows
 |row {l:List Nat} {ls:List (List Nat)} {r:Row} {rows:Re}:mH l=false->sI l=some r->F0 ls rows->F0 (l::ls) (r::rows)
def i9{e:Type}(a:List e)(r:e)(c:List e)(d:e):(a++r::c).getD a.length d=r:=by
 rw[ot,FZ (gx _),Bn]
 rfl
def gD.next{a:Re}{r:Row}{c:Re}(h:gD (a++r::c)):fits (cB a a.length) a.length r/\r.sh.name∉a.map (·.sh.name)/\a.length<64:=by
 refine(?_,?_,?_)
 .let:=h.fit a.length (by simp);rwa [dH a _ _ (gx _),i9]at this
 .let:=h.nd;rw[kr,List.nodup_append]at this;exact λz=>this.2.2 _ z _ lq rfl
 .let:=h.len;rw[jm,rN]at this
  lia
def R9{ls:List (List Nat)}{c:Re}(L:F0 ls c):∀(a:Re) (n:Nat) (more:List (List Nat)),(∀(q:Re) (r:Row) (t:Re),a++c=q++r::t->a.length<=q.length->fits (cB q q.length) q.length r/\r.sh.name∉q.map (·.sh.name)/\q.length<64)→
  scan a n (ls++more)=scan (a++c) (n+ls.length) more:=by
 induction L with
 |nil=>intro a n more _;rw[ov];rfl
 |skip p _ f=>
  intro a n more h;rw[ajw,E3];rw[fR p,f a (n+1) more h,ank]
  rfl
 |row p q _ f=>
  rename_i l ls r c _
  intro a n more h;let(g,i,j):=h a r c rfl (gx _);rw[ajw,E3];rw[fC (by simp_all),q];dsimp only;rw[fR (g,i),fC (),f (a++[r]) (n+1) more ?_,zL,ank]
  .rfl
  .intro q' r' t e hl;rw[zL]at e;exact h q' r' t e (by rw[jm]at hl;lia)
def gD.all{a:Re}(h:gD a):∀(q:Re) (r:Row) (t:Re),[]++a=q++r::t->([]:Re).length<=q.length->fits (cB q q.length) q.length r/\r.sh.name∉q.map (·.sh.name)/\q.length<64:=by
 intro q r t e _;subst e;exact h.next
def acu{ls:List (List Nat)}{a:Re}(L:F0 ls a)(h:gD a):scan [] 0 ls=.ok a:=by
 let:=R9 L [] 0 [] h.all;rw[ov,zI]at this;rw[this];unfold scan;rw[fC h.ne]
open L2
def vD(H:Hp)(p:eF)(a:List (List Str)):Prop:=∃as:List eF,H p=some (.lst (as.map V.ref))/\as.length=a.length/\∀(i:Nat) (x:eF) (c:List Str),as[i]? =some x->a[i]? =some c->H x=some (.lst (c.map V.str))
def vD.mono{H H':Hp}{p:eF}{a:List (List Str)}(e:aH H H')(h:vD H p a):vD H' p a:=by
 let(as,g,m,f):=h;exact(as,e _ _ g,m,λi x c n j=>e _ _ (f i x c n j))
structure Mr(H:Hp)(dp ep wp np:eF)(rows:Re):Prop where
 d:H dp=some (.lst (rows.map λr=>V.int (r.dep:Int)))
 e:H ep=some (.lst ((hD rows.length).map λk=>V.int (bP rows k)))
 w:vD H wp (rows.map λr=>words r.sh)
 n:H np=some (.lst (rows.map λr=>V.str r.sh.name))
theorem Mr.mono{H H':Hp}{dp g c f:eF}{a:Re}(e:aH H H')(h:Mr H dp g c f a):Mr H' dp g c f a:=(e _ _ h.d,e _ _ h.e,h.w.mono e,e _ _ h.n)
def qo(i:Int):Str:=if i=0 then "always" else if i=1 then "fallen" else if i=2 then "always" else "never"
def YA(i:Int):Str:=if i=0 then "one" else if i=1 then "all" else "rest"
def C1(i:Int):Int:=if i=0 then 9 else if i=1 then 2 else if i=2 then 30 else if i=3 then 1 else if i=4 then 3 else if i=5 then 0 else if i=6 then 9 else 2
def L6(i:Int):Str:=if i=0 then "falls" else if i=1 then "idle" else if i=2 then "steady" else "falls"
def bN(cell other:Int)(nm:Str):Sh:=(3+(cell/20%3).toNat,qo (cell/5%4),0,if other%29=7 then other%1000001 else C1 (other%8),if other%29=7 then 1+other/3%1000000 else 1+other/8%5,nm)
def FF(i:Int):Nat:=if i=1 then 0 else if i=2 then 1 else 2
def leafOf(cell other:Int)(nm:Str):Sh:=(FF (cell/20%4),qo (cell/5%4),if cell/20%4=1 then 0 else if other%29=7 then other/7%1000001 else other/16%5,if other%29=7 then other%1000001 else other%4,if other%29=7 then other/3%1000001 else other/4%4,nm)
theorem dq(x:Int){n:Int}(h:0<n):0<=x%n/\x%n<n:=(aof _ (),alC _ h)
def PU(i:Int):qo i="always"\/qo i="fallen"\/qo i="never":=by
 unfold qo
 repeat' split
 all_goals simp
def EO{cell other:Int}{nm:Str}(h:mZ nm):ue (bN cell other nm):=by
 let c:=dq (cell/20) (n:=3) ∅;let a:0<=C1 (other%8)/\C1 (other%8)<=1000000:=by unfold C1;(repeat' split)<;>decide
 let e:=dq other (n:=1000001) ∅;let g:=dq (other/3) (n:=1000000) ∅;let f:=dq (other/8) (n:=5) ∅;refine(?_,PU _,by show(0:Int)<=0;decide,by show(0:Int)<=1000000;decide,λ_=>rfl,?_,?_,?_,?_,λ_=>?_,h)
 .show 3+(cell/20%3).toNat<=5;lia
 .show 0<=ite _ _ _;split<;>lia
 .show ite _ _ _<=1000000;split<;>lia
 .show 0<=ite _ _ _;split<;>lia
 .show ite _ _ _<=1000000;split<;>lia
 .show 1<=ite _ _ _;split<;>lia
def UJ{cell other:Int}{nm:Str}(h:mZ nm):ue (leafOf cell other nm):=by
 let f:=dq other (n:=1000001) ∅;let i:=dq (other/3) (n:=1000001) ∅;let c:=dq (other/7) (n:=1000001) ∅;let g:=dq other (n:=4) ∅;let j:=dq (other/4) (n:=4) ∅;let a:=dq (other/16) (n:=5) ∅;refine(?_,PU _,?_,?_,?_,?_,?_,?_,?_,?_,h)
 .show FF _<=5;unfold FF;(repeat' split)<;>lia
 .show 0<=ite _ _ _;(repeat' split)<;>lia
 .show ite _ _ _<=1000000;(repeat' split)<;>lia
 .intro z;show ite _ _ _=0;rw[fR];let z:¬(FF (cell/20%4)=1\/FF (cell/20%4)=2):=z;unfold FF at z;by_cases e:cell/20%4=1
  .exact e
  simp_all
 .show 0<=ite _ _ _;split<;>lia
 .show ite _ _ _<=1000000;split<;>lia
 .show 0<=ite _ _ _;split<;>lia
 .show ite _ _ _<=1000000;split<;>lia
 .intro z;let z:3<=FF (cell/20%4):=z;unfold FF at z
  (repeat' split at z)<;>lia
def SG:List Nat:=gu "abcdefghijklmnopqrstuvwxyz0123456789"
def sgn(i:Nat):Nat:=SG.getD i 0
def RG{i:Nat}(h:i<36):NZ (sgn i)=true:=by
 revert i;decide +kernel
def Na{i j:Nat}(h:i<36)(g:j<36)(e:sgn i=sgn j):i=j:=by
 let:∀i<36,∀j<36,sgn i=sgn j->i=j:=by decide +kernel
 exact this i h j g e
def Sj{i:Nat}(h:i<36):("abcdefghijklmnopqrstuvwxyz0123456789":Str).cps[i]? =some (sgn i):=by
 revert i;decide +kernel
def wg(k:Nat)(mark:Int):List Nat:=if mark%11=5/\k<36 then [sgn k] else ko (mark%7).toNat 113++[sgn (k%36),sgn ((((k/36:Nat):Int)+mark)%36).toNat]++ko (mark/7%5).toNat 113
def Vx(k:Nat)(mark:Int):1<=(wg k mark).length/\(wg k mark).length<=12:=by
 let c:=dq mark (n:=7) ∅;let a:=dq (mark/7) (n:=5) ∅;unfold wg
 split
 .exact (gx _,by show 1<=12;decide)
 .rw[jm,jm,NC,NC];show 1<=_+2+_/\_+2+_<=12
  lia
def Xr{k:Nat}{mark:Int}(h:k<64):(wg k mark).all NZ=true:=by
 let e:=dq (((k/36:Nat))+mark) (n:=36) ∅;rw[z8];intro c a;unfold wg at a
 split at a
 .rename_i g
  obtain rfl:c=sgn k:=by simpa using a
  exact RG g.2
 .simp only[ro,ajA,oT,al4,or_false]at a;rcases a with(⟨_,rfl⟩|rfl|rfl)|⟨_,rfl⟩
  .decide
  .exact RG ()
  .exact RG ()
  .decide
def nameOf(k:Nat)(mark:Int):Str:=Au (wg k mark)
def Hk{k:Nat}{mark:Int}(h:k<64):mZ (nameOf k mark):=by
 let a:=Vx k mark;let e:(nameOf k mark).length=(wg k mark).length:=by rfl
 exact((),(),Xr h)
def WX{k j:Nat}{mark:Int}(h:k<64)(g:j<64)(e:wg k mark=wg j mark):k=j:=by
 let m:=dq (((k/36:Nat))+mark) (n:=36) ∅;let i:=dq (((j/36:Nat))+mark) (n:=36) ∅;unfold wg at e;by_cases c:mark%11=5/\k<36
 .rw[fR c]at e;by_cases a:mark%11=5/\j<36
  .rw[fR a]at e;exact Na c.2 a.2 (akZ e).1
  .rw[fC a]at e;let:=iY List.length e;rw[jm,jm]at this;let:1=_+2+_:=this
   lia
 .rw[fC c]at e;by_cases a:mark%11=5/\j<36
  .rw[fR a]at e;let:=iY List.length e;rw[jm,jm]at this;let:_+2+_=1:=this
   lia
  .rw[fC a,zL,zL]at e;let e:=List.append_cancel_left e;let e1:=(akZ e).1;let e2:=(akZ (akZ e).2).1;let o:=Na () () e1;let f:=Na () () e2;omega
theorem Se{k j:Nat}{mark:Int}(h:k<64)(g:j<64)(e:nameOf k mark=nameOf j mark):k=j:=WX h g (iY gu e)
def zx(z:Str)(n:Nat):gu ⟨(ko n z.cps).foldl (·++·) #[]⟩=(ko n (gu z)).flatten:=by
 let:∀(m:Nat) (a:Array Nat),((ko m z.cps).foldl (·++·) a).toList=a.toList++(ko m (gu z)).flatten:=λm=>by
  induction m with
  |zero=>simp
  |succ m c=>intro a;rw[IH,ale,c,IH,alR,Array.toList_append,zL]
 let:=this n #[];rwa [zI]at this
def Po(n c:Nat):(ko n [c]).flatten=ko n c:=by
 simp
def Pz(n c:Nat):(ko n [c,c]).flatten=ko (2*n) c:=by
 induction n with
 |zero=>rfl
 |succ n a=>rw[IH,alR,a,show 2*(n+1)=(2*n+1)+1 by lia,IH];rfl
structure fv(rows:Re)(lp:List Nat):Prop where
 l1:1<=lp.length
 l8:lp.length<=8
 eq:∃ex:Path,cB rows rows.length=lp.map (λj=>(j,true))++ex
def fv.first{r:Row}(h:r.DM=true):fv [r] [0]:=by
 refine(gx _,∅,[],?_);show JC [] 0 r=_;unfold JC;rw[h,List.take_nil]
 rfl
def fv.fits{a:Re}{c:List Nat}{r:Row}(P:fv a c)(g:a.length≠0)(f:1<=r.dep)(h:r.dep<=c.length):fits (cB a a.length) a.length r:=by
 let(ex,e):=P.eq;let:=P.l8;unfold Tr.fits;rw[fC g];refine(f,(),c[r.dep-1]'(),?_);rw[e,zW (by rw[gQ];lia),i6,hY ()]
 rfl
def fv.bP{a:Re}{c:List Nat}{r:Row}(P:fv a c)(f:a.length≠0)(g:1<=r.dep)(h:r.dep<=c.length):bP (a++[r]) a.length=((c[r.dep-1]'():Nat):Int):=by
 let(ex,e):=P.eq;unfold Tr.bP;rw[dH a _ _ (gx _),i9,e,zW (by rw[gQ];lia),i6,hY ()];show(if a.length=0 then _ else _)=_;rw[fC f]
def fv.next{a:Re}{c:List Nat}{r:Row}(P:fv a c)(g:1<=r.dep)(f:r.dep<=c.length):fv (a++[r]) (c.take r.dep):=by
 let(ex,e):=P.eq;let:=P.l8;refine(by rw[ve];lia,by rw[ve];lia,[(a.length,r.DM)],?_);rw[jm];show JC (cB (a++[r]) a.length) a.length ((a++[r]).getD a.length default)=_;rw[dH a _ _ (gx _),i9,e];unfold JC;rw[aln (by rwa[gQ]),ak0]
def fv.more{a:Re}{c:List Nat}{r:Row}(P:fv a c)(i:1<=r.dep)(g:r.dep<=c.length)(h:r.dep<8)(f:r.DM=true):fv (a++[r]) (c.take r.dep++[a.length]):=by
 let(ex,e):=P.eq;refine(by rw[jm];show 1<=_+1;lia,by rw[jm,ve];show _+1<=8;lia,[],?_);rw[jm];show JC (cB (a++[r]) a.length) a.length ((a++[r]).getD a.length default)=_;rw[dH a _ _ (gx _),i9,e];unfold JC;rw[aln (by rwa[gQ]),kr,ak0,f,ov]
 rfl
structure ny(rows:Re)(mark:Int):Prop where
 ne:1<=rows.length
 len:rows.length<=64
 fit:∀k,k<rows.length->fits (cB rows k) k (rows.getD k default)
 sh:∀r∈rows,ue r.sh
 nm:∀k,k<rows.length->(rows.getD k default).sh.name=nameOf k mark
def ny.next{a:Re}{mark:Int}{r:Row}(h:ny a mark)(j:a.length<64)(g:fits (cB a a.length) a.length r)(i:ue r.sh)(f:r.sh.name=nameOf a.length mark):ny (a++[r]) mark:=by
 let c:(a++[r]).length=a.length+1:=jm;refine((),(),?_,?_,?_)
 .intro k hk;by_cases e:k=a.length
  .subst e;rwa[dH a _ _ (gx _),i9]
  .rw[dH a _ _ (),pM _ _ _ ()];exact h.fit k ()
 .intro x hx;rcases ro.mp hx with z|z
  .exact h.sh x z
  grind
 .intro k hk;by_cases e:k=a.length
  .subst e;rwa[i9]
  .rw[pM _ _ _ ()];exact h.nm k ()
def ny.ok{a:Re}{mark:Int}(h:ny a mark):gD a:=by
 refine(λe=>by let:=h.ne;simp_all,h.len,h.fit,h.sh,?_);rw[List.Nodup,List.pairwise_iff_getElem];intro i j f c g e;rw[gQ]at f c;rw[ak2,ak2]at e;let e1:=h.nm i f;let e2:=h.nm j c;rw[ot,hY f]at e1;rw[ot,hY c]at e2;let e1:a[i].sh.name=nameOf i mark:=e1;let e2:a[j].sh.name=nameOf j mark:=e2;rw[e1,e2]at e;let:=h.len;let:=Se () () e
 lia
def ny.names{a:Re}{mark:Int}(h:ny a mark):a.map (λr=>V.str r.sh.name)=(hD a.length).map λk=>V.str (nameOf k mark):=by
 refine List.ext_getElem (by simp) λi c e=>?_;rw[gQ]at c;rw[ak2,ak2,anl];let:=h.nm i c;rw[ot,hY c]at this;exact iY V.str this
def fv.take{a:Re}{c:List Nat}(P:fv a c){m:Nat}(f:1<=m)(g:m<=c.length):fv a (c.take m):=by
 let(ex,e):=P.eq;let:=P.l8;refine(by rw[ve];lia,by rw[ve];lia,(c.drop m).map (λj=>(j,true))++ex,?_);rwa[<- zL,<-kr,ak6]
def aai{a:Type}{xs:List a}(h:1<=xs.length):ql xs (-1)=xs[xs.length-1]? :=by
 unfold ql xE;rw[fC ∅,fR ()];show xs[(-1+(xs.length:Int)).toNat]? =_
 congr 1
 lia
theorem uA{H a:Hp}{d:eF}{o:HO}(h:aH H a)(hd:H d=none):aH H (upd a d o):=λb u e=>by rw[ag (ao e hd)];exact h b u e
def vD.ne{H:Hp}{p d:eF}{c:List (List Str)}{i:Int}{xs:List V}(h:vD H p c)(g:H d=some (.lst (V.int i::xs)))(f:c≠[]):p≠d:=by
 let(as,e1,e2,e3):=h;intro e;subst e;rw[g]at e1;cases as with
 |nil=>grind
 |cons a r=>cases e1
def vD.upd{H:Hp}{p d:eF}{c:List (List Str)}{i:Int}{xs:List V}{o:HO}(h:vD H p c)(j:H d=some (.lst (V.int i::xs)))(n:c≠[])(s:∀f∈c,f≠[]):vD (upd H d o) p c:=by
 let t:=h.ne j n;let(as,e1,e2,e3):=h;refine(as,(ag t).trans e1,e2,λk x f q m=>?_);let g:=e3 k x f q m;rw[ag]
 .exact g
 .intro e;subst e;rw[j]at g;cases f with
  |nil=>exact s [] (JO m) rfl
  |cons a r=>cases g
def vD.push{H:Hp}{p q:eF}{c:List (List Str)}{f:List Str}(h:vD H p c)(n:H q=some (.lst (f.map V.str)))(o:c≠[])(u:∀f∈c,f≠[])(m:f≠[]):
  ∃as:List eF,H p=some (.lst (as.map V.ref))/\as.length=c.length/\vD (L2.upd H p (.lst (as.map V.ref++[.ref q]))) p (c++[f]):=by
 let(as,e1,e2,e3):=h
 let no:∀(x:eF) (us:List Str),us≠[]->H x=some (.lst (us.map V.str))->x≠p:=λx us s i e=>by
  subst e;rw[e1]at i;cases as with
  |nil=>grind
  |cons a r=>cases us with
   |nil=>exact s rfl
   |cons b t=>cases i
 refine(as,e1,e2,as++[q],by rw[ae,kr];rfl,by rw[jm,jm,e2];rfl,λk x us g j=>?_);by_cases v:k<as.length
 .rw[zW v]at g;rw[zW ()]at j;let i:=e3 k x us g j;rwa[ag (no x us (u us (JO j)) i)]
 .let ek:k=as.length:=by
   let:=(rx.mp g).1;rw[jm]at this;let:k<as.length+1:=this
   lia
  subst ek;rw[FZ (gx _),Bn]at g;rw[FZ (),e2,Bn]at j;obtain rfl:q=x:=iJ g;obtain rfl:f=us:=iJ j;rwa[ag (no q f m n)]
def EB(s:Sh):words s≠[]:=by
 unfold words
 split<;>exact WB _ _
theorem Ol(a:Re):∀c∈a.map (λr=>words r.sh),c≠[]:=λc h=>by
 let(r,_,rfl):=tU.mp h;exact EB _
def yF{a:Re}{r:Row}{j:Int}(h:bP (a++[r]) a.length=j):(hD (a++[r]).length).map (λk=>V.int (bP (a++[r]) k))=(hD a.length).map (λk=>V.int (bP a k))++[V.int j]:=by
 rw[jm];show(hD (a.length+1)).map _=_;rw[F1,kr,xl,h]
 congr 1
 refine aj3 λk c=>?_;rw[Ms a [r] (qG.mp c)]
def Mf{a:Re}(h:1<=a.length)(g:Row->Int):∃i xs,a.map (λr=>V.int (g r))=V.int i::xs:=by
 cases a with
 |nil=>cases h
 |cons r t=>exact(_,_,rfl)
def IS{n:Nat}(h:1<=n)(g:Nat->Int):∃i xs,(hD n).map (λk=>V.int (g k))=V.int i::xs:=by
 cases n with
 |zero=>cases h
 |succ n=>rw[akU];exact(_,_,rfl)
def adI{a:Re}(h:1<=a.length):a.map (λr=>words r.sh)≠[]:=by
 cases a with
 |nil=>cases h
 |cons r t=>exact WB _ _
def UN(xs:List V)(b:Nat):Bo xs none (some (b:Int))=xs.take b:=by
 unfold Bo;let e1:HT.qq xs.length 0 none=0:=rfl
 let e2:HT.qq xs.length xs.length (some b)=min b xs.length:=by
  rfl
 simp_all
def ng(a:Re):List (List Nat):=a.map λr=>Bw r.dep 0 0 r.sh
theorem FD:∀{a:Re},(∀r∈a,ue r.sh)->F0 (ng a) a
 |[],_=>.nil
 |r::t,h=>.row (SJ _ _ _ _) (Xh _ _ _ (h r lq)) (FD λx c=>h x (mf _ c))
def Zs{a:Re}(h:∀r∈a,ue r.sh):∀l∈ng a,10∉l:=by
 intro l e;let(r,c,rfl):=tU.mp e;exact aeI _ _ _ (h r c)
theorem plain_len(a:Re):(ng a).length=a.length:=gQ _
def written(a:Re):List Nat:=lh [10] (ng a)
def KP{a:Re}(h:gD a):parse (written a)=.ok a:=by
 unfold parse written;rw[O9 10 (ng a) (λe=>h.ne (am0.mp e)) (Zs h.sh)];exact acu (FD h.sh) h
def OG{i:Int}(a:0<=i)(c:i<=1000000):(gu (dN i)).length<=7:=by
 rw[show gu (dN i)=dg i.toNat from D0 a];exact(aeo _).mpr ()
def Fq{s:Sh}(h:ue s):((words s++[s.name]).map (·.length)).sum<=60/\(words s++[s.name]).length<=7:=by
 let o:=OG h.g0 h.g1;let hs:=OG h.s0 h.s1;let j:=OG h.m0 h.m1;rw[bT]at o hs j;let q:s.keep.length<=6:=by rcases h.kp with e|e|e<;>rw[e]<;>decide
 let p:=h.nm.2.1;let g:("leaf":Str).length=4:=by decide
 let c:("idle":Str).length=4:=by decide
 let a:("steady":Str).length=6:=by decide
 let m:("falls":Str).length=5:=by decide
 let n:("minder":Str).length=6:=by decide
 let f:("one":Str).length=3:=by decide
 let i:("all":Str).length=3:=by decide
 let l8:("rest":Str).length=4:=by decide
 unfold words
 split<;>simp only[kr,xl,aki,alg,alM,List.sum_nil,jm,rN,akA,l8]<;>lia
theorem E8(c:List Nat):∀ls:List (List Nat),(lh c ls).length<=(ls.map (·.length)).sum+ls.length*c.length
 |[]=>qj _
 |[a]=>by simp[lh]
 |a::b::r=>by
  let e:=E8 c (b::r);show(a++c++lh c (b::r)).length<=_;rw[jm,jm,xl,alM,rN,akc]
  lia
def Oq{s:Sh}(h:ue s)(d:Nat):(Bw d 0 0 s).length<=2*d+67:=by
 let c:=Fq h;let a:=E8 (ko 1 32) ((words s++[s.name]).map gu);rw[akl,gQ,NC,show(λx=>x.length)∘gu=λx=>x.length from funext bT]at a;unfold Bw;rw[jm,jm,NC];show 2*d+((lh (ko 1 32) ((words s++[s.name]).map gu)).length+0)<=_
 lia
def YJ(d:Nat)(s:Sh):gu ((⟨(ko d ("  ":Str).cps).foldl (·++·) #[]⟩:Str)++amN " " (words s++[s.name]))=Bw d 0 0 s:=by
 rw[lK,zx,I0];unfold Bw;rw[akx,ov]
 congr 1
 exact Pz d 32
theorem Rb{n:Nat}:∀{l:List Nat},(∀x∈l,x<=n)->l.sum<=n*l.length
 |[],_=>qj _
 |a::r,h=>by
  let e:=h a lq;let f:=Rb λx c=>h x (mf _ c);rw[alM,rN,Nat.mul_succ]
  lia
end Tr
namespace Hs
open PySem L2 Shp
abbrev FS:=eF->Prop
abbrev Ent:=Int×Str×Str
def Rt(e:Ent):List V:=[.int e.1,.str e.2.1,.str e.2.2]
def Z1(K:gI)(H:Hp)(q:eF)(es:List Ent):Prop:=∃as:List eF,H q=some (.lst (as.map V.ref))/\as.length=es.length/\∀(i:Nat) (x:eF) (e:Ent),as[i]? =some x->es[i]? =some e->jx K H x (Rt e)
def jx.same{K:gI}{H H':Hp}{a:eF}{xs:List V}(e:aH H H')(h:jx K H a xs):jx K H' a xs:=by
 rcases h with(h|⟨o,h⟩)|h
 .exact .inl (.inl (e _ _ h))
 .exact .inl (.inr (o,e _ _ h))
 .exact .inr h
def Keeps(F:FS)(H H':Hp):Prop:=∀b o,¬F b->H b=some o->H' b=some o
abbrev HR(S:Type):=Hp->eF->S->FS->Prop
structure va{S:Type}(R:HR S)(Cl:eF->Prop):Prop where
 own:∀{H:Hp} {x:eF} {s:S} {F:FS} {b:eF},R H x s F->F b->H b≠none
 mono:∀{H H':Hp} {x:eF} {s:S} {F:FS},(∀b o,F b->H b=some o->H' b=some o)->R H x s F->R H' x s F
 inst:∀{H:Hp} {x:eF} {s:S} {F:FS},R H x s F->∃C dx fs,H x=some (.ins C dx fs)/\Cl C/\fs.lookup ("rows":Str)=none/\fs.lookup ("doing":Str)=none/\fs.lookup ("on":Str)=none/\fs.lookup ("turn":Str)=none/\fs.lookup ("stop":Str)=none/\fs.lookup ("trip":Str)=none
section
variable{S:Type}{R:HR S}{Cl:eF->Prop}{H H':Hp}{x:eF}{s:S}{F:FS}
theorem va.same(I:va R Cl)(e:aH H H')(h:R H x s F):R H' x s F:=I.mono (λb o _ z=>e b o z) h
end
def Moved{S:Type}(R:HR S)(H:Hp)(F:FS)(x:eF)(s:S)(H':Hp)(a:FS):Prop:=Keeps F H H'/\(∀b,a b->F b\/H b=none)/\R H' x s a
def Zw{S:Type}(K:gI)(R:HR S)(book:S->List Ent)(C:eF):Sp:=λvs H Q _=>∃(x:eF) (s:S) (F:FS) (a:eF) (fs:List (Str×V)),vs=[.ref x]/\R H x s F/\H x=some (.ins C a fs)∧
 ∀(q:eF) (H':Hp),aH H H'->H q=none->Z1 K H' q (book s)->Q (.ref q) H'
end Hs
namespace Nm
open PySem PySem.NumText PySem.StrLaws PySem.Builtin.Str Tr
theorem E4(x:Str)(i j:Nat):gu (strSub x i j)=((gu x).drop i).take (j-i):=strSub_toList x i j
theorem UC(p:Nat->Bool):∀l:List Nat,l.drop (l.takeWhile p).length=l.dropWhile p
 |[]=>rfl
 |a::r=>by
  by_cases h:p a=true
  .rw[List.takeWhile_cons_of_pos h,List.dropWhile_cons_of_pos h];exact UC p r
  .rw[alK h,alL h]
   rfl
def C7(x:Str)(c:Nat):gu (ajR x ⟨#[c]⟩)=(gu x).dropWhile (·==c):=by
 unfold ajR;rw[PyProof.Rows.stripBy_eq,E4]
 let e:(⟨#[c]⟩:Str).cps.contains=(·==c):=by
  funext d
  rw[tL];simp
 rw[e];show List.take (x.length-(aom (·==c) (gu x)).length) (List.drop (aom (·==c) (gu x)).length (gu x))=_;rw[akb (by rw[ajK];exact gx _),UC]
theorem Rg(x y:Str):(ajR x y).length<=x.length:=PyProof.Rows.len_lstripChars x y
theorem ON(x:Str)(c:Nat):∀(k a:Nat) (st:Array Nat×Nat),a+k=x.length+1->st.fst.size<=a->st.snd<=a→
  (forIn (jj a k) st (occBody x ⟨#[c]⟩ x.length (x.length+1))).run.fst.toList=st.fst.toList++(jj a k).filter λi=>decide ((gu x)[i]? =some c)
 |0,a,st,_,_,_=>by
  rw[anV,GZ,ov]
  rfl
 |k+1,a,st,h,hs,hf=>by
  rw[Xf,List.forIn_cons,nS];unfold occBody;by_cases e:(gu x)[a]? =some c
  .let z:=(subAt_one x c a).mpr e;rw[fR ((((),hf),z.1),z.2),fR (gy e)];let f:=ON x c k (a+1) (st.fst.push a,a+1) () (by rw[Array.size_push];lia) (gx _);refine Eq.trans f ?_;rw[Array.toList_push,zL]
   rfl
  .rw[fC (λz=>e ((subAt_one x c a).mp (z.1.2,z.2))),fC (λz=>e (iB z))];let f:=ON x c k (a+1) (st.fst,st.snd) () (by lia) (by lia);exact f
theorem E5(x:Str)(c:Nat):∀(k a b:Nat),a<=b->b+k=x.length→
  (partsFrom x 1 a ((jj b k).filter λi=>decide ((gu x)[i]? =some c))).map gu=match mE c ((gu x).drop b) with
   |[]=>[]
   |h::t=>(((gu x).drop a).take (b-a)++h)::t
 |0,a,b,h,hb=>by
  let n:(gu x).drop b=[]:=List.drop_of_length_le (by rw[bT];lia);rw[anV,n];show [gu (strSub x a x.length)]=_;rw[E4,show mE c ([])=[[]] from rfl,show b=x.length by lia];simp
 |k+1,a,b,h,hb=>by
  let f:b<(gu x).length:=by rw[bT];lia
  let hd:=akB f;let g:=hY f;rw[Xf,nS,hd,yW];by_cases e:(gu x)[b]=c
  .rw[fR (gy (by rw[g,e])),fR e];show gu (strSub x a b)::(partsFrom x 1 (b+1) _).map gu=_;rw[E5 x c k (b+1) (b+1) (gx _) (),E4];show _=(_++[])::mE c _;rw[ov]
   cases hz:mE c ((gu x).drop (b+1)) with
   |nil=>rfl
   |cons h t=>
    simp
  .rw[fC (λz=>e (by let:=iB z;rw[g]at this;exact iJ this)),fC e];rw[E5 x c k a (b+1) () ()];cases hz:mE c ((gu x).drop (b+1)) with
   |nil=>exact absurd hz (Rn c _)
   |cons h t=>
    show(_++h)::t=(_++((gu x)[b]::h))::t
    let e1:b+1-a=(b-a)+1:=by lia
    rw[e1,AD,alD,show a+(b-a)=b by lia,g,zL]
    rfl
theorem aaK(c:Nat):mE c []=[[]]:=rfl
def rq(x:Str){c:Nat}(m:c<256):(Txt.split x ⟨#[c]⟩).map gu=mE c (gu x):=by
 let n:¬ajr x<ajr ⟨#[c]⟩:=by
  let:ajr ⟨#[c]⟩=1:=by
   unfold ajr;simp_all
  rw[this];unfold ajr
  split
  .lia
  .split<;>lia
 unfold Txt.split;by_cases j:x.length<1
 .rw[fR (by rw[Nw];exact .inl (gy j))];let:gu x=[]:=Yw.mp (by rw[bT];lia);show [gu x]=_;rw[this]
  rfl
 .rw[fC (by rw[Nw];exact λz=>z.elim (λz=>j (iB z)) (λz=>n (iB z)))]
  let g:occurrences x ⟨#[c]⟩ 0 x.length (x.length+1)=(jj 0 x.length).filter λi=>decide ((gu x)[i]? =some c):=by
   rw[occ_eq,ON x c _ 0 _ () (qj _) (qj _),aoG,anm];simp[Str.length]
  let e:=E5 x c x.length 0 0 (gx _) ();rw[<- g]at e
  let a:(match mE c (gu x) with
   |[]=>[]
   |h::t=>((gu x).take (0-0)++h)::t)=mE c (gu x):=by
   cases hz:mE c (gu x) with
   |nil=>rfl
   |cons h t=>
    rfl
  by_cases f:(occurrences x ⟨#[c]⟩ 0 x.length (x.length+1)).isEmpty=true
  .rw[fR f];rw[List.isEmpty_iff.mp f]at e;refine Eq.trans ?_ (e.trans a);show [gu x]=[gu (strSub x 0 x.length)];rw[sub_whole]
  .rw[fC f,partsBetween_eq];exact e.trans a
theorem TL(c:Nat):∀l:List Nat,(mE c l).length<=l.length+1
 |[]=>gx _
 |a::r=>by
  let f:=TL c r;rw[yW];by_cases e:a=c
  .rw[fR e];show(mE c r).length+1<=r.length+1+1
   lia
  .rw[fC e];cases hz:mE c r with
   |nil=>simp
   |cons h t=>
    rw[hz]at f;show t.length+1<=r.length+1+1;let f:t.length+1<=r.length+1:=f
    lia
def aor(x:Str){c:Nat}(a:c<256):(Txt.split x ⟨#[c]⟩).length<=x.length+1:=by
 rw[<- gQ,rq x a];exact TL c _
theorem abo(x:Str)(c:Nat):(occurrences x ⟨#[c]⟩ 0 x.length (x.length+1)).length<=x.length+1:=occ_length_le _ _ _ _ _
theorem LW(x:Str)(w:Nat):∀(c:List Nat) (a:Nat),(partsFrom x w a c).length=c.length+1
 |[],_=>rfl
 |_::r,a=>iY (·+1) (LW x w r _)
def FK(x:Str)(c:Nat):(partsBetween x (occurrences x ⟨#[c]⟩ 0 x.length (x.length+1)) 1).length<=x.length+2:=by
 rw[partsBetween_eq,LW];let:=abo x c
 lia
def MF(x:Str)(c:Nat):amA x ⟨#[c]⟩=decide ((gu x).head? =some c):=by
 unfold amA
 rw[tL,mu,pD,pD];rw[List.head?_eq_getElem?];exact subAt_one x c 0
end Nm
namespace L2
open PySem PySem.Spec PyProof.Rows
def fT.same{K:gI}{H H':Hp}{a:eF}{xs:List V}(h:fT K H a xs)(e:aH H H'):fT K H' a xs:=by
 rcases h with(h|⟨o,h⟩)|h
 .exact .inl (.inl (e _ _ h))
 .exact .inl (.inr (o,e _ _ h))
 .exact .inr h
end L2
namespace Tr
open PySem Shp Nm PySem.NumText
def BG(x:Str):Bool:=decide (gu x≠[])&&decide (x.length<=7)&&decide ((gu x).head? =some 48->gu x=[48])&&(gu x).all yV
theorem U1(c:Nat)(h:49<=c):∀(n:Nat) (l:List Nat),l.length=n->10^n<=digitsVal (c::l)
 |0,l,e=>by
  obtain rfl:l=[]:=Yw.mp e;let:=Iu [] c;rw[zI]at this;lia
 |n+1,l,e=>by
  rcases List.eq_nil_or_concat l with rfl|⟨r,d,rfl⟩
  .cases e
  .rw[List.concat_eq_append]at e ⊢;rw[jm]at e;let a:=U1 c h n r (by let:r.length+1=n+1:=e;lia);rw[<- ajw,Iu,aoE]
   lia
def jS{x:Str}{v:Int}(h:numOf x=some v):BG x=true/\amx x=some v/\x.length<=7/\0<=v/\v<=1000000:=by
 unfold numOf at h;by_cases z:gu x≠[]/\(gu x).all yV=true/\((gu x).head? =some 48->gu x=[48])/\digitsVal (gu x)<=1000000
 .rw[fR z]at h;let(f,i,j,o):=z
  let m:x.length<=7:=by
   obtain⟨c,r,a⟩:∃c r,gu x=c::r:=by
    cases y:gu x with
    |nil=>exact absurd y f
    |cons c r=>exact(c,r,rfl)
   rw[<- bT,a];by_cases g:c=48
   .let:=j (by rw[a,g];rfl);rw[a]at this;rw[this]
    decide
   .let e:=z8.mp i c (by rw[a];exact lq);unfold yV at e;let b:=U1 c () _ r rfl;rw[a]at o;by_cases p:r.length<=6
    .rw[rN];lia
    .let:10^7<=10^r.length:=aks ∅ ()
     lia
  let n:=iJ h;refine(?_,?_,m,(),())
  .unfold BG;rw[gy f,gy m,gy j,i]
   rfl
  .rw[aa6 f i (),n]
 .rw[fC z]at h;cases h
theorem Zj(a c g s e nm:Str):rowOf [a,c,g,s,e,nm]=if a="leaf"/\eN c/\e="idle"/\mZ nm then (numOf g).bind λg=>(numOf s).bind λs=>some (0,c,0,g,s,nm)
   else if a="minder"/\eN c/\mZ nm then (RI g).bind λk=>(numOf s).bind λm=>(numOf e).bind λp=>if p=0 then none else some (k,c,0,m,p,nm) else none:=rfl
theorem ZH(a e g s c m nm:Str):rowOf [a,e,g,s,c,m,nm]=if a="leaf"/\eN e/\mZ nm then (if c="steady" then some 1 else if c="falls" then some 2 else none).bind λk=>(numOf g).bind λg=>(numOf s).bind λs=>(numOf m).bind λm=>some (k,e,m,g,s,nm) else none:=rfl
def DZ{i:List Str}{s:Sh}(h:rowOf i=some s):(∃a b c d e f,i=[a,b,c,d,e,f])\/∃a b c d e f g,i=[a,b,c,d,e,f,g]:=by
 match i,h with
 |[a,b,c,d,e,f],_=>exact .inl (a,b,c,d,e,f,rfl)
 |[a,b,c,d,e,f,g],_=>exact .inr (a,b,c,d,e,f,g,rfl)
def Ja{n:List Str}{s:Sh}(h:rowOf n=some s)(t:n.head? =some ("leaf":Str)):
  (∃(f g l nm:Str) (i j:Int),n=(["leaf",f,g,l,"idle",nm]:List Str)/\eN f/\mZ nm/\numOf g=some i/\numOf l=some j/\s=(0,f,0,i,j,nm))∨
  ∃(f g l e m nm:Str) (i j mi:Int) (k:Nat),n=(["leaf",f,g,l,e,m,nm]:List Str)/\eN f/\mZ nm/\(e="steady"/\k=1\/e="falls"/\k=2)/\numOf g=some i/\numOf l=some j/\numOf m=some mi/\s=(k,f,mi,i,j,nm):=by
 rcases DZ h with⟨a,f,g,l,e,nm,rfl⟩|⟨a,f,g,l,e,m,nm,rfl⟩
 .obtain rfl:a="leaf":=iJ t
  left
  rw[Zj]at h;by_cases c:(("leaf":Str)="leaf"/\eN f/\e="idle"/\mZ nm)
  .rw[fR c]at h;let(_,p,rfl,r):=c;cases eg:numOf g with
   |none=>simp_all
   |some i=>
    rw[eg]at h;cases el:numOf l with
    |none=>rw[el]at h;cases h
    |some j=>
     rw[el]at h;exact(f,g,l,nm,i,j,rfl,p,r,eg,el,(iJ h).symm)
  .rw[fC c]at h;cases h
 .obtain rfl:a="leaf":=iJ t
  right
  rw[ZH]at h;by_cases c:(("leaf":Str)="leaf"/\eN f/\mZ nm)
  .rw[fR c]at h;let(_,p,r):=c
   let q:∃k,(if e="steady" then some 1 else if e="falls" then some 2 else none)=some k/\(e="steady"/\k=1\/e="falls"/\k=2):=by
    by_cases o:e="steady"
    .exact (1,by rw[fR o],.inl (o,rfl))
    .by_cases w2:e="falls"
     .exact (2,by rw[fC o,fR w2],.inr (w2,rfl))
     simp_all
   let(k,u,v):=q;rw[u]at h;cases eg:numOf g with
   |none=>rw[eg]at h;cases h
   |some i=>
    rw[eg]at h;cases el:numOf l with
    |none=>rw[el]at h;cases h
    |some j=>
     rw[el]at h;cases em:numOf m with
     |none=>rw[em]at h;cases h
     |some mi=>
      rw[em]at h;exact(f,g,l,e,m,nm,i,j,mi,k,rfl,p,r,v,eg,el,em,(iJ h).symm)
  .rw[fC c]at h;cases h
def DD{n:List Str}{s:Sh}(h:rowOf n=some s)(q:n.head? ≠some ("leaf":Str)):
  ∃(i e m sp nm:Str) (mi f:Int) (k:Nat),n=(["minder",i,e,m,sp,nm]:List Str)/\eN i/\mZ nm/\(e="one"/\k=3\/e="all"/\k=4\/e="rest"/\k=5)/\numOf m=some mi/\numOf sp=some f/\f≠0/\s=(k,i,0,mi,f,nm):=by
 rcases DZ h with⟨a,i,e,m,sp,nm,rfl⟩|⟨a,i,g,l,p,m,nm,rfl⟩
 .let na:=λz=>q (iY some z);rw[Zj,fC (λz=>na z.1)]at h;by_cases c:(a="minder"/\eN i/\mZ nm)
  .rw[fR c]at h;let(rfl,u,v):=c
   let p:∃k,RI e=some k/\(e="one"/\k=3\/e="all"/\k=4\/e="rest"/\k=5):=by
    unfold RI;by_cases j:e="one"
    .exact (3,by rw[fR j],.inl (j,rfl))
    .by_cases w2:e="all"
     .exact (4,by rw[fC j,fR w2],.inr (.inl (w2,rfl)))
     .by_cases w3:e="rest"
      .exact (5,by rw[fC j,fC w2,fR w3],.inr (.inr (w3,rfl)))
      .unfold RI at h;simp_all
   let(k,r,t):=p;rw[r]at h;cases em:numOf m with
   |none=>rw[em]at h;cases h
   |some mi=>
    rw[em]at h;cases es:numOf sp with
    |none=>rw[es]at h;cases h
    |some f=>
     rw[es]at h;let h:(if f=0 then none else some ((k,i,0,mi,f,nm)))=some s:=h;by_cases o:f=0
     .rw[fR o]at h;cases h
     .rw[fC o]at h;exact(i,e,m,sp,nm,mi,f,k,rfl,u,v,t,em,es,o,(iJ h).symm)
  simp_all
 .let na:=λz=>q (iY some z);rw[ZH,fC (λz=>na z.1)]at h;cases h
def X9{f:List Str}{s:Sh}(h:rowOf f=some s):ue s:=by
 by_cases z:f.head? =some ("leaf":Str)
 .rcases Ja h z with⟨kp,g,l,nm,gi,li,_,c1,c2,eg,el,rfl⟩|⟨kp,g,l,wk,m,nm,gi,li,mi,kd,_,c1,c2,ck,eg,el,em,rfl⟩
  .let(_,_,_,g0,g1):=jS eg;let(_,_,_,l0,c):=jS el;exact(qj _,c1,akv _,by simp,λ_=>rfl,g0,g1,l0,c,λz=>absurd (show 3<=0 from z) ∅,c2)
  .let(_,_,_,g0,g1):=jS eg;let(_,_,_,l0,c):=jS el;let(_,_,_,e,a):=jS em;let i:kd=1\/kd=2:=ck.elim (λz=>.inl z.2) (λz=>.inr z.2);exact(by lia,c1,e,a,λz=>absurd i z,g0,g1,l0,c,λz=>absurd (show 3<=kd from z) (),c2)
 .let(kp,wy,m,sp,nm,mi,si,k,_,c1,c2,ck,em,es,e0,rfl):=DD h z;let(_,_,_,e,a):=jS em;let(_,_,_,n,j):=jS es
  exact(by lia,c1,akv _,by simp,λ_=>rfl,e,a,n,j,λ_=>by lia,c2)
theorem Nv(a:Re):∀(k:Nat),(∀i,i<k->(a.getD i default).dep<=(cB a i).length)->∀(d j:Nat) (b:Bool),(cB a k)[d]? =some (j,b)→
  j<k/\(a.getD j default).dep=d/\(a.getD j default).DM=b/\∀i,j<i->i<k->d<(a.getD i default).dep
 |0,_,d,j,b,h=>by cases h
 |k+1,wf,d,j,b,h=>by
  let r:=wf k (Ji k);let h:((cB a k).take (a.getD k default).dep++[(k,(a.getD k default).DM)])[d]? =some (j,b):=h;let tl:((cB a k).take (a.getD k default).dep).length=(a.getD k default).dep:=by rw[ve];lia
  by_cases hd:d<(a.getD k default).dep
  .rw[zW (),alZ hd]at h;let(s,q,f,n):=Nv a k (λi e=>wf i ()) d j b h;refine((),q,f,λi c m=>?_);by_cases e:i=k
   .rwa[e]
   .exact n i c ()
  .rw[FZ (),tl]at h
   let p:d-(a.getD k default).dep=0:=by
    let:=(rx.mp h).1;let:d-(a.getD k default).dep<1:=this
    lia
   rw[p]at h;let h:=iJ h;let g:k=j:=iY Prod.fst h;let o:=iY Prod.snd h;subst g;exact(Ji _,(),o,λi c m=>absurd c ())
def P6{p:Path}{k:Nat}{r:Row}(h:fits p k r):r.dep<=p.length:=by
 unfold fits at h
 split at h
 .lia
 .let(h1,_,j,hj):=h;let:=(rx.mp hj).1
  lia
def OkP(a:Re):Prop:=∀i,i<a.length->fits (cB a i) i (a.getD i default)
def OkP.snoc{a:Re}{r:Row}(h:OkP a)(f:fits (cB a a.length) a.length r):OkP (a++[r]):=by
 intro i c;rw[jm]at c;by_cases e:i<a.length
 .rw[dH a [r] i (),pM _ _ _ e];exact h i e
 .let e:i=a.length:=by let:i<a.length+1:=c;lia
  subst e;rw[dH a [r] _ (gx _),i9 a r [] default];exact f
def aaQ{a:Re}{r:Row}(h:OkP a)(o:a≠[])(c:fits (cB a a.length) a.length r):
  ∃j,j<a.length/\(a.getD j default).dep+1=r.dep/\(a.getD j default).DM=true/\(∀i,j<i->i<a.length->r.dep<=(a.getD i default).dep)/\r.dep<=8/\bP (a++[r]) a.length=(j:Int):=by
 unfold fits at c;let f:=λz=>o (Yw.mp z);rw[fC f]at c;let(w,m,j,e):=c;let(n,v,p,u):=Nv a a.length (λi s=>P6 (h i s)) _ j true e;refine(j,n,(),p,λi t q=>by let:=u i t q;lia,m,?_);unfold bP;rw[dH a [r] _ (gx _),i9 a r [] default,e];show(if a.length=0 then (-1) else (j:Int))=j;rw[fC f]
def WC{a c:Re}{n:Nat}{l:List Nat}{ls:List (List Nat)}(h:scan a n (l::ls)=.ok c):(mH l=true/\scan a (n+1) ls=.ok c)∨
  (mH l=false/\∃r,sI l=some r/\fits (cB a a.length) a.length r/\r.sh.name∉a.map (·.sh.name)/\a.length≠64/\scan (a++[r]) (n+1) ls=.ok c):=by
 rw[E3]at h;by_cases g:mH l=true
 .rw[fR g]at h;exact .inl (g,h)
 .right
  rw[fC g]at h;refine(by simp_all,?_);cases hl:sI l with
  |none=>simp_all
  |some r=>
   rw[hl]at h;let h:(if fits (cB a a.length) a.length r/\r.sh.name∉a.map (·.sh.name) then (if a.length=64 then Res.many else scan (a++[r]) (n+1) ls) else .bad (n+1))=.ok c:=h;by_cases f:fits (cB a a.length) a.length r/\r.sh.name∉a.map (·.sh.name)
   .rw[fR f]at h;by_cases e:a.length=64
    .simp_all
    .rw[fC e]at h;exact(r,rfl,f.1,f.2,e,h)
   .rw[fC f]at h;cases h
def aat{l:List Nat}{r:Row}(h:sI l=some r):lead l=2*r.dep/\rowOf ((df l).map Au)=some r.sh:=by
 unfold sI at h;by_cases e:lead l%2=0
 .rw[fR e]at h;cases hr:rowOf ((df l).map Au) with
  |none=>simp_all
  |some s=>
   rw[hr]at h;let h:=iJ h;subst h;exact(by lia,rfl)
 simp_all
def ZR{a c:Re}{n:Nat}(h:scan a n []=.ok c):a≠[]/\c=a:=by
 let h:(if a=[] then Res.acZ else .ok a)=.ok c:=h;by_cases e:a=[]
 .rw[fR e]at h;cases h
 .rw[fC e]at h;injection h with h;exact(e,h.symm)
end Tr
namespace Hm
open PySem Shp Tr Hs
structure Nd where
 st:Str
 asked:Bool
 beg:Int
 steps:Int
 need:Int
 kG:Int
 aA:List Int
 good:Nat
 wait:List Nat
 bF:Nat
 com:Nat
 BC:Bool
structure HS where
 clk:Int
 book:List Ent
 ends:List (Nat×Str)
 nd:Nat->Nd
instance:CoeFun HS λ_=>Nat->Nd:=⟨HS.nd⟩
def sh(T:Re)(i:Nat):Sh:=(T.getD i default).sh
def f7(T:Re)(i:Nat):Bool:=decide ((sh T i).kind<3)
def par(T:Re)(i:Nat):Option Nat:=if bP T i<0 then none else some (bP T i).toNat
def kids(T:Re)(m:Nat):List Nat:=(hD T.length).filter λj=>decide (par T j=some m)
def gm(T:Re)(j:Nat):Nat:=((hD j).filter λi=>decide (par T i=par T j)).length
def up(S:HS)(i:Nat)(g:Nd->Nd):HS:={S with nd:=λj=>if j=i then g (S j) else S j}
theorem aw(S:HS)(i:Nat)(g:Nd->Nd):(up S i g).nd i=g (S i):=fR rfl
theorem bu{S:HS}{i j:Nat}(g:Nd->Nd)(h:j≠i):(up S i g).nd j=S j:=fC h
section
variable(T:Re)
def write(wd:Str)(i:Nat)(S:HS):HS:={S with book:=S.book++[(S.clk,wd,(sh T i).name)]}
def bK(S:HS)(i:Nat):Bool:=decide ((S i).st="off")
def forget(d:Nd):Nd:={d with aA:=[],good:=0,wait:=[],bF:=0,com:=0,BC:=false}
def oX(i:Nat)(S:HS):HS:=up S i λd=>if f7 T i then {d with st:="on",asked:=false,beg:=S.clk,steps:=0} else forget {d with st:="on",asked:=false}
def bz:Nat->Nat->HS->HS
 |0,_,S=>S
 |d+1,i,S=>(kids T i).foldl (λS j=>bz d j S) (write T "begun" i (oX T i S))
def aX(i:Nat)(wd:Str)(S:HS):HS:=if wd="" then S else {write T wd i (up S i λd=>{d with st:="off"}) with ends:=S.ends++[(i,wd)]}
def dJ(d:Nd):Str:=if d.need=0 then "ended" else if d.kG=0 then "cut" else ""
def bf(m:Nat)(S:HS):Nat:=cV (λk=>match (kids T m)[k]? with|some j=> !bK S j|none=>false) (kids T m).length
def goDown(m:Nat)(d:Nd):Nd:={d with st:="down",wait:=[],bF:=2^(kids T m).length-1,com:=0}
def bj(i:Nat)(S:HS):HS:=up S i λd=>if f7 T i then {d with st:="told",asked:=true,need:=(sh T i).cS,kG:=(sh T i).bU} else goDown T i {d with asked:=true}
def aS(m:Nat)(S:HS):Option Nat:=if (S m).bF &&& bf T m S=0 then none else (kids T m)[alw ((S m).bF &&& bf T m S)]?
def eZ(d:Nd):Str:=if d.BC then "gave up" else "ended"
def aR(d:Nd):Nd:={d with st:="on",bF:=0,com:=0}
def aY(m:Nat)(S:HS):List Nat:=(kids T m).filter λj=>hI (S m).com (gm T j)&& !Nat.testBit (S m).good (gm T j)
def aV(m:Nat)(S:HS):HS:=if (S m).st="down" then aX T m (eZ (S m)) S else (aY T m S).foldl (λS j=>bz T 9 j S) (up S m aR)
def cz:Nat->Nat->HS->HS
 |0,_,S=>S
 |d+1,i,S=>
  let a:=bj T i (write T "told" i S)
  if f7 T i then aX T i (dJ (a.nd i)) a else match aS T i a with
   |none=>aV T i a
   |some j=>if (a.nd j).asked then a else cz d j a
def gj(m:Nat)(S:HS):HS:=match aS T m S with
 |none=>aV T m S
 |some j=>if (S j).asked then S else cz T 9 j S
def gX(m i:Nat)(wd:Str)(S:HS):HS:=if begun (sh T i) wd=false then up S m λd=>{d with good:=d.good ||| 2^gm T i}
 else if (S m).st≠"down"/\hI (S m).com (gm T i)=false then up S m λd=>{d with wait:=d.wait++[i]} else S
def cg(c sp:Int)(l:List Int):List Int:=l.filter λx=>decide (c-x<sp)
def aL(m:Nat)(S:HS):Bool×HS:=if ((S m).aA.length:Int)<(sh T m).bU then (false,S) else
 let l:=cg S.clk (sh T m).cS (S m).aA
 (decide ((sh T m).bU<(l.length:Int)+1),up S m λd=>{d with aA:=l})
def B7(m i:Nat)(S:HS)(d:Nd):Nd:=
 let a:=Shp.gj (sh T m).kind (gm T i) (kids T m).length (λk=>hI (bf T m S) k)
 let b:=anew (sh T m).kind (gm T i) (kids T m).length (λk=>hI (S m).good k)
 {d with aA:=d.aA++[S.clk],st:="turning",bF:=a,com:=b}
def fP(m i:Nat)(S:HS):HS:=up S m (B7 T m i S)
def giveUp(m:Nat)(S:HS):HS:=up S m λd=>goDown T m {d with BC:=true}
def answer(m i:Nat)(S:HS):HS:=let e:=aL T m S
 gj T m (if e.1 then giveUp T m (write T "gives up" m e.2) else fP T m i (write T "answers" i e.2))
def toBe(m i:Nat)(S:HS):Bool:=bK S i&& !Nat.testBit (S m).good (gm T i)
def bt:Nat->Nat->HS->HS
 |0,_,S=>S
 |f+1,m,S=>if (S m).st="on" then (match (S m).wait with
  |[]=>S
  |i::r=>let a:=up S m λd=>{d with wait:=r}
   bt f m (if toBe T m i a then answer T m i a else a)) else S
def mV(i:Nat)(wd:Str)(S:HS):HS:=match par T i with
 |none=>S
 |some m=>
  let a:=if (S i).asked then S else gX T m i wd S
  let c:=if (a.nd m).st="on" then a else gj T m a
  bt T (c.nd m).wait.length m c
def a8:Nat->HS->Option HS
 |0,S=>if S.ends=[] then some S else none
 |f+1,S=>match S.ends with
  |[]=>some S
  |(i,wd)::r=>a8 f (mV T i wd {S with ends:=r})
def bM(i:Nat)(S:HS):Bool:=f7 T i&& !bK S i&&decide ((S i).beg<S.clk)
def cx(i:Nat)(S:HS):Str×HS:=if (S i).st="told" then
  let a:=up S i λd=>{d with need:=d.need-1,kG:=d.kG-1}
  (dJ (a.nd i),a)
 else (endAt (sh T i) (S i).steps,up S i λd=>{d with steps:=d.steps+1})
def dj(f i:Nat)(S:HS):Option HS:=if bM T i S then a8 T f (aX T i (cx T i S).1 (cx T i S).2) else some S
def xr(f:Nat)(S:HS):Option HS:=(hD T.length).foldlM (λS i=>dj T f i S) {S with clk:=S.clk+1}
def FJ(f i:Nat)(S:HS):Option HS:=a8 T f (aX T i "fallen" S)
def C3(f:Nat)(S:HS):Option HS:=if (S 0).asked then some S else a8 T f (cz T 10 0 S)
def ti:Nd:=("off",false,0,0,0,0,[],0,[],0,0,false)
def new:HS:=bz T 10 0 (0,[],[],λ_=>ti)
end
theorem TF(p:Nat->Bool):∀(n k j:Nat),((hD n).filter p)[k]? =some j->((hD j).filter p).length=k/\p j=true/\j<n
 |0,k,j,h=>by cases h
 |n+1,k,j,h=>by
  rw[F1,su]at h;by_cases f:k<((hD n).filter p).length
  .rw[zW f]at h;let(a,b,c):=TF p n k j h;exact(a,b,())
  .rw[FZ ()]at h;by_cases e:p n=true
   .rw[nS,fR e]at h
    let k0:k-((hD n).filter p).length=0:=by
     let:=(rx.mp h).1;let:k-((hD n).filter p).length<1:=this
     lia
    rw[k0]at h;let h:=iJ h;subst h;exact((),e,Ji _)
   .rw[nS,fC e]at h;cases h
def Ec{T:Re}{m k j:Nat}(h:(kids T m)[k]? =some j):gm T j=k/\par T j=some m/\j<T.length:=by
 let(a,b,c):=TF _ _ _ _ h;let b:=iB b;refine(?_,b,c);unfold gm;rwa[b]
theorem QS(p:Nat->Bool):∀(n j:Nat),j<n->p j=true->((hD n).filter p)[((hD j).filter p).length]? =some j
 |0,j,h,_=>absurd h (ze _)
 |n+1,j,h,hp=>by
  rw[F1,su];by_cases a:j<n
  .let ih:=QS p n j a hp;rwa[zW (rx.mp ih).1]
  .obtain rfl:j=n:=by lia
   rw[FZ (gx _),Bn,nS,fR hp]
   rfl
def mW{T:Re}{m i:Nat}(c:i<T.length)(a:par T i=some m):(kids T m)[gm T i]? =some i:=by
 let:=QS (λj=>decide (par T j=some m)) T.length i c (gy a);unfold kids gm;rwa[a]
theorem Cd(T:Re):par T 0=none:=rfl
def Uy(T:Re)(m:Nat):(kids T m).length<=T.length-1:=by
 unfold kids;cases T.length with
 |zero=>exact gx _
 |succ n=>
  rw[akU,nS];refine jC (yS _ _) ?_;simp
def b6(T:Re):Nat->Nat->Prop
 |0,_=>False
 |d+1,i=>∀j∈kids T i,b6 T d j
theorem dY{T:Re}:∀{d i:Nat},b6 T d i->b6 T (d+1) i
 |0,_,h=>h.elim
 |_+1,_,h=>λj a=>dY (h j a)
structure kY(T:Re):Prop where
 n0:0<T.length
 n64:T.length<=64
 bB:∀{j m:Nat},j<T.length->par T j=some m->m<j/\f7 T m=false
 top:f7 T 0=false
 up:∀j,0<j->j<T.length->∃m,par T j=some m
 deep:∀i,i<T.length->b6 T 9 i
 ok:∀i,i<T.length->Gk (sh T i)
structure Wf(T:Re)(S:HS):Prop where
 wt:∀m j,j∈(S m).wait->j<T.length/\par T j=some m
 gd:∀m,(S m).good<2^(kids T m).length
 fl:∀m,(S m).aA.length<=S.book.length
 wl:∀m,(S m).wait.length+S.ends.length<=S.book.length
 en:∀e∈S.ends,e.1<T.length/\isWord e.2
 st:∀i,f7 T i=true->(S i).st≠"off"->(S i).st≠"told"->0<=(S i).steps/\((sh T i).kind≠0->(S i).steps<=(sh T i).many)
section
variable{T:Re}{S:HS}
def aZ{m j:Nat}(h:j∈kids T m):j<T.length/\par T j=some m:=by
 unfold kids at h;rw[mJ,qG,pD]at h;exact h
def Wf.up{i:Nat}{g:Nd->Nd}(h:Wf T S)(o:∀j∈(g (S i)).wait,j<T.length/\par T j=some i)(r:(g (S i)).good<2^(kids T i).length)(f:(g (S i)).aA.length<=S.book.length)(n:(g (S i)).wait.length+S.ends.length<=S.book.length)
  (q:f7 T i=true->(g (S i)).st≠"off"->(g (S i)).st≠"told"->0<=(g (S i)).steps/\((sh T i).kind≠0->(g (S i)).steps<=(sh T i).many)):Wf T (Hm.up S i g):=by
 let c:∀(p:Nat->Nd->Prop),(∀j,p j (S j))->p i (g (S i))->∀j,p j ((Hm.up S i g).nd j):=λp a b j=>by
  by_cases e:j=i
  .grind[aw]
  .rw[bu g e];exact a j
 exact(c (λm d=>∀j,j∈d.wait->j<T.length/\par T j=some m) h.wt o,c (λm d=>d.good<2^(kids T m).length) h.gd r,c (λ_ d=>d.aA.length<=S.book.length) h.fl f,c (λ_ d=>d.wait.length+S.ends.length<=S.book.length) h.wl n,h.en,
  c (λi d=>f7 T i=true->d.st≠"off"->d.st≠"told"->0<=d.steps/\((sh T i).kind≠0->d.steps<=(sh T i).many)) h.st q)
def dA(wd:Str)(i:Nat)(S:HS):(write T wd i S).book.length=S.book.length+1:=by
 show(S.book++_).length=_;rw[jm]
 rfl
def Wf.write(h:Wf T S)(wd:Str)(i:Nat):Wf T (Hm.write T wd i S):=by
 let e:=dA (T:=T) wd i S;refine(h.wt,h.gd,λm=>?_,λm=>?_,h.en,h.st)
 .rw[e];exact anG (h.fl m)
 .rw[e];exact anG (h.wl m)
def Wf.aX(h:Wf T S){i:Nat}(g:i<T.length){wd:Str}(j:wd≠""->isWord wd):Wf T (Hm.aX T i wd S):=by
 unfold Hm.aX
 split
 .exact h
 .rename_i hn
  let f:Wf T (Hm.up S i λd=>{d with st:="off"}):=h.up (h.wt i) (h.gd i) (h.fl i) (h.wl i) (λ_ z=>absurd rfl z);let a:=f.write wd i;let e:=dA (T:=T) wd i (Hm.up S i λd=>{d with st:="off"});refine(a.wt,a.gd,a.fl,λm=>?_,λx c=>?_,a.st)
  .show _+(S.ends++[Prod.mk i wd]).length<=(Hm.write T wd i (Hm.up S i λd=>{d with st:="off"})).book.length;rw[e,jm];let:=f.wl m;show((Hm.up S i λd=>{d with st:="off"}).nd m).wait.length+(S.ends.length+1)<=_;let e2:(Hm.up S i λd=>{d with st:="off"}).ends=S.ends:=rfl;rw[e2]at this
   lia
  .rcases ro.mp c with z|z
   .exact h.en x z
   .rw[l9.mp z];exact(g,j hn)
def Wf.oX(ok:kY T)(h:Wf T S){i:Nat}(c:i<T.length):Wf T (Hm.oX T i S):=by
 unfold Hm.oX;cases hl:f7 T i with
 |true=>
  refine h.up (h.wt i) (h.gd i) (h.fl i) (h.wl i) (λ_ _ _=>(akv _,λ_=>(ok.ok i c).m0))
 |false=>
  refine h.up (λj a=>(by cases a)) (amf _) (qj _) ?_ (λz=>by simp_all);let:=h.wl i;show 0+S.ends.length<=_
  lia
theorem Wf.foldl{f:HS->Nat->HS}:∀(l:List Nat) (S:HS),(∀j∈l,∀S,Wf T S->Wf T (f S j))->Wf T S->Wf T (l.foldl f S)
 |[],_,_,h=>h
 |a::r,S,hf,h=>Wf.foldl r _ (λj c=>hf j (mf _ c)) (hf a lq S h)
theorem Wf.bz(ok:kY T):∀(d i:Nat) (S:HS),i<T.length->Wf T S->Wf T (Hm.bz T d i S)
 |0,_,_,_,h=>h
 |d+1,i,S,hi,h=>Wf.foldl _ _ (λj a S h=>Wf.bz ok d j S (aZ a).1 h) ((h.oX ok hi).write _ _)
theorem lB{m j:Nat}(h:j∈aY T m S):j∈kids T m:=(mJ.mp h).1
def P4(d:Nd):isWord (eZ d):=by
 unfold eZ
 split
 .exact .inr (.inr (.inl rfl))
 .exact .inr (.inr (.inr (.inl rfl)))
def O3{d:Nd}(h:dJ d≠""):isWord (dJ d):=by
 unfold dJ at h ⊢
 split
 .exact .inr (.inr (.inr (.inl rfl)))
 .rename_i h1
  rw[fC h1]at h
  split
  .exact .inr (.inr (.inr (.inr rfl)))
  .rename_i h2
   rw[fC h2]at h;exact absurd rfl h
def TC{s:Sh}{n:Int}(h:endAt s n≠""):isWord (endAt s n):=by
 unfold endAt at h ⊢
 split
 .exact .inl rfl
 .rename_i h1
  rw[fC h1]at h
  split
  .exact .inr (.inl rfl)
  .rename_i h2
   rw[fC h2]at h;exact absurd rfl h
def Wf.aV(ok:kY T)(h:Wf T S){m:Nat}(e:m<T.length)(c:f7 T m=false):Wf T (Hm.aV T m S):=by
 unfold Hm.aV
 split
 .exact h.aX e λ_=>P4 _
 .refine Wf.foldl _ _ (λj a S h=>Wf.bz ok 9 j S (aZ (lB a)).1 h) ?_;exact h.up (h.wt m) (h.gd m) (h.fl m) (h.wl m) (λz=>by simp_all)
def Wf.bj(h:Wf T S){i:Nat}:Wf T (Hm.bj T i S):=by
 unfold Hm.bj;cases hl:f7 T i with
 |true=>exact h.up (h.wt i) (h.gd i) (h.fl i) (h.wl i) (λ_ _ z=>absurd rfl z)
 |false=>
  refine h.up (λj a=>(by cases a)) (h.gd i) (h.fl i) ?_ (λz=>by simp_all);let:=h.wl i;show 0+S.ends.length<=_
  lia
def jb{m j:Nat}(h:aS T m S=some j):j∈kids T m:=by
 unfold aS at h
 split at h
 .cases h
 .exact JO h
def aC(T:Re)(d m:Nat)(S:HS):HS:=match aS T m S with
 |none=>Hm.aV T m S
 |some j=>if (S j).asked then S else cz T d j S
theorem AY(m:Nat)(S:HS):Hm.gj T m S=aC T 9 m S:=rfl
theorem eJ(d i:Nat)(S:HS):cz T (d+1) i S=if f7 T i then Hm.aX T i (dJ ((Hm.bj T i (Hm.write T "told" i S)).nd i)) (Hm.bj T i (Hm.write T "told" i S)) else aC T d i (Hm.bj T i (Hm.write T "told" i S)):=rfl
theorem Wf.L8(ok:kY T)(d:Nat)(tl:∀(i:Nat) (S:HS),i<T.length->Wf T S->Wf T (Hm.cz T d i S)):∀(m:Nat) (S:HS),m<T.length->f7 T m=false->Wf T S->Wf T (Hm.aC T d m S)
 |m,S,hm,hl,h=>by
  unfold Hm.aC
  split
  .exact h.aV ok hm hl
  .rename_i j hj
   split
   .exact h
   .exact tl j S (aZ (jb hj)).1 h
theorem Wf.cz(ok:kY T):∀(d i:Nat) (S:HS),i<T.length->Wf T S->Wf T (Hm.cz T d i S)
 |0,_,_,_,h=>h
 |d+1,i,S,hi,h=>by
  let a:=(h.write "told" i).bj (i:=i);rw[eJ]
  split
  .exact a.aX hi O3
  .exact Wf.L8 ok d (Wf.cz ok d) i _ hi (by simp_all) a
theorem Wf.aC(ok:kY T)(d:Nat):∀(m:Nat) (S:HS),m<T.length->f7 T m=false->Wf T S->Wf T (Hm.aC T d m S):=Wf.L8 ok d (Wf.cz ok d)
theorem abQ{i k:Nat}(h:k≠i):(Hm.oX T i S).nd k=S k:=bu _ h
theorem Hj{f:HS->Nat->HS}{k:Nat}:∀(l:List Nat) (S:HS),(∀j∈l,∀S,(f S j).nd k=S k)->(l.foldl f S).nd k=S k
 |[],_,_=>rfl
 |a::r,S,hf=>(Hj r _ λj c=>hf j (mf _ c)).trans (hf a lq S)
theorem El(ok:kY T):∀(d i k:Nat) (S:HS),k<i->(Hm.bz T d i S).nd k=S k
 |0,_,_,_,_=>rfl
 |d+1,i,k,S,h=>by
  show((kids T i).foldl (λS j=>Hm.bz T d j S) (Hm.write T "begun" i (Hm.oX T i S))).nd k=_;rw[Hj _ _ λj a S=>El ok d j k S (KX h (ok.bB (aZ a).1 (aZ a).2).1)];exact abQ (me h)
def QL{i k:Nat}{wd:Str}(h:k≠i):(Hm.aX T i wd S).nd k=S k:=by
 unfold Hm.aX
 split
 .rfl
 .exact bu ({·with st:="off"}) h
def KN(ok:kY T){m k:Nat}(h:k<m):(Hm.aV T m S).nd k=S k:=by
 unfold Hm.aV
 split
 .exact QL (me h)
 .rw[Hj _ _ λj a S=>El ok 9 j k S (KX h (ok.bB (aZ (lB a)).1 (aZ (lB a)).2).1)];exact bu _ (me h)
theorem OZ(ok:kY T)(d:Nat)(tl:∀(i k:Nat) (S:HS),k<i->(Hm.cz T d i S).nd k=S k):∀(m k:Nat) (S:HS),k<m->(Hm.aC T d m S).nd k=S k
 |m,k,S,h=>by
  unfold Hm.aC
  split
  .exact KN ok h
  .rename_i j hj
   split
   .rfl
   .exact tl j k S (KX h (ok.bB (aZ (jb hj)).1 (aZ (jb hj)).2).1)
theorem Ju(ok:kY T):∀(d i k:Nat) (S:HS),k<i->(Hm.cz T d i S).nd k=S k
 |0,_,_,_,_=>rfl
 |d+1,i,k,S,h=>by
  let a:(Hm.bj T i (Hm.write T "told" i S)).nd k=S k:=bu _ (me h);rw[eJ]
  split
  .rwa[QL (me h)]
  .rwa[OZ ok d (Ju ok d) i k _ h]
def vx(ok:kY T)(d m:Nat)(S:HS):∃st c cm,(Hm.aC T d m S).nd m={S m with st:=st,bF:=c,com:=cm}/\((S m).st="down"->st≠"on"):=by
 unfold Hm.aC
 split
 .unfold Hm.aV
  split
  .unfold Hm.aX
   split
   .refine(_,_,_,rfl,λz=>by rw[z];decide)
   .exact ("off",(S m).bF,(S m).com,aw S m λd=>{d with st:="off"},λ_=>∅)
  .rename_i h1 h2
   refine("on",0,0,?_,λz=>absurd z h2);rw[Hj _ _ λj a S=>El ok 9 j m S (ok.bB (aZ (lB a)).1 (aZ (lB a)).2).1];exact aw _ _ _
 .rename_i j a
  split
  .exact (_,_,_,rfl,λz=>by rw[z];decide)
  .rw[Ju ok d j m S (ok.bB (aZ (jb a)).1 (aZ (jb a)).2).1];exact(_,_,_,rfl,λz=>by rw[z];decide)
theorem tw{f:HS->Nat->HS}:∀(l:List Nat) (S:HS),(∀j∈l,∀S,S.book.length<=(f S j).book.length)->S.book.length<=(l.foldl f S).book.length
 |[],_,_=>gx _
 |a::r,S,hf=>jC (hf a lq S) (tw r _ λj c=>hf j (mf _ c))
theorem oY:∀(d i:Nat) (S:HS),S.book.length<=(Hm.bz T d i S).book.length
 |0,_,_=>gx _
 |d+1,i,S=>by
  refine jC ?_ (tw _ _ λj _ S=>oY d j S);rw[dA];exact LM _
def zq(i:Nat)(wd:Str)(S:HS):S.book.length<=(Hm.aX T i wd S).book.length:=by
 unfold Hm.aX
 split
 .exact gx _
 .show S.book.length<=(S.book++_).length;rw[jm]
  lia
def JJ(m:Nat)(S:HS):S.book.length<=(Hm.aV T m S).book.length:=by
 unfold Hm.aV
 split
 .exact zq m _ S
 .exact tw _ (Hm.up S m aR) λj _ S=>oY 9 j S
theorem AA(d:Nat)(tl:∀(i:Nat) (S:HS),S.book.length<=(Hm.cz T d i S).book.length):∀(m:Nat) (S:HS),S.book.length<=(Hm.aC T d m S).book.length
 |m,S=>by
  unfold Hm.aC
  split
  .exact JJ m S
  .split
   .exact gx _
   .exact tl _ S
def Mg:∀(d i:Nat) (S:HS),S.book.length<=(Hm.cz T d i S).book.length
 |0,_,_=>gx _
 |d+1,i,S=>by
  let a:S.book.length<=(Hm.bj T i (Hm.write T "told" i S)).book.length:=by
   show S.book.length<=(Hm.write T "told" i S).book.length;simp[dA]
  rw[eJ]
  split
  .exact jC a (zq i _ _)
  .exact jC a (AA d (Mg d) i _)
theorem kf(d:Nat):∀(m:Nat) (S:HS),S.book.length<=(Hm.aC T d m S).book.length:=AA d (Mg d)
def rb(m:Nat)(S:HS):(Hm.aL T m S).2.book=S.book/\(Hm.aL T m S).2.ends=S.ends:=by
 unfold Hm.aL
 split<;>exact(rfl,rfl)
def oV(m:Nat)(S:HS):∃l,(Hm.aL T m S).2=Hm.up S m ({·with aA:=l})/\l.length<=(S m).aA.length:=by
 unfold Hm.aL
 split
 .refine ((S m).aA,?_,gx _);unfold Hm.up;let:(λj=>if j=m then {S j with aA:=(S m).aA} else S j)=S.nd:=by
   funext j
   by_cases e:j=m
   .rw[fR e,e]
   .rw[fC e]
  rw[this]
 .exact (_,rfl,yS _ _)
def br(T:Re)(m i:Nat)(S:HS):HS:=if (Hm.aL T m S).1 then giveUp T m (Hm.write T "gives up" m (Hm.aL T m S).2) else fP T m i (Hm.write T "answers" i (Hm.aL T m S).2)
theorem jD(m i:Nat)(S:HS):Hm.answer T m i S=aC T 9 m (br T m i S):=rfl
def Wf.aL(h:Wf T S){m:Nat}:Wf T (Hm.aL T m S).2:=by
 let(l,e,a):=oV m S;rw[e];exact h.up (h.wt m) (h.gd m) (jC a (h.fl m)) (h.wl m) (h.st m)
def Wf.giveUp(h:Wf T S){m:Nat}(c:f7 T m=false):Wf T (Hm.giveUp T m S):=by
 refine h.up (λj a=>(by cases a)) (h.gd m) (h.fl m) ?_ (λz=>by simp_all);let:=h.wl m;show 0+S.ends.length<=_
 lia
def Wf.br(h:Wf T S){m i:Nat}(c:f7 T m=false):Wf T (Hm.br T m i S):=by
 let a:=h.aL (m:=m);unfold Hm.br
 split
 .exact (a.write _ _).giveUp c
 .let h1:=a.write "answers" i;refine h1.up (h1.wt m) (h1.gd m) ?_ (h1.wl m) (λz=>by simp_all);let e:=dA (T:=T) "answers" i (Hm.aL T m S).2;let:=a.fl m;rw[e];show(((Hm.aL T m S).2.nd m).aA++[_]).length<=_;rw[jm];show _+1<=_
  lia
def xO(m i:Nat)(S:HS):(br T m i S).book.length=S.book.length+1:=by
 unfold Hm.br
 split
 .show (Hm.write T "gives up" m (Hm.aL T m S).2).book.length=_;rw[dA,(rb m S).1]
 .show (Hm.write T "answers" i (Hm.aL T m S).2).book.length=_;rw[dA,(rb m S).1]
def Qu(ok:kY T)(m i:Nat)(S:HS):((Hm.answer T m i S).nd m).wait=(S m).wait\/(((Hm.answer T m i S).nd m).wait=[]/\((Hm.answer T m i S).nd m).st≠"on"):=by
 rw[jD];let(st,a,cm,e,hs):=vx ok 9 m (br T m i S);rw[e];let(l,e1,_):=oV m S;unfold br at hs ⊢
 split
 .rename_i he
  rw[fR he]at hs
  right
  let e2:(Hm.giveUp T m (Hm.write T "gives up" m (Hm.aL T m S).2)).nd m=goDown T m { (Hm.aL T m S).2.nd m with BC:=true}:=aw _ _ _;refine(?_,hs (by rw[e2];rfl));rw[e2]
  rfl
 .left
  let e2:((Hm.fP T m i (Hm.write T "answers" i (Hm.aL T m S).2)).nd m).wait=((Hm.aL T m S).2.nd m).wait:=by
   show((Hm.up _ m _).nd m).wait=_;rw[aw]
   rfl
  rw[e2,e1,aw]
def cy(T:Re)(m i:Nat)(r:List Nat)(S:HS):HS:=if toBe T m i (Hm.up S m λd=>{d with wait:=r}) then Hm.answer T m i (Hm.up S m λd=>{d with wait:=r}) else Hm.up S m λd=>{d with wait:=r}
theorem vI{m:Nat}{S:HS}(h:(S m).st≠"on"\/(S m).wait=[]):∀f,bt T f m S=S
 |0=>rfl
 |f+1=>by
  unfold bt
  split
  .rename_i h1
   rcases h with h|h
   .exact absurd h1 h
   .rw[h]
  .rfl
def Ng(ok:kY T){m i:Nat}{r:List Nat}{S:HS}(g:(S m).st="on")(a:(S m).wait=i::r):bt T (S m).wait.length m S=bt T ((cy T m i r S).nd m).wait.length m (cy T m i r S)/\((cy T m i r S).nd m).wait.length<(S m).wait.length:=by
 let e:bt T (S m).wait.length m S=bt T r.length m (cy T m i r S):=by
  rw[a];show bt T (r.length+1) m S=_;rw[bt,fR g,a]
  rfl
 let c:((Hm.up S m λd=>{d with wait:=r}).nd m).wait=r:=by rw[aw]
 rw[e,a];by_cases f:toBe T m i (Hm.up S m λd=>{d with wait:=r})=true
 .let ew:cy T m i r S=Hm.answer T m i (Hm.up S m λd=>{d with wait:=r}):=fR f;rw[ew];rcases Qu ok m i (Hm.up S m λd=>{d with wait:=r}) with z|⟨z1,z2⟩
  .rw[z,c];exact(rfl,Ji _)
  .rw[z1,vI (.inr z1) r.length];exact(rfl,Nat.zero_lt_succ _)
 .let ew:cy T m i r S=Hm.up S m λd=>{d with wait:=r}:=fC f;rw[ew,c];exact(rfl,Ji _)
def Wf.cy(ok:kY T)(h:Wf T S){m i:Nat}{r:List Nat}(n:m<T.length)(a:f7 T m=false)(f:(S m).wait=i::r):Wf T (Hm.cy T m i r S)/\Wf T (Hm.up S m λd=>{d with wait:=r}):=by
 let c:Wf T (Hm.up S m λd=>{d with wait:=r}):=by
  refine h.up (λj g=>h.wt m j (by rw[f];exact mf _ g)) (h.gd m) (h.fl m) ?_ (λz=>by simp_all);let:=h.wl m;let e:(i::r).length=r.length+1:=rfl;lia
 refine(?_,c);unfold Hm.cy
 split
 .exact Wf.aC ok 9 m _ n a (c.br a)
 .exact c
def Rw(m i:Nat)(S:HS):S.book.length<(Hm.answer T m i S).book.length:=by
 rw[jD];refine rr ?_ (kf 9 m _);simp[xO]
def Mt(m i:Nat)(r:List Nat)(S:HS):S.book.length<=(cy T m i r S).book.length:=by
 unfold cy
 split
 .exact vC (Rw m i (Hm.up S m λd=>{d with wait:=r}))
 .exact gx _
theorem rF:∀(f m:Nat) (S:HS),S.book.length<=(bt T f m S).book.length
 |0,_,_=>gx _
 |f+1,m,S=>by
  unfold bt
  split
  .split
   .exact gx _
   .rename_i i r _
    exact jC (Mt m i r S) (rF f m (cy T m i r S))
  .exact gx _
theorem Wf.bt(ok:kY T):∀(f m:Nat) (S:HS),m<T.length->f7 T m=false->Wf T S->Wf T (Hm.bt T f m S)
 |0,_,_,_,_,h=>h
 |f+1,m,S,hm,hl,h=>by
  unfold Hm.bt
  split
  .split
   .exact h
   .rename_i i r e
    exact Wf.bt ok f m (Hm.cy T m i r S) hm hl (h.cy ok hm hl e).1
  .exact h
def bD(T:Re)(m i:Nat)(wd:Str)(S:HS):HS:=if (S i).asked then S else gX T m i wd S
def cK(T:Re)(m i:Nat)(wd:Str)(S:HS):HS:=if ((bD T m i wd S).nd m).st="on" then bD T m i wd S else Hm.gj T m (bD T m i wd S)
def oS{i:Nat}{wd:Str}{S:HS}(h:par T i=none):mV T i wd S=S:=by
 unfold mV;rw[h]
def lJ{i m:Nat}{wd:Str}{S:HS}(h:par T i=some m):mV T i wd S=Hm.bt T ((cK T m i wd S).nd m).wait.length m (cK T m i wd S):=by
 unfold mV;rw[h]
 rfl
def Bl(m i:Nat)(wd:Str)(S:HS):(bD T m i wd S).book=S.book:=by
 unfold bD gX
 split
 .rfl
 .split
  .rfl
  .split<;>rfl
def Yg(i:Nat)(wd:Str)(S:HS):S.book.length<=(mV T i wd S).book.length:=by
 cases h:par T i with
 |none=>rw[oS h];exact gx _
 |some m=>
  rw[lJ h];refine jC ?_ (rF _ _ _);let e:=Bl (T:=T) m i wd S;unfold cK
  split
  .rw[e];exact gx _
  .rw[<- e];exact kf 9 m _
def Wf.pop(h:Wf T S){e:Nat×Str}{r:List (Nat×Str)}(c:S.ends=e::r):Wf T {S with ends:=r}/\(∀m,(S m).wait.length+r.length+1<=S.book.length)/\e.1<T.length/\isWord e.2:=by
 let a:=h.wl;rw[c]at a
 let a:∀m,(S m).wait.length+r.length+1<=S.book.length:=λm=>by
  let:=a m;omega
 refine((h.wt,h.gd,h.fl,λm=>?_,λx f=>h.en x (by rw[c];exact mf _ f),h.st),a,h.en e (by rw[c];exact lq));let:=a m;show(S m).wait.length+r.length<=S.book.length;omega
theorem adX{a n k:Nat}(h:a<2^n)(c:k<n):a ||| 2^k<2^n:=Nat.or_lt_two_pow h (Nat.pow_lt_pow_right ∅ c)
theorem gR{i m:Nat}(c:i<T.length)(a:par T i=some m):gm T i<(kids T m).length:=(rx.mp (mW c a)).1
def Wf.bD(h:Wf T S){m i:Nat}{wd:Str}(c:i<T.length)(e:par T i=some m)(a:f7 T m=false)(g:(S m).wait.length+S.ends.length+1<=S.book.length):Wf T (Hm.bD T m i wd S):=by
 unfold Hm.bD gX
 split
 .exact h
 .split
  .exact h.up (h.wt m) (adX (h.gd m) (gR c e)) (h.fl m) (h.wl m) (λz=>by simp_all)
  .split
   .refine h.up (λj f=>?_) (h.gd m) (h.fl m) ?_ (λz=>by simp_all)
    .rcases ro.mp f with z|z
     .exact h.wt m j z
     .rw[l9.mp z];exact(c,e)
    .rw[jm];show(S m).wait.length+1+_<=_
     lia
   .exact h
def Wf.cK(ok:kY T)(h:Wf T S){m i:Nat}{wd:Str}(a:i<T.length)(c:par T i=some m)(g:(S m).wait.length+S.ends.length+1<=S.book.length):Wf T (Hm.cK T m i wd S):=by
 let e:=(ok.bB a c).2;let f:=h.bD (wd:=wd) a c e g;unfold Hm.cK
 split
 .exact f
 .exact Wf.aC ok 9 m _ (KX (ok.bB a c).1 a) e f
def Wf.mV(ok:kY T)(h:Wf T S){i:Nat}{wd:Str}(a:i<T.length)(c:∀m,(S m).wait.length+S.ends.length+1<=S.book.length):Wf T (Hm.mV T i wd S):=by
 cases hp:par T i with
 |none=>rwa[oS hp]
 |some m=>
  rw[lJ hp];exact Wf.bt ok _ m _ (KX (ok.bB a hp).1 a) (ok.bB a hp).2 (h.cK ok a hp (c m))
theorem lz:∀(f:Nat) (S S':HS),a8 T f S=some S'->S.book.length<=S'.book.length
 |0,S,S',h=>by
  unfold a8 at h
  simp_all
 |f+1,S,S',h=>by
  unfold a8 at h
  split at h
  .simp_all
  .rename_i i wd r e
   exact jC (Yg i wd {S with ends:=r}) (lz f _ S' h)
theorem Wf.settle(ok:kY T):∀(f:Nat) (S S':HS),a8 T f S=some S'->Wf T S->Wf T S'/\S'.ends=[]
 |0,S,S',h,w=>by
  unfold a8 at h
  split at h
  .simp_all
  .cases h
 |f+1,S,S',h,w=>by
  unfold a8 at h
  split at h
  .simp_all
  .rename_i i wd r e
   let(a,g,c,j):=w.pop e;exact Wf.settle ok f _ S' h (a.mV ok c g)
def ano(i:Nat)(S:HS):(cx T i S).2.book=S.book/\(cx T i S).2.ends=S.ends:=by
 unfold cx
 split<;>exact(rfl,rfl)
def aac{i:Nat}(h:(cx T i S).1≠""):isWord (cx T i S).1:=by
 unfold cx at h ⊢
 split
 .rename_i e
  rw[fR e]at h;exact O3 h
 .rename_i e
  rw[fC e]at h;exact TC h
def eR(T:Re)(i:Nat)(S:HS):HS:=Hm.aX T i (cx T i S).1 (cx T i S).2
def V9(i:Nat)(S:HS):S.book.length<=(eR T i S).book.length:=by
 refine jC ?_ (zq _ _ _);rw[(ano i S).1];exact gx _
def Wf.eR(h:Wf T S){i:Nat}(q:i<T.length)(hs:bM T i S=true):Wf T (Hm.eR T i S):=by
 unfold bM at hs;rw[mu,mu,Ma]at hs;let o:=hs.1.1;let t:(S i).st≠"off":=wu hs.1.2;by_cases c:(S i).st="told"
 .refine Wf.aX ?_ q aac;unfold cx;rw[fR c];exact h.up (g:=λd=>{d with need:=d.need-1,kG:=d.kG-1}) (h.wt i) (h.gd i) (h.fl i) (h.wl i) (λ_ _ z=>absurd c z)
 .-- at work: it agj on,or it is over
  let(w,r):=h.st i o t c
  let e:Hm.eR T i S=Hm.aX T i (endAt (sh T i) (S i).steps) (Hm.up S i λd=>{d with steps:=d.steps+1}):=by
   unfold Hm.eR cx;rw[fC c]
  rw[e];by_cases a:endAt (sh T i) (S i).steps=""
  .unfold Hm.aX;rw[fR a];refine h.up (h.wt i) (h.gd i) (h.fl i) (h.wl i) (λ_ _ _=>(by lia,λu=>?_));let v:=iB o
   let ne:(S i).steps≠(sh T i).many:=λz=>by
    unfold endAt at a;by_cases k1:(sh T i).kind=1
    .rw[fR (k1,z)]at a;exact absurd a ∅
    .rw[fC (λy=>k1 y.1),fR ((),z)]at a;exact absurd a ∅
   lia
  .-- off: the steps are of no account
   let p:Wf T (Hm.up (Hm.up S i λd=>{d with steps:=d.steps+1}) i λd=>{d with st:="off"}):=by
    let e2:(Hm.up (Hm.up S i λd=>{d with steps:=d.steps+1}) i λd=>{d with st:="off"})=Hm.up S i λd=>{d with steps:=d.steps+1,st:="off"}:=by
     unfold Hm.up
     congr 1
     funext j
     by_cases z:j=i
     .rw[fR z,fR z];show({ (if j=i then {S j with steps:=(S j).steps+1} else S j) with st:="off"})=_;rw[fR z]
     simp_all
    rw[e2];exact h.up (h.wt i) (h.gd i) (h.fl i) (h.wl i) (λ_ z=>absurd rfl z)
   let f:=p.write (endAt (sh T i) (S i).steps) i;let s:=dA (T:=T) (endAt (sh T i) (S i).steps) i (Hm.up (Hm.up S i λd=>{d with steps:=d.steps+1}) i λd=>{d with st:="off"});unfold Hm.aX;rw[fC a];refine(f.wt,f.gd,f.fl,λm=>?_,λx n=>?_,f.st)
   .let:=p.wl m;show _+(S.ends++[Prod.mk i (endAt (sh T i) (S i).steps)]).length<=(Hm.write T (endAt (sh T i) (S i).steps) i (Hm.up (Hm.up S i λd=>{d with steps:=d.steps+1}) i λd=>{d with st:="off"})).book.length;rw[s,jm];let e3:(Hm.up (Hm.up S i λd=>{d with steps:=d.steps+1}) i λd=>{d with st:="off"}).ends=S.ends:=rfl;rw[e3]at this;show((Hm.up (Hm.up S i λd=>{d with steps:=d.steps+1}) i λd=>{d with st:="off"}).nd m).wait.length+(S.ends.length+1)<=_
    lia
   .let n:x∈S.ends++[(i,endAt (sh T i) (S i).steps)]:=n;rcases ro.mp n with z|z
    .exact h.en x z
    .rw[l9.mp z];exact(q,TC a)
theorem tE(f i:Nat)(S:HS):dj T f i S=if bM T i S then a8 T f (eR T i S) else some S:=rfl
def Wl{f i:Nat}{S S':HS}(h:dj T f i S=some S'):S.book.length<=S'.book.length:=by
 rw[tE]at h
 split at h
 .exact jC (V9 i S) (lz f _ _ h)
 simp_all
def Wf.dj(ok:kY T){f i:Nat}{S S':HS}(w:Wf T S)(a:i<T.length)(h:Hm.dj T f i S=some S'):Wf T S':=by
 rw[tE]at h
 split at h
 .rename_i hs
  exact(Wf.settle ok f _ _ h (w.eR a hs)).1
 simp_all
theorem Tw{f:Nat}:∀(l:List Nat) (S S':HS),l.foldlM (λS i=>Hm.dj T f i S) S=some S'->S.book.length<=S'.book.length
 |[],S,S',h=>by
  simp_all
 |a::r,S,S',h=>by
  rw[YP]at h;cases e:Hm.dj T f a S with
  |none=>simp_all
  |some c=>
   rw[e]at h;exact jC (Wl e) (Tw r c S' h)
theorem Wf.run(ok:kY T){f:Nat}:∀(l:List Nat) (S S':HS),(∀i∈l,i<T.length)->l.foldlM (λS i=>Hm.dj T f i S) S=some S'->Wf T S->Wf T S'
 |[],S,S',_,h,w=>by
  simp_all
 |a::r,S,S',hl,h,w=>by
  rw[YP]at h;cases e:Hm.dj T f a S with
  |none=>simp_all
  |some c=>
   rw[e]at h;exact Wf.run ok r c S' (λi g=>hl i (mf _ g)) h (w.dj ok (hl a lq) e)
theorem Wf.tick(w:Wf T S)(c:Int):Wf T {S with clk:=c}:=(w.wt,w.gd,w.fl,w.wl,w.en,w.st)
theorem Wf.turn(ok:kY T){f:Nat}{S S':HS}(h:xr T f S=some S')(w:Wf T S):Wf T S':=Wf.run ok _ _ _ (λi a=>qG.mp a) h (w.tick _)
theorem Wf.zero:Wf T (0,[],[],λ_=>ti):=(λm j a=>(by cases a),λm=>amf _,λm=>qj _,λm=>gx _,λe c=>(by cases c),λi _ h=>absurd rfl h)
theorem Wf.new(ok:kY T):Wf T (Hm.new T):=Wf.bz ok 10 0 _ ok.n0 Wf.zero
theorem Jg:∀(d i:Nat) (S:HS),(Hm.bz T d i S).ends=S.ends
 |0,_,_=>rfl
 |d+1,i,S=>by
  let c:∀(l:List Nat) (S:HS),(l.foldl (λS j=>Hm.bz T d j S) S).ends=S.ends:=λl=>by
   induction l with
   |nil=>exact λS=>rfl
   |cons a r e=>exact λS=>(e _).trans (Jg d a S)
  exact c _ _
theorem QB(ok:kY T){f:Nat}:∀(l:List Nat) (S S':HS),(∀i∈l,i<T.length)->l.foldlM (λS i=>Hm.dj T f i S) S=some S'->Wf T S->S.ends=[]->S'.ends=[]
 |[],S,S',_,h,_,e=>by
  simp_all
 |a::r,S,S',hl,h,w,e=>by
  rw[YP]at h;cases e1:Hm.dj T f a S with
  |none=>simp_all
  |some c=>
   rw[e1]at h;let g:=w.dj ok (hl a lq) e1
   let e2:=by
    rw[tE]at e1
    split at e1
    .rename_i hs
     exact(Wf.settle ok f _ _ e1 (w.eR (hl a lq) hs)).2
    lia
   exact QB ok r c S' (λi j=>hl i (mf _ j)) h g e2
theorem Vm(ok:kY T){f:Nat}{S S':HS}(h:xr T f S=some S')(w:Wf T S)(e:S.ends=[]):S'.ends=[]:=QB ok _ _ _ (λi a=>qG.mp a) h (w.tick _) e
end
end Hm
namespace L2
open PySem PySem.Spec PyProof.Rows
section
variable{prog:iU}{w:iP}{A:jg}{E:fy->fX->Prop}{s:fX}
def WI{T nu:String}{x:fy}{vs:List fy}{kw:List (Str×fy)}(h:typeLookup (.type T) "__init__"=pure (some (.builtin "object.__init__")))
  (i:Bind.madeBy (.type T)=pure (some nu)) (f:(some nu != some "object.__new__")=true):
  Meets (aol.«object.__init__» (x::vs,kw)) (λ_ R z=>z.TypeIs x T/\R (.ok (.ret .none)) z):=by
 refine Meets.of_wp λprog w A R z e=>?_;let(g,c):=e;cases vs with
 |nil=>
  cases kw with
  |nil=>exact pq (_,rfl,c)
  |cons k r=>
   repeat (any_goals (first|assumption|wp_step))
   exact(_,rfl,c)
 |cons a r=>
  repeat (any_goals (first|assumption|wp_step))
  exact(_,rfl,c)
def aaq{T nu:String}{n:aol}{vs:List fy}{kw:List (Str×fy)}{S:ajW}{Q:fy->fX->Prop}(a:TypeCalled T nu "object.__init__")
  (ne:(some nu != some "object.__new__")=true) (K:checkTypeCall T (vs,kw)=pure .unit) (v:checkBuiltinCall nu (.type T::vs,kw)=pure .unit)
  (ok:∀f,argsOk "object.__init__" (f::vs,kw)) (en:entryFor table nu=some n) (g:Meets (n (.type T::vs,kw)) S)
  (h:S A.in1 (wants (λf z=>z.TypeIs f T/\Q f z) E) s):wpAny (model prog w) A (call (.type T) vs kw) Q E s:=by
 let(c,tl,p):=a.mro;let j:=a.made;let q:=a.sub;let I:=a.notType;let J:=a.canCreate;refine an2 (codeAny_of_tree ?_);refine pq (Code.quiet_builtin _ (by decide +kernel),codeAny_builtin F.entry_type_call ?_);rw[Around.under_plain (weight_type_call_type T vs kw) (units_type_call_type T vs kw)]
 repeat (any_goals (first|assumption|wp_step))
 refine akD (alc a.plain en (wpAny_of_eq v (g prog w A.in1 _ s h))) λr z m=>?_;cases r with
 |error e=>exact m
 |ok C=>
  cases C with
  |ret f=>
   let(o,t):=m;let D:=a.init.lookup;let G:=a.init.bind f
   repeat (any_goals (first|assumption|wp_step))
   let B:=WI (x:=f) (vs:=vs) (kw:=kw) a.init.lookup a.made ne;refine akD (alc a.init.plain F.entry_object_init (a.init.check _ _ _ _ _ _ _ _ o (ok f) (B prog w A.in1 (wants (λr u=>r=.none/\Q f u) E) z (o,rfl,t)))) λH u i=>?_;cases H with
   |error e=>exact i
   |ok y=>
    cases y with
    |ret r=>
     let(rfl,t):=i
     repeat (any_goals (first|assumption|wp_step))
    |_=>exact i.elim
  |_=>exact m.elim
end
theorem Z0(k:Int)(t:Tok)(l:eF):checkTypeCall "enumerate" ([.ref l],[("start",.int k t)])=pure .unit/\checkBuiltinCall "enumerate.__new__" ([.type "enumerate",.ref l],[("start",.int k t)])=pure .unit:=(by kernel_rfl,by kernel_rfl)
def aau(k:Int)(t:Tok)(l:eF)(a:fy):argsOk "object.__init__" ([a,.ref l],[("start",.int k t)]):=by
 kernel_rfl
theorem zAl{prog:iU}{w:iP}{A:jg}{E:fy->fX->Prop}{s:fX}{α:Type}{Q:α->fX->Prop}{a:α}(h:∀b,Q b s):wpAny (model prog w) A (pure a) Q E s:=pq (h a)
theorem ab5(l:eF)(items:Array fy)(n:Nat)(f:Option eF)(j:Array (Option fy))(t:Tok):
  Meets (aol.«enumerate.__new__» ([.type "enumerate",.ref l],[("start",.int 1 t)])) (λ_ R z=>z.heap.get? l=some {cls:= .type "list",dict:=f,data:= .seq items n,slots:=j}∧
   R (.ok (.ret (.ref (z.heap.push {cls:= .type "list_iterator",data:= .fields #[.ref l,.int 0 0]}).objs.size)))
    {z with heap:=(z.heap.push {cls:= .type "list_iterator",data:= .fields #[.ref l,.int 0 0]}).push {cls:= .type "enumerate",data:= .fields #[.none,.bool false,.ref z.heap.objs.size,rawInt 1,.none,.none]}}):=
 .of_wp λprog w A R z h=>by
  let(m,g,d,tk,os):=z;let(a,h):=h;let i:=sub_enumerate;let e:Heap.IsList (Shared.heap (m,g,d,tk,os)) l items:=(_,a,rfl,n,rfl)
  wp_walk using aj1 a
  refine wpAny_stack_any λst=>zAl λb=>?_
  cases b<;>(wp_walk using aj1 a,ajV e;exact(_,rfl,h))
section
variable{prog:iU}{w:iP}{A:jg}{E:fy->fX->Prop}{s:fX}
def Sk{l:eF}{items:Array fy}{t:Tok}{Q:fy->fX->Prop}(m:s.heap.IsList l items)
  (h:∀g,IsEnum g (s.heap.objs.size+1) s.heap.objs.size 1 .none->g.IsListIter s.heap.objs.size l 0->g.objs.size=s.heap.objs.size+2→
   (∀b o,s.heap.get? b=some o->g.get? b=some o)->Q (.ref (s.heap.objs.size+1)) {s with heap:=g}):
  wpAny (model prog w) A (call (.type "enumerate") [.ref l] [("start",.int 1 t)]) Q E s:=by
 let((c,f,j,q),p,a,n,hd):=m
 subst a hd;refine aaq F.called_enumerate ∅ (Z0 1 t l).1 (Z0 1 t l).2 (aau 1 t l) F.entry_enumerate_new (ab5 l items n f q t) (p,?_);let e:(s.heap.push {cls:= .type "list_iterator",data:= .fields #[.ref l,.int 0 0]}).objs.size=s.heap.objs.size+1:=akh ..;rw[e]
 let i:=by
  let:=rX (s.heap.push {cls:= .type "list_iterator",data:= .fields #[.ref l,.int 0 0]})
   (o:={cls:= .type "enumerate",data:= .fields #[.none,.bool false,.ref s.heap.objs.size,rawInt 1,.none,.none]}) rfl
  rw[e]at this;exact this
 exact((_,i,rfl),h _ i (_,nr _ (rX _ rfl),rfl,rfl) (by rw[akh,e]) λb o x=>nr _ (nr _ x))
def RA{it l:eF}{items:Array fy}(k:Nat)(m:A.handled=none)(c:l≠it):
  Draws prog w A it [it,l] (k+items.size) (λi v=>items[i-k]? =some v) (λi h=>k<=i/\h.IsListIter it l (i-k)/\h.IsList l items):=by
 let D:=Draws.list (prog:=prog) (w:=w) m it l c items;refine(λi h st=>D.live _ h st.2,λi h h' st g=>(st.1,D.frame _ h h' st.2 g),λi z Q E n st j=>?_,λz Q E st f=>D.done z Q E (by let:=st.2;rwa [akQ]at this) f);refine D.item (i-k) z Q E (by lia) st.2 λx h' tk e a hs=>j x h' tk e (by lia,?_) hs;rwa[show i+1-k=i-k+1 by lia]
end
section
variable{X:Cx}{fw:List (eF×Obj)}{σ:St}{H:Hp}{s:fX}{h':h7}
def Inv.abZ{t':Nat}{a b:eF}(I:Inv X fw σ H s)(k:∀c o,c≠a->c≠b->s.heap.get? c=some o->h'.get? c=some o)(fa:kP X fw H a)(h:kP X fw H b):Inv X fw σ H {s with heap:=h',toks:=t'}:=by
 let i:∀c u,H c=some u->c≠a/\c≠b:=λc u e=>(λz=>(by rw[z,fa.1]at e;cases e),λz=>(by rw[z,h.1]at e;cases e));let g:∀c,c∉[a,b]->c≠a/\c≠b:=λc f=>(λz=>f (by simp[z]),λz=>f (by simp[z]))
 refine I.step (λc f=>?_) (λc o _ _ f e _=>k c o (g c f).1 (g c f).2 e) (λc o _ _ f e _=>(o.slots,k c o (g c f).1 (g c f).2 e)) (λ_ _ _ _ n=>n)
  (λc o f e=>(o,k c o (g c f).1 (g c f).2 e)) (λ_ _ e=>e) (λ_ _ _ e=>e) (λc ps e=>(#[],by rw[e];simp)) (λm t=>?_) (λc u e=>?_) I.bare
 .let(_,a1,_,a3,a4,a5):=fa;let(_,j,_,w,b4,p):=h;rcases oT.mp f with rfl|f
  .exact (a3,a1,a4,a5)
  .rw[l9.mp f];exact(w,j,b4,p)
 .let(o,es,ep,ho,r):=t;exact(o,es,ep,k _ o (Ne.symm fa.2.1) (Ne.symm h.2.1) ho,r)
 .let n:=i;refine(I.hok c u e).OI (λd v f q=>?_) (λ_ q=>q) λ_ _ q=>q;rcases f with z|z
  .rw[z];rw[z]at q;exact k c v (n c u e).1 (n c u e).2 q
  .exact k d v (n d _ z).1 (n d _ z).2 q
end
def Itn(K:gI)(a:eF)(k:Nat):It:=
 (λi H=>∃xs x,fT K H a xs/\xs[i]? =some x,λi H x H'=>∃q y,H q=none/\x=.ref q/\(∀xs,fT K H a xs->xs[i]? =some y)/\H'=upd H q (.tup [.int ((k+i:Nat):Int),y]),λi H=>∃xs,fT K H a xs/\xs.length<=i)
def U9{P:iU}{w:iP}{K:gI}{O:List hH}{c}{tp:Pos}(a e it:eF)(k:Nat)(M:e≠it):
  Turn P w K (.Tuple O c tp) (Itn K a k) [e,it] e (λi h=>(∃m,IsEnum h e it ((k+i:Nat):Int) m)/\h.IsListIter it a i) where
 mem:=by simp
 obj:=λi h st b j=>by
  rcases oT.mp j with rfl|j
  .let(m,q):=st.1;exact(_,q,λv z=>by cases z)
  .rw[l9.mp j];let(o,q,_,d):=st.2;exact(o,q,λv z=>by simp_all)
 keep:=λi h h' st kk=>(st.1.imp λm q=>kk e (by simp) _ q,st.2.at λo q=>kk it (by simp) o q)
 item:=by
  intro X r hw hK W i f s σ H E I S st hg;subst r hw hK;let(xs,x,U,Z):=hg;let(its,rv,p,hz):=I.list U;let(u,hu,ru):=rv.get Z;let((m,C),n):=st;let fe:=S e (by simp);let fi:=S it (by simp);let am:=(rx.mp hu).1
  let Q:a≠it:=λz=>by
   let(o,q,c1,_):=n;let(o2,J,G,_):=p.isList;lia
  let Y:e≠a:=λz=>by
   let(o2,J,G,_):=p.isList;rw[<- z]at J;let:=iJ (C.symm.trans J);rw[<- this]at G;exact absurd (amC G) ∅
  let D:=RA (prog:=X.prog) (w:=X.w) (A:=X.A.in1) (items:=its.toArray) k (I.ok.hd W) Q;refine wpAny_pyNext_enum_itemD D C ((),by rwa[akQ],p.isList) (by simp_all) M (by simp;exact(M,Y)) λy g tk r ho hs R hsz kk=>?_
  let ey:=by
   rw[akQ]at r;let ab:its.toArray[i]? =some u:=by simpa using hu
   rw[ab]at r;exact(iJ r).symm
  subst ey;refine(_,rfl,wpAny_letOwnedTupleGo_enum ho λg2 ak N=>?_);let L:=akC (lD C);let B:s.heap.objs.size≠it:=by let(_,q,_):=n;exact akC (lD q)
  let f0:=I.fresh
  let I1:Inv X f σ (upd H s.heap.objs.size (.tup [.int ((k+i:Nat)),x])) {s with heap:=s.heap.push {cls:= .type "tuple",data:= .seq #[.int ((k+i:Nat)) tk,y]},toks:=tk+1}:=
   I.laid (λb o q=>nr _ q) (gx _) (vC (aM (show 2<=1000 by decide)),[_,_],.cons (_,rfl) (.cons ru .nil),(_,rX _ rfl,rfl,_,rfl))
  let t:∀b,kP X f H b->b≠s.heap.objs.size->kP X f (upd H s.heap.objs.size (.tup [.int ((k+i:Nat)),x])) b:=λb fb j=>(by rw[ag j];exact fb.1,fb.2)
  let I2:=Inv.abZ (t':=tk+1) I1 (λb o h1 h2 q=>by
   by_cases j:b=s.heap.objs.size
   .subst j;let q':=rX s.heap (o:={cls:= .type "tuple",data:= .seq #[.int ((k+i:Nat)) tk,y]}) rfl;rw[q']at q;cases q;exact(N.2 _ h1).trans R
   .refine (N.2 _ h1).trans (kk b o h1 h2 ?_);exact(Heap.get?_push_ne _ _ _ j).symm.trans q) (t e fe (Ne.symm L)) (t it fi (Ne.symm B))
  refine(.ref s.heap.objs.size,_,I2,rfl,(_,x,f0,rfl,λys hy=>by rwa[I.xY hy U],rfl),((_,by simpa[Int.add_assoc] using ak),?_),λb j=>?_)
  .let:=hs.2.1;rw[show k+i+1-k=i+1 by lia]at this;exact this.at λo q=>(N.2 it (Ne.symm M)).trans q
  .rcases oT.mp j with rfl|j
   .exact (t _ fe (Ne.symm L)).1
   .rw[l9.mp j];exact(t _ fi (Ne.symm B)).1
 done:=by
  intro X r hw hK W i f s σ H E I S st hg;subst r hw hK;let(xs,U,Z):=hg;let(its,rv,p,hz):=I.list U;let((m,C),n):=st;let(f0,f1,f2,f3,f4,f5):=S it (by simp);let hl:=rv.length
  let R:s.TypeIs (.ref e) "enumerate":=(_,C,rfl);refine kb (wpAny_attempt (wpAny_callSpecial?_slot R amD
   (wpAny_call_entry amD R F.entry_enumerate_next ?_ (F.args_enumerate_next_1 _))))
  show wpAny _ _ (field (.ref e) 2 >>= _) _ _ _;refine kb (alx C rfl rfl ?_);refine kb (wpAny_nextOf_list_end (I.ok.hd W) n p.isList (Array.getElem?_eq_none (by simp;lia)) λg x al ac=>?_);let(o,ho,ad):=ac;refine kb (wpAny_isInstance (o,ho,ad) isSubtype_stop ?_);exact pq (rfl,I.turned (λb o j q=>al b o j q) f0 f1 f3 f4 f5)
 self:=λ_ _ _ _ _ st h=>by
  let((m,C),_):=st;exact anH C h
section
variable{X:Cx}{elts:List hH}{c}{tp:Pos}
def Ut{e:List (eF×Obj)}{h:St}{H:Hp}{s:fX}{R:It->Hp->Prop}{E:fy->fX->Prop}{a:eF}{g:h7}{k:Nat}(I:Inv X e h H s)(i:IsEnum g (s.heap.objs.size+1) s.heap.objs.size (k:Int) .none)(j:g.IsListIter s.heap.objs.size a 0)
  (kk:∀b o,s.heap.get? b=some o->g.get? b=some o) (q:R (Itn X.K a k) H):wpAny (model X.prog X.w) X.A (pyIter (.ref (s.heap.objs.size+1))) (PIE X e h (.Tuple elts c tp) R) E {s with heap:=g}:=by
 refine anH i ?_;refine(s.heap.objs.size+1,[s.heap.objs.size+1,s.heap.objs.size],_,_,H,rfl,I.kept kk,U9 a _ _ k (Nat.succ_ne_self _),((_,i),j),λb f=>?_,q);rcases oT.mp f with rfl|f
 .exact I.QV (LM _) (I.hok.fresh (LM _))
 .rw[l9.mp f];exact I.QV (gx _) (I.hok.fresh (gx _))
def ads(K:gI)(k:Nat)(f:TA):TI:=λg H R=>f g H λvs e=>∃a,vs=[.ref a]/\(∃xs,fT K e a xs)/\R (Itn K a k) e
def acn{l:hH}{j:TA}{p f:Pos}(x:Gl X "enumerate")(y:X.mg "enumerate"=none)(w:PA X [l] j)(hs:autoParam (starEach [l] X.env=[(false,eval l X.env)]) L2.aE._auto_1):
  PI X (.Tuple elts c tp) (.Call (.Name "enumerate" p) [l] [] f) (ads X.K 0 j):=by
 intro i s E H R I h;refine Call_ (xy I x y aoo (ai9 (w.th I h λus C vs A m n u=>?_) hs rfl));let(a,e,(xs,t),q):=u;subst e;cases n with
 |cons r v=>
  cases v;cases r;let(its,B,pl,D):=m.list t;exact call_enumerate_list pl.isList λg z o hsz kk=>Ut m z o kk q
def XZ{M:Al}{A:jg}{E:fy->fX->Prop}{s:fX}{f:Pos}{T:String}{vs:List (Bool×Sem fy)}{e:List (Option Str×Sem fy)}{Q:fy->fX->Prop}(i:vs.any (·.1)=false)(m:e.any (·.1.isNone)=false)
  (h:wpAny M A (evalArgs (.type T) true vs e) (λa z=>wpAny M A (call (.type T) a.pos a.kw) Q E z) E s):wpAny M A (callWith f (.type T) [] vs e) Q E s:=by
 refine kb (akW (tM h (λa z g=>kb (alG ?_)) λ_ _ x=>x));simp only[i,m];refine kb (pq (kb (tM g (λr n j=>?_) λ_ _ x=>x)));exact kb (akW (wpAny_point (pq j)))
def Yo{l:hH}{n:TA}{p f t u:Pos}{m}(A:Gl X "enumerate")(E:X.mg "enumerate"=none)(y:PA X [l] n)(hs:autoParam (starEach [l] X.env=[(false,eval l X.env)]) L2.aE._auto_1):
  PI X (.Tuple elts c tp) (.Call (.Name "enumerate" p) [l] [(some "start",.Constant (.int 1) m u,t)] f) (ads X.K 1 n):=by
 intro i s z H R I h;refine kb (xy I A E aoo (XZ (by rw[hs];rfl) rfl ?_));rw[show backTo f (starEach [l] X.env)=(false,eval l X.env)::backTo f [] by rw[hs];rfl];refine evalArgs_kwB rfl ?_;let o:=y f i s z H _ I h;rw[show backTo f (starEach [l] X.env)=(false,eval l X.env)::backTo f [] by rw[hs];rfl]at o;refine k9 o λus j (vs,G,v,w,D)=>kws_cons ?_;let(a,e,(xs,C),q):=D;subst e;cases w with
 |cons r x=>
  cases x;cases r;refine am5 (kws_nil ?_);let(its,L,pl,J):=(v.tok (j.toks+1)).list C;exact Sk pl.isList λg F B hsz kk=>Ut (v.tok (j.toks+1)) F B kk q
def Itd(n:Nat):It:=(λi _=>i<n,λi H x H'=>H'=H/\x=.int ((n:Int)-1-i),λi _=>n<=i)
def VX{P:iU}{w:iP}{K:gI}{L:hH}(it:eF)(n:Nat):Turn P w K L (Itd n) [it] it (λi h=>amh h it (((n:Int)-1)+(i:Nat)*(-1)) ((n:Int)-(i:Nat)) (-1)) where
 mem:=by simp
 obj:=λi h st b f=>by
  rw[l9.mp f]
  exact(_,st,λv z=>by
   let O:aoM _=Data.cell v:=z;cases O)
 keep:=λi h h' st k=>k it (by simp) _ st
 item:=by
  intro X q C u p i a s F H E I m st B;subst q C u;let(x,D,G,r,A,y):=m it (by simp);let W:=aoN (prog:=X.prog) (w:=X.w) (I.ok.hd p) it ((n:Int)-1) (-1) n;refine W.item i s _ _ B st λv g tk J j kk=>?_;let(t,rfl):=J;let N:Inv X a F H {s with heap:=g,toks:=tk}:=I.turned (λb o f e=>kk b o (by simpa using f) e) x D r A y;refine(_,rfl,Uc (s:={s with heap:=g,toks:=tk}) (n:="range_iterator") j rfl rfl ∅ (.int ((n:Int)-1-i),H,N,(t,?_),(rfl,rfl),j,λb f=>(m b f).1));rw[show (n:Int)-1+(i:Int)* -1=(n:Int)-1-i by lia]
 done:=by
  intro X q C u p i a s F H E I m st B;subst q C u;let(x,D,G,r,A,y):=m it (by simp);exact ami (I.ok.hd p) st (by let:n<=i:=B;lia) λg M=>(rfl,I.turned (t':=s.toks) (λb o f e=>M b o f e) x D r A y)
 self:=λ_ _ _ _ _ st h=>amj st h
def ags(a:TA):TI:=λf H R=>a f H λvs e=>∃n:Nat,vs=[.int ((n:Int)-1),.int (-1),.int (-1)]/\n<=1000000/\R (Itd n) e
def acH{A a b c:hH}{x:TA}{p u:Pos}(E:Gl X "range")(J:X.mg "range"=none)(B:PA X [a,b,c] x)(hs:autoParam (starEach [a,b,c] X.env=[(false,eval a X.env),(false,eval b X.env),(false,eval c X.env)]) L2.aE._auto_1)(i:autoParam (starEach [b,c] X.env=[(false,eval b X.env),(false,eval c X.env)]) L2.aE._auto_1):
  PI X A (.Call (.Name "range" p) [a,b,c] [] u) (ags x):=by
 intro j s C H R I h;refine Call_ (xy I E J an1 (ai9 (B.th I h λus f vs w K m G=>?_) (by rw[hs,i]) (by rw[i];rfl)));let(n,e,M,q):=G;subst e;cases m with
 |cons m g=>
  cases g with
  |cons F g=>
   cases g with
   |cons z g=>
    cases g;let(t1,rfl):=m;let(r,rfl):=F;let(t,rfl):=z
    let sz:aj4 (n-1) (-1) (-1)=n:=by
     unfold aj4;rw[fC ∅];by_cases D:n=0
     .subst D
      rfl
     .rw[fR ()];lia
    refine call_range_3 ∅ ?_ (.inl (amk ()))
    let L:am1 (n-1) (-1) (-1)=true:=by
     unfold am1;rw[sz,fC (show ¬(-1) > 0 by decide)];simp only[Builtin.Range.rangeFitsLong,mu,Nw,decide_eq_true_eq,xc]
     lia
    refine am6 (aoO ..) L ?_;let v:Inv X j C w {f with heap:=f.heap.push {cls:= .type "range",data:= .fields #[.int (n-1) t1,.int (-1) r,.int (-1) t]},toks:=f.toks}:=K.kept λb o e=>nr _ e;refine(_,[(f.heap.push {cls:= .type "range",data:= .fields #[.int (n-1) t1,.int (-1) r,.int (-1) t]}).objs.size],_,_,w,rfl,v.kept λb o e=>nr _ e,VX _ n,?_,λb y=>?_,q)
    .rw[show n-1+((0:Nat))* -1=(n:Int)-1 by lia];let:=rX (f.heap.push {cls:= .type "range",data:= .fields #[.int (n-1) t1,.int (-1) r,.int (-1) t]}) (o:={cls:= .type "range_iterator",data:= .fields #[rawInt (n-1),rawInt (aj4 (n-1) (-1) (-1)),rawInt (-1)]}) rfl;rw[sz]at this;rwa[sz]
    .rw[l9.mp y];exact v.QV (gx _) (v.hok.fresh (gx _))
end
section
variable{X:Cx}{k:Nat}{cm:Bool}{C:eF}{sp:Sp}{mx:List V}{E:St->XK}{x:Str}{p pos:Pos}
def ab4(c:C0 X.prog X.w X.K X.mg X.eC cm k x C sp mx)(i:eT cm (k+1) X.A)(g:Gl X x)(e:Passes (gf X.prog X.w) X E)(a:autoParam ((x==("__debug__":Str))=false) L2.adP._auto_2):
  PE X (.Call (.Name x p) [] [] pos) (UX C sp mx E Vg):=by
 let(f,fd,ps,ds,M,F,j,h,hd):=c;exact X0 M F i g j h hd e a
end
def NG{X:Cx}{K0:gI}{e:hH}{f:Str}{a:Pos}{c:TE}(h:X.K=K0)(g:PE X e c)(i:attributeBase e f X.env (eval e X.env)=eval e X.env):PE X (.Attribute e f a) (af4 K0 c f):=by
 subst h;exact av g i
def p9{J:It}{n:Nat}{g:TG}{q:TS}{D:Ends}{a:St}{H:Hp}(c:Nat->St->Hp->Prop)(t:c 0 a H)(r:∀i a H,i<n->c i a H->J.go i H)
  (hs:∀i a H x H',i<n->c i a H->J.yld i H x H'->g x a H' λe j=>q {D with nx:=c (i+1),ct:=c (i+1),bk:=D.nx} e j) (hd:∀a H,c n a H->J.stop n H/\D.nx a H):
  ∃W:Nat->Nat->St->Hp->Prop,(∃m,W 0 m a H)/\∀i m a H,W i m a H→
   (J.stop i H/\D.nx a H)\/(J.go i H/\∃N:St->Hp->Prop,(∀h H',N h H'->∃o,o<m/\W (i+1) o h H')/\∀x H',J.yld i H x H'->g x a H' λe j=>q {D with nx:=N,ct:=N,bk:=D.nx} e j):=by
 refine(λi m a H=>m=n-i/\i<=n/\c i a H,(n,rfl,qj _,t),?_);rintro i m a H ⟨rfl,u,p⟩;by_cases f:i<n
 .exact .inr (r i a H f p,c (i+1),λh H' s=>(n-(i+1),(),rfl,f,s),λx H' y=>hs i a H x H' f p y)
 .obtain rfl:i=n:=by lia
  exact .inl (hd a H p)
def aep:bootBuiltins "sum"=some (.builtin "sum"):=by decide +kernel
def int_at{ns:List Int}{its:List fy}{i:Nat}{v:fy}(r:Vals (ns.map V.int) its)(e:its[i]? =some v):∃t,v=.int (ns.getD i 0) t:=by
 let g:=r.length
 let h:i<ns.length:=by
  let:=(rx.mp e).1;rw[gQ]at g
  lia
 let f:=hY h;let(u,c,a):=r.get (show(ns.map V.int)[i]? =some (V.int ns[i]) by rw[i6,f];rfl);rw[e]at c;cases c;let(t,a):=a;refine(t,?_);rw[a,ot,f]
 rfl
theorem rA(ns:List Int):∀k,k<=ns.length->preSum (λi=>ns.getD i 0) k=(ns.take k).sum
 |0,_=>rfl
 |k+1,h=>by
  let a:=rA ns k ();show preSum (λi=>ns.getD i 0) k+ns.getD k 0=_;rw[a,AD,alg,ot,hY ()];simp
def FQ{ns:List Int}(h:∀n∈ns,0<=n)(k:Nat):0<=(ns.take k).sum/\(ns.take k).sum<=ns.sum:=by
 let f:∀l:List Int,(∀n∈l,0<=n)->0<=l.sum:=λl e=>by
  induction l with
  |nil=>exact akv _
  |cons a r j=>
   rw[alM];let g:=e a lq;let i:=j λn c=>e n (mf _ c)
   lia
 let g:=f (ns.take k) λn c=>h n (alh c);let i:=f (ns.drop k) λn c=>h n (List.mem_of_mem_drop c);let m:ns.sum=(ns.take k).sum+(ns.drop k).sum:=by rw[<- alg,ak6]
 lia
section
variable{X:Cx}
def X3(y:X.calm=true):wA X (.builtin "sum") (λxs H Q=>∃(p:eF) (ns:List Int),xs=[.ref p]/\fT X.K H p (ns.map V.int)/\(∀n∈ns,0<=n)/\ns.sum<2^63/\Q (.int ns.sum) H):=by
 intro x s O H xs us Q I r h;let(p,ns,rfl,D,g,G,q):=h;let(u,rfl,E):=vals1 r;cases E;let(its,w,B,N):=I.list D;let t:=B.isList;let c:p<s.heap.objs.size:=by let(_,e,_):=t;exact lD e
 let a:its.length=ns.length:=by let:=w.length;rw[gQ]at this;lia
 refine call_sum_walk (ajV t ?_)
 refine(s.heap.objs.size,[s.heap.objs.size,p],[s.heap.objs.size],its.toArray.size,_,_,λi=>ns.getD i 0,rfl,aoT (A:=X.A.in1) (I.ok.hd y) _ p (me c) its.toArray,
  ((_,rX _ rfl,rfl,rfl),t.push _),λb f=>?_,λi v z=>int_at w (by simpa using z),λj m=>?_,λh' tk t' F=>?_)
 .rw[akh];rcases oT.mp f with rfl|f
  .exact Ji _
  .rw[l9.mp f];exact anD c
 .let m:j<ns.length:=by
   simp_all
  let J:=FQ g j;let C:=FQ g (j+1);rw[<- rA ns (j+1) ()]at C;rw[<- rA ns j ()]at J;let M:preSum (λi=>ns.getD i 0) (j+1)=preSum (λi=>ns.getD i 0) j+ns.getD j 0:=rfl;exact((by lia,by lia),((),()))
 .rw[js,a,rA ns _ (gx _),zN];refine(.int ns.sum,H,I.kept λb o e=>F b o (λL=>?_) (nr _ e),(_,rfl),q);rw[l9.mp L]at e;exact Mo _ (lD e)
def B3:T1 X "int.bit_length" (λx vs H Q=>∃i:Int,x=.int i/\vs=[]/\Q (.int (aky i:Nat)) H):=by
 intro a s f H x vs v us Q I c e h;let(i,rfl,rfl,q):=h;let(t,rfl):=c;cases e;exact call_int_bit_length (.int _,H,I.tok _,(_,rfl),q)
end
section
variable{X:Cx}{k:Nat}{cm:Bool}{sp:Sp}{mx:List V}{x m:Str}{p pos apos:Pos}{e o a b i:hH}{es:List hH}{t:TA}{ta tb te td ty:TE}{C:eF}{CX:wH}
theorem cn(c:iX X.je.prog X.je.w X.je.K X.je.mg X.je.eC cm k x sp mx)(n:PA X.je (e::es) t)(q:eT cm k X.je.A:=by exact eT.mono (by assumption) ())(j:autoParam (Gl X.je x) L2.aE._auto_1)
  (f:(x==("__debug__":Str))=false:=by decide) (h:starEach (e::es) X.je.env=(false,eval e X.je.env)::starEach es X.je.env:=by rfl) (g:(backTo pos (starEach es X.je.env)).any (·.1)=false:=by rfl):
  PE X.je (.Call (.Name x p) (e::es) [] pos) (Pn sp mx XNo t):=Iv c q j cI n f h g
theorem lS{Dt:eF->Sp->List V->Prop}{pl:Sem Bool}(q:PE X.je o ta)(r:∀C sp mx,Dt C sp mx->MethAt X.je.prog X.je.w X.je.K X.je.mg X.je.eC (gf X.je.prog X.je.w) cm k m C sp mx)(s:PA X.je (e::es) t)(n:autoParam (eT cm k X.je.A) L2.cn._auto_1)
  (c:starEach (e::es) X.je.env=(false,eval e X.je.env)::starEach es X.je.env:=by rfl) (g:(backTo pos (starEach es X.je.env)).any (·.1)=false:=by rfl)
  (j:eval (.Call (.Attribute o m apos) (e::es) [] pos) X.je.env=(do
   let h<-eval o X.je.env
   standAt apos.atName
   let (f,first)<-holding [h] (getMethod h m pl)
   callWith pos f first (backTo pos (starEach (e::es) X.je.env)) (backToKw pos (keywordEach [] X.je.env))):=by rfl):
  PE X.je (.Call (.Attribute o m apos) (e::es) [] pos) (Nf Dt m XNo ta t):=xF q r n cI s c g j
theorem kU{Dt:eF->Sp->List V->Prop}{pl:Sem Bool}(n:PE X.je o ta)(h:∀C sp mx,Dt C sp mx->MethAt X.je.prog X.je.w X.je.K X.je.mg X.je.eC (gf X.je.prog X.je.w) cm k m C sp mx)(j:autoParam (eT cm k X.je.A) L2.cn._auto_1)
  (g:eval (.Call (.Attribute o m apos) [] [] pos) X.je.env=(do
   let c<-eval o X.je.env
   standAt apos.atName
   let (f,first)<-holding [c] (getMethod c m pl)
   callWith pos f first (backTo pos (starEach [] X.je.env)) (backToKw pos (keywordEach [] X.je.env))):=by rfl):
  PE X.je (.Call (.Attribute o m apos) [] [] pos) (Nf Dt m XNo ta Vg):=jJ n h j cI g
theorem bH{i:Nat}{c:Pos}(h:X.N.Nodup)(g:PE X e te)(n:autoParam (X.N[i]? =some x) L2.aE._auto_1)(f:Loc X.env.scope x:=by first|exact aoC rfl|exact aob rfl)(hs:autoParam (swapsWith e (some (.Name x c)) pos.line X.env=pure false) L2.aE._auto_1)(j:autoParam (X.fn x=true\/X.env.scope.names.lookup x=some .local) L2.c9._auto_1):
  PS X (.Assign [.Name x c] e pos) (acd te (AI i)):=ad2 h n f g hs j
theorem ig{r:R2}(g:IxR X r)(c:PE X a ta)(f:PE X b tb)(hs:U6 b:=by exact λ_ _=>rfl):PE X (.Subscript a b pos) (Yn r ta tb):=agd g c f hs
theorem mX(f:PE X o td)(g:PE X i ty)(c:X.A.units+1<cLine:=by exact pI (by assumption))(hs:autoParam (ad5 i) L2.ig._auto_1):PE X (.Subscript o i pos) (ac0 td ty):=rE c f g hs
theorem vV{c:NB}{r:R2}(f:mn X (compareOp c) r)(h:PE X a ta)(g:PE X b tb)(j:behindInMarks c b=false:=by first|exact BP _|with_unfolding_all rfl):PE X (.Compare a [c] [b] pos) (Yn r ta tb):=TH f h g j
theorem ix{c:NB}{r:R2}(f:mn X (compareOp c) r)(h:PE X a ta)(g:PE X b tb)(j:autoParam (behindInMarks c b=false) L2.vV._auto_1):PT X (.Compare a [c] [b] pos) (ac6 (Yn r ta tb)):=zF f h g j
end
section
variable{s1 s2 s3 rest t u:TS}{c:TT}{D:Ends}{σ:St}{H:Hp}
theorem Jc(M:St->Hp->Prop)(e:∀N:St->Hp->Prop,(∀a H',M a H'->N a H')->s1 {D with nx:=λσ H=>s2 {D with nx:=N} σ H} σ H)(f:∀a H',M a H'->rest D a H'):wM s1 (wM s2 rest) D σ H:=e _ f
theorem Kd(M:St->Hp->Prop)(e:∀N:St->Hp->Prop,(∀a H',M a H'->N a H')->s1 {D with nx:=λσ H=>s2 {D with nx:=λσ H=>s3 {D with nx:=N} σ H} σ H} σ H)(f:∀a H',M a H'->rest D a H'):wM s1 (wM s2 (wM s3 rest)) D σ H:=e _ f
theorem aeA(b:Bool)(a:∀N:Bool->Hp->Prop,N b H->c σ H N)(e:if b=true then t D σ H else u D σ H):agM c t u D σ H:=a _ e
end
end L2
local macro_rules|`(tactic|erw[$e:term])=>`(tactic|refine $e)
namespace Hr
open PySem L2 Shp Tr Hs Hm
abbrev mq:=Hp->eF->Re->FS->Prop
structure HC where
 cH:eF
 cL:eF
 cM:eF
structure Lo where
 x:eF
 dx:eF
 en:eF
 qu:eF
 sa:eF
 t:eF
 nd:Nat->eF
 dn:Nat->eF
 mi:Nat->eF
 ch:Nat->eF
structure Dy where
 fa:Nat->eF
 wa:Nat->eF
 bk:List eF
 qs:List eF
inductive Lb
 |hs
 |en
 |qu
 |nd (i:Nat)
 |fa (i:Nat)
 |wa (i:Nat)
def Lb.at(L:Lo)(D:Dy):Lb->eF
 |.hs=>L.x
 |.en=>L.en
 |.qu=>L.qu
 |.nd i=>L.nd i
 |.fa i=>D.fa i
 |.wa i=>D.wa i
def vl(T:Re):Lb->Prop
 |.nd i=>i<T.length
 |.fa i=>i<T.length/\f7 T i=false
 |.wa i=>i<T.length/\f7 T i=false
 |_=>True
def CU(L:Lo)(S:HS):List (Str×V):=[("tree",.ref L.t),("clock",.int S.clk),("entries",.ref L.en),("ends",.ref L.qu),("standings",.ref L.sa)]
def vt(T:Re)(L:Lo)(i:Nat):V:=match par T i with
 |none=>.non
 |some m=>.ref (L.nd m)
def m8(T:Re)(L:Lo)(d:Nd)(i:Nat):List (Str×V):=[("child",.ref (L.ch i)),("state",.str d.st),("asked",.bl d.asked),("minder",vt T L i),("place",.int ((gm T i:Nat):Int)),("minded",.ref (L.mi i))]
def fsL(d:Nd):List (Str×V):=[("begun_at",.int d.beg),("steps",.int d.steps),("needed",.int d.need),("granted",.int d.kG)]
def pw(fa wa:eF)(d:Nd):List (Str×V):=[("falls",.ref fa),("good",.int ((d.good:Nat):Int)),("waiting",.ref wa),("leaving",.int ((d.bF:Nat):Int)),("coming",.int ((d.com:Nat):Int)),("gave_up",.bl d.BC)]
def k7(T:Re)(L:Lo)(D:Dy)(d:Nd)(i:Nat):List (Str×V):=m8 T L d i++if f7 T i then fsL d else pw (D.fa i) (D.wa i) d
def bI(C:HC)(T:Re)(i:Nat):eF:=if f7 T i then C.cL else C.cM
def cont(C:HC)(T:Re)(L:Lo)(D:Dy)(S:HS):Lb->HO
 |.hs=>.ins C.cH L.dx (CU L S)
 |.en=>.lst (D.bk.map V.ref)
 |.qu=>.lst (D.qs.map V.ref)
 |.nd i=>.ins (bI C T i) (L.dn i) (k7 T L D (S i) i)
 |.fa i=>.lst ((S i).aA.map V.int)
 |.wa i=>.lst ((S i).wait.map λj=>V.ref (L.nd j))
def ZM(L:Lo)(e:Nat×Str):List V:=[.ref (L.nd e.1),.str e.2]
structure Rp(R:Rep)(TR:mq)(C:HC)(T:Re)(L:Lo)(FT:FS)(D:Dy)(S:HS)(H:Hp):Prop where
 cells:∀l,vl T l->H (l.at L D)=some (cont C T L D S l)
 inj:∀l l',vl T l->vl T l'->l.at L D=l'.at L D->l=l'
 sa:H L.sa=some (.lst ((hD T.length).map λi=>V.ref (L.nd i)))
 mi:∀i,i<T.length->H (L.mi i)=some (.lst ((kids T i).map λj=>V.ref (L.nd j)))
 ch:∀i,i<T.length->∃o,H (L.ch i)=some o/\∀H':Hp,H' (L.ch i)=some o->R H' (L.ch i) (sh T i)
 tr:TR H L.t T FT
 own:∀b,FT b->H b≠none
 bkl:D.bk.length=S.book.length
 bk:∀(k:Nat) (a:eF) (e:Ent),D.bk[k]? =some a->S.book[k]? =some e->H a=some (.tup (Rt e))
 qsl:D.qs.length=S.ends.length
 qs:∀(k:Nat) (a:eF) (e:Nat×Str),D.qs[k]? =some a->S.ends[k]? =some e->H a=some (.tup (ZM L e))
 nt:∀l,vl T l->l.at L D≠L.sa/\(∀i,i<T.length->l.at L D≠L.mi i/\l.at L D≠L.ch i)/\¬FT (l.at L D)
section
variable{R:Rep}{TR:mq}{C:HC}{T:Re}{L:Lo}{FT:FS}{D D':Dy}{S S':HS}{H H':Hp}
def jA(TR:mq):Prop:=∀(H H':Hp) (t:eF) (T:Re) (FT:FS),(∀b o,FT b->H b=some o->H' b=some o)->TR H t T FT->TR H' t T FT
def Zb(l:Lb)(xs:List V):cont C T L D S l≠ .tup xs:=by
 cases l<;>erw[λz=>by cases z]
theorem Rp.Mn(h:Rp R TR C T L FT D S H){a:eF}{xs:List V}(e:H a=some (.tup xs)):∀l,vl T l->a≠l.at L D:=λl c z=>by
 rw[z,h.cells l c]at e;erw[Zb l xs (iJ e)]
def Rp.next(n:jA TR)(h:Rp R TR C T L FT D S H)(q:∀l,vl T l->H' (l.at L D')=some (cont C T L D' S' l))(g:∀b o,(∀l,vl T l->b≠l.at L D)->H b=some o->H' b=some o)
  (p:∀l,vl T l->l.at L D'=l.at L D\/H (l.at L D')=none) (r:∀l l',vl T l->vl T l'->H (l.at L D')=none->H (l'.at L D')=none->l.at L D'=l'.at L D'->l=l') (t:D'.bk.length=S'.book.length) (b2:∀(k:Nat) (a:eF) (e:Ent),D'.bk[k]? =some a->S'.book[k]? =some e->H' a=some (.tup (Rt e)))
  (u:D'.qs.length=S'.ends.length) (s:∀(k:Nat) (a:eF) (e:Nat×Str),D'.qs[k]? =some a->S'.ends[k]? =some e->H' a=some (.tup (ZM L e))):Rp R TR C T L FT D' S' H':=by
 erw[(q,λl l' v m e=>?_,?_,λi c=>?_,λi c=>?_,?_,λb j=>?_,t,b2,u,s,λl v=>?_)]
 .rcases p l v with z|z<;>rcases p l' m with f|f
  .exact h.inj l l' v m (by rw[<- z,<-f,e])
  .rw[<- e,z,h.cells l v]at f;cases f
  .rw[e,f,h.cells l' m]at z;cases z
  .exact r l l' v m z f e
 .exact g _ _ (λl v z=>(h.nt l v).1 z.symm) h.sa
 .exact g _ _ (λl v z=>((h.nt l v).2.1 i c).1 z.symm) (h.mi i c)
 .let(o,e1,e2):=h.ch i c;exact(o,g _ _ (λl v z=>((h.nt l v).2.1 i c).2 z.symm) e1,e2)
 .exact n H H' _ _ _ (λb o j e=>g b o (λl v z=>(h.nt l v).2.2 (z ▸ j)) e) h.tr
 .cases e:H b with
  |none=>erw[absurd e (h.own b j)]
  |some o=>rw[g b o (λl v z=>(h.nt l v).2.2 (z ▸ j)) e];simp
 .rcases p l v with z|z
  .rw[z];erw[h.nt l v]
  .refine (λy=>?_,λi c=>(λy=>?_,λy=>?_),λy=>h.own _ y z)
   .rw[y,h.sa]at z;cases z
   .rw[y,h.mi i c]at z;cases z
   .let(o,e1,_):=h.ch i c;rw[y,e1]at z;cases z
structure Goes0(R:Rep)(TR:mq)(C:HC)(T:Re)(L:Lo)(FT:FS)(D:Dy)(H:Hp)(D':Dy)(S':HS)(H':Hp):Prop where
 rp:Rp R TR C T L FT D' S' H'
 kp:∀b o,(∀l,vl T l->b≠l.at L D)->H b=some o->H' b=some o
 fr:∀l,vl T l->l.at L D'=l.at L D\/H (l.at L D')=none
 al:∀b,H' b=none->H b=none
structure Goes(R:Rep)(TR:mq)(C:HC)(T:Re)(L:Lo)(FT:FS)(D:Dy)(H:Hp)(D':Dy)(S':HS)(H':Hp):Prop extends Goes0 R TR C T L FT D H D' S' H' where
 fb:∀a,a∈D'.bk->a∈D.bk\/H a=none
theorem Goes.refl(h:Rp R TR C T L FT D S H):Goes R TR C T L FT D H D S H:=((h,λ_ _ _ e=>e,λ_ _=>.inl rfl,λ_ e=>e),λ_ e=>.inl e)
def Goes0.trans{h:Dy}{c:HS}{i:Hp}(g:Goes0 R TR C T L FT D H D' S' H')(a:Goes0 R TR C T L FT D' H' h c i):Goes0 R TR C T L FT D H h c i:=by
 erw[(a.rp,λb o f e=>a.kp b o (λl v z=>?_) (g.kp b o f e),λl v=>?_,λb e=>g.al b (a.al b e))]
 .rcases g.fr l v with y|y
  .exact f l v (by rw[z,y])
  simp_all
 .rcases a.fr l v with y|y
  .rcases g.fr l v with w|w
   .exact .inl (by rw[y,w])
   .exact .inr (by rwa[y])
  .exact .inr (g.al _ y)
theorem Goes.trans{c:Dy}{f:HS}{e:Hp}(g:Goes R TR C T L FT D H D' S' H')(i:Goes R TR C T L FT D' H' c f e):Goes R TR C T L FT D H c f e:=
 (g.toGoes0.trans i.toGoes0,λa h=>(i.fb a h).elim (g.fb a) λz=>.inr (g.al a z))
theorem Rp.same(c:jA TR)(h:Rp R TR C T L FT D S H)(e:aH H H'):Rp R TR C T L FT D S H':=
 h.next c (λl v=>e _ _ (h.cells l v)) (λb o _ z=>e _ _ z) (λ_ _=>.inl rfl) (λl l' v f z _ _=>by rw[h.cells l v]at z;cases z) h.bkl (λk a x e1 e2=>e _ _ (h.bk k a x e1 e2)) h.qsl (λk a x e1 e2=>e _ _ (h.qs k a x e1 e2))
theorem Goes0.same(a:jA TR)(h:Rp R TR C T L FT D S H)(e:aH H H'):Goes0 R TR C T L FT D H D S H':=(h.same a e,λb o _ z=>e _ _ z,λ_ _=>.inl rfl,λb z=>by
 cases y:H b with
 |none=>rfl
 |some o=>rw[e _ _ y]at z;cases z)
theorem Goes.same(a:jA TR)(h:Rp R TR C T L FT D S H)(e:aH H H'):Goes R TR C T L FT D H D S H':=(Goes0.same a h e,λ_ z=>.inl z)
def Rp.set(g:jA TR)(h:Rp R TR C T L FT D S H){l:Lb}(i:vl T l)(c:∀l':Lb,l'.at L D'=l'.at L D)(m:∀l',vl T l'->l'≠l->cont C T L D' S' l'=cont C T L D S l')
  (q:D'.bk.length=S'.book.length) (b2:∀(k:Nat) (a:eF) (e:Ent),D'.bk[k]? =some a->S'.book[k]? =some e->H a=some (.tup (Rt e)))
  (s:D'.qs.length=S'.ends.length) (j:∀(k:Nat) (a:eF) (e:Nat×Str),D'.qs[k]? =some a->S'.ends[k]? =some e->H a=some (.tup (ZM L e))):
  Goes0 R TR C T L FT D H D' S' (upd H (l.at L D) (cont C T L D' S' l)):=by
 let f:∀b o,(∀l',vl T l'->b≠l'.at L D)->H b=some o->(upd H (l.at L D) (cont C T L D' S' l)) b=some o:=λb o n e=>by rwa[ag (n l i)]
 let fr:∀l',vl T l'->l'.at L D'=l'.at L D\/H (l'.at L D')=none:=λl' _=>.inl (c l');erw[(h.next g (λl' v=>?_) f fr (λr u p t z _ _=>by rw[c,h.cells r p]at z;cases z) q (λk a x e1 e2=>f _ _ (h.Mn (b2 k a x e1 e2)) (b2 k a x e1 e2)) s (λk a x e1 e2=>f _ _ (h.Mn (j k a x e1 e2)) (j k a x e1 e2)),f,fr,λb z=>?_)]
 .rw[c];by_cases e:l'.at L D=l.at L D
  .let:=h.inj l' l v i e;subst this;erw[ae]
  .rw[ag e,h.cells l' v,m l' v (λz=>e (by rw[z]))]
 .by_cases e:b=l.at L D
  .rw[e,ae]at z;cases z
  .rw[ag e]at z;erw[z]
def Rp.node(a:jA TR)(h:Rp R TR C T L FT D S H){i:Nat}(c:i<T.length)(g:Nd->Nd)(m:(g (S i)).aA=(S i).aA)(f:(g (S i)).wait=(S i).wait):
  Goes R TR C T L FT D H D (up S i g) (upd H (L.nd i) (.ins (bI C T i) (L.dn i) (k7 T L D (g (S i)) i))):=by
 let:=h.set a (l:= .nd i) (S':=up S i g) c (λ_=>rfl) (λl' v ne=>?_) h.bkl h.bk h.qsl h.qs
 .let e:cont C T L D (up S i g) (.nd i)=.ins (bI C T i) (L.dn i) (k7 T L D (g (S i)) i):=by
   show HO.ins _ _ (k7 T L D ((up S i g).nd i) i)=_;rw[aw]
  rw[e]at this;exact(this,λ_ z=>.inl z)
 .cases l' with
  |hs=>rfl
  |en=>rfl
  |qu=>rfl
  |nd j=>
   let:j≠i:=λz=>ne (by rw[z]);show HO.ins _ _ (k7 T L D ((up S i g).nd j) j)=_;rw[bu g this]
   rfl
  |fa j=>
   show HO.lst (((up S i g).nd j).aA.map V.int)=_;by_cases e:j=i
   .subst e;rw[aw,m]
    rfl
   .rw[bu g e]
    rfl
  |wa j=>
   show HO.lst (((up S i g).nd j).wait.map _)=_;by_cases e:j=i
   .subst e;rw[aw,f]
    rfl
   .rw[bu g e]
    rfl
def Rp.ae2(c:jA TR)(h:Rp R TR C T L FT D S H){q:eF}{e:Ent}(g:H q=some (.tup (Rt e))):
  Goes0 R TR C T L FT D H {D with bk:=D.bk++[q]} {S with book:=S.book++[e]} (upd H L.en (.lst ((D.bk++[q]).map V.ref))):=by
 erw[h.set c (l:= .en) trivial (λl'=>by rfl) (λl' v ne=>?_) (by rw[jm,jm,h.bkl];rfl) (λk a x e1 e2=>?_) h.qsl h.qs]
 .cases l' with
  |en=>erw[absurd rfl ne]
  |_=>rfl
 .by_cases f:k<D.bk.length
  .rw[zW f]at e1;rw[zW (by rwa[<- h.bkl])]at e2;erw[h.bk k a x e1 e2]
  .rw[FZ ()]at e1;rw[FZ (by rw[<- h.bkl];lia),<-h.bkl]at e2
   let k0:k-D.bk.length=0:=by
    let:=(rx.mp e1).1;let:k-D.bk.length<1:=this
    lia
   simp_all
def Rp.entry(c:jA TR)(h:Rp R TR C T L FT D S H){q:eF}(e:Ent)(f:H q=none):
  Goes R TR C T L FT D H {D with bk:=D.bk++[q]} {S with book:=S.book++[e]} (upd (upd H q (.tup (Rt e))) L.en (.lst ((D.bk++[q]).map V.ref))):=by
 let i:aH H (upd H q (.tup (Rt e))):=λb o z=>by rwa[ag (ao z f)]
 let g:=Goes0.same c h i;erw[(g.trans (g.rp.ae2 c ae),λa j=>?_)];rcases ro.mp j with z|z
 .exact .inl z
 .rw[l9.mp z];erw[.inr f]
def Rp.Tq(c:jA TR)(h:Rp R TR C T L FT D S H){q:eF}{e:Nat×Str}(g:H q=some (.tup (ZM L e))):
  Goes R TR C T L FT D H {D with qs:=D.qs++[q]} {S with ends:=S.ends++[e]} (upd H L.qu (.lst ((D.qs++[q]).map V.ref))):=by
 erw[(h.set c (l:= .qu) trivial (λl'=>by rfl) (λl' v ne=>?_) h.bkl h.bk (by rw[jm,jm,h.qsl];rfl) (λk a x e1 e2=>?_),λ_ z=>.inl z)]
 .cases l' with
  |qu=>erw[absurd rfl ne]
  |_=>rfl
 .by_cases f:k<D.qs.length
  .rw[zW f]at e1;rw[zW (by rwa[<- h.qsl])]at e2;erw[h.qs k a x e1 e2]
  .rw[FZ ()]at e1;rw[FZ (by rw[<- h.qsl];lia),<-h.qsl]at e2
   let k0:k-D.qs.length=0:=by
    let:=(rx.mp e1).1;let:k-D.qs.length<1:=this
    lia
   simp_all
def fD(g:Nat->eF)(i:Nat)(q:eF):Nat->eF:=λj=>if j=i then q else g j
theorem bS(g:Nat->eF)(i:Nat)(q:eF):fD g i q i=q:=fR rfl
theorem eV{g:Nat->eF}{i j:Nat}(q:eF)(h:j≠i):fD g i q j=g j:=fC h
def Rp.anew(m:jA TR)(h:Rp R TR C T L FT D S H){i:Nat}(n:i<T.length){q:eF}(c:H q=none){l0:Lb}(N:vl T l0)(M:l0≠ .nd i)(g:D'.bk=D.bk)(f:D'.qs=D.qs)(u:S'.book=S.book)(t:S'.ends=S.ends)
  (r:l0.at L D'=q) (p:∀l:Lb,l≠l0->l.at L D'=l.at L D) (E:∀l,vl T l->l≠l0->l≠ .nd i->cont C T L D' S' l=cont C T L D S l):
  Goes0 R TR C T L FT D H D' S' (upd (upd H q (cont C T L D' S' l0)) (L.nd i) (cont C T L D' S' (.nd i))):=by
 let s:=h.cells (.nd i) n;let G:q≠L.nd i:=λz=>by rw[z]at c;rw[show (Lb.nd i).at L D=L.nd i from rfl,c]at s;cases s
 let j:∀b o,(∀l',vl T l'->b≠l'.at L D)->H b=some o->(upd (upd H q (cont C T L D' S' l0)) (L.nd i) (cont C T L D' S' (.nd i))) b=some o:=λb o g e=>by
  rwa[ag (show b≠L.nd i from g (.nd i) n),ag (ao e c)]
 let fr:∀l',vl T l'->l'.at L D'=l'.at L D\/H (l'.at L D')=none:=λl' _=>by
  by_cases e:l'=l0
  .right
   rwa[e,r]
  .exact .inl (p l' e)
 erw[(h.next m (λl' v=>?_) j fr (λJ I y A F K e=>?_) (by rw[g,u];exact h.bkl) (λk a x e1 e2=>?_) (by rw[f,t];exact h.qsl) (λk a x e1 e2=>?_),j,fr,λb z=>?_)]
 .by_cases e1:l'=.nd i
  .rw[e1];erw[ae]
  .by_cases e2:l'=l0
   .rw[e2,r,ag G];erw[ae]
   .rw[p l' e2];let B:l'.at L D≠L.nd i:=λz=>e1 (h.inj l' (.nd i) v n z);let w:l'.at L D≠q:=λz=>by rw[<- z,h.cells l' v]at c;cases c
    rw[ag B,ag w,h.cells l' v,E l' v e2 e1]
 .let only:∀l,vl T l->H (l.at L D')=none->l=l0:=λl v z=>by
   by_cases e:l=l0
   .exact e
   .rw[p l e,h.cells l v]at z;cases z
  rw[only J y F,only I A K]
 .rw[g]at e1;rw[u]at e2;erw[j _ _ (h.Mn (h.bk k a x e1 e2)) (h.bk k a x e1 e2)]
 .rw[f]at e1;rw[t]at e2;erw[j _ _ (h.Mn (h.qs k a x e1 e2)) (h.qs k a x e1 e2)]
 .by_cases e1:b=L.nd i
  .rw[e1,ae]at z;cases z
  .rw[ag e1]at z;by_cases e2:b=q
   .rwa[e2]
   .rw[ag e2]at z;erw[z]
def Rp.afP(a:jA TR)(h:Rp R TR C T L FT D S H){i:Nat}(c:i<T.length)(p:f7 T i=false){q:eF}(m:H q=none)(g:Nd->Nd)(r:(g (S i)).wait=(S i).wait):
  Goes R TR C T L FT D H {D with fa:=fD D.fa i q} (up S i g) (upd (upd H q (.lst ((g (S i)).aA.map V.int))) (L.nd i) (.ins (bI C T i) (L.dn i) (k7 T L {D with fa:=fD D.fa i q} (g (S i)) i))):=by
 let e1:cont C T L {D with fa:=fD D.fa i q} (up S i g) (.fa i)=.lst ((g (S i)).aA.map V.int):=by
  show HO.lst (((up S i g).nd i).aA.map V.int)=_;rw[aw]
 let e2:cont C T L {D with fa:=fD D.fa i q} (up S i g) (.nd i)=.ins (bI C T i) (L.dn i) (k7 T L {D with fa:=fD D.fa i q} (g (S i)) i):=by
  show HO.ins _ _ (k7 T L _ ((up S i g).nd i) i)=_;rw[aw]
 rw[<- e1,<-e2];erw[(h.anew a c m (c,p) (λz=>by cases z) rfl rfl rfl rfl (bS _ _ _) (λl f=>?_) (λl v o s=>?_),λ_ z=>.inl z)]
 .cases l with
  |fa j=>erw[eV q (λz=>f (by rw[z]))]
  |_=>rfl
 .cases l with
  |nd j=>
   let n:j≠i:=λz=>s (by rw[z]);show HO.ins _ _ (k7 T L _ ((up S i g).nd j) j)=_;rw[bu g n];show HO.ins _ _ (m8 T L (S j) j++if f7 T j then fsL (S j) else pw (fD D.fa i q j) (D.wa j) (S j))=_;rw[eV q n]
   rfl
  |fa j=>
   let n:j≠i:=λz=>o (by rw[z]);show HO.lst (((up S i g).nd j).aA.map V.int)=_;rw[bu g n]
   rfl
  |wa j=>
   show HO.lst (((up S i g).nd j).wait.map _)=_;by_cases e:j=i
   .subst e;rw[aw,r]
    rfl
   .rw[bu g e]
    rfl
  |_=>rfl
def Rp.ac9(a:jA TR)(h:Rp R TR C T L FT D S H){i:Nat}(c:i<T.length)(s:f7 T i=false){q:eF}(p:H q=none)(g:Nd->Nd)(r:(g (S i)).aA=(S i).aA):
  Goes R TR C T L FT D H {D with wa:=fD D.wa i q} (up S i g) (upd (upd H q (.lst ((g (S i)).wait.map λj=>V.ref (L.nd j)))) (L.nd i) (.ins (bI C T i) (L.dn i) (k7 T L {D with wa:=fD D.wa i q} (g (S i)) i))):=by
 let e1:cont C T L {D with wa:=fD D.wa i q} (up S i g) (.wa i)=.lst ((g (S i)).wait.map λj=>V.ref (L.nd j)):=by
  show HO.lst (((up S i g).nd i).wait.map _)=_;rw[aw]
 let e2:cont C T L {D with wa:=fD D.wa i q} (up S i g) (.nd i)=.ins (bI C T i) (L.dn i) (k7 T L {D with wa:=fD D.wa i q} (g (S i)) i):=by
  show HO.ins _ _ (k7 T L _ ((up S i g).nd i) i)=_;rw[aw]
 rw[<- e1,<-e2];erw[(h.anew a c p (c,s) (λz=>by cases z) rfl rfl rfl rfl (bS _ _ _) (λl f=>?_) (λl v m o=>?_),λ_ z=>.inl z)]
 .cases l with
  |wa j=>erw[eV q (λz=>f (by rw[z]))]
  |_=>rfl
 .cases l with
  |nd j=>
   let n:j≠i:=λz=>o (by rw[z]);show HO.ins _ _ (k7 T L _ ((up S i g).nd j) j)=_;rw[bu g n];show HO.ins _ _ (m8 T L (S j) j++if f7 T j then fsL (S j) else pw (D.fa j) (fD D.wa i q j) (S j))=_;rw[eV q n]
   rfl
  |wa j=>
   let n:j≠i:=λz=>m (by rw[z]);show HO.lst (((up S i g).nd j).wait.map _)=_;rw[bu g n]
   rfl
  |fa j=>
   show HO.lst (((up S i g).nd j).aA.map V.int)=_;by_cases e:j=i
   .subst e;rw[aw,r]
    rfl
   .rw[bu g e]
    rfl
  |_=>rfl
theorem Rp.tick(a:jA TR)(h:Rp R TR C T L FT D S H)(c:Int):Goes R TR C T L FT D H D {S with clk:=c} (upd H L.x (.ins C.cH L.dx (CU L {S with clk:=c}))):=
 (h.set a (l:= .hs) (D':=D) (S':={S with clk:=c}) trivial (λ_=>rfl) (λl' v ne=>by
  cases l' with
  |hs=>erw[absurd rfl ne]
  |_=>rfl) h.bkl h.bk h.qsl h.qs,λ_ z=>.inl z)
def Rp.popped(c:jA TR)(h:Rp R TR C T L FT D S H){a:eF}{r:List eF}{e:Nat×Str}{es:List (Nat×Str)}(f:D.qs=a::r)(g:S.ends=e::es):
  Goes R TR C T L FT D H {D with qs:=r} {S with ends:=es} (upd H L.qu (.lst (r.map V.ref))):=by
 erw[(h.set c (l:= .qu) trivial (λl'=>by rfl) (λl' v ne=>?_) h.bkl h.bk ?_ (λk b x e1 e2=>?_),λ_ z=>.inl z)]
 .cases l' with
  |qu=>erw[absurd rfl ne]
  |_=>rfl
 .let:=h.qsl;rw[f,g]at this;erw[Nat.succ.inj this]
 .exact h.qs (k+1) b x (by rwa[f]) (by rwa[g])
def Rp.ac2(a:jA TR)(h:Rp R TR C T L FT D S H){i:Nat}(c:i<T.length)(f:f7 T i=false)(w:List Nat):
  Goes R TR C T L FT D H D (up S i λd=>{d with wait:=w}) (upd H (D.wa i) (.lst (w.map λj=>V.ref (L.nd j)))):=by
 let:=h.set a (l:= .wa i) (S':=up S i λd=>{d with wait:=w}) (c,f) (λ_=>rfl) (λl' v ne=>?_) h.bkl h.bk h.qsl h.qs
 .let e:cont C T L D (up S i λd=>{d with wait:=w}) (.wa i)=.lst (w.map λj=>V.ref (L.nd j)):=by
   show HO.lst (((up S i _).nd i).wait.map _)=_;rw[aw]
  rw[e]at this;exact(this,λ_ z=>.inl z)
 .cases l' with
  |hs=>rfl
  |en=>rfl
  |qu=>rfl
  |nd j=>
   show HO.ins _ _ (k7 T L D ((up S i _).nd j) j)=_;by_cases e:j=i
   .subst e;rw[aw]
    rfl
   .rw[bu _ e]
    rfl
  |fa j=>
   show HO.lst (((up S i _).nd j).aA.map V.int)=_;by_cases e:j=i
   .subst e;rw[aw]
    rfl
   .rw[bu _ e]
    rfl
  |wa j=>
   show HO.lst (((up S i _).nd j).wait.map _)=_;rw[bu _ (λz=>ne (by rw[z]))]
   rfl
def Rp.agm(a:jA TR)(h:Rp R TR C T L FT D S H){i:Nat}(c:i<T.length)(f:f7 T i=false)(w:List Int):
  Goes R TR C T L FT D H D (up S i λd=>{d with aA:=w}) (upd H (D.fa i) (.lst (w.map V.int))):=by
 let:=h.set a (l:= .fa i) (S':=up S i λd=>{d with aA:=w}) (c,f) (λ_=>rfl) (λl' v ne=>?_) h.bkl h.bk h.qsl h.qs
 .let e:cont C T L D (up S i λd=>{d with aA:=w}) (.fa i)=.lst (w.map V.int):=by
   show HO.lst (((up S i _).nd i).aA.map _)=_;rw[aw]
  rw[e]at this;exact(this,λ_ z=>.inl z)
 .cases l' with
  |hs=>rfl
  |en=>rfl
  |qu=>rfl
  |nd j=>
   show HO.ins _ _ (k7 T L D ((up S i _).nd j) j)=_;by_cases e:j=i
   .subst e;rw[aw]
    rfl
   .rw[bu _ e]
    rfl
  |wa j=>
   show HO.lst (((up S i _).nd j).wait.map _)=_;by_cases e:j=i
   .subst e;rw[aw]
    rfl
   .rw[bu _ e]
    rfl
  |fa j=>
   show HO.lst (((up S i _).nd j).aA.map V.int)=_;rw[bu _ (λz=>ne (by rw[z]))]
   rfl
def Rp.afG(m:jA TR)(h:Rp R TR C T L FT D S H){i:Nat}(p:i<T.length)(P:f7 T i=false){q:eF}(t:H q=none){f:Hp}(r:aH H f)(w:List Int)(N:f q=some (.lst (w.map V.int))):
  Goes R TR C T L FT D H {D with fa:=fD D.fa i q} (up S i λd=>{d with aA:=w}) (upd f (L.nd i) (.ins (bI C T i) (L.dn i) (k7 T L {D with fa:=fD D.fa i q} {S i with aA:=w} i))):=by
 let F:H (L.nd i)=_:=h.cells (.nd i) p;let J:=Ne.symm (ao F t)
 let g:∀b o,(∀l',vl T l'->b≠l'.at L D)->H b=some o->(upd f (L.nd i) (.ins (bI C T i) (L.dn i) (k7 T L {D with fa:=fD D.fa i q} {S i with aA:=w} i))) b=some o:=λb o u e=>by
  rw[ag (show b≠L.nd i from u (.nd i) p)];erw[r _ _ e]
 let c:∀l':Lb,l'≠ .fa i->l'.at L {D with fa:=fD D.fa i q}=l'.at L D:=λl A=>by
  cases l with
  |fa j=>erw[eV q (λz=>A (by rw[z]))]
  |_=>rfl
 let s:(Lb.fa i).at L {D with fa:=fD D.fa i q}=q:=bS _ _ _
 let fr:∀l',vl T l'->l'.at L {D with fa:=fD D.fa i q}=l'.at L D\/H (l'.at L {D with fa:=fD D.fa i q})=none:=λl' _=>by
  by_cases e:l'=.fa i
  .right
   rwa[e,s]
  .exact .inl (c l' e)
 erw[((h.next m (λl' v=>?_) g fr (λM K B E I O e=>?_) h.bkl (λk a x e1 e2=>g _ _ (h.Mn (h.bk k a x e1 e2)) (h.bk k a x e1 e2)) h.qsl (λk a x e1 e2=>g _ _ (h.Mn (h.qs k a x e1 e2)) (h.qs k a x e1 e2)),g,fr,λb z=>?_),λ_ z=>.inl z)]
 .by_cases e1:l'=.nd i
  .subst e1;show(upd f (L.nd i) _) (L.nd i)=some (.ins (bI C T i) (L.dn i) (k7 T L {D with fa:=fD D.fa i q} ((up S i λd=>{d with aA:=w}).nd i) i));rw[aw];erw[ae]
  .by_cases e2:l'=.fa i
   .subst e2;rw[s,ag J,N];show _=some (HO.lst (((up S i λd=>{d with aA:=w}).nd i).aA.map V.int));rw[aw]
   .rw[c l' e2];let G:l'.at L D≠L.nd i:=λz=>e1 (h.inj l' (.nd i) v p z);rw[ag G,r _ _ (h.cells l' v)];cases l' with
    |hs=>rfl
    |en=>rfl
    |qu=>rfl
    |nd j=>
     let n:j≠i:=λz=>e1 (by rw[z]);show some (HO.ins _ _ (k7 T L D (S j) j))=some (HO.ins _ _ (k7 T L {D with fa:=fD D.fa i q} ((up S i _).nd j) j));rw[bu _ n];show _=some (HO.ins _ _ (m8 T L (S j) j++if f7 T j then fsL (S j) else pw (fD D.fa i q j) (D.wa j) (S j)));rw[eV q n]
     rfl
    |fa j=>
     let n:j≠i:=λz=>e2 (by rw[z]);show some (HO.lst ((S j).aA.map V.int))=some (HO.lst (((up S i _).nd j).aA.map V.int));rw[bu _ n]
    |wa j=>
     show some (HO.lst ((S j).wait.map _))=some (HO.lst (((up S i _).nd j).wait.map _));by_cases e:j=i
     .subst e;rw[aw]
     .rw[bu _ e]
 .let only:∀l,vl T l->H (l.at L {D with fa:=fD D.fa i q})=none->l=.fa i:=λl v z=>by
   by_cases e:l=.fa i
   .exact e
   .rw[c l e,h.cells l v]at z;cases z
  rw[only M B I,only K E O]
 .by_cases e1:b=L.nd i
  .rw[e1,ae]at z;cases z
  .rw[ag e1]at z;cases y:H b with
   |none=>rfl
   |some o=>rw[r _ _ y]at z;cases z
end
end Hr
namespace L2
open PySem PySem.Spec PyProof.Rows
section
variable(K:gI)
def Nos:List String->Prop
 |[]=>True
 |x::r=>FE K mainGlobals (SE x)=some none/\Nos r
def Gls:List (String×eF)->Prop
 |[]=>True
 |(x,a)::r=>FE K mainGlobals (SE x)=some (some (.ref a))/\Gls r
def GF(C:eF):List (String×eF)->Prop
 |[]=>True
 |(m,f)::r=>ri K (.ref C) (SE m)=some (some (.ref f))/\GF C r
def F6(C:eF):List String->Prop
 |[]=>True
 |f::r=>ri K (.ref C) (SE f)=some none/\F6 C r
def GU(C:eF):Prop:=akp K C aly=true/\akS K C=true/\alO K C=true/\ri K (.ref C) "__setattr__"=some (some (.builtin "object.__setattr__"))
def IJ(C:eF):Prop:=amb K C=true/\Nb K (.ref C)=true
def ByV(C:eF)(m:Str)(f:eF):Prop:=anF K (.ref C) "__getattribute__"=some (some (.builtin "type.__getattribute__"))/\aoc K C (.type "type")=true/\aod K (.ref C) (.type "type") m=some (.val (.ref f))
def afh(a:eF)(x c:Str)(st:gF)(m g:fy)(h:Option eF)(i p n:fy)(f:Option eF)(e o:fy)(j:Array (Option fy)):Prop:=
 K.lookup a=some (g,h,.func (GI x c (oN st) (cZ st) (ah st) m i p n f e o),j)/\alu K e c=true/\Nb K (.ref a)=true/\alY K (.ref a)=true
end
section
variable{K:gI}{a C:eF}{x qual m:Str}{st:gF}{dv vo vk vg vp vv vu:fy}{od oa:Option eF}{sl:Array (Option fy)}
theorem afh.d(h:afh K a x qual st dv vo od vk vg vp oa vv vu sl):aI K x qual st dv a (GI x qual (oN st) (cZ st) (ah st) dv vk vg vp oa vv vu):=acv h.1 h.2.1 h.2.2.1
def aQ(K:gI)(a:eF)(x qual:Str)(st:gF)(dv:fy):Prop:=∃vo od vk vg vp oa vv vu sl,afh K a x qual st dv vo od vk vg vp oa vv vu sl
theorem aQ.d(h:aQ K a x qual st dv):∃fd,aI K x qual st dv a fd:=let (_,_,_,_,_,_,_,_,_,h):=h;(_,h.d)
theorem aQ.mt(h:aQ K a x qual st dv)(f:ri K (.ref C) m=some (some (.ref a))):Meth K C m a:=let (_,_,_,_,_,_,_,_,_,h):=h;(f,h.2.2.2,h.2.2.1)
theorem aQ.mk(h:aQ K a x qual st dv)(f:ri K (.ref C) "__init__"=some (some (.ref a)))(k:IJ K C):Mk K C a:=let (_,_,_,_,_,_,_,_,_,h):=h;(k.1,f,h.2.2.2,k.2)
theorem aQ.bc(h:aQ K a x qual st dv)(b:ByV K C m a):Zi K C m a:=let (_,_,_,_,_,_,_,_,_,h):=h;(b.1,b.2.1,b.2.2,h.2.2.1)
def abS(K:gI)(C:eF):Prop:=ri K (.ref C) "__getattribute__"=some (some (.builtin "BaseException.__getattribute__"))/\ri K (.ref C) "__getattr__"=some none/\ri K (.ref C) "__class__"=some (some (.builtin "object.__class__"))/\xn K C (.type "BaseException")=some true/\xn K C (.type "object")=some true
theorem abS.xi(h:abS K C):M0 K C:=(h.1,h.2.1,h.2.2.1,h.2.2.2.1,h.2.2.2.2)
def aI.bl{fd:pG}{p:pG->Prop}(F:aI K x qual st dv a fd)(h:∀kV e g f c ct,p (GI x qual (oN st) (cZ st) (ah st) dv kV e g f c ct)):p fd:=by
 let(_,_,kV,e,g,f,c,ct,_,rfl,_):=F.ex;erw[h ..]
theorem GU.d(h:GU K C):rz K C:=(h.1,h.2.1,h.2.2.1,h.2.2.2)
variable{P:iU}{w:iP}{mg:Str->Option fy}{eC:h7}{cm:Bool}{k:Nat}{f:eF}{fd:pG}{ps:List Str}{sp:Sp}{spC:eF->Sp}
def Wd(_:iU)(_:iP)(_:gI)(_:Str->Option fy)(_:h7):Prop:=True
theorem mkH(_:Wd P w K mg eC)(c:rz K C)(h:Meth K C m f)(b:Binds K fd ps [])(ok:wP (gf P w) true k f fd ps (spC C)):Shp.bh P w K mg eC k m spC λg=>g=C:=λg e=>by subst e;exact(f,fd,ps,[],c,h,ok,b,.nil)
theorem mkM{y:Str}(_:Wd P w K mg eC)(q:mg y=some (.ref C))(M:Mk K C f)(b:Binds K fd ps [])(ok:wP (gf P w) cm k f fd ps sp):wr cm k y C sp []:=(f,fd,ps,[],M,ok,q,b,.nil)
def agk{h:h7}{y:Str}(X:K.In h)(G:h.Ns mainGlobals mg)(_:Wd P w K mg eC)(q:FE K mainGlobals y=some (some (.ref f)))(v:aQ K f x qual st dv)(ok:∀fd,aI K x qual st dv f fd->wP (gf P w) cm k f fd ps sp)(b:∀fd,aI K x qual st dv f fd->Binds K fd ps []):wE cm k y sp []:=by
 let(fd,F):=v.d;exact(f,fd,ps,[],ok fd F,nh X G q,F.kp,b fd F,.nil)
def agO(e:Wd P w K mg eC)(c:rz K C)(g:ri K (.ref C) m=some (some (.ref f)))(v:aQ K f x qual st dv)(ok:∀fd,aI K x qual st dv f fd->wP (gf P w) true k f fd ps (spC C))(b:∀fd,aI K x qual st dv f fd->Binds K fd ps []):Shp.bh P w K mg eC k m spC λh=>h=C:=by
 let(fd,F):=v.d;erw[mkH e c (v.mt g) (b fd F) (ok fd F)]
end
section
variable{α:Type}{p:List α->Prop}
theorem wh(z:∀a,p [a]):∀us:List α,us.length=1->p us
 |[a],_=>z a
theorem ln2(z:∀a b,p [a,b]):∀us:List α,us.length=2->p us
 |[a,b],_=>z a b
theorem ln3(z:∀a b c,p [a,b,c]):∀us:List α,us.length=3->p us
 |[a,b,c],_=>z a b c
theorem ln4(z:∀a b c d,p [a,b,c,d]):∀us:List α,us.length=4->p us
 |[a,b,c,d],_=>z a b c d
theorem ln5(z:∀a b c d e,p [a,b,c,d,e]):∀us:List α,us.length=5->p us
 |[a,b,c,d,e],_=>z a b c d e
theorem ln6(z:∀a b c d e f,p [a,b,c,d,e,f]):∀us:List α,us.length=6->p us
 |[a,b,c,d,e,f],_=>z a b c d e f
theorem lnD{ds:List α}{k n:Nat}(e:n+ds.length=k)(h:∀us:List α,us.length=n->p us)(us:List α)(q:(us++ds).length=k):p us:=h us (by rw[jm]at q;lia)
end
section
variable{P:iU}{w:iP}{K:gI}{mg:Str->Option fy}{eC:h7}{cm:Bool}{k:Nat}{f a C:eF}{fd:pG}{ps:List Str}{sp:Sp}{spC:eF->Sp}{x qual m:Str}{st:gF}{dv:fy}
theorem fL{h:h7}{y:Str}(X:K.In h)(G:h.Ns mainGlobals mg)(e:Wd P w K mg eC)(q:FE K mainGlobals y=some (some (.ref f)))(v:aQ K f x qual st dv)(ok:∀fd,aI K x qual st dv f fd->wP (gf P w) cm k f fd ps sp)
  (b:∀fd,aI K x qual st dv f fd->Binds K fd ps []:=by intro _ F;first|exact F.binds λ_ _ _ _ _ _=>wh λ_=>rfl|exact F.binds λ_ _ _ _ _ _=>ln2 λ_ _=>rfl|exact F.binds λ_ _ _ _ _ _=>ln3 λ_ _ _=>rfl|exact F.binds λ_ _ _ _ _ _=>ln0 rfl|exact F.binds λ_ _ _ _ _ _=>ln4 λ_ _ _ _=>rfl|exact F.binds λ_ _ _ _ _ _=>ln5 λ_ _ _ _ _=>rfl|exact F.binds λ_ _ _ _ _ _=>ln6 λ_ _ _ _ _ _=>rfl|exact F.binds λ_ _ _ _ _ _=>ln7 λ_ _ _ _ _ _ _=>rfl|erw[F.binds λ_ _ _ _ _ _=>ln8 λ_ _ _ _ _ _ _ _=>rfl]):wE cm k y sp []:=agk X G e q v ok b
theorem kc(e:Wd P w K mg eC)(c:rz K C)(g:ri K (.ref C) m=some (some (.ref f)))(v:aQ K f x qual st dv)(ok:∀fd,aI K x qual st dv f fd->wP (gf P w) true k f fd ps (spC C))
  (b:autoParam (∀fd,aI K x qual st dv f fd->Binds K fd ps []) L2.fL._auto_1):Shp.bh P w K mg eC k m spC λh=>h=C:=agO e c g v ok b
end
end L2
namespace Hm
open PySem Shp Tr Hs
def dp(T:Re)(i:Nat):Nat:=(T.getD i default).dep
def xA{T:Re}(h:gD T){k:Nat}(r:0<k)(n:k<T.length):∃j,par T k=some j/\j<k/\dp T j+1=dp T k/\f7 T j=false/\∀x,j<x->x<k->dp T k<=dp T x:=by
 let a:=h.fit k n;unfold fits at a;rw[fC ()]at a;let(u,q,j,c):=a;let(e,s,f,o):=Nv T k (λi t=>P6 (h.fit i ())) _ j true c
 let p:bP T k=j:=by
  unfold bP;rw[c];show(if k=0 then (-1) else (j:Int))=j;rw[fC ()]
 erw[(j,?_,e,?_,?_,λx m g=>?_)]
 .unfold par;rw[p,fC (),ajo]
 .unfold dp
  lia
 .unfold f7 sh;let:=iB f;erw[iR ()]
 .let:=o x m g;unfold dp
  lia
def XM{T:Re}(h:gD T):dp T 0=0/\f7 T 0=false:=by
 let c:=akz.mpr h.ne;let a:=h.fit 0 c;erw[(a.1,?_)];let:=iB a.2;unfold f7 sh;erw[iR ()]
def Up{T:Re}(h:gD T){k:Nat}(c:k<T.length):dp T k<=8:=by
 let a:=h.fit k c;unfold fits at a
 split at a
 .let:dp T k=0:=a.1
  lia
 .exact a.2.1
def S4(p:Nat->Bool):Nat->Nat->Nat
 |0,a=>a
 |f+1,a=>if p a=true then S4 p f (a+1) else a
theorem XD(p:Nat->Bool):∀f a,a<=S4 p f a/\S4 p f a<=a+f/\(∀x,a<=x->x<S4 p f a->p x=true)/\(S4 p f a=a+f\/p (S4 p f a)=false)
 |0,a=>(gx _,gx _,λx g c=>absurd (uk g c) (Mo _),.inl rfl)
 |f+1,a=>by
  unfold S4;by_cases h:p a=true
  .rw[fR h];let(m,n,i,j):=XD p f (a+1);refine((),(),λx g c=>?_,?_)
   .by_cases e:x=a
    .rwa[e]
    .exact i x () c
   .rcases j with z|z
    .lia
    .exact .inr z
  .rw[fC h];erw[(gx _,(),λx g c=>absurd (uk g c) (Mo _),.inr ?_)];simp_all
def en(T:Re)(i:Nat):Nat:=S4 (λk=>decide (dp T i<dp T k)) (T.length-(i+1)) (i+1)
def eO{T:Re}{i:Nat}(j:i<T.length):i<en T i/\en T i<=T.length/\(∀x,i<x->x<en T i->dp T i<dp T x)/\(en T i=T.length\/dp T (en T i)<=dp T i):=by
 let(e,h,c,f):=XD (λk=>decide (dp T i<dp T k)) (T.length-(i+1)) (i+1);erw[(e,?_,λx a g=>iB (c x a g),?_)]
 .let:en T i<=i+1+(T.length-(i+1)):=h;omega
 .rcases f with z|z
  .left
   let:en T i=i+1+(T.length-(i+1)):=z;omega
  .right
   let:=wu z;show dp T (S4 _ _ _)<=_;omega
section
variable{T:Re}
def o7(h:gD T){i k:Nat}(m:k<T.length)(c:par T k=some i):i<k/\k<en T i/\dp T k=dp T i+1:=by
 let f:0<k:=by
  cases k with
  |zero=>cases c
  |succ k=>erw[ali _]
 let(j,a,g,n,o,e):=xA h f m;rw[c]at a;cases a;let(e1,e2,e3,e4):=eO (T:=T) (i:=i) ();erw[(g,?_,())];by_cases z:k<en T i
 .exact z
 .rcases e4 with y|y
  .lia
  .by_cases w:en T i=k
   .lia
   .let:=e (en T i) e1 ()
    lia
def Mz(h:gD T){i a:Nat}(f:i<T.length)(g:i<a)(o:a<en T i)(hd:dp T a=dp T i+1):par T a=some i:=by
 let(e1,e2,e3,e4):=eO f;let(j,c,m,n,p,e):=xA h () (show a<T.length by lia);rw[c]
 congr 1
 by_cases z:j=i
 .exact z
 .by_cases y:j<i
  .let:=e i y g
   lia
  .let:=e3 j () ()
   lia
def Xd(h:gD T){i a:Nat}(e:i<T.length)(f:i<a)(g:a<en T i):en T a<=en T i/\(dp T a=dp T i+1->en T a=en T i\/dp T (en T a)=dp T i+1):=by
 let(e1,e2,e3,e4):=eO e;let(o,n,m,c):=eO (T:=T) (i:=a) ()
 let j:en T a<=en T i:=by
  by_cases z:en T a<=en T i
  .exact z
  .let d1:=e3 a f g;let d2:=m (en T i) () ();rcases e4 with y|y<;>lia
 erw[(j,λhd=>?_)];by_cases z:en T a=en T i
 .exact .inl z
 .right
  let d2:=e3 (en T a) () ();rcases c with y|y<;>lia
def nz(T:Re)(c:Int)(k:Nat)(d:Nd):Nd:=if f7 T k then {d with st:="on",asked:=false,beg:=c,steps:=0} else forget {d with st:="on",asked:=false}
def ent(T:Re)(c:Int)(wd:Str)(k:Nat):Ent:=(c,wd,(sh T k).name)
def gv(T:Re)(a e:Nat)(S:HS):HS:={S with book:=S.book++(jj a (e-a)).map (ent T S.clk "begun"),nd:=λk=>if a<=k/\k<e then nz T S.clk k (S k) else S k}
def Ko(a:Nat)(S:HS):gv T a a S=S:=by
 simp[gv,fC]
def QH{a b c:Nat}(g:a<=b)(f:b<=c)(S:HS):gv T b c (gv T a b S)=gv T a c S:=by
 unfold gv
 let e1:jj a (c-a)=jj a (b-a)++jj b (c-b):=by
  rw[show c-a=(b-a)+(c-b) by lia,<-ajH,show a+(b-a)=b by lia]
 congr 1
 .simp_all
 .funext k
  show(if b<=k/\k<c then nz T S.clk k (if a<=k/\k<b then _ else _) else if a<=k/\k<b then _ else _)=_;by_cases e:a<=k/\k<b
  .rw[fC (),fR e,fR ()]
  .by_cases z2:b<=k/\k<c
   .rw[fR z2,fC e,fR ()]
   .rw[fC z2,fC e,fC ()]
def afw{S S':HS}(g:S.clk=S'.clk)(h:S.book=S'.book)(e:S.ends=S'.ends)(f:∀k,S k=S' k):S=S':=by
 let(a,b,c,d):=S;let(i,m,j,d'):=S';let g:a=i:=g;let h:b=m:=h;let e:c=j:=e;let f:d=d':=funext f;rw[g,h,e,f]
def YS(i:Nat)(S:HS):write T "begun" i (oX T i S)=gv T i (i+1) S:=by
 erw[afw rfl ?_ rfl (λk=>?_)]
 .show S.book++([(S.clk,"begun",(sh T i).name)])=S.book++(jj i (i+1-i)).map (ent T S.clk "begun");rw[show i+1-i=1 by lia]
  rfl
 .show (if k=i then (if f7 T i then _ else _) else S k)=if i<=k/\k<i+1 then nz T S.clk k (S k) else S k;by_cases e:k=i
  .subst e;rw[fR rfl,fR (show k<=k/\k<k+1 by lia)]
   rfl
  .rw[fC e,fC ()]
def A9(h:gD T){i:Nat}(p:i<T.length):kids T i=(jj (i+1) (en T i-(i+1))).filter λj=>decide (par T j=some i):=by
 let(e1,e2,e3,e4):=eO p;unfold kids
 let o:hD T.length=jj 0 (i+1)++(jj (i+1) (en T i-(i+1))++jj (en T i) (T.length-en T i)):=by
  let e:=ajH (s:=i+1) (m:=en T i-(i+1)) (n:=T.length-en T i);rw[show i+1+(en T i-(i+1))=en T i by lia,show en T i-(i+1)+(T.length-en T i)=T.length-(i+1) by lia]at e;rw[e];let c:=ajH (s:=0) (m:=i+1) (n:=T.length-(i+1));rw[show 0+(i+1)=i+1 by lia,show i+1+(T.length-(i+1))=T.length by lia]at c;rw[c,ajY]
 rw[o,su,su]
 let f:(jj 0 (i+1)).filter (λj=>decide (par T j=some i))=[]:=CN.mpr λj a z=>by
  let:=(o7 h (by let:=(akg.mp a).2;lia) (iB z)).1;let:=(akg.mp a).2
  lia
 let g:(jj (en T i) (T.length-en T i)).filter (λj=>decide (par T j=some i))=[]:=CN.mpr λj a z=>by
  let a:=akg.mp a;let:=(o7 h () (iB z)).2.1
  lia
 rw[f,g,ov,zI]
def VH(h:gD T){i:Nat}(c:i<T.length)(f:HS->Nat->HS)(u:∀j S,j<T.length->par T j=some i->f S j=gv T j (en T j) S):∀(m a:Nat),en T i-a<=m->i<a->a<=en T i->(a=en T i\/dp T a=dp T i+1)->∀S,
  ((jj a (en T i-a)).filter λj=>decide (par T j=some i)).foldl f S=gv T a (en T i) S:=by
 let(e1,e2,e3,e4):=eO c;intro m
 induction m with
 |zero=>
  intro a x e A _ S;let:a=en T i:=by lia
  rw[this,Bn,Ko]
  rfl
 |succ m C=>
  intro a x e A t S;rcases t with z|z
  .rw[z,Bn,Ko]
   rfl
  .by_cases ha:a=en T i
   .rw[ha,Bn,Ko]
    rfl
   .let la:a<en T i:=by lia
    let o:=Mz h c e la z;let(G,E,B,F):=eO (T:=T) (i:=a) ();let(q,w):=Xd h c e la
    let v:jj a (en T i-a)=a::(jj (a+1) (en T a-(a+1))++jj (en T a) (en T i-en T a)):=by
     let p:=ajH (s:=a+1) (m:=en T a-(a+1)) (n:=en T i-en T a);rw[show a+1+(en T a-(a+1))=en T a by lia,show en T a-(a+1)+(en T i-en T a)=en T i-a-1 by lia]at p;rw[p,show en T i-a=(en T i-a-1)+1 by lia]
     rfl
    let r:(jj (a+1) (en T a-(a+1))).filter (λj=>decide (par T j=some i))=[]:=CN.mpr λj g y=>by
     let g:=akg.mp g;let D:=(o7 h () (iB y)).2.2;let d2:=B j () ()
     lia
    rw[v,nS,fR (gy o),su,r,zI,ale,u a S () o,C (en T a) () () q (w z),QH () q]
theorem zr(h:gD T):∀(d i:Nat) (S:HS),i<T.length->b6 T d i->bz T d i S=gv T i (en T i) S
 |0,_,_,_,hd=>hd.elim
 |d+1,i,S,hi,hd=>by
  let(e1,e2,e3,e4):=eO hi;show(kids T i).foldl (λS j=>bz T d j S) (write T "begun" i (oX T i S))=_;rw[YS,A9 h hi]
  let first:i+1=en T i\/dp T (i+1)=dp T i+1:=by
   by_cases z:i+1=en T i
   .exact .inl z
   .right
    let(j,n,g,e,m,c):=xA h (k:=i+1) (ali _) ();let o:=e3 (i+1) () ();by_cases y:j=i
    .lia
    .let:=c i () ()
     lia
  rw[VH h hi (λS j=>bz T d j S) (λj S a f=>zr h d j S a (hd j (by unfold kids;rw[mJ,qG];exact(a,gy f)))) (en T i-(i+1)) (i+1) (gx _) () () first,QH () ()]
theorem TM(h:gD T):∀(d i:Nat),i<T.length->9-dp T i<=d->b6 T d i
 |0,i,hi,hd=>by
  let:=Up h hi;omega
 |d+1,i,hi,hd=>λj c=>by
  let(a,b):=aZ c;let:=(o7 h a b).2.2;erw[TM h d j a (by omega)]
def gD.tok(h:gD T):kY T:=by
 erw[(akz.mpr h.ne,h.len,λ{j m} f g=>?_,(XM h).2,λj e f=>?_,λi c=>TM h 9 i c (by omega),λi c=>?_)]
 .let e:0<j:=by
   cases j with
   |zero=>cases g
   |succ k=>erw[ali _]
  let(p,a,n,r,o,q):=xA h e f;simp_all
 .let(m,a,_):=xA h e f;exact(m,a)
 .refine (h.sh (T.getD i default) ?_).okS;rw[ot,hY c];erw[uy c]
end
section
variable{T:Re}
def L7(h:gD T){i:Nat}(p:i<T.length)(q:Nat->Bool)(f:HS->Nat->HS)(E:∀j S,j<T.length->par T j=some i->f S j=gv T j (en T j) S)(Inv:Nat->HS->Prop)
  (step:∀j S,j<T.length->par T j=some i->q j=true->Inv j S->Inv (en T j) (gv T j (en T j) S)) (skip:∀j S,j<T.length->par T j=some i->q j=false->Inv j S->Inv (en T j) S):
  ∀(m a:Nat),en T i-a<=m->i<a->a<=en T i->(a=en T i\/dp T a=dp T i+1)->∀S,Inv a S->Inv (en T i) (((jj a (en T i-a)).filter λj=>decide (par T j=some i)&&q j).foldl f S):=by
 let(e1,e2,e3,e4):=eO p;intro m
 induction m with
 |zero=>
  intro a G g A _ S c;let:a=en T i:=by lia
  rw[this,Bn];rw[this]at c;erw[c]
 |succ m x=>
  intro a G g A D S c;by_cases o:a=en T i
  .rw[o,Bn];rw[o]at c;erw[c]
  .let z:dp T a=dp T i+1:=by
    rcases D with z|z
    .exact absurd z o
    .exact z
   let w:a<en T i:=by lia
   let e:=Mz h p g w z;let(K,H,B,I):=eO (T:=T) (i:=a) ();let(t,v):=Xd h p g w
   let F:jj a (en T i-a)=a::(jj (a+1) (en T a-(a+1))++jj (en T a) (en T i-en T a)):=by
    let u:=ajH (s:=a+1) (m:=en T a-(a+1)) (n:=en T i-en T a);rw[show a+1+(en T a-(a+1))=en T a by lia,show en T a-(a+1)+(en T i-en T a)=en T i-a-1 by lia]at u;rw[u,show en T i-a=(en T i-a-1)+1 by lia]
    rfl
   let C:(jj (a+1) (en T a-(a+1))).filter (λj=>decide (par T j=some i)&&q j)=[]:=CN.mpr λj r y=>by
    rw[mu]at y;let r:=akg.mp r;let J:=(o7 h () (iB y.1)).2.2;let d2:=B j () ()
    lia
   rw[F,nS,su,C];cases hq:q a with
   |true=>
    rw[fR (by rw[gy e];rfl),ale,E a S () e];erw[x (en T a) () () t (v z) _ (step a S () e hq c)]
   |false=>
    rw[fC (by rw[gy e];erw[jT])];erw[x (en T a) () () t (v z) _ (skip a S () e hq c)]
def Mh(h:gD T){i:Nat}(e:i<T.length):i+1=en T i\/dp T (i+1)=dp T i+1:=by
 let(e1,e2,e3,e4):=eO e;by_cases z:i+1=en T i
 .exact .inl z
 .right
  let(j,g,f,c,n,a):=xA h (k:=i+1) (ali _) ();let m:=e3 (i+1) () ();by_cases y:j=i
  .lia
  .let:=a i () ()
   lia
def P7(h:gD T){i:Nat}(g:i<T.length)(a:HS)(Inv:Nat->HS->Prop)(step:∀j S,j<T.length->par T j=some i->j∈aY T i a->Inv j S->Inv (en T j) (gv T j (en T j) S))
  (skip:∀j S,j<T.length->par T j=some i->Inv j S->Inv (en T j) S) (S:HS) (e:Inv (i+1) S):Inv (en T i) ((aY T i a).foldl (λS j=>bz T 9 j S) S):=by
 let ok:=gD.tok h;let(e1,e2,e3,e4):=eO g
 let m:aY T i a=(jj (i+1) (en T i-(i+1))).filter λj=>decide (par T j=some i)&&(hI (a.nd i).com (gm T j)&& !Nat.testBit (a.nd i).good (gm T j)):=by
  unfold aY;rw[A9 h g,ajj]
  congr 1
  funext j
  erw[aoz _ _]
 rw[m];erw[L7 h g (λj=>hI (a.nd i).com (gm T j)&& !Nat.testBit (a.nd i).good (gm T j)) (λS j=>bz T 9 j S) (λj S c f=>zr h 9 j S c (ok.deep j c)) Inv (λj S c f n e=>?_) (λj S c f _ e=>skip j S c f e) (en T i-(i+1)) (i+1) (gx _) () () (Mh h g) S e];erw[step j S c f ?_ e];unfold aY kids;rw[mJ,mJ,qG];exact((c,gy f),n)
def oR(h:gD T){i k:Nat}(e:i<T.length)(a:i<k)(j:k<en T i):∃m,par T k=some m/\i<=m/\m<k:=by
 let(e1,e2,e3,e4):=eO e;let(m,g,f,p,n,c):=xA h (k:=k) () ();erw[(m,g,?_,f)];by_cases z:i<=m
 .exact z
 .let a1:=c i () a;let o:=e3 k a j
  lia
end
structure Jv(T:Re)(S:HS):Prop where
 dl:∀k,f7 T k=true->(S k).st="off"\/(S k).st="on"\/(S k).st="told"
 dm:∀k,f7 T k=false->(S k).st="off"\/(S k).st="on"\/(S k).st="turning"\/(S k).st="down"
 up:∀k m,k<T.length->par T k=some m->(S k).st≠"off"->(S m).st≠"off"
 com:∀k m,k<T.length->par T k=some m->(S m).st="turning"->hI (S m).com (gm T k)=true->hI (S m).bF (gm T k)=true\/(S k).st="off"
 dwn:∀m,(S m).st="down"->(S m).bF=2^(kids T m).length-1
 ask:∀k,(S k).asked=true->(S k).st="off"\/(S k).st="told"\/(S k).st="down"
 pnd:∀e∈S.ends,e.1<T.length/\(S e.1).st="off"/\∀m,par T e.1=some m->(S m).st≠"off"
 one:S.ends.length<=1
section
variable{T:Re}{S:HS}
def Jv.below(h:gD T)(j:Jv T S){i:Nat}(a:i<T.length)(f:(S i).st="off"):∀(k:Nat),i<=k->k<en T i->(S k).st="off":=by
 intro k
 induction k using alf with
 |ind k n=>
  intro o g;by_cases e:k=i
  .rwa[e]
  .let(m,m1,m2,m3):=oR h a () g;let c:=n m m3 m2 ();by_cases z:(S k).st="off"
   .exact z
   .exact absurd c (j.up k m (by let:=(eO a).2.1;lia) m1 z)
def uE{m:Nat}(a:aS T m S=none){k:Nat}(e:k<T.length)(f:par T k=some m)(h:hI (S m).bF (gm T k)=true):(S k).st="off":=by
 let g:(S m).bF &&& bf T m S=0:=by
  unfold aS at a
  split at a
  .assumption
  .rename_i h0
   let lt:(S m).bF &&& bf T m S<2^(kids T m).length:=uk al5 (pB _ _);let:=(anO h0).mpr lt;simp_all
 let c:=iY (λx=>hI x (gm T k)) g;let no:hI (bf T m S) (gm T k)= !bK S k:=by
  unfold bf;rw[aT,mW e f,gy (gR e f)]
  rfl
 rw[Cf,h,no,Tf,so,anp]at c;erw[iB c]
def xK{n k:Nat}(h:k<n):hI (2^n-1) k=true:=by
 rw[alE,gy h]
def lW{m j:Nat}(h:aS T m S=some j):j<T.length/\par T j=some m/\(S j).st≠"off":=by
 let(a,b):=aZ (jb h);erw[(a,b,λz=>?_)];unfold aS at h
 split at h
 .cases h
 .rename_i h0
  let f:=by
   let:=anW h0;erw[this]
  rw[Cf,mu]at f
  let c:∀x,(kids T m)[x]? =some j->hI (bf T m S) x= !bK S j:=λx e=>by
   unfold bf;rw[aT,e,gy (rx.mp e).1]
   rfl
  let no:=c _ h;rw[f.2]at no;unfold bK at no;rw[gy z]at no;cases no
end
def vT(f:Nat->Nat):Nat->Nat
 |0=>0
 |n+1=>vT f n+f n
theorem NK{f g:Nat->Nat}:∀{n:Nat},(∀k,k<n->g k=f k)->vT g n=vT f n
 |0,_=>rfl
 |n+1,h=>by
  unfold vT;rw[NK λk a=>h k (),h n ()]
theorem Pk{f g:Nat->Nat}{i:Nat}:∀{n:Nat},i<n->(∀k,k≠i->g k=f k)->vT g n+f i=vT f n+g i
 |0,hi,_=>absurd hi (ze _)
 |n+1,hi,h=>by
  unfold vT;by_cases e:i=n
  .subst e;rw[NK λk a=>h k ()]
   lia
  .let:=Pk (n:=n) () h;let:=h n ()
   lia
theorem Tn{f g:Nat->Nat}{a e c:Nat}(h:∀k,g k<=f k+if a<=k/\k<e then c else 0):∀n:Nat,vT g n<=vT f n+c*(min e n-a)
 |0=>qj _
 |n+1=>by
  let j:=Tn h n;let i:=h n;unfold vT;by_cases z:a<=n/\n<e
  .rw[fR z]at i;let e1:min e (n+1)-a=(min e n-a)+1:=by lia
   rw[e1,akV,anM]
   lia
  .lia
def wB(T:Re):Nat:=3*T.length+4
def nu(d:Nd):Nat:=if d.st="off" then 0 else if d.asked then 1 else 2
def tk(T:Re)(k:Nat)(d:Nd):Nat:=d.wait.length*(dp T k+2)+if d.st="down"/\d.asked=false then dp T k+1 else 0
def pn(T:Re)(k:Nat)(d:Nd):Nat:=wB T*tk T k d+nu d+if d.st="turning" then 3*T.length else 0
def pe(T:Re)(S:HS):Nat:=match S.ends with
 |[]=>0
 |e::_=>if (S e.1).asked then 0 else wB T*(dp T e.1+1)
def ip(T:Re)(S:HS):Nat:=vT (λk=>pn T k (S k)) T.length+pe T S
structure qx(T:Re)(S S':HS):Prop where
 p:ip T S'+S'.book.length<=ip T S+S.book.length
 e:S'.ends.length+S.book.length<=S.ends.length+S'.book.length
theorem qx.refl(T:Re)(S:HS):qx T S S:=(gx _,gx _)
theorem qx.trans{T:Re}{S f c:HS}(a:qx T S f)(b:qx T f c):qx T S c:=(jC b.p a.p,by let:=a.e;let:=b.e;lia)
section
variable{T:Re}{S:HS}
def y9(h:S.ends=[]):pe T S=0:=by
 unfold pe;rw[h]
def y8{i:Nat}{g:Nd->Nd}(h:i<T.length)(a:S.ends=[]):ip T (up S i g)+pn T i (S i)=ip T S+pn T i (g (S i)):=by
 unfold ip;rw[y9 a,y9 (S:=up S i g) a]
 let:=Pk (g:=λk=>pn T k ((up S i g).nd k)) h λk c=>by
  rw[bu g c]
 let e:pn T i ((up S i g).nd i)=pn T i (g (S i)):=by rw[aw]
 simp_all
theorem EC(wd:Str)(i:Nat)(S:HS):ip T (write T wd i S)=ip T S:=rfl
def Qd{a e:Nat}(c:S.ends=[])(j:e<=T.length)(h:∀k,a<=k->k<e->(S k).st="off"):ip T (gv T a e S)+(gv T a e S).book.length<=ip T S+S.book.length+3*(e-a):=by
 let i:(gv T a e S).book.length=S.book.length+(e-a):=by
  show(S.book++_).length=_;simp
 let ps:vT (λk=>pn T k ((gv T a e S).nd k)) T.length<=vT (λk=>pn T k (S k)) T.length+2*(min e T.length-a):=by
  erw[Tn (λk=>?_) _];show pn T k (if a<=k/\k<e then nz T S.clk k (S k) else S k)<=_;by_cases z:a<=k/\k<e
  .rw[fR z,fR z];let f:=h k z.1 z.2
   let g:pn T k (S k)=wB T*((S k).wait.length*(dp T k+2)):=by
    unfold pn tk nu;rw[f,fC (show ¬("off":Str)="turning" by decide)]
    rfl
   rw[g];unfold nz;cases f7 T k with
   |true=>
    show wB T*((S k).wait.length*(dp T k+2)+0)+2+0<=_;simp
   |false=>
    show wB T*(0*(dp T k+2)+0)+2+0<=_;simp
  .rw[fC z,fC z];erw[gx _]
 unfold ip;rw[y9 c,y9 (S:=gv T a e S) c,i];lia
def Jv.gv(h:gD T)(j:Jv T S){i m:Nat}(r:i<T.length)(t:par T i=some m)(v:(S m).st="on")(x:(S i).st="off")(w:S.ends=[]):Jv T (Hm.gv T i (en T i) S):=by
 let nd:∀k,(Hm.gv T i (en T i) S).nd k=if i<=k/\k<en T i then nz T S.clk k (S k) else S k:=λk=>rfl
 let c:∀k,(nz T S.clk k (S k)).st="on"/\(nz T S.clk k (S k)).asked=false:=λk=>by
  unfold nz;cases f7 T k<;>exact(rfl,rfl)
 erw[(λk o=>?_,λk o=>?_,λk f o a n=>?_,λk f o a g s=>?_,λf hd=>?_,λk p=>?_,λe u=>?_,by rw[show (Hm.gv T i (en T i) S).ends=S.ends from rfl,w];exact qj _)]
 .rw[nd]
  split
  .exact .inr (.inl (c k).1)
  .exact j.dl k o
 .rw[nd]
  split
  .exact .inr (.inl (c k).1)
  .exact j.dm k o
 .rw[nd]
  split
  .rw[(c f).1];decide
  .rename_i hr
   rw[nd]at n
   split at n
   .by_cases e:k=i
    .grind
    .let(m2,q1,q2,q3):=oR h r (k:=k) () ();rw[a]at q1;cases q1;erw[absurd (q2,()) hr]
   .exact j.up k f o a n
 .rw[nd]at g s;rw[nd f,nd k]
  split at g
  .rw[(c f).1]at g;erw[absurd g ∅]
  .rename_i hr
   rw[fC hr]at s;rw[fC hr];by_cases q:i<=k/\k<en T i
   .by_cases e:k=i
    .subst e;rw[t]at a;cases a;rw[v]at g;erw[absurd g ∅]
    .let(m2,q1,q2,q3):=oR h r (k:=k) () ();rw[a]at q1;cases q1;erw[absurd (q2,()) hr]
   .rw[fC q];erw[j.com k f o a g s]
 .rw[nd]at hd ⊢
  split at hd
  .rw[(c f).1]at hd;erw[absurd hd ∅]
  .rename_i hr
   rw[fC hr];erw[j.dwn f hd]
 .rw[nd]at p ⊢
  split at p
  .simp_all
  .rename_i hr
   rw[fC hr];erw[j.ask k p]
 .rw[show (Hm.gv T i (en T i) S).ends=S.ends from rfl,w]at u;cases u
theorem Jv.write(j:Jv T S)(wd:Str)(i:Nat):Jv T (Hm.write T wd i S):=(j.dl,j.dm,j.up,j.com,j.dwn,j.ask,j.pnd,j.one)
def Jv.turn(j:Jv T S){i:Nat}{g:Nd->Nd}(n:(S i).st≠"off")(x:S.ends=[])(u:(g (S i)).st≠"off")(s:f7 T i=true->(g (S i)).st="on"\/(g (S i)).st="told")(t:f7 T i=false->(g (S i)).st="on"\/(g (S i)).st="turning"\/(g (S i)).st="down")
  (v:(g (S i)).st="turning"->∀k,k<T.length->par T k=some i->hI (g (S i)).com (gm T k)=true->hI (g (S i)).bF (gm T k)=true\/(S k).st="off")
  (gd:(g (S i)).st="down"->(g (S i)).bF=2^(kids T i).length-1) (w:(g (S i)).asked=true->(g (S i)).st="told"\/(g (S i)).st="down") (q:par T i≠some i):Jv T (Hm.up S i g):=by
 let nd:∀k,(Hm.up S i g).nd k=if k=i then g (S i) else S k:=λk=>by
  by_cases e:k=i
  .rw[fR e,e,aw]
  .rw[fC e,bu g e]
 erw[(λk f=>?_,λk f=>?_,λk c f a h=>?_,λk c f a o m=>?_,λc hd=>?_,λk p=>?_,λe r=>?_,j.one)]
 .rw[nd];by_cases e:k=i
  .rw[fR e];erw[.inr (s (e ▸ f))]
  .rw[fC e];erw[j.dl k f]
 .rw[nd];by_cases e:k=i
  .rw[fR e];erw[.inr (t (e ▸ f))]
  .rw[fC e];erw[j.dm k f]
 .rw[nd];by_cases e:c=i
  .rwa[fR e]
  .rw[fC e];rw[nd]at h;by_cases e2:k=i
   .subst e2;erw[j.up k c f a n]
   .rw[fC e2]at h;erw[j.up k c f a h]
 .rw[nd c]at o m ⊢;rw[nd k];by_cases e:c=i
  .rw[fR e]at o m ⊢;subst e;let e2:k≠c:=λz=>q (by simp_all);rw[fC e2];erw[v o k f a m]
  .rw[fC e]at o m ⊢;rcases j.com k c f a o m with z|z
   .exact .inl z
   .by_cases e2:k=i
    .rw[e2]at z;erw[absurd z n]
    .rw[fC e2];erw[.inr z]
 .rw[nd]at hd ⊢;by_cases e:c=i
  .rw[fR e]at hd ⊢;rw[e];erw[gd hd]
  .rw[fC e]at hd ⊢;erw[j.dwn c hd]
 .rw[nd]at p ⊢;by_cases e:k=i
  .rw[fR e]at p ⊢;erw[.inr (w p)]
  .rw[fC e]at p ⊢;erw[j.ask k p]
 .rw[show (Hm.up S i g).ends=S.ends from rfl,x]at r;cases r
theorem uD(ok:kY T){i:Nat}(a:i<T.length):par T i≠some i:=λz=>absurd (ok.bB a z).1 (Mo _)
def JE(ok:kY T)(j:Jv T S){i:Nat}(f:i<T.length)(a:(S i).st≠"off")(o:(S i).asked=false)(m:S.ends=[]):Jv T (bj T i (Hm.write T "told" i S))/\qx T S (bj T i (Hm.write T "told" i S)):=by
 let n:=j.write "told" i
 let c:pn T i (((bj T i (Hm.write T "told" i S)).nd i))+1<=pn T i (S i):=by
  let e:(bj T i (Hm.write T "told" i S)).nd i=if f7 T i then {S i with st:="told",asked:=true,need:=(sh T i).cS,kG:=(sh T i).bU} else goDown T i {S i with asked:=true}:=by
   unfold bj;rw[aw]
   rfl
  let p:wB T*((S i).wait.length*(dp T i+2))+2<=pn T i (S i):=by
   let r:wB T*((S i).wait.length*(dp T i+2))<=wB T*tk T i (S i):=ajs _ (aj2 _ _)
   let q:nu (S i)=2:=by
    unfold nu;simp_all
   unfold pn
   lia
  rw[e];cases f7 T i with
  |true=>
   let:pn T i {S i with st:="told",asked:=true,need:=(sh T i).cS,kG:=(sh T i).bU}=wB T*((S i).wait.length*(dp T i+2))+1:=by
    rfl
   lia
  |false=>
   rw[fC jT]
   let:pn T i (goDown T i {S i with asked:=true})=1:=by
    show wB T*(0*(dp T i+2)+0)+1+0=1;rw[alj,anq]
   lia
 constructor
 .unfold bj;cases hl:f7 T i with
  |true=>erw[n.turn a m (by show("told":Str)≠"off";decide) (λ_=>.inr rfl) (λz=>by simp_all) (λz=>absurd (show("told":Str)="turning" from z) ∅) (λz=>absurd (show("told":Str)="down" from z) ∅) (λ_=>.inl rfl) (uD ok f)]
  |false=>erw[n.turn a m (by show("down":Str)≠"off";decide) (λz=>by simp_all) (λ_=>.inr (.inr rfl)) (λz=>absurd (show("down":Str)="turning" from z) ∅) (λ_=>rfl) (λ_=>.inr rfl) (uD ok f)]
 .let lb:(bj T i (Hm.write T "told" i S)).book.length=S.book.length+1:=dA "told" i S
  constructor
  .let h:=y8 (g:=λd=>if f7 T i then {d with st:="told",asked:=true,need:=(sh T i).cS,kG:=(sh T i).bU} else goDown T i {d with asked:=true}) f m;let e2:(bj T i (Hm.write T "told" i S)).nd i=(λd=>if f7 T i then {d with st:="told",asked:=true,need:=(sh T i).cS,kG:=(sh T i).bU} else goDown T i {d with asked:=true}) ((Hm.write T "told" i S).nd i):=aw _ _ _;rw[e2]at c;let h:ip T (bj T i (Hm.write T "told" i S))+pn T i (S i)=ip T S+pn T i ((λd=>if f7 T i then {d with st:="told",asked:=true,need:=(sh T i).cS,kG:=(sh T i).bU} else goDown T i {d with asked:=true}) ((Hm.write T "told" i S).nd i)):=h;lia
  .rw[lb,show(bj T i (Hm.write T "told" i S)).ends=S.ends from rfl]
   lia
end
section
variable{T:Re}{S:HS}
def uv{i:Nat}{wd:Str}(a:wd≠"")(c:S.ends=[]):Hm.aX T i wd S={Hm.write T wd i (Hm.up S i λd=>{d with st:="off"}) with ends:=[(i,wd)]}:=by
 unfold Hm.aX;rw[fC a,c]
 rfl
def Jv.aX(ok:kY T)(j:Jv T S){i:Nat}(r:i<T.length)(p:(S i).st≠"off")(v:∀k,k<T.length->par T k=some i->(S k).st="off")(w:S.ends=[]){wd:Str}:Jv T (Hm.aX T i wd S):=by
 by_cases t:wd=""
 .unfold Hm.aX;rwa[fR t]
 rw[uv t w]
 let nd:∀k,(Hm.up S i λd=>{d with st:="off"}).nd k=if k=i then {S i with st:="off"} else S k:=λk=>by
  by_cases e:k=i
  .rw[fR e,e,aw]
  .rw[fC e,bu _ e]
 erw[(λk q=>?_,λk q=>?_,λk c g f a=>?_,λk c g f h n=>?_,λc hd=>?_,λk o=>?_,λe u=>?_,gx _)]
 .show ((Hm.up S i λd=>{d with st:="off"}).nd k).st=_\/((Hm.up S i λd=>{d with st:="off"}).nd k).st=_\/((Hm.up S i λd=>{d with st:="off"}).nd k).st=_;rw[nd];by_cases e:k=i
  .rw[fR e];erw[.inl rfl]
  .rw[fC e];erw[j.dl k q]
 .show ((Hm.up S i λd=>{d with st:="off"}).nd k).st=_\/((Hm.up S i λd=>{d with st:="off"}).nd k).st=_\/((Hm.up S i λd=>{d with st:="off"}).nd k).st=_\/((Hm.up S i λd=>{d with st:="off"}).nd k).st=_;rw[nd];by_cases e:k=i
  .rw[fR e];erw[.inl rfl]
  .rw[fC e];erw[j.dm k q]
 .let a:((Hm.up S i λd=>{d with st:="off"}).nd k).st≠"off":=a;show((Hm.up S i λd=>{d with st:="off"}).nd c).st≠"off";rw[nd]at a ⊢;by_cases e:k=i
  .rw[fR e]at a;erw[absurd rfl a]
  .rw[fC e]at a;by_cases e2:c=i
   .rw[e2]at f;erw[absurd (v k g f) a]
   .rw[fC e2];erw[j.up k c g f a]
 .let h:((Hm.up S i λd=>{d with st:="off"}).nd c).st="turning":=h;let n:hI ((Hm.up S i λd=>{d with st:="off"}).nd c).com (gm T k)=true:=n;show hI ((Hm.up S i λd=>{d with st:="off"}).nd c).bF (gm T k)=true\/((Hm.up S i λd=>{d with st:="off"}).nd k).st="off";rw[nd c]at h n ⊢;by_cases e2:c=i
  .rw[fR e2]at h;erw[absurd (show("off":Str)="turning" from h) ∅]
  .rw[fC e2]at h n ⊢;rcases j.com k c g f h n with z|z
   .exact .inl z
   .right
    rw[nd];by_cases e:k=i
    .rw[fR e]
    .rwa[fC e]
 .let hd:((Hm.up S i λd=>{d with st:="off"}).nd c).st="down":=hd;show((Hm.up S i λd=>{d with st:="off"}).nd c).bF=_;rw[nd]at hd ⊢;by_cases e:c=i
  .rw[fR e]at hd;erw[absurd (show("off":Str)="down" from hd) ∅]
  .rw[fC e]at hd ⊢;erw[j.dwn c hd]
 .let o:((Hm.up S i λd=>{d with st:="off"}).nd k).asked=true:=o;show((Hm.up S i λd=>{d with st:="off"}).nd k).st=_\/((Hm.up S i λd=>{d with st:="off"}).nd k).st=_\/((Hm.up S i λd=>{d with st:="off"}).nd k).st=_;rw[nd]at o ⊢;by_cases e:k=i
  .rw[fR e];erw[.inl rfl]
  .rw[fC e]at o ⊢;erw[j.ask k o]
 .obtain rfl:=l9.mp u;refine(r,?_,λm s=>?_)
  .show ((Hm.up S i λd=>{d with st:="off"}).nd i).st="off";rw[aw]
  .show ((Hm.up S i λd=>{d with st:="off"}).nd m).st≠"off";let ne:m≠i:=λz=>uD ok r (by rw[z]at s;erw[s]);rw[bu _ ne];erw[j.up i m r s p]
def Ug{i:Nat}{wd:Str}(h:i<T.length)(j:wd≠"")(a:S.ends=[]):ip T (Hm.aX T i wd S)+pn T i (S i)=ip T S+wB T*((S i).wait.length*(dp T i+2))+(if (S i).asked then 0 else wB T*(dp T i+1))/\(Hm.aX T i wd S).book.length=S.book.length+1/\(Hm.aX T i wd S).ends=[(i,wd)]:=by
 rw[uv j a];erw[(?_,dA wd i (Hm.up S i λd=>{d with st:="off"}),rfl)];let c:=y8 (g:=λd=>{d with st:="off"}) h a
 let e1:pn T i {S i with st:="off"}=wB T*((S i).wait.length*(dp T i+2)):=by
  rfl
 rw[e1]at c
 let e:ip T (Hm.up S i λd=>{d with st:="off"})=vT (λk=>pn T k ((Hm.up S i λd=>{d with st:="off"}).nd k)) T.length:=by
  unfold ip;rw[y9 (S:=Hm.up S i λd=>{d with st:="off"}) a]
  rfl
 let f:ip T {Hm.write T wd i (Hm.up S i λd=>{d with st:="off"}) with ends:=[(i,wd)]}=vT (λk=>pn T k ((Hm.up S i λd=>{d with st:="off"}).nd k)) T.length+if (S i).asked then 0 else wB T*(dp T i+1):=by
  show _+(if ((Hm.up S i λd=>{d with st:="off"}).nd i).asked=true then 0 else wB T*(dp T i+1))=_;rw[aw]
  rfl
 lia
def adz{d:Nd}(h:d.st≠"off"):1<=nu d:=by
 unfold nu;split<;>lia
def UG{i:Nat}(m:i<T.length)(c:(S i).st≠"off")(h:S.ends=[]){wd:Str}(n:(S i).asked=true\/(S i).st="down"):qx T S (Hm.aX T i wd S):=by
 by_cases g:wd=""
 .unfold Hm.aX;rw[fR g];erw[qx.refl T S]
 let(a,f,j):=Ug m g h;let o:=adz c
 constructor
 .cases ha:(S i).asked with
  |true=>
   rw[ha,fR rfl]at a;let p:wB T*((S i).wait.length*(dp T i+2))<=wB T*tk T i (S i):=ajs _ (aj2 _ _);let e:pn T i (S i)=wB T*tk T i (S i)+nu (S i)+if (S i).st="turning" then 3*T.length else 0:=rfl;lia
  |false=>
   rw[ha,fC jT]at a
   let hd:(S i).st="down":=by
    simp_all
   let e:tk T i (S i)=(S i).wait.length*(dp T i+2)+(dp T i+1):=by
    unfold tk;rw[fR (hd,ha)]
   let e2:pn T i (S i)=wB T*tk T i (S i)+nu (S i)+if (S i).st="turning" then 3*T.length else 0:=rfl;rw[e]at e2;lia
 .rw[f,j,h];show 1+S.book.length<=0+(S.book.length+1)
  lia
def Qz{i:Nat}(h:i<T.length)(m:S.ends=[]){wd:Str}(a:(S i).st≠"off")(hd:dp T i<=8):ip T (Hm.aX T i wd S)+(Hm.aX T i wd S).book.length<=ip T S+S.book.length+9*wB T:=by
 by_cases c:wd=""
 .unfold Hm.aX;lia
 let(f,g,o):=Ug h c m;let n:=adz a;let q:wB T*((S i).wait.length*(dp T i+2))<=wB T*tk T i (S i):=ajs _ (aj2 _ _);let e:pn T i (S i)=wB T*tk T i (S i)+nu (S i)+if (S i).st="turning" then 3*T.length else 0:=rfl
 let j:wB T*(dp T i+1)<=9*wB T:=by
  rw[aoD 9];erw[ajs _ ()]
 let p:(if (S i).asked=true then 0 else wB T*(dp T i+1))<=9*wB T:=by
  split
  .lia
  .exact j
 lia
def aeG{wd:Str}(h:isWord wd):wd≠"":=by
 rcases h with rfl|rfl|rfl|rfl|rfl<;>decide
def QA(h:gD T)(j:Jv T S){m:Nat}(p:m<T.length)(G:f7 T m=false)(q:(S m).st="turning"\/(S m).st="down")(A:aS T m S=none)(o:S.ends=[]):
  Jv T (Hm.aV T m S)/\qx T S (Hm.aV T m S)/\((Hm.aV T m S).ends≠[]->((Hm.aV T m S).nd m).st≠"on"):=by
 let ok:=gD.tok h;let e:(S m).st≠"off":=by rcases q with z|z<;>rw[z]<;>decide
 unfold Hm.aV;by_cases hd:(S m).st="down"
 .rw[fR hd];let I:∀k,k<T.length->par T k=some m->(S k).st="off":=λk c n=>uE A c n (by rw[j.dwn m hd];erw[xK (gR c n)]);erw[(j.aX ok p e I o,UG p e o (.inr hd),λ_=>?_)];rw[uv (aeG (P4 _)) o];show((Hm.up S m λd=>{d with st:="off"}).nd m).st≠"on";rw[aw];show("off":Str)≠"on"
  decide
 .rw[fC hd];let t:(S m).st="turning":=by rcases q with z|z;erw[z];exact absurd z hd
  let u:(S m).asked=false:=by
   cases z:(S m).asked with
   |false=>rfl
   |true=>rcases j.ask m z with y|y|y<;>rw[t]at y<;>erw[absurd y ∅]
  let K:Jv T (Hm.up S m aR):=j.turn e o (by show("on":Str)≠"off";decide) (λz=>by simp_all) (λ_=>.inl rfl) (λz=>absurd (show("on":Str)="turning" from z) ∅) (λz=>absurd (show("on":Str)="down" from z) ∅) (λz=>by rw[show (aR (S m)).asked=(S m).asked from rfl,u]at z;cases z) (uD ok p);let M:=y8 (g:=aR) p o
  let N:pn T m (aR (S m))+3*T.length=pn T m (S m):=by
   let t1:tk T m (aR (S m))=(S m).wait.length*(dp T m+2):=by
    rfl
   let H:tk T m (S m)=(S m).wait.length*(dp T m+2):=by
    unfold tk;rw[fC (λz=>hd z.1)]
    rfl
   let J:nu (aR (S m))=2:=by
    unfold nu aR;rw[u]
    rfl
   let F:nu (S m)=2:=by
    unfold nu;rw[fC e,u]
    rfl
   unfold pn;rw[t1,H,J,F,fR t,fC (show ¬(aR (S m)).st="turning" from(by decide:¬("on":Str)="turning"))]
  let(e1,e2,e3,e4):=eO p
  let v:=P7 h p S (λa S'=>Jv T S'/\S'.ends=[]/\(S' m).st="on"/\(∀k,a<=k->S' k=S k)/\ip T S'+S'.book.length<=ip T (Hm.up S m aR)+S.book.length+3*(a-(m+1)))
   (λk S' c n B s=>?_) (λk S' c n s=>?_) (Hm.up S m aR) (K,o,by rw[aw];rfl,λk c=>bu _ (),by rw[Bn];erw[gx _])
  .let(k1,k2,k3,k4,k5):=v;refine(k1,(?_,?_),λz=>absurd k2 z)
   .lia
   .rw[k2,o];let:=tw (aY T m S) (Hm.up S m aR) (f:=λS j=>Hm.bz T 9 j S) λj _ S=>oY 9 j S;erw[amV this _]
  .let(k1,k2,k3,k4,k5):=s;let(L,w,C,E):=eO c;let mk:=(o7 h c n).1
   let off:(S' k).st="off":=by
    rw[k4 k (gx _)];let r:=(mJ.mp B).2;rw[mu]at r;rcases j.com k m c n t r.1 with z|z
    .exact uE A c n z
    .exact z
   erw[(k1.gv h c n k3 off k2,k2,?_,λx D=>?_,?_)]
   .show (if k<=m/\m<en T k then _ else S' m).st="on";rwa[fC ()]
   .show (if k<=x/\x<en T k then _ else S' x)=_;rw[fC ()];erw[k4 x ()]
   .let:=Qd k2 w (k1.below h c off)
    lia
  .let(k1,k2,k3,k4,k5):=s;let(L,w,C,E):=eO c;exact(k1,k2,k3,λx D=>k4 x (),())
end
section
variable{T:Re}{S:HS}
theorem Cy(h:gD T)(d:Nat)(tl:∀(i:Nat) (S:HS),i<T.length->(S i).st≠"off"->(S i).asked=false->Jv T S->S.ends=[]->Jv T (cz T d i S)/\qx T S (cz T d i S)):∀(m:Nat) (S:HS),m<T.length->f7 T m=false->(S m).st="turning"\/(S m).st="down"->Jv T S->S.ends=[]->Jv T (aC T d m S)/\qx T S (aC T d m S)/\((aC T d m S).ends≠[]->((aC T d m S).nd m).st≠"on")
 |m,S,hm,hl,hst,j,he=>by
  let ok:=gD.tok h;let c:(S m).st≠"on":=by rcases hst with z|z<;>rw[z]<;>decide
  unfold aC;cases hL:aS T m S with
  |none=>erw[QA h j hm hl hst hL he]
  |some k=>
   let(k1,k2,k3):=lW hL;dsimp only;cases ha:(S k).asked with
   |true=>
    exact(j,qx.refl T S,λz=>absurd he z)
   |false=>
    rw[fC jT];let(a,b):=tl k S k1 k3 ha j he;erw[(a,b,λ_=>?_)];rwa[Ju ok d k m S (ok.bB k1 k2).1]
theorem xD(h:gD T):∀(d i:Nat) (S:HS),i<T.length->(S i).st≠"off"->(S i).asked=false->Jv T S->S.ends=[]->Jv T (cz T d i S)/\qx T S (cz T d i S)
 |0,_,S,_,_,_,j,_=>(j,qx.refl T S)
 |d+1,i,S,hi,hon,ha,j,he=>by
  let ok:=gD.tok h;let(f,g):=JE ok j hi hon ha he;let e1:(bj T i (Hm.write T "told" i S)).ends=[]:=he
  let e:(bj T i (Hm.write T "told" i S)).nd i=if f7 T i then {S i with st:="told",asked:=true,need:=(sh T i).cS,kG:=(sh T i).bU} else goDown T i {S i with asked:=true}:=by
   unfold bj;rw[aw]
   rfl
  rw[eJ];cases hl:f7 T i with
  |true=>
   rw[hl]at e;let c:((bj T i (Hm.write T "told" i S)).nd i).st="told"/\((bj T i (Hm.write T "told" i S)).nd i).asked=true:=by rw[e];exact(rfl,rfl)
   erw[(f.aX ok hi (by rw[c.1];decide) (λk m n=>?_) e1,g.trans (UG hi (by rw[c.1];decide) e1 (.inl c.2)))];rw[(ok.bB m n).2]at hl;cases hl
  |false=>
   rw[hl]at e;let c:((bj T i (Hm.write T "told" i S)).nd i).st="down":=by rw[e];rfl
   let(a,b,_):=Cy h d (xD h d) i _ hi hl (.inr c) f e1;exact(a,g.trans b)
theorem rH(h:gD T)(d:Nat):∀(m:Nat) (S:HS),m<T.length->f7 T m=false->(S m).st="turning"\/(S m).st="down"->Jv T S->S.ends=[]->Jv T (aC T d m S)/\qx T S (aC T d m S)/\((aC T d m S).ends≠[]->((aC T d m S).nd m).st≠"on"):=Cy h d (xD h d)
def Jv.same{S':HS}(j:Jv T S)(f:∀k,(S' k).st=(S k).st/\(S' k).com=(S k).com/\(S' k).bF=(S k).bF/\(S' k).asked=(S k).asked)(r:S'.ends=S.ends):Jv T S':=by
 erw[(λk g=>?_,λk g=>?_,λk m g h q=>?_,λk m g h n i=>?_,λm hd=>?_,λk o=>?_,λe p=>?_,by rw[r];exact j.one)]
 .rw[(f k).1];erw[j.dl k g]
 .rw[(f k).1];erw[j.dm k g]
 .rw[(f k).1]at q;rw[(f m).1];erw[j.up k m g h q]
 .rw[(f m).1]at n;rw[(f m).2.1]at i;rw[(f m).2.2.1,(f k).1];erw[j.com k m g h n i]
 .rw[(f m).1]at hd;rw[(f m).2.2.1];erw[j.dwn m hd]
 .rw[(f k).2.2.2]at o;rw[(f k).1];erw[j.ask k o]
 .rw[r]at p;let(a,b,c):=j.pnd e p;exact(a,by simp_all,λm s=>by rw[(f m).1];erw[c m s])
theorem ji{i:Nat}{g:Nd->Nd}(a:∀d,(g d).st=d.st/\(g d).com=d.com/\(g d).bF=d.bF/\(g d).asked=d.asked):∀k,((Hm.up S i g).nd k).st=(S k).st/\((Hm.up S i g).nd k).com=(S k).com/\((Hm.up S i g).nd k).bF=(S k).bF/\((Hm.up S i g).nd k).asked=(S k).asked:=λk=>by
 by_cases e:k=i
 .rw[e,aw];erw[a _]
 .rw[bu g e];exact(rfl,rfl,rfl,rfl)
def toBe_off{m i:Nat}(h:toBe T m i S=true):(S i).st="off":=by
 unfold toBe at h;rw[mu]at h;erw[iB h.1]
def Ve(h:gD T){m i:Nat}(p:i<T.length)(o:par T i=some m)(g:(S i).st="off"){k:Nat}(j:k<T.length)(c:par T k=some m){good:Nat}(f:hI (anew (sh T m).kind (gm T i) (kids T m).length λx=>hI good x) (gm T k)=true):
  hI (Shp.gj (sh T m).kind (gm T i) (kids T m).length λx=>hI (bf T m S) x) (gm T k)=true\/(S k).st="off":=by
 let no:hI (bf T m S) (gm T k)= !bK S k:=by
  unfold bf;rw[aT,mW j c,gy (gR j c)]
  rfl
 let inj:gm T k=gm T i->k=i:=λe=>by
  let a:=mW j c;let b:=mW p o;rw[e,b]at a;exact(iJ a).symm
 let lt:=gR j c;by_cases n:(S k).st="off"
 .exact .inr n
 .left
  let on:hI (bf T m S) (gm T k)=true:=by
   rw[no];unfold bK;rw[iR n]
   rfl
  let ne:gm T k≠gm T i:=λz=>n (by rwa[inj z]);unfold Shp.gj anew at *
  split at f
  .rw[aT,mu]at f;erw[absurd (iB f.2) ne]
  .rw[aT,gy lt,on]
   rfl
  .rw[aT,mu,mu]at f;rw[aT,gy lt];show(true&&(hI (bf T m S) (gm T k)&&decide (gm T i<gm T k)))=true;rw[on,gy (show gm T i<gm T k by lia)]
   rfl
def Ir{S':HS}(c:∀k,k<T.length->pn T k (S' k)=pn T k (S k))(e:S.ends=[])(a:S'.ends=[]):ip T S'=ip T S:=by
 unfold ip;rw[y9 e,y9 a,NK c]
def R5(h:gD T)(j:Jv T S){m i:Nat}{r:List Nat}(s:m<T.length)(G:f7 T m=false)(K:i<T.length)(I:par T i=some m)(L:(S m).wait=i::r)(c:(S m).st="on")(M:S.ends=[]) (Y:toBe T m i (Hm.up S m λd=>{d with wait:=r})=true):
  Jv T (br T m i (Hm.up S m λd=>{d with wait:=r}))/\(br T m i (Hm.up S m λd=>{d with wait:=r})).ends=[]/\(((br T m i (Hm.up S m λd=>{d with wait:=r})).nd m).st="turning"\/((br T m i (Hm.up S m λd=>{d with wait:=r})).nd m).st="down")/\ip T (br T m i (Hm.up S m λd=>{d with wait:=r}))+1<=ip T (Hm.up S m λd=>{d with wait:=r})+wB T*(dp T m+2):=by
 let ok:=gD.tok h
 let N:(S m).asked=false:=by
  cases z:(S m).asked with
  |false=>rfl
  |true=>rcases j.ask m z with y|y|y<;>rw[c]at y<;>erw[absurd y ∅]
 let W:Jv T (Hm.up S m λd=>{d with wait:=r}):=j.same (ji λd=>(rfl,rfl,rfl,rfl)) rfl;let e1:(Hm.up S m λd=>{d with wait:=r}).ends=[]:=M;let v:=y8 (g:=λd=>{d with wait:=r}) s M
 let nm:∀w,pn T m {S m with wait:=w}=wB T*(w.length*(dp T m+2))+2:=λw=>by
  unfold pn tk nu;rw[c,N,fC (show ¬("on":Str)="turning" by decide)]
  rfl
 let X:pn T m (S m)=wB T*((r.length+1)*(dp T m+2))+2:=by
  let:=nm (S m).wait;rw[L]at this;let e:({S m with wait:=i::r})=S m:=by rw[<- L]
  rw[e]at this;erw[this]
 let J:=nm r
 generalize hS1:(Hm.up S m λd=>{d with wait:=r})=S1 at *;let A:(S1 m).st="on":=by rwa[<- hS1,aw]
 let x:(S1 m).asked=false:=by rwa[<- hS1,aw]
 let C:pn T m (S1 m)=wB T*(r.length*(dp T m+2))+2:=by rwa[<- hS1,aw]
 let p:=toBe_off Y;let(l,t,_):=oV m S1;let F:Jv T (Hm.aL T m S1).2:=by rw[t];erw[W.same (ji λd=>(rfl,rfl,rfl,rfl)) rfl]
 let n:(Hm.aL T m S1).2.ends=[]:=by rwa[t]
 let H:ip T (Hm.aL T m S1).2=ip T S1:=by
  rw[t];erw[Ir (λk _=>?_) e1 e1];by_cases e:k=m
  .rw[e,aw];rfl
  .rw[bu _ e]
 let u:(Hm.aL T m S1).2.nd m={S1 m with aA:=l}:=by rw[t,aw]
 let P:∀k,k≠m->(Hm.aL T m S1).2.nd k=S1 k:=λk D=>by rw[t,bu _ D]
 let o:((Hm.aL T m S1).2.nd m).st="on":=by rwa[u]
 let f:((Hm.aL T m S1).2.nd m).asked=false:=by rwa[u]
 let q:pn T m ((Hm.aL T m S1).2.nd m)=wB T*(r.length*(dp T m+2))+2:=by rwa[u]
 let mi:=(ok.bB K I).1
 let Q:Jv T (br T m i S1)/\(br T m i S1).ends=[]/\(((br T m i S1).nd m).st="turning"\/((br T m i S1).nd m).st="down")/\ip T (br T m i S1)+1<=ip T S1+wB T*(dp T m+2):=by
  unfold br
  split
  .let jw:=F.write "gives up" m;refine(jw.turn (by show((Hm.aL T m S1).2.nd m).st≠"off";rw[o];decide) n (by show("down":Str)≠"off";decide) (λz=>by simp_all) (λ_=>.inr (.inr rfl)) (λz=>absurd (show("down":Str)="turning" from z) ∅) (λ_=>rfl) (λ_=>.inr rfl) (uD ok s),n,.inr ?_,?_)
   .show ((Hm.up _ m _).nd m).st="down";rw[aw]
    rfl
   .let a:=y8 (S:=Hm.write T "gives up" m (Hm.aL T m S1).2) (g:=λd=>goDown T m {d with BC:=true}) s n;rw[EC,H]at a;let e2:pn T m ((Hm.write T "gives up" m (Hm.aL T m S1).2).nd m)=wB T*(r.length*(dp T m+2))+2:=q
    let e3:pn T m (goDown T m { (Hm.write T "gives up" m (Hm.aL T m S1).2).nd m with BC:=true})=wB T*(dp T m+1)+2:=by
     let B:((Hm.write T "gives up" m (Hm.aL T m S1).2).nd m).asked=false:=f;unfold pn tk nu goDown;rw[B,fC (show ¬("down":Str)="off" by decide),fC (show ¬("down":Str)="turning" by decide)];simp
    rw[e2,e3]at a;let a:ip T (giveUp T m (Hm.write T "gives up" m (Hm.aL T m S1).2))+(wB T*(r.length*(dp T m+2))+2)=ip T S1+(wB T*(dp T m+1)+2):=a;let:4<=wB T:=by unfold wB;lia
    lia
  .let jw:=F.write "answers" i;refine(jw.turn (by show((Hm.aL T m S1).2.nd m).st≠"off";rw[o];decide) n (by show("turning":Str)≠"off";decide) (λz=>by simp_all) (λ_=>.inr (.inl rfl)) (λ_ k D E U=>?_) (λz=>absurd (show("turning":Str)="down" from z) ∅) (λz=>?_) (uD ok s),n,.inl ?_,?_)
   .refine Ve h K I ?_ D E U;show((Hm.aL T m S1).2.nd i).st="off";rwa[P i ()]
   .let z:((Hm.aL T m S1).2.nd m).asked=true:=z;rw[f]at z;cases z
   .show ((Hm.up _ m _).nd m).st="turning";rw[aw]
    rfl
   .let a:=y8 (S:=Hm.write T "answers" i (Hm.aL T m S1).2) (g:=B7 T m i (Hm.write T "answers" i (Hm.aL T m S1).2)) s n;rw[EC,H]at a;let e2:pn T m ((Hm.write T "answers" i (Hm.aL T m S1).2).nd m)=wB T*(r.length*(dp T m+2))+2:=q
    let R:((Hm.write T "answers" i (Hm.aL T m S1).2).nd m).wait=r:=by
     show((Hm.aL T m S1).2.nd m).wait=r;rw[u,<-hS1];rw[aw]
    let e3:pn T m (B7 T m i (Hm.write T "answers" i (Hm.aL T m S1).2) ((Hm.write T "answers" i (Hm.aL T m S1).2).nd m))=wB T*(r.length*(dp T m+2))+2+3*T.length:=by
     let B:((Hm.write T "answers" i (Hm.aL T m S1).2).nd m).asked=false:=f;unfold pn tk nu B7;rw[B,R,fR rfl]
     rfl
    rw[e2,e3]at a;let a:ip T (fP T m i (Hm.write T "answers" i (Hm.aL T m S1).2))+(wB T*(r.length*(dp T m+2))+2)=ip T S1+(wB T*(r.length*(dp T m+2))+2+3*T.length):=a;let:wB T=3*T.length+4:=rfl
    lia
 erw[Q]
def Jf(h:gD T)(j:Jv T S){m i:Nat}{r:List Nat}(q:m<T.length)(v:f7 T m=false)(E:i<T.length)(x:par T i=some m)(o:(S m).wait=i::r)(a:(S m).st="on")(n:S.ends=[]):
  Jv T (cy T m i r S)/\qx T S (cy T m i r S)/\((cy T m i r S).ends≠[]->((cy T m i r S).nd m).st≠"on"):=by
 let I:(S m).asked=false:=by
  cases z:(S m).asked with
  |false=>rfl
  |true=>rcases j.ask m z with y|y|y<;>rw[a]at y<;>erw[absurd y ∅]
 let B:Jv T (Hm.up S m λd=>{d with wait:=r}):=j.same (ji λd=>(rfl,rfl,rfl,rfl)) rfl;let e1:=n;let f:=y8 (g:=λd=>{d with wait:=r}) q n
 let nm:∀w,pn T m {S m with wait:=w}=wB T*(w.length*(dp T m+2))+2:=λw=>by
  unfold pn tk nu;rw[a,I,fC (show ¬("on":Str)="turning" by decide)]
  rfl
 let C:pn T m (S m)=wB T*((r.length+1)*(dp T m+2))+2:=by
  let:=nm (S m).wait;rw[o]at this;let e:({S m with wait:=i::r})=S m:=by rw[<- o]
  rw[e]at this;erw[this]
 let A:=nm r
 unfold cy;by_cases s:toBe T m i (Hm.up S m λd=>{d with wait:=r})=true
 .rw[fR s];let(G,u,F,J):=R5 h j q v E x o a n s;let c:(Hm.up S m λd=>{d with wait:=r}).book=S.book:=rfl;rw[jD];let(D,b2,H):=rH h 9 m _ q v F G u;let t:=xO (T:=T) m i (Hm.up S m λd=>{d with wait:=r});refine(D,(?_,?_),H)
  .let:=b2.p;lia
  .let:=b2.e;rw[u,t]at this;lia
 .rw[fC s];erw[(B,(?_,gx _),λz=>absurd e1 z)];show ip T _+S.book.length<=_
  lia
end
section
variable{T:Re}{S:HS}
theorem FP(h:gD T):∀(f m:Nat) (S:HS),m<T.length->f7 T m=false->Wf T S->Jv T S->((S m).st="on"->S.ends=[])->Jv T (bt T f m S)/\qx T S (bt T f m S)
 |0,_,S,_,_,_,j,_=>(j,qx.refl T S)
 |f+1,m,S,hm,hl,w,j,he=>by
  let ok:=gD.tok h;unfold bt;by_cases g:(S m).st="on"
  .rw[fR g];cases hw:(S m).wait with
   |nil=>exact(j,qx.refl T S)
   |cons i r=>
    let(o,n):=w.wt m i (by rw[hw];erw[lq]);let(a,b,c):=Jf h j hm hl o n hw g (he g)
    let(d,e):=FP h f m (cy T m i r S) hm hl (w.cy ok hm hl hw).1 a (λz=>by
     cases y:(cy T m i r S).ends with
     |nil=>rfl
     |cons u v=>erw[absurd z (c (by rw[y];exact λz=>by cases z))])
    exact(d,b.trans e)
  .rw[fC g];exact(j,qx.refl T S)
def Uz(h:gD T)(w:Wf T S)(j:Jv T S){i m:Nat}{wd:Str}(f:S.ends=[(i,wd)])(g:par T i=some m):Jv T (bD T m i wd {S with ends:=[]})/\(bD T m i wd {S with ends:=[]}).ends=[]/\((bD T m i wd {S with ends:=[]}).nd m).st=(S m).st:=by
 let a:Jv T {S with ends:=[]}:=(j.dl,j.dm,j.up,j.com,j.dwn,j.ask,λe c=>(by cases c),qj _);unfold bD gX
 split
 .exact (a,rfl,rfl)
 .split
  .exact (a.same (ji λd=>(rfl,rfl,rfl,rfl)) rfl,rfl,by rw[aw])
  .split
   .exact (a.same (ji λd=>(rfl,rfl,rfl,rfl)) rfl,rfl,by rw[aw])
   .exact (a,rfl,rfl)
def Ia(h:gD T)(w:Wf T S)(j:Jv T S){i:Nat}{wd:Str}(F:S.ends=[(i,wd)]):Jv T (mV T i wd {S with ends:=[]})/\ip T (mV T i wd {S with ends:=[]})+(mV T i wd {S with ends:=[]}).book.length<=ip T S+S.book.length∧
  (mV T i wd {S with ends:=[]}).ends.length+S.book.length<=(mV T i wd {S with ends:=[]}).book.length:=by
 let ok:=gD.tok h;let(n,Z,f):=j.pnd (i,wd) (by rw[F];erw[lq]);let n:i<T.length:=n;let(H,I,_,_):=w.pop F;let q:Jv T {S with ends:=[]}:=(j.dl,j.dm,j.up,j.com,j.dwn,j.ask,λe N=>(by cases N),qj _)
 let s:ip T {S with ends:=[]}+(if (S i).asked then 0 else wB T*(dp T i+1))=ip T S:=by
  unfold ip pe;rw[F]
  rfl
 cases hp:par T i with
 |none=>
  rw[oS hp];erw[(q,?_,?_)]
  .lia
  .show 0+S.book.length<=S.book.length
   lia
 |some m=>
  rw[lJ hp];let(mi,r):=ok.bB n hp;let E:m<T.length:=by lia
  let t:=f m hp;let P:=(o7 h n hp).2.2;let J:=H.cK ok (wd:=wd) n hp (I m)
  let W:Jv T (bD T m i wd {S with ends:=[]})/\(bD T m i wd {S with ends:=[]}).ends=[]/\((bD T m i wd {S with ends:=[]}).nd m).st=(S m).st/\ip T (bD T m i wd {S with ends:=[]})<=ip T S:=by
   unfold bD;cases ha:(S i).asked with
   |true=>
    exact(q,rfl,rfl,())
   |false=>
    rw[ha,fC jT]at s;rw[fC jT];unfold gX
    split
    .refine (q.same (ji λd=>(rfl,rfl,rfl,rfl)) rfl,rfl,?_,?_)
     .rw[aw]
     .let e:ip T (up {S with ends:=[]} m λd=>{d with good:=d.good ||| 2^gm T i})=ip T {S with ends:=[]}:=by
       erw[Ir (λk _=>?_) rfl rfl];by_cases e:k=m
       .rw[e,aw];rfl
       .rw[bu _ e]
      lia
    .split
     .refine (q.same (ji λd=>(rfl,rfl,rfl,rfl)) rfl,rfl,?_,?_)
      .rw[aw]
      .let A:=y8 (S:={S with ends:=[]}) (g:=λd=>{d with wait:=d.wait++[i]}) E rfl
       let e1:pn T m {S m with wait:=(S m).wait++[i]}=pn T m (S m)+wB T*(dp T m+2):=by
        unfold pn
        let:tk T m {S m with wait:=(S m).wait++[i]}=tk T m (S m)+(dp T m+2):=by
         unfold tk;rw[jm];show((S m).wait.length+1)*(dp T m+2)+(if (S m).st="down"/\(S m).asked=false then dp T m+1 else 0)=_;lia
        rw[this,akV];show wB T*tk T m (S m)+wB T*(dp T m+2)+nu (S m)+(if (S m).st="turning" then 3*T.length else 0)=wB T*tk T m (S m)+nu (S m)+(if (S m).st="turning" then 3*T.length else 0)+wB T*(dp T m+2)
        lia
       rw[P]at s;lia
     .exact (q,rfl,rfl,())
  let(D,C,Q,Y):=W;let G:=Bl (T:=T) m i wd {S with ends:=[]}
  let U:Jv T (cK T m i wd {S with ends:=[]})/\qx T (bD T m i wd {S with ends:=[]}) (cK T m i wd {S with ends:=[]})/\(((cK T m i wd {S with ends:=[]}).nd m).st="on"->(cK T m i wd {S with ends:=[]}).ends=[]):=by
   unfold cK;by_cases z:((bD T m i wd {S with ends:=[]}).nd m).st="on"
   .rw[fR z];exact(D,qx.refl _ _,λ_=>C)
   .rw[fC z,AY]
    let B:((bD T m i wd {S with ends:=[]}).nd m).st="turning"\/((bD T m i wd {S with ends:=[]}).nd m).st="down":=by
     rcases D.dm m r with y|y|y|y
     .rw[Q]at y;erw[absurd y t]
     .exact absurd y z
     .exact .inl y
     .exact .inr y
    let(a,b,c):=rH h 9 m _ E r B D C;erw[(a,b,λy=>?_)];simp_all
  let(L,M,O):=U;let(R,K):=FP h ((cK T m i wd {S with ends:=[]}).nd m).wait.length m _ E r J L O;let o:=M.trans K;let G:(bD T m i wd {S with ends:=[]}).book.length=S.book.length:=by rw[G]
  erw[(R,?_,?_)]
  .let:=o.p
   lia
  .let:=o.e;rw[C]at this;let z:([]:List (Nat×Str)).length=0:=rfl
   lia
def Io(j:Jv T S)(f:S.ends≠[]):∃i wd,S.ends=[(i,wd)]:=by
 let:=j.one;cases e:S.ends with
 |nil=>erw[absurd e f]
 |cons a r=>
  rw[e]at this;cases r with
  |nil=>exact(a.1,a.2,rfl)
  |cons b c=>erw[absurd this (by show ¬c.length+1+1<=1;lia)]
theorem zo(h:gD T):∀(f:Nat) (S:HS),ip T S+S.ends.length<=f->Wf T S->Jv T S->∃S',a8 T f S=some S'/\Jv T S'/\ip T S'+S'.book.length<=ip T S+S.book.length
 |0,S,g,w,j=>by
  let e:S.ends=[]:=Yw.mp ();erw[(S,?_,j,gx _)];unfold a8;rw[fR e]
 |f+1,S,g,w,j=>by
  by_cases e:S.ends=[]
  .refine (S,?_,j,gx _);unfold a8;rw[e]
  .let(i,wd,e):=Io j e;let ok:=gD.tok h;let(o,n,p,_):=w.pop e;let(a,b,c):=Ia h w j e;rw[e]at g;let g:ip T S+1<=f+1:=g;let(S',m,q,r):=zo h f (mV T i wd {S with ends:=[]}) () (o.mV ok p n) a;erw[(S',?_,q,jC r b)];unfold a8;rwa[e]
theorem mB:∀(f g:Nat) (S S':HS),f<=g->a8 T f S=some S'->a8 T g S=some S'
 |0,g,S,S',_,h=>by
  unfold a8 at h
  split at h
  .rename_i e
   cases h;cases g with
   |zero=>unfold a8;rw[fR e]
   |succ g=>unfold a8;rw[e]
  .cases h
 |f+1,0,_,_,hl,_=>absurd hl (Nat.not_succ_le_zero _)
 |f+1,g+1,S,S',hl,h=>by
  unfold a8 at h ⊢
  split at h
  .exact h
  .exact mB f g _ S' () h
def cost(T:Re):Nat:=9*wB T
def UR(h:gD T)(w:Wf T S)(j:Jv T S)(o:S.ends=[]){i:Nat}(m:i<T.length):∃f S',(∀g,f<=g->dj T g i S=some S')/\Wf T S'/\Jv T S'/\S'.ends=[]/\ip T S'+S'.book.length<=ip T S+S.book.length+cost T:=by
 let ok:=gD.tok h;cases hs:bM T i S with
 |false=>
  erw[(0,S,λg _=>?_,w,j,o,())];rw[tE,hs]
  rfl
 |true=>
  let a:=hs;unfold bM at a;rw[mu,mu,Ma]at a;let v:=a.1.1;let A:=wu a.1.2;let s:=w.eR m hs
  let x:∀k,k<T.length->par T k=some i->False:=λk q p=>by
   rw[(ok.bB q p).2]at v;cases v
  let r:∃g:Nd->Nd,(cx T i S).2=up S i g/\(∀d,(g d).st=d.st/\(g d).com=d.com/\(g d).bF=d.bF/\(g d).asked=d.asked)/\∀d,pn T i (g d)=pn T i d:=by
   unfold cx
   split
   .exact (λd=>{d with need:=d.need-1,kG:=d.kG-1},rfl,λd=>(rfl,rfl,rfl,rfl),λd=>rfl)
   .exact (λd=>{d with steps:=d.steps+1},rfl,λd=>(rfl,rfl,rfl,rfl),λd=>rfl)
  let(g,n,u,G):=r;let D:Jv T (cx T i S).2:=by rw[n];erw[j.same (ji u) rfl]
  let e1:(cx T i S).2.ends=[]:=by rwa[n]
  let E:ip T (cx T i S).2=ip T S:=by
   rw[n];erw[Ir (λk _=>?_) o o];by_cases e:k=i
   .rw[e,aw];erw[G _]
   .rw[bu _ e]
  let z:(cx T i S).2.book=S.book:=(ano i S).1;let c:((cx T i S).2.nd i).st≠"off":=by rwa[n,(ji u i).1]
  let C:Jv T (eR T i S):=D.aX ok m c (λk q p=>(x k q p).elim) e1
  let H:ip T (eR T i S)+(eR T i S).book.length<=ip T S+S.book.length+cost T:=by
   let:=Qz m e1 (wd:=(cx T i S).1) c (Up h m);rw[E,z]at this;erw[this]
  let(S',t,y,I):=zo h (ip T (eR T i S)+(eR T i S).ends.length) _ (gx _) s C;let(B,e2):=Wf.settle ok _ _ _ t s;erw[(ip T (eR T i S)+(eR T i S).ends.length,S',λg F=>?_,B,y,e2,())];rw[tE,hs];erw[mB _ g _ _ F t]
theorem X7(h:gD T):∀(l:List Nat) (S:HS),(∀i∈l,i<T.length)->Wf T S->Jv T S->S.ends=[]->∃f S',(∀g,f<=g->l.foldlM (λS i=>dj T g i S) S=some S')/\Wf T S'/\Jv T S'/\S'.ends=[]/\ip T S'+S'.book.length<=ip T S+S.book.length+l.length*cost T
 |[],S,_,w,j,e=>(0,S,λ_ _=>rfl,w,j,e,by lia)
 |a::r,S,hl,w,j,e=>by
  let(x,m,t,n,s,u,y):=UR h w j e (hl a lq);let(c,o,p,b2,v,b4,z):=X7 h r m (λi q=>hl i (mf _ q)) n s u;erw[(max x c,o,λg A=>?_,b2,v,b4,?_)]
  .rw[YP,t g ()];erw[p g ()]
  .rw[rN,akc,akd]
   lia
theorem Jv.tick(j:Jv T S)(c:Int):Jv T {S with clk:=c}:=(j.dl,j.dm,j.up,j.com,j.dwn,j.ask,j.pnd,j.one)
def aaR(h:gD T)(w:Wf T S)(j:Jv T S)(m:S.ends=[]):∃f S',xr T f S=some S'/\Wf T S'/\Jv T S'/\S'.ends=[]/\ip T S'+S'.book.length<=ip T S+S.book.length+T.length*cost T:=by
 let(f,S',e,o,c,g,a):=X7 h (hD T.length) {S with clk:=S.clk+1} (λi n=>qG.mp n) (w.tick _) (j.tick _) m;rw[mK]at a;exact(f,S',e f (gx _),o,c,g,a)
def Uv(h:gD T)(w:Wf T S)(j:Jv T S)(m:S.ends=[]){i:Nat}(a:i<T.length)(e:f7 T i=true)(c:bK S i=false):∃f S',FJ T f i S=some S'/\Wf T S'/\Jv T S'/\S'.ends=[]/\ip T S'+S'.book.length<=ip T S+S.book.length+cost T:=by
 let ok:=gD.tok h;let c:=wu c;let n:=w.aX a λ_=>.inr (.inl rfl);let q:Jv T (Hm.aX T i "fallen" S):=j.aX ok a c (λk r s=>(by rw[(ok.bB r s).2]at e;cases e)) m;let t:=Qz a m (wd:="fallen") c (Up h a);let(S',g,o,u):=zo h (ip T (Hm.aX T i "fallen" S)+(Hm.aX T i "fallen" S).ends.length) _ (gx _) n q;let(p,e2):=Wf.settle ok _ _ _ g n;exact(_,S',g,p,o,e2,by show _<=_+9*wB T;lia)
def U4(h:gD T)(w:Wf T S)(j:Jv T S)(g:S.ends=[])(a:bK S 0=false):∃f S',C3 T f S=some S'/\Wf T S'/\Jv T S'/\S'.ends=[]/\ip T S'+S'.book.length<=ip T S+S.book.length:=by
 let ok:=gD.tok h;let a:=wu a;unfold C3;cases ha:(S 0).asked with
 |true=>exact(0,S,by rw[fR rfl],w,j,g,gx _)
 |false=>
  let(i,m):=xD h 10 0 S ok.n0 a ha j g;let c:=Wf.cz ok 10 0 S ok.n0 w;let(S',e,n,q):=zo h (ip T (cz T 10 0 S)+(cz T 10 0 S).ends.length) _ (gx _) c i;let(o,e2):=Wf.settle ok _ _ _ e c;exact(_,S',by rwa[fC jT],o,n,e2,jC q m.p)
def Sf(h:gD T):en T 0=T.length:=by
 let a:=akz.mpr h.ne;let(e1,e2,e3,e4):=eO a;rcases e4 with z|z
 .exact z
 .by_cases y:en T 0=T.length
  .exact y
  .let(m,m1,m2,m3,m4,m5):=xA h e1 (show en T 0<T.length by lia);let:=(XM h).1
   lia
def Ei(h:gD T):new T=gv T 0 T.length (0,[],[],λ_=>ti):=by
 let ok:=gD.tok h;unfold new;rw[zr h 10 0 _ ok.n0 (dY (ok.deep 0 ok.n0)),Sf h]
def Zc(h:gD T):Jv T (new T)/\ip T (new T)+(new T).book.length<=3*T.length:=by
 let q:ip T (0,[],[],λ_=>ti)=0:=by
  let:∀n,vT (λk=>pn T k ti) n=0:=λn=>by
   induction n with
   |zero=>rfl
   |succ n r=>
    show vT _ n+pn T n ti=0;rw[r];show 0+(wB T*(0*(dp T n+2)+0)+0+0)=0;rw[alj,anq]
  erw[this _]
 let nd:∀k,(new T).nd k=if k<T.length then nz T 0 k ti else ti:=λk=>by
  rw[Ei h];show(if 0<=k/\k<T.length then nz T 0 k ti else ti)=_;simp
 let p:(new T).ends=[]:=by rw[Ei h];rfl
 let c:∀k,(nz T 0 k ti).st="on"/\(nz T 0 k ti).asked=false:=λk=>by
  unfold nz;cases f7 T k<;>exact(rfl,rfl)
 let ok:=gD.tok h;erw[((λk _=>?_,λk _=>?_,λk m i g _=>?_,λk m i g j _=>?_,λm hd=>?_,λk f=>?_,λe o=>?_,by rw[p];exact qj _),?_)]
 .rw[nd]
  split
  .exact .inr (.inl (c k).1)
  .exact .inl rfl
 .rw[nd]
  split
  .exact .inr (.inl (c k).1)
  .exact .inl rfl
 .let:=(ok.bB i g).1;rw[nd,fR (),(c m).1]
  decide
 .let:=(ok.bB i g).1;rw[nd,fR (),(c m).1]at j;erw[absurd j ∅]
 .rw[nd]at hd
  split at hd
  .rw[(c m).1]at hd;erw[absurd hd ∅]
  .exact absurd (show("off":Str)="down" from hd) ∅
 .rw[nd]at f
  split at f
  .simp_all
  .cases f
 .simp_all
 .let:=Qd (S:=(0,[],[],λ_=>ti)) (a:=0) (e:=T.length) rfl (gx _) (λ_ _ _=>rfl);rw[<-Ei h]at this;simp_all
end
end Hm
namespace L2
open PySem PySem.Spec PyProof.Rows
section
variable{X:Cx}
def acS{t y:Str}{u:fy}(r:RelV (V.str y) u):vc (V.str t) u=decide (y=t):=by
 let(k,rfl):=r;rfl
def aaF:T1 X "list.index" (λx vs H Q=>∃(p:eF) (xs:List Str) (t:Str) (j:Nat),x=.ref p/\vs=[.str t]/\fT X.K H p (xs.map V.str)/\xs[j]? =some t/\(∀m,m<j->xs[m]? ≠some t)/\Q (.int ((j:Nat):Int)) H):=by
 intro D s W H x vs v us Q I P M h;let(p,xs,t,j,rfl,rfl,S,G,C,q):=h;cases P;let(u,rfl,N):=M.one;let(its,r,(o,n,e,c,O,d2),a):=I.list S;let(U,L,R,os):=o;dsimp only at c O d2;subst c d2;let Y:its.length=xs.length:=by let:=r.length;rw[gQ]at this;lia
 let T:=(rx.mp G).1
 let g:∀(m:Nat) (f:m<its.toArray.size) (y:Str),xs[m]? =some y->vc (V.str t) its.toArray[m]=decide (y=t):=λm f y i=>by
  let(w,J,A):=r.get (show(xs.map V.str)[m]? =some (V.str y) by rw[i6,i];rfl)
  let:its.toArray[m]=w:=by
   let B:=by erw[f]
   rw[hY B]at J;erw[iJ J]
  rw[this];erw[acS A]
 let a:=by rw[gQ]at a;erw[a]
 rw[LQ]at a;let hsz:j<its.toArray.size:=by rw[js];lia
 erw[akN F.slot_list_index (_,e,rfl) F.entry_list_index (F.args_list_index_2 _ _) (SeqAt.list_indexAt p its.toArray n L os u (vc (V.str t)) j hsz () ?_ ?_) (e,λy i=>t9 N rfl r (z8.mpr λz a=>?_) y (by simp_all),?_)]
 .rw[g j hsz t G];erw[gy rfl]
 .intro m f hlt;let E:xs[m]? =some (xs[m]'()):=hY ();rw[g m (by rwa[js]) _ E];erw[iR λz=>C m hlt (by rw[E,z])]
 .let(w,_,rfl):=tU.mp a
  rfl
 .exact (.int j,H,I.tok _,(_,rfl),q)
def zu{K0:gI}(h:X.K=K0):wA X (.builtin "isinstance") (λxs H Q=>∃(e C:eF) (c:V) (a:fy) (b:Bool),xs=[.ref e,c]/\H e=some (zw e C none)/\M0 K0 C/\IsC K0 C/\RelV c a/\DV K0 (.ref C) a=some b/\Q (.bl b) H):=by
 subst h;erw[ZK]
end
end L2
namespace Hm
open PySem Shp Tr Hs
def M4(T:Re)(S:HS)(i:Nat):Prop:=i=0\/∃m,m<T.length/\f7 T m=false/\aS T m S=some i/\((S m).st="turning"\/(S m).st="down")
inductive F7(T:Re):HS->HS->Prop
 |adl {S:HS} {i:Nat}:i<T.length->f7 T i=true->(S i).st≠"off"->(S i).asked=false->S.ends=[]->M4 T S i->F7 T S (aX T i (dJ ((bj T i (write T "told" i S)).nd i)) (bj T i (write T "told" i S)))
 |adh {S:HS} {i:Nat}:i<T.length->f7 T i=false->(S i).st≠"off"->(S i).asked=false->S.ends=[]->M4 T S i->F7 T S (bj T i (write T "told" i S))
 |over {S:HS} {m:Nat}:m<T.length->f7 T m=false->(S m).st="down"->aS T m S=none->S.ends=[]->F7 T S (aX T m (eZ (S m)) S)
 |back {S:HS} {m:Nat}:m<T.length->f7 T m=false->(S m).st="turning"->aS T m S=none->S.ends=[]->F7 T S (aV T m S)
 |skip {S:HS} {m i:Nat} {r:List Nat}:m<T.length->f7 T m=false->(S m).st="on"->(S m).wait=i::r->i<T.length->par T i=some m->S.ends=[]->toBe T m i (up S m λd=>{d with wait:=r})=false->F7 T S (up S m λd=>{d with wait:=r})
 |ans {S:HS} {m i:Nat} {r:List Nat}:m<T.length->f7 T m=false->(S m).st="on"->(S m).wait=i::r->i<T.length->par T i=some m->S.ends=[]->toBe T m i (up S m λd=>{d with wait:=r})=true->F7 T S (br T m i (up S m λd=>{d with wait:=r}))
 |adj {S:HS} {m i:Nat} {wd:Str}:i<T.length->par T i=some m->S.ends=[(i,wd)]->(S m).st≠"off"->(S i).st="off"->isWord wd->F7 T S (bD T m i wd {S with ends:=[]})
 |Q3 {S:HS} {i:Nat} {wd:Str}:i<T.length->par T i=none->S.ends=[(i,wd)]->F7 T S {S with ends:=[]}
inductive yH(T:Re):HS->HS->Prop
 |refl (S:HS):yH T S S
 |step {S S1 S':HS}:Wf T S->Jv T S->F7 T S S1->yH T S1 S'->yH T S S'
def yH.trans{T:Re}{S c e:HS}(a:yH T S c)(b:yH T c e):yH T S e:=by
 induction a with
 |refl _=>erw[b]
 |step w j s _ f=>erw[.step w j s (f b)]
section
variable{T:Re}
theorem AO(h:gD T)(d:Nat)(tl:∀(i:Nat) (S:HS),i<T.length->(S i).st≠"off"->(S i).asked=false->b6 T d i->M4 T S i->Wf T S->Jv T S->S.ends=[]->yH T S (cz T d i S)):∀(m:Nat) (S:HS),m<T.length->f7 T m=false->(S m).st="turning"\/(S m).st="down"->b6 T (d+1) m->Wf T S->Jv T S->S.ends=[]->yH T S (aC T d m S)
 |m,S,hm,hl,hst,hd,w,j,he=>by
  unfold aC;cases hL:aS T m S with
  |none=>
   rcases hst with z|z
   .exact .step w j (.back hm hl z hL he) (.refl _)
   .unfold aV;rw[fR z];erw[.step w j (.over hm hl z hL he) (.refl _)]
  |some k=>
   let(k1,k2,k3):=lW hL;dsimp only;cases ha:(S k).asked with
   |true=>
    erw[.refl _]
   |false=>
    erw[tl k S k1 k3 ha (hd k (jb hL)) (.inr (m,hm,hl,hL,hst)) w j he]
theorem ER(h:gD T):∀(d i:Nat) (S:HS),i<T.length->(S i).st≠"off"->(S i).asked=false->b6 T d i->M4 T S i->Wf T S->Jv T S->S.ends=[]->yH T S (cz T d i S)
 |0,_,_,_,_,_,hd,_,_,_,_=>hd.elim
 |d+1,i,S,hi,hon,ha,hd,why,w,j,he=>by
  let ok:=gD.tok h;rw[eJ];cases hl:f7 T i with
  |true=>
   erw[.step w j (.adl hi hl hon ha he why) (.refl _)]
  |false=>
   let(c,_):=JE ok j hi hon ha he;let e:=(w.write "told" i).bj (i:=i)
   let a:((bj T i (write T "told" i S)).nd i).st="down":=by
    unfold bj;rw[aw,hl]
    rfl
   erw[.step w j (.adh hi hl hon ha he why) (AO h d (ER h d) i _ hi hl (.inr a) hd e c he)]
theorem Ce(h:gD T)(d:Nat):∀(m:Nat) (S:HS),m<T.length->f7 T m=false->(S m).st="turning"\/(S m).st="down"->b6 T (d+1) m->Wf T S->Jv T S->S.ends=[]->yH T S (aC T d m S):=AO h d (ER h d)
theorem Cw(h:gD T):∀(f m:Nat) (S:HS),m<T.length->f7 T m=false->Wf T S->Jv T S->((S m).st="on"->S.ends=[])->yH T S (bt T f m S)
 |0,_,S,_,_,_,_,_=>.refl S
 |f+1,m,S,hm,hl,w,j,he=>by
  let ok:=gD.tok h;unfold bt;by_cases e:(S m).st="on"
  .rw[fR e];cases hw:(S m).wait with
   |nil=>erw[.refl S]
   |cons i r=>
    let(o,n):=w.wt m i (by rw[hw];erw[lq]);let(a,b,c):=Jf h j hm hl o n hw e (he e);let(s,p):=w.cy ok hm hl hw
    let one:yH T S (cy T m i r S):=by
     unfold cy;by_cases g:toBe T m i (up S m λd=>{d with wait:=r})=true
     .rw[fR g];let(x,q,t,_):=R5 h j hm hl o n hw e (he e) g;erw[.step w j (.ans hm hl e hw o n (he e) g) (Ce h 9 m _ hm hl t (dY (ok.deep m hm)) (p.br hl) x q)]
     .rw[fC g];erw[.step w j (.skip hm hl e hw o n (he e) (by simp_all)) (.refl _)]
    exact one.trans (Cw h f m (cy T m i r S) hm hl s a (λz=>by
     lia))
  .rw[fC e];erw[.refl S]
def V8(h:gD T){S:HS}(w:Wf T S)(j:Jv T S){i:Nat}{wd:Str}(p:S.ends=[(i,wd)]):yH T S (mV T i wd {S with ends:=[]}):=by
 let ok:=gD.tok h;let(e,A,f):=j.pnd (i,wd) (by rw[p];erw[lq]);let e:i<T.length:=e;let(C,B,_,t):=w.pop p;cases hp:par T i with
 |none=>
  rw[oS hp];erw[.step w j (.Q3 e hp p) (.refl _)]
 |some m=>
  rw[lJ hp];let(mi,o):=ok.bB e hp;let r:m<T.length:=by lia
  let g:=f m hp;let G:=C.bD (wd:=wd) e hp o (B m);let F:=C.cK ok (wd:=wd) e hp (B m);let(q,s,E):=Uz h w j p hp;erw[.step w j (.adj e hp p g A t) ?_]
  let J:yH T (bD T m i wd {S with ends:=[]}) (cK T m i wd {S with ends:=[]})/\Jv T (cK T m i wd {S with ends:=[]})/\(((cK T m i wd {S with ends:=[]}).nd m).st="on"->(cK T m i wd {S with ends:=[]}).ends=[]):=by
   unfold cK;by_cases z:((bD T m i wd {S with ends:=[]}).nd m).st="on"
   .rw[fR z];exact(.refl _,q,λ_=>s)
   .rw[fC z,AY]
    let n:((bD T m i wd {S with ends:=[]}).nd m).st="turning"\/((bD T m i wd {S with ends:=[]}).nd m).st="down":=by
     rcases q.dm m o with y|y|y|y
     .rw[E]at y;erw[absurd y g]
     .exact absurd y z
     .exact .inl y
     .exact .inr y
    let(a,b,c):=rH h 9 m _ r o n q s;erw[(Ce h 9 m _ r o n (dY (ok.deep m r)) G q s,a,λy=>?_)];simp_all
  let(H,I,D):=J;erw[H.trans (Cw h _ m _ r o F I D)]
theorem rm(h:gD T):∀(f:Nat) (S S':HS),a8 T f S=some S'->Wf T S->Jv T S->yH T S S'
 |0,S,S',hs,w,j=>by
  unfold a8 at hs
  split at hs
  .cases hs;erw[.refl S]
  .cases hs
 |f+1,S,S',hs,w,j=>by
  by_cases e:S.ends=[]
  .unfold a8 at hs;rw[e]at hs;cases hs;erw[.refl S]
  .let(i,wd,e):=Io j e;let ok:=gD.tok h;let(c,a,g,_):=w.pop e;unfold a8 at hs;rw[e]at hs;exact(V8 h w j e).trans (rm h f _ S' hs (c.mV ok g a) (Ia h w j e).1)
end
inductive Dk
 |DQ (i:Nat)
 |stop
 |turns (k:Nat)
def QK(n:Nat)(cell:Int):Dk:=if cell%12=9\/cell%12=10 then .DQ (cell/12%(n:Int)).toNat else if cell%12=11/\cell/12%5=3 then .stop else .turns (1+cell/12%2).toNat
inductive FL(T:Re):Nat->HS->HS->Prop
 |zero (S:HS):FL T 0 S S
 |succ {k:Nat} {S S1 S':HS}:FL T k S S1->(∃f,xr T f S1=some S')->FL T (k+1) S S'
def Z8(T:Re)(d:Dk)(S S':HS)(wd:Str):Prop:=match d with
 |.DQ i=>(f7 T i=false/\S'=S/\wd="leaf")\/(f7 T i=true/\bK S i=true/\S'=S/\wd="off")\/(f7 T i=true/\bK S i=false/\(∃f,FJ T f i S=some S')/\wd="")
 |.stop=>(bK S 0=true/\S'=S/\wd="off")\/(bK S 0=false/\(∃f,C3 T f S=some S')/\wd="")
 |.turns k=>FL T k S S'/\wd=""
end Hm
namespace Lw
open PySem Shp Tr Hs Hm
structure En where
 t:Int
 wd:Str
 i:Nat
def aW{a:Type}(f:Nat->a)(i:Nat)(v:a):Nat->a:=λj=>if j=i then v else f j
theorem bG{a:Type}(f:Nat->a)(i:Nat)(v:a):aW f i v i=v:=fR rfl
theorem cG{a:Type}{f:Nat->a}{i j:Nat}{v:a}(h:j≠i):aW f i v j=f j:=fC h
section
variable(T:Re)
end
section
variable{T:Re}
def WH(T:Re)(e:En):Ent:=ent T e.t e.wd e.i
theorem xU{S:HS}{k:Nat}:bK S k=true↔(S k).st="off":=pD
end
section
variable{T:Re}
theorem xx(i:Nat)(S:HS):aX T i "" S=S:=fR rfl
def uv{i:Nat}{wd:Str}(h:wd≠"")(S:HS):(aX T i wd S).clk=S.clk/\(aX T i wd S).book=S.book++[ent T S.clk wd i]/\(∀k,k≠i->(aX T i wd S).nd k=S k)/\((aX T i wd S).nd i).st="off":=by
 unfold aX;rw[fC h];exact(rfl,rfl,λk a=>fC a,by show(ite (i=i) _ _:Nd).st=_;rw[fR rfl])
def Uo{wd:Str}(h:isWord wd):wd≠"":=by rcases h with rfl|rfl|rfl|rfl|rfl<;>decide
def AL(d:Nd):(dJ d="ended"/\d.need=0)\/(dJ d="cut"/\d.kG=0)\/(dJ d=""/\d.need≠0/\d.kG≠0):=by
 unfold dJ;by_cases a:d.need=0
 .rw[fR a];erw[.inl (rfl,a)]
 .rw[fC a];by_cases b:d.kG=0
  .rw[fR b];erw[.inr (.inl (rfl,b))]
  .rw[fC b];erw[.inr (.inr (rfl,a,b))]
end
section
variable{T:Re}
def RJ{f g i:Nat}{S S':HS}(a:f<=g)(h:dj T f i S=some S'):dj T g i S=some S':=by
 unfold dj at h ⊢;by_cases z:bM T i S=true
 .rw[fR z]at h ⊢;erw[mB _ _ _ _ a h]
 .rw[fC z]at h ⊢;erw[h]
def Ea(h:gD T){S g:HS}(w:Wf T S)(j:Jv T S)(n:S.ends=[]){f i:Nat}(o:i<T.length)(hs:dj T f i S=some g):Wf T g/\Jv T g/\g.ends=[]:=by
 let(m,S',a,b,c,d,_):=UR h w j n o;let e:=RJ (aog f m) hs;rw[a _ (anY f m)]at e;simp_all
def J7{S:HS}{i:Nat}(hs:bM T i S=true):f7 T i=true/\(S i).st≠"off"/\(S i).beg<S.clk:=by
 unfold bM at hs;rw[mu,mu,Ma]at hs;exact(hs.1.1,wu hs.1.2,iB hs.2)
def QI(h:gD T){S:HS}(j:Jv T S)(s:S.ends=[]){i:Nat}(p:i<T.length)(hs:bM T i S=true):Jv T (eR T i S):=by
 let ok:=gD.tok h;let(f,q,_):=J7 hs
 let a:∃g:Nd->Nd,(cx T i S).2=up S i g/\(∀d,(g d).st=d.st/\(g d).com=d.com/\(g d).bF=d.bF/\(g d).asked=d.asked):=by
  unfold cx
  split
  .exact (λd=>{d with need:=d.need-1,kG:=d.kG-1},rfl,λd=>(rfl,rfl,rfl,rfl))
  .exact (λd=>{d with steps:=d.steps+1},rfl,λd=>(rfl,rfl,rfl,rfl))
 let(g,e,m):=a;let n:Jv T (cx T i S).2:=by rw[e];erw[j.same (ji m) rfl]
 let e1:(cx T i S).2.ends=[]:=by rwa[e]
 let c:((cx T i S).2.nd i).st≠"off":=by rwa[e,(ji m i).1]
 erw[n.aX ok p c (λk r o=>(by rw[(ok.bB r o).2]at f;cases f)) e1]
end
def turnsOf:Dk->Nat
 |.turns k=>k
 |_=>0
section
variable{T:Re}
structure X4(T:Re)(S S':HS)(k:Nat)(es:List En):Prop where
 clk:S'.clk=S.clk+(k:Int)
 bk:S'.book=S.book++es.map (WH T)
 lt:∀e∈es,e.i<T.length/\S.clk+((min 1 k:Nat):Int)<=e.t/\e.t<=S.clk+(k:Int)
 srt:es.Pairwise λa b=>a.t<=b.t
def QF{c:Int}{es:List En}(h:∀e∈es,e.t=c):es.Pairwise λa b=>a.t<=b.t:=by
 induction es with
 |nil=>erw[.nil]
 |cons a r i=>
  erw[.cons (λb g=>?_) (i λe f=>h e (mf _ f))];rw[h a lq,h b (mf _ g)];erw[akv _]
def Mm(h:gD T){S c:HS}(w:Wf T S)(j:Jv T S)(n:S.ends=[]){f:Nat}(hs:xr T f S=some c):Wf T c/\Jv T c/\c.ends=[]:=by
 let ok:=gD.tok h;erw[(Wf.turn ok hs w,?_,Vm ok hs w n)]
 let:∀(l:List Nat) (S c:HS),(∀i∈l,i<T.length)->l.foldlM (λS i=>dj T f i S) S=some c->Wf T S->Jv T S->S.ends=[]->Jv T c:=by
  intro l
  induction l with
  |nil=>intro S c _ hs _ j _;simp_all
  |cons a r s=>
   intro S c m hs w j e;rw[YP]at hs;cases z:dj T f a S with
   |none=>simp_all
   |some q=>
    rw[z]at hs;let(o,p,e1):=Ea h w j e (m a lq) z;erw[s q c (λi g=>m i (mf _ g)) hs o p e1]
 erw[this _ _ _ (λi g=>qG.mp g) hs (w.tick _) (j.tick _) n]
def DE{f g:Nat}{S c e:HS}(a:a8 T f S=some c)(b:a8 T g S=some e):c=e:=by
 let x:=mB _ _ _ _ (aog f g) a;rw[mB _ _ _ _ (anY f g) b]at x;lia
end
open L2 Nm PySem.NumText
theorem bL{n i:Nat}{f:Nat->V}(h:i<n):ql ((hD n).map f) (i:Int)=some (f i):=cb (by rw[i6,Jb h];rfl)
def IP{n i:Nat}(h:i<n):xE n (i:Int)=some i:=by
 unfold xE;simp_all
def set_range{n i:Nat}{f:Nat->V}{v:V}:((hD n).map f).set i v=(hD n).map (aW f i v):=by
 erw[anI λk=>?_];rw[List.getElem?_set,i6,i6,gQ,mK];by_cases e:i=k
 .subst e;rw[fR rfl];by_cases h:i<n
  .rw[fR h,Jb h];erw[iY some (bG ..).symm]
  .rw[fC h,aje (by rw[mK];lia)]
   rfl
 .rw[fC e];by_cases h:k<n
  .rw[Jb h];erw[iY some (cG (λz=>e z.symm)).symm]
  .rw[aje (by rw[mK];lia)]
   rfl
def Qp{a:Type}(g:a->V)(f:Nat->a)(i:Nat)(v:a):aW (λk=>g (f k)) i (g v)=λk=>g (aW f i v k):=by
 funext k
 unfold aW
 split<;>rfl
def Yc{T:Re}{i:Nat}(h:i<T.length):sh T i=T[i].sh:=by
 unfold sh;rw[ot,hY h]
 rfl
section
variable{H H':Hp}{st a b c:eF}{n:Nat}{ls:LS}
end
def Su{T:Re}{i:Nat}(a:f7 T i=true):(words (sh T i))[0]? =some ("leaf":Str)/\(words (sh T i))[2]? =some (dN (sh T i).bU)/\(words (sh T i))[3]? =some (dN (sh T i).cS)∧
  (((sh T i).kind=0/\(words (sh T i))[4]? =some ("idle":Str))\/((sh T i).kind=1/\(words (sh T i))[4]? =some ("steady":Str)/\(words (sh T i))[5]? =some (dN (sh T i).many))\/((sh T i).kind=2/\(words (sh T i))[4]? =some ("falls":Str)/\(words (sh T i))[5]? =some (dN (sh T i).many))):=by
 let k:=iB a;let:(sh T i).kind=0\/(sh T i).kind=1\/(sh T i).kind=2:=by lia
 unfold words;rcases this with z|z|z<;>rw[z]
 .exact (rfl,rfl,rfl,.inl (rfl,rfl))
 .exact (rfl,rfl,rfl,.inr (.inl (rfl,rfl,rfl)))
 .exact (rfl,rfl,rfl,.inr (.inr (rfl,rfl,rfl)))
def Ou{T:Re}{i:Nat}(a:f7 T i=false):(words (sh T i))[0]? =some ("minder":Str):=by
 let k:=wu a;unfold words
 split<;>first|lia|rfl
theorem Nu{a:List Str}{j:Nat}{x:Str}(h:a[j]? =some x):ql (a.map V.str) (j:Int)=some (V.str x):=cb (by simp_all)
def Ck(F:FS)(H a:Hp):Prop:=aH a H/\∀x,F x->a x=none
section
variable{F F':FS}{H H' H0:Hp}{st a b c:eF}{n:Nat}{ls ls':LS}
theorem Ck.same(h:Ck F H H0)(e:aH H H'):Ck F H' H0:=(λx o z=>e _ _ (h.1 x o z),h.2)
def Ck.moved{S:Type}{R:HR S}{x:eF}{s:S}(h:Ck F H H0)(m:Moved R H F x s H' F'):Ck F' H' H0:=by
 erw[(λy o z=>m.1 y o (λf=>by rw[h.2 y f]at z;cases z) (h.1 y o z),λy f=>?_)];rcases m.2.1 y f with g|g
 .exact h.2 y g
 .cases z:H0 y with
  |none=>rfl
  |some o=>rw[h.1 y o z]at g;cases g
end
def Qr{a:Re}(h:gD a):(written a).length<=100000:=by
 let j:=E8 [10] (ng a)
 let s:((ng a).map (·.length)).sum<=83*(ng a).length:=by
  let:=Rb (n:=83) (l:=(ng a).map (·.length)) λx f=>by
   let(l,g,rfl):=tU.mp f;let(r,c,rfl):=tU.mp g;let(i,e,rfl):=akt.mp c;let d:=Up h e;unfold dp at d;rw[ot,hY e]at d;let d:a[i].dep<=8:=d;let:=Oq (h.sh _ c) a[i].dep
   lia
  simp_all
 rw[Tr.plain_len]at s j;let:=h.len;unfold written;simp only[rN,akA]at j
 lia
def DT(xs:List V)(a:Nat):Bo xs (some (a:Int)) none=xs.drop a:=by
 simp[Bo,HT.qq,fC,akb]
def Vc(ns:List Int)(a b:Nat)(h:a<=b):∃c:List Int,Bo (ns.map V.int) (some (a:Int)) (some (b:Int))=c.map V.int/\c.length<=b-a:=by
 unfold Bo;erw[((ns.drop (HT.qq (ns.map V.int).length 0 (some a))).take (HT.qq (ns.map V.int).length (ns.map V.int).length (some b)-HT.qq (ns.map V.int).length 0 (some a)),by rw[ak0,amS],?_)];rw[ve,ajK,HT.UQ,HT.UQ,gQ];omega
def Ck.upd{F:FS}{H a:Hp}{y:eF}{o:HO}(h:Ck F H a)(n:¬F y):Ck F (L2.upd H y o) (L2.upd a y o):=by
 erw[(λz u e=>?_,λz f=>?_)]
 .by_cases q:z=y
  .rw[q,ae]at e ⊢;erw[e]
  .rw[ag q]at e ⊢;erw[h.1 _ _ e]
 .rw[ag (λq=>n (by rwa[<- q]))];erw[h.2 z f]
end Lw
namespace Gr
open PySem Shp Tr Hs Hm Lw
structure Rd(σ:Type) where
 ok:σ->En->Prop
 nx:σ->En->σ
 lk:HS->Nat->σ->Prop
section
variable{T:Re}{σ:Type}{r:Rd σ}
def Rd.run(r:Rd σ)(ls:σ)(es:List En):σ:=es.foldl r.nx ls
def Rd.Ok(r:Rd σ):σ->List En->Prop
 |_,[]=>True
 |ls,e::es=>r.ok ls e/\r.Ok (r.nx ls e) es
theorem oZ(ls:σ)(a b:List En):r.run ls (a++b)=r.run (r.run ls a) b:=akf ..
theorem uh:∀{a b:List En} {ls:σ},r.Ok ls a->r.Ok (r.run ls a) b->r.Ok ls (a++b)
 |[],_,_,_,h=>h
 |_::_,_,_,h,k=>(h.1,uh h.2 k)
structure Go(T:Re)(r:Rd σ)(p p':Nat)(S S':HS)(es:List En):Prop where
 lt:∀e∈es,e.i<T.length/\e.t=S.clk
 clk:S'.clk=S.clk
 bk:S'.book=S.book++es.map (WH T)
 go:∀ls,r.lk S p ls->r.Ok ls es/\r.lk S' p' (r.run ls es)
theorem Go.refl(p:Nat)(S:HS):Go T r p p S S []:=(λe h=>(by cases h),rfl,(ov _).symm,λ_ h=>(trivial,h))
def Go.trans{p c f:Nat}{S g i:HS}{a b:List En}(x:Go T r p c S g a)(y:Go T r c f g i b):Go T r p f S i (a++b):=by
 erw[(λe m=>?_,y.clk.trans x.clk,by rw[y.bk,x.bk,kr,zL],λls h=>?_)]
 .rcases ro.mp m with z|z
  .exact x.lt e z
  .exact ((y.lt e z).1,(y.lt e z).2.trans x.clk)
 .let(x1,x2):=x.go ls h;let(n,j):=y.go _ x2;exact(uh x1 n,by rwa[oZ])
theorem Go.FV{S S':HS}{p a:Nat}(c:S'.clk=S.clk)(b:S'.book=S.book)(g:∀ls,r.lk S p ls->r.lk S' a ls):Go T r p a S S' []:=
 (λe h=>(by cases h),c,by rw[b];exact(ov _).symm,λls h=>(trivial,g ls h))
theorem Go.one{S S':HS}{p a:Nat}{wd:Str}{i:Nat}(f:i<T.length)(c:S'.clk=S.clk)(b:S'.book=S.book++[ent T S.clk wd i])(g:∀ls,r.lk S p ls->r.ok ls (S.clk,wd,i)/\r.lk S' a (r.nx ls (S.clk,wd,i))):Go T r p a S S' [(S.clk,wd,i)]:=
 (λe h=>by rw[l9.mp h];exact(f,rfl),c,b,λls h=>(((g ls h).1,trivial),(g ls h).2))
structure Reads(T:Re)(r:Rd σ):Prop where
 stp:∀{S S':HS} (p:Nat),Wf T S->Jv T S->F7 T S S'->∃es,Go T r p p S S' es
 step:∀{S:HS} {i:Nat},i<T.length->bM T i S=true->Wf T S->Jv T S->S.ends=[]->∃es,Go T r i (i+1) S (eR T i S) es
 pass:∀{S:HS} {i:Nat} {ls:σ},i<T.length->bM T i S=false->r.lk S i ls->r.lk S (i+1) ls
 tick:∀{S:HS} {ls:σ},S.ends=[]->r.lk S T.length ls->r.lk {S with clk:=S.clk+1} 0 ls
 DQ:∀{S:HS} {i:Nat},i<T.length->f7 T i=true->(S i).st≠"off"->Wf T S->Jv T S->S.ends=[]->Go T r T.length T.length S (aX T i "fallen" S) [(S.clk,"fallen",i)]
def N8(rd:Reads T r){S S':HS}(m:yH T S S')(p:Nat):∃es,Go T r p p S S' es:=by
 induction m with
 |refl S=>exact(_,Go.refl p S)
 |step w j s _ e=>
  let(a,c):=rd.stp p w j s;let(b,gb):=e;exact(_,c.trans gb)
def abx(rd:Reads T r)(h:gD T){S e:HS}(w:Wf T S)(j:Jv T S)(g:S.ends=[]){f i:Nat}(c:i<T.length)(hs:dj T f i S=some e):∃es,Go T r i (i+1) S e es:=by
 unfold dj at hs;cases z:bM T i S with
 |true=>
  rw[fR z]at hs;let(a,m):=rd.step c z w j g;let(b,gb):=N8 rd (rm h f _ e hs (w.eR c z) (QI h j g c z)) (i+1);exact(_,m.trans gb)
 |false=>
  rw[fC (by rw[z];decide)]at hs;cases hs;exact(_,Go.FV rfl rfl λls k=>rd.pass c z k)
theorem X2(rd:Reads T r)(h:gD T){f:Nat}:∀(n a:Nat) (S S':HS),a+n<=T.length->(jj a n).foldlM (λS i=>dj T f i S) S=some S'->Wf T S->Jv T S->S.ends=[]->∃es,Go T r a (a+n) S S' es
 |0,a,S,S',_,hs,_,_,_=>by
  cases hs;exact(_,Go.refl a S)
 |n+1,a,S,S',hn,hs,w,j,he=>by
  rw[Xf,YP]at hs;cases z:dj T f a S with
  |none=>simp_all
  |some m=>
   rw[z]at hs;let(e,g,e1):=Ea h w j he () z;let(x,o):=abx rd h w j he () z;let(y,c):=X2 rd h n (a+1) m S' () hs e g e1;rw[show a+1+n=a+(n+1) by lia]at c;exact(_,o.trans c)
theorem Go.adL{p c:Nat}{S S':HS}{es:List En}(g:Go T r p c S S' es):X4 T S S' 0 es:=
 (by rw[g.clk];exact(al6 _).symm,g.bk,λe a=>((g.lt e a).1,by rw[(g.lt e a).2];exact(aoH (al6 _),aoH (al6 _).symm)),QF λe a=>(g.lt e a).2)
def acA(rd:Reads T r)(h:gD T){S c:HS}(w:Wf T S)(j:Jv T S)(a:S.ends=[]){f:Nat}(hs:xr T f S=some c):
  ∃es,X4 T S c 1 es/\∀ls,r.lk S T.length ls->r.Ok ls es/\r.lk c T.length (r.run ls es):=by
 unfold xr at hs;rw[ajY]at hs;let(es,g):=X2 rd h T.length 0 _ c () hs (w.tick _) (j.tick _) a;rw[alk]at g;exact(es,(g.clk,g.bk,λe a=>((g.lt e a).1,by rw[(g.lt e a).2];exact(akv _,akv _)),QF λe a=>(g.lt e a).2),λls k=>g.go ls (rd.tick a k))
def Zg(rd:Reads T r)(h:gD T):∀{k:Nat} {S S':HS},FL T k S S'->Wf T S->Jv T S->S.ends=[]→
  ∃es,X4 T S S' k es/\(∀ls,r.lk S T.length ls->r.Ok ls es/\r.lk S' T.length (r.run ls es))/\(∀e∈es,S.clk+1<=e.t)/\Wf T S'/\Jv T S'/\S'.ends=[]:=by
 intro k S S' t w j c
 induction t with
 |zero S=>exact([],((al6 _).symm,(ov _).symm,λe c=>(by cases c),.nil),λls k=>(trivial,k),λe c=>(by cases c),w,j,c)
 |@succ k S S1 S' t x ih=>
  let(a,i,E,n,o,p,e1):=ih w j c;let(f,q):=x;let(b,g,gb):=acA rd h o p e1 q;let(C,D,e2):=Mm h o p e1 q;let v:=i.clk;let u:=g.clk;erw[(a++b,(by lia,by rw[g.bk,i.bk,kr,zL],λe c=>?_,?_),λls k=>?_,λe c=>?_,C,D,e2)]
  .rcases ro.mp c with z|z
   .let(z1,z2,m):=i.lt e z;let:=n e z;exact(z1,(),())
   .let(z1,z2,m):=g.lt e z;exact(z1,(),())
  .refine List.pairwise_append.mpr (i.srt,g.srt,λx A y B=>?_);let(_,_,m):=i.lt x A;let(_,s,_):=g.lt y B
   lia
  .let(x1,x2):=E ls k;let(F,s):=gb _ x2;exact(uh x1 F,by rwa[oZ])
  .rcases ro.mp c with z|z
   .exact n e z
   .let(z1,z2,m):=g.lt e z
    lia
def abB(rd:Reads T r)(h:gD T){d:Dk}{S S':HS}{wd:Str}(w:Wf T S)(j:Jv T S)(e:S.ends=[])(s:∀i,d=.DQ i->i<T.length)(q:Z8 T d S S' wd):
  ∃es,X4 T S S' (turnsOf d) es/\(∀ls,r.lk S T.length ls->r.Ok ls es/\r.lk S' T.length (r.run ls es))/\Wf T S'/\Jv T S'/\S'.ends=[]:=by
 let ok:=gD.tok h
 let none:∀{S:HS},Wf T S->Jv T S->S.ends=[]->∃es,X4 T S S 0 es/\(∀ls,r.lk S T.length ls->r.Ok ls es/\r.lk S T.length (r.run ls es))/\Wf T S/\Jv T S/\S.ends=[]:=
  λ{S} w j e=>([],(Go.refl (r:=r) T.length S).adL,λls k=>(trivial,k),w,j,e)
 cases d with
 |turns k=>
  let(es,a,b,_,c):=Zg rd h q.1 w j e;exact(es,a,b,c)
 |stop=>
  rcases q with⟨_,rfl,_⟩|⟨n,⟨f,m⟩,_⟩
  .exact none w j e
  .let(f2,S2,s1,s2,s3,s4,_):=U4 h w j e n;let n:=wu n;unfold C3 at m s1;by_cases p:(S 0).asked=true
   .rw[fR p]at m;cases m;erw[none w j e]
   .rw[fC p]at m s1;obtain rfl:=DE m s1;let p:(S 0).asked=false:=by simp_all
    let y:=ER h 10 0 S ok.n0 n p (dY (ok.deep 0 ok.n0)) (.inl rfl) w j e;let v:=rm h f _ S' m (Wf.cz ok 10 0 S ok.n0 w) (xD h 10 0 S ok.n0 n p j e).1;let(es,g):=N8 rd (y.trans v) T.length;exact(es,g.adL,g.go,s2,s3,s4)
 |DQ i=>
  let s:=s i rfl;rcases q with⟨o,rfl,_⟩|⟨o,n,rfl,_⟩|⟨o,n,⟨f,m⟩,_⟩
  .exact none w j e
  .exact none w j e
  .let(f2,S2,s1,s2,s3,s4,_):=Uv h w j e s o n;obtain rfl:=DE m s1;let on:=wu n;let t:isWord "fallen":= .inr (.inl rfl);let u:=rd.DQ s o on w j e;let(es,g):=N8 rd (rm h f _ S' m (w.aX s λ_=>t) (j.aX ok s on (λk A x=>(by rw[(ok.bB A x).2]at o;cases o)) e)) T.length;let g:=u.trans g;exact(_,g.adL,g.go,s2,s3,s4)
end
end Gr
namespace Gw
open PySem Shp Tr Hs Hm Lw
section
variable(T:Re)
end
section
variable{T:Re}{X:Nat->Prop}
end
section
variable{T:Re}{S:HS}{ls:LG}{p:Nat}
def uJ{m j:Nat}(h:aS T m S=some j):hI (S m).bF (gm T j)=true:=by
 unfold aS at h
 split at h
 .cases h
 .rename_i h0
  let(c,_,_):=Ec h;let a:=anW h0;simp_all
theorem Kg(i:Nat)(S:HS):(bj T i (write T "told" i S)).nd i=(if f7 T i then {S i with st:="told",asked:=true,need:=(sh T i).cS,kG:=(sh T i).bU} else goDown T i {S i with asked:=true}):=aw ..
end
section
variable{T:Re}
def Qf{c d sp:Int}(h:c<=d)(l:List Int):cg d sp (cg c sp l)=cg d sp l:=by
 unfold cg;rw[ajj];erw[B8 λx _=>?_];by_cases z:d-x<sp
 .rw[gy z,gy (show c-x<sp by lia)];rfl
 .rw[iR z];rfl
def VA(m:Nat)(S:HS):∃l,(aL T m S).2=up S m ({·with aA:=l})/\(∀c,S.clk<=c->cg c (sh T m).cS l=cg c (sh T m).cS (S m).aA)/\((aL T m S).1=true->(sh T m).bU<((cg S.clk (sh T m).cS (S m).aA).length:Int)+1)/\((aL T m S).1=false->((cg S.clk (sh T m).cS (S m).aA).length:Int)+1<=(sh T m).bU):=by
 unfold aL
 split
 .erw[((S m).aA,?_,λ_ _=>rfl,λy=>(by cases y),λ_=>?_)]
  .show S={S with nd:=λj=>if j=m then _ else S j}
   let:S.nd=λj=>if j=m then {S j with aA:=(S m).aA} else S j:=by
    funext j
    by_cases e:j=m
    .rw[fR e,e]
    .rw[fC e]
   rw[<- this]
  .let:(cg S.clk (sh T m).cS (S m).aA).length<=(S m).aA.length:=yS _ _
   lia
 .exact (_,rfl,λc a=>Qf a _,λy=>iB y,λy=>by lia)
end
section
variable{T:Re}
end
section
variable{T:Re}
def DF(h:gD T){i:Nat}(g:i<T.length)(a:HS)(Inv:Nat->HS->Prop)(step:∀j S,j<T.length->par T j=some i->j∈aY T i a->Inv j S->Inv (en T j) (gv T j (en T j) S))
  (skip:∀j S,j<T.length->par T j=some i->j∉aY T i a->Inv j S->Inv (en T j) S) (S:HS) (f:Inv (i+1) S):Inv (en T i) ((aY T i a).foldl (λS j=>bz T 9 j S) S):=by
 let ok:=gD.tok h;let(e1,e2,e3,e4):=eO g
 let o:aY T i a=(jj (i+1) (en T i-(i+1))).filter λj=>decide (par T j=some i)&&(hI (a.nd i).com (gm T j)&& !Nat.testBit (a.nd i).good (gm T j)):=by
  unfold aY;rw[A9 h g,ajj]
  congr 1
  funext j
  erw[aoz _ _]
 let n:∀j,j<T.length->par T j=some i->(j∈aY T i a↔(hI (a.nd i).com (gm T j)&& !Nat.testBit (a.nd i).good (gm T j))=true):=λj c e=>by
  unfold aY kids;rw[mJ,mJ,qG];exact(λz=>z.2,λz=>((c,gy e),z))
 rw[o];erw[L7 h g (λj=>hI (a.nd i).com (gm T j)&& !Nat.testBit (a.nd i).good (gm T j)) (λS j=>bz T 9 j S) (λj S c e=>zr h 9 j S c (ok.deep j c)) Inv (λj S c e m f=>step j S c e ((n j c e).mpr m) f) (λj S c e m f=>skip j S c e (λz=>by rw[(n j c e).mp z]at m;cases m) f) (en T i-(i+1)) (i+1) (gx _) () () (Mh h g) S f]
end
end Gw
namespace L2
open PySem PySem.Spec PyProof.Rows
def Itv(K:gI)(a:eF)(n:Nat):It:=
 (λi H=>i<n/\∃xs x,fT K H a xs/\xs[n-1-i]? =some x,λi H x H'=>H'=H/\∀xs,fT K H a xs->xs[n-1-i]? =some x,λi _=>n=i)
def aad{P:iU}{w:iP}{K:gI}{Q:hH}(a it:eF)(n:Nat):Turn P w K Q (Itv K a n) [it] it (λi h=>h.IsRevIter it a ((n:Int)-1-i)) where
 mem:=by simp
 obj:=λi h st b g=>by
  let e:=by simpa using g
  subst e;let(o,e,c,d):=st;exact(o,e,λv z=>by simp_all)
 keep:=λi h h' st k=>st.at λo e=>k it (by simp) o e
 item:=by
  intro X r D y G i f s M H E I q st m;subst r D y;let(hi,xs,x,L,J):=m;let(its,R,p,hz):=I.list L;let(u,U,S):=R.get J;let(A,F,N,t,C,B):=q it (by simp);let Y:n-1-i=((n-1-i:Nat):Int):=by lia
  rw[Y]at st;erw[wpAny_pyNext_rev_item st p.isList (by simpa using U) λh' j T=>?_];let Z:=I.turned (t':=s.toks) (λb o g e=>(T.2 b g).trans e) A F t C B;let(o,e,c,d):=id j;exact(u,rfl,Uc e c d ∅ (x,H,Z,S,(rfl,λys O=>by rwa[I.xY O L]),by rwa[show n-1-((i+1:Nat))=((n-1-i:Nat):Int)-1 by lia],λb g=>(q b g).1))
 done:=by
  intro X r D y G i f s M H E I q st m;let(A,F,N,t,C,B):=q it (by simp);let m:n=i:=m;rw[show n-1-(i:Int)= -1 by lia]at st;erw[wpAny_pyNext_rev_end (I.ok.hd G) st λh' W=>?_];exact(rfl,I.turned (λb o g e=>W b o g e) A F t C B)
 self:=λ_ _ _ _ _ st h=>amO st h
def Xl:bootBuiltins "reversed"=some (.type "reversed"):=by decide +kernel
section
variable{X:Cx}{tg:hH}
def agR(K:gI)(e:TA):TI:=λf H R=>e f H λvs c=>∃a xs,vs=[.ref a]/\fT K c a xs/\R (Itv K a xs.length) c
def YY{l:hH}{i:TA}{p g:Pos}(t:Gl X "reversed")(z:X.mg "reversed"=none)(B:PA X [l] i)(hs:autoParam (starEach [l] X.env=[(false,eval l X.env)]) L2.aE._auto_1):
  PI X tg (.Call (.Name "reversed" p) [l] [] g) (agR X.K i):=by
 intro j s C H R I h;erw[Call_ (xy I t z Xl (ai9 (B.th I h λus c vs m f n y=>?_) (by rw[hs];rfl) ⋯))];let(a,xs,e,x,q):=y;subst e;cases n with
 |cons r w=>
  cases w;cases r;let(its,A,pl,D):=f.list x;let u:=A.length;erw[call_reversed_list pl.isList (amO (_,rX _ rfl,rfl,rfl) ?_)];erw[(c.heap.objs.size,[c.heap.objs.size],_,_,m,rfl,f.kept λb o e=>nr _ e,aad a _ xs.length,(_,rX _ rfl,rfl,?_),λb v=>?_,q)]
  .let e:((its.toArray.size:Nat))-1=(xs.length)-1-((0:Nat):Int):=by rw[js,<-u];lia
   rw[<- e]
   rfl
  .let e:=by simpa using v
   subst e;erw[f.QV (gx _) (f.hok.fresh (gx _))]
end
end L2
namespace Hm
open PySem Shp Tr Hs
section
variable{T:Re}{S S':HS}
def Sd(T:Re)(S:HS)(m:Nat):Prop:=((S m).st="on"->(S m).wait=[])/\((S m).st="turning"\/(S m).st="down"->∃j,aS T m S=some j/\(S j).asked=true)
def ja(T:Re)(S:HS)(X:Nat->Prop):Prop:=∀m,m<T.length->f7 T m=false->¬X m->Sd T S m
def Pe(T:Re)(S:HS)(m:Nat):Prop:=∃e∈S.ends,par T e.1=some m
def LC{m:Nat}(h:∀k,k<T.length->par T k=some m->bK S' k=bK S k):bf T m S'=bf T m S:=by
 unfold bf
 congr 1
 funext k
 cases e:(kids T m)[k]? with
 |none=>rfl
 |some j=>
  let(_,b,c):=Ec e;show(!bK S' j)= !bK S j;rw[h j c b]
def fI{m:Nat}(l:(S' m).bF=(S m).bF)(h:∀k,k<T.length->par T k=some m->bK S' k=bK S k):aS T m S'=aS T m S:=by
 unfold aS;rw[LC h,l]
def Sd.of{m:Nat}(d:Sd T S m)(a:(S' m).st=(S m).st)(b:(S' m).wait=(S m).wait)(c:(S' m).bF=(S m).bF)(h:∀k,k<T.length->par T k=some m->bK S' k=bK S k/\((S k).asked=true->(S' k).asked=true)):Sd T S' m:=by
 erw[(λz=>?_,λz=>?_)]
 .rw[a]at z;rw[b];erw[d.1 z]
 .rw[a]at z;let(j,e,f):=d.2 z;let(k1,k2,_):=lW e;exact(j,by rwa[fI c λk g i=>(h k g i).1],(h j k1 k2).2 f)
def Sd.nt{m i:Nat}(d:Sd T S m)(o:∀k,k≠i->S' k=S k)(mi:m≠i)(c:par T i≠some m):Sd T S' m:=by
 let e:=o m mi;erw[d.of (by rw[e]) (by rw[e]) (by rw[e]) λk g f=>?_];let a:k≠i:=λz=>c (by rwa[<- z]);unfold bK;rw[o k a];exact(rfl,id)
def Sd.near{m i:Nat}(d:Sd T S m)(o:∀k,k≠i->S' k=S k)(mi:m≠i)(of:(S' i).st≠"off")(a:(S i).st≠"off")(as:(S i).asked=true->(S' i).asked=true):Sd T S' m:=by
 let e:=o m mi;erw[d.of (by rw[e]) (by rw[e]) (by rw[e]) λk g f=>?_];by_cases c:k=i
 .subst c;unfold bK;rw[iR of,iR a];exact(rfl,as)
 .unfold bK;rw[o k c];exact(rfl,id)
theorem Sd.off{m:Nat}(h:(S m).st="off"):Sd T S m:=(λz=>by rw[h]at z;exact absurd z ∅,λz=>by rw[h]at z;rcases z with z|z<;>erw[absurd z ∅])
theorem ja.mono{X Y:Nat->Prop}(d:ja T S X)(h:∀m,X m->Y m):ja T S Y:=λm a b c=>d m a b λz=>c (h m z)
def ja.ended{i:Nat}{wd:Str}(c:wd≠"")(h:S.ends=[])(d:ja T S λm=>m=i\/par T i=some m):ja T (aX T i wd S) (Pe T (aX T i wd S)):=by
 intro m f a j
 let e:aX T i wd S={write T wd i (up S i λd=>{d with st:="off"}) with ends:=[(i,wd)]}:=by
  unfold aX;rw[fC c,h]
  rfl
 by_cases mi:m=i
 .subst mi;erw[Sd.off (by rw[e];show((up S m λd=>{d with st:="off"}).nd m).st=_;rw[aw])]
 .let pi:=λz=>j ((i,wd),by rw[e];exact l9.mpr rfl,z);refine(d m f a λz=>?_).nt (λk g=>?_) mi pi
  .rcases z with y|y
   .exact mi y
   .exact pi y
  .rw[e];show(up S i λd=>{d with st:="off"}).nd k=_;erw[bu _ g]
end
section
variable{T:Re}
def afk{c:Int}{k:Nat}{d:Nd}:(nz T c k d).st="on"/\(f7 T k=false->(nz T c k d).wait=[]):=by
 unfold nz
 split
 .simp_all
 .exact (rfl,λ_=>rfl)
def ja.gv(h:gD T){S:HS}{X:Nat->Prop}{a:Nat}(g:a<T.length)(d:ja T S X)(j:∀m,par T a=some m->X m):ja T (gv T a (en T a) S) X:=by
 let nd:∀k,(Hm.gv T a (en T a) S).nd k=if a<=k/\k<en T a then nz T S.clk k (S k) else S k:=λ_=>rfl;intro m o f nx;by_cases y:a<=m/\m<en T a
 .let e:=nd m;rw[fR y]at e;let(n,b2):=afk;erw[(λ_=>by rw[e];exact b2 f,λz=>?_)];rw[e,n]at z;rcases z with z|z<;>erw[absurd z ∅]
 .let e:=nd m;rw[fC y]at e;refine(d m o f nx).of (by rw[e]) (by rw[e]) (by rw[e]) λk r i=>?_
  let p:¬(a<=k/\k<en T a):=λz=>by
   by_cases q:k=a
   .exact nx (j m (by rwa[<- q]))
   .let(m',y1,y2,y3):=oR h g () z.2;rw[i]at y1;obtain rfl:=iJ y1;erw[y (y2,())]
  unfold bK;rw[nd k,fC p];exact(rfl,id)
theorem Ci(h:gD T)(d:Nat)(tl:∀(i:Nat) (S:HS),i<T.length->(S i).st≠"off"->(S i).asked=false->b6 T d i->M4 T S i->Wf T S->Jv T S->S.ends=[]->ja T S (λm=>par T i=some m)->ja T (cz T d i S) (Pe T (cz T d i S))):
  ∀(m:Nat) (S:HS),m<T.length->f7 T m=false->(S m).st="turning"\/(S m).st="down"->b6 T (d+1) m->Wf T S->Jv T S->S.ends=[]->ja T S (λx=>x=m)->ja T (aC T d m S) (λx=>Pe T (aC T d m S) x\/(x=m/\((aC T d m S).nd m).st="on"))
 |m,S,hm,hl,hst,hd,w,j,he,sx=>by
  let ok:=gD.tok h;unfold aC;cases hL:aS T m S with
  |none=>
   unfold aV;by_cases z:(S m).st="down"
   .rw[fR z];let s:eZ (S m)≠"":=by unfold eZ;split<;>decide
    exact(ja.ended s he (sx.mono λx=>.inl)).mono λx=>.inl
   .rw[fC z];let r:(S m).st="turning":=by rcases hst with y|y;erw[y];exact absurd y z
    let o:∀k,k≠m->(up S m aR).nd k=S k:=λk f=>bu _ f;let n:(up S m aR).nd m=aR (S m):=aw ..
    let res:=Gw.DF h hm S (λ_ S'=>S' m=aR (S m)/\ja T S' λx=>x=m) (λk S' f q _ e=>by
      let mk:=(ok.bB f q).1;erw[(?_,e.2.gv h f λx g=>?_)]
      .show (if k<=m/\m<en T k then _ else S' m)=_;rw[fC ()];erw[e.1]
      .rw[q]at g;exact(iJ g).symm) (λ_ _ _ _ _ e=>e) (up S m aR) (n,λx a b c=>(sx x a b c).near o c (by rw[n];exact(by decide:("on":Str)≠"off")) (by rw[r];decide) (λy=>by rwa[n]))
    erw[res.2.mono λx y=>.inr (y,by rw[res.1];rfl)]
  |some k=>
   let(k1,k2,k3):=lW hL;dsimp only;cases ha:(S k).asked with
   |true=>
    intro x a b c;by_cases p:x=m
    .subst p;exact(λz=>by simp_all,λ_=>(k,hL,ha))
    .exact sx x a b p
   |false=>
    refine(tl k S k1 k3 ha (hd k (jb hL)) (.inr (m,hm,hl,hL,hst)) w j he (sx.mono λx y=>?_)).mono λx=>.inl;rwa[y]
theorem JW(h:gD T):∀(d i:Nat) (S:HS),i<T.length->(S i).st≠"off"->(S i).asked=false->b6 T d i->M4 T S i->Wf T S->Jv T S->S.ends=[]->ja T S (λm=>par T i=some m)->ja T (cz T d i S) (Pe T (cz T d i S))
 |0,_,_,_,_,_,hd,_,_,_,_,_=>hd.elim
 |d+1,i,S,hi,hon,ha,hd,why,w,j,he,sx=>by
  let ok:=gD.tok h;rw[eJ];let o:∀k,k≠i->(bj T i (write T "told" i S)).nd k=S k:=λk s=>bu _ s;let n:=Gw.Kg (T:=T) i S;let r:((bj T i (write T "told" i S)).nd i).asked=true:=by rw[n];split<;>rfl
  let p:((bj T i (write T "told" i S)).nd i).st≠"off":=by
   rw[n]
   split
   .exact (by decide:("told":Str)≠"off")
   .exact (by decide:("down":Str)≠"off")
  let q:ja T (bj T i (write T "told" i S)) λm=>m=i:=λm C g mi=>by
   by_cases c:par T i=some m
   .rcases why with rfl|⟨m',_,_,hL,hst⟩
    .cases c
    .let(_,k2,_):=lW hL;rw[c]at k2;obtain rfl:=iJ k2;let e:=o m mi
     let B:aS T m (bj T i (write T "told" i S))=some i:=by
      rw[fI (S:=S) (by rw[e]) λk s c=>?_]
      .exact hL
      .by_cases ki:k=i
       .subst ki;unfold bK;rw[iR p,iR hon]
       .unfold bK;rw[o k ki]
     erw[(λz=>?_,λ_=>(i,B,r))];rw[e]at z;rcases hst with y|y<;>rw[y]at z<;>erw[absurd z ∅]
   .exact (sx m C g c).nt o mi c
  cases g:f7 T i with
  |true=>
   by_cases z:dJ ((bj T i (write T "told" i S)).nd i)=""
   .rw[z];exact λm a b _=>q m a b λy=>by simp_all
   .exact ja.ended z he (q.mono λx=>.inl)
  |false=>
   let(t,_):=JE ok j hi hon ha he;let u:=(w.write "told" i).bj (i:=i)
   let f:((bj T i (write T "told" i S)).nd i).st="down":=by
    unfold bj;rw[aw,g]
    rfl
   let(st,D,cm,v,A):=vx ok d i (bj T i (write T "told" i S));refine(Ci h d (JW h d) i _ hi g (.inr f) hd u t he q).mono λx y=>?_;rcases y with y|⟨_,y⟩
   .exact y
   .rw[v]at y;erw[absurd y (A f)]
theorem Fx(h:gD T)(d:Nat):∀(m:Nat) (S:HS),m<T.length->f7 T m=false->(S m).st="turning"\/(S m).st="down"->b6 T (d+1) m->Wf T S->Jv T S->S.ends=[]->ja T S (λx=>x=m)->ja T (aC T d m S) (λx=>Pe T (aC T d m S) x\/(x=m/\((aC T d m S).nd m).st="on")):=Ci h d (JW h d)
theorem ja.own{S S':HS}{X:Nat->Prop}{m:Nat}(d:ja T S X)(f:X m)(o:∀k,k≠m->S' k=S k)(of:(S' m).st≠"off")(e:(S m).st≠"off")(as:(S' m).asked=(S m).asked):ja T S' X:=
 λx a b c=>(d x a b c).near o (λz=>c (by rwa[z])) of e (λy=>by rwa[as])
def QG(m i:Nat)(S:HS):(∀k,k≠m->(br T m i S).nd k=S k)/\((br T m i S).nd m).asked=(S m).asked/\(((br T m i S).nd m).st="down"\/((br T m i S).nd m).st="turning")/\((br T m i S).nd m).wait.length<=(S m).wait.length:=by
 let(l,e1,_):=oV m S;unfold br;rw[e1]
 split
 .let n:(giveUp T m (write T "gives up" m (up S m λd=>{d with aA:=l}))).nd m=goDown T m { (up S m λd=>{d with aA:=l}).nd m with BC:=true}:=by
   unfold giveUp;rw[aw]
   rfl
  rw[aw]at n;erw[(λk a=>?_,by rw[n];rfl,.inl (by rw[n];rfl),by rw[n];exact qj _)];unfold giveUp;rw[bu _ a];show(up S m λd=>{d with aA:=l}).nd k=_;erw[bu _ a]
 .let n:(fP T m i (write T "answers" i (up S m λd=>{d with aA:=l}))).nd m=B7 T m i (write T "answers" i (up S m λd=>{d with aA:=l})) ((up S m λd=>{d with aA:=l}).nd m):=by
   unfold fP;rw[aw]
   rfl
  rw[aw]at n;erw[(λk a=>?_,by rw[n];rfl,.inr (by rw[n];rfl),by rw[n];exact gx _)];unfold fP;rw[bu _ a];show(up S m λd=>{d with aA:=l}).nd k=_;erw[bu _ a]
theorem FO(h:gD T):∀(f m:Nat) (S:HS),m<T.length->f7 T m=false->Wf T S->Jv T S->((S m).st="on"->S.ends=[])->(S m).wait.length<=f->ja T S (λx=>Pe T S x\/(x=m/\(S m).st="on"))->ja T (bt T f m S) (Pe T (bt T f m S))
 |0,m,S,hm,hl,_,_,_,hf,sx=>by
  show ja T S (Pe T S);intro x a b c;by_cases z:x=m/\(S m).st="on"
  .let(rfl,z):=z;erw[(λ_=>Yw.mp (),λy=>?_)];rw[z]at y;rcases y with y|y<;>erw[absurd y ∅]
  .exact sx x a b λy=>y.elim c z
 |f+1,m,S,hm,hl,w,j,he,hf,sx=>by
  let ok:=gD.tok h;unfold bt;by_cases g:(S m).st="on"
  .rw[fR g];let on:(S m).st≠"off":=by rw[g];decide
   cases hw:(S m).wait with
   |nil=>
    show ja T S (Pe T S);intro x a b c;by_cases z:x=m
    .subst z;erw[(λ_=>hw,λy=>?_)];rw[g]at y;rcases y with y|y<;>erw[absurd y ∅]
    .exact sx x a b λy=>y.elim c λy=>z y.1
   |cons i r=>
    let n:r.length<=f:=by simp_all
    let(A,t):=w.wt m i (by rw[hw];erw[lq]);let(a,b,c):=Jf h j hm hl A t hw g (he g);let(F,B):=w.cy ok hm hl hw;let N:∀k,k≠m->(up S m λd=>{d with wait:=r}).nd k=S k:=λk M=>bu _ M;let o:(up S m λd=>{d with wait:=r}).nd m={S m with wait:=r}:=aw ..;let E:ja T S λx=>x=m:=λx a b c=>sx x a b λy=>y.elim (λ(e,e1,_)=>by simp_all) λy=>c y.1;let s:=E.own rfl N (by rw[o];erw[on]) on (by rw[o])
    let one:ja T (cy T m i r S) (λx=>Pe T (cy T m i r S) x\/(x=m/\((cy T m i r S).nd m).st="on"))/\((cy T m i r S).nd m).wait.length<=f:=by
     unfold cy;by_cases p:toBe T m i (up S m λd=>{d with wait:=r})=true
     .rw[fR p,jD];let(K,C,J,_):=R5 h j hm hl A t hw g (he g) p;let(L,H,D,q):=QG m i (up S m λd=>{d with wait:=r});let I:=s.own rfl L (by rcases D with z|z<;>rw[z]<;>decide) (by rwa[o]) H
      let(st,O,cm,G,P):=vx ok 9 m (br T m i (up S m λd=>{d with wait:=r}));erw[(Fx h 9 m _ hm hl J (dY (ok.deep m hm)) (B.br hl) K C I,?_)];rw[G];rw[o]at q;erw[jC q n]
     .rw[fC p];exact(s.mono λx y=>.inr (y,by rwa[o]),by rwa[o])
    exact FO h f m (cy T m i r S) hm hl F a (λz=>by
     lia) one.2 one.1
  .rw[fC g];erw[sx.mono λx y=>y.elim id λy=>absurd y.2 g]
def Y9(h:gD T){S:HS}(w:Wf T S)(j:Jv T S){i:Nat}{wd:Str}(B:S.ends=[(i,wd)])(H:ja T S (Pe T S)):ja T (mV T i wd {S with ends:=[]}) (Pe T (mV T i wd {S with ends:=[]})):=by
 let ok:=gD.tok h;let(q,U,o):=j.pnd (i,wd) (by rw[B];erw[lq]);let q:i<T.length:=q;let(E,G,_,R):=w.pop B
 let sp:∀x,Pe T S x->par T i=some x:=λx (e,e1,e2)=>by
  rw[B]at e1;obtain rfl:=l9.mp e1;erw[e2]
 cases hp:par T i with
 |none=>
  rw[oS hp];exact λx a b _=>H x a b λy=>by let:=sp x y;lia
 |some m=>
  rw[lJ hp];let(mi,s):=ok.bB q hp;let A:m<T.length:=by lia
  let f:=o m hp;let K:=E.bD (wd:=wd) q hp s (G m);let J:=E.cK ok (wd:=wd) q hp (G m);let(t,D,P):=Uz h w j B hp;let C:ja T {S with ends:=[]} λx=>x=m:=λx a b c=>H x a b λy=>c (by let:=sp x y;rw[hp]at this;exact(iJ this).symm)
  let F:ja T (bD T m i wd {S with ends:=[]}) λx=>x=m:=by
   let p:∀g,(∀d,(g d).st=d.st/\(g d).asked=d.asked)->ja T (up {S with ends:=[]} m g) λx=>x=m:=λg I=>by
    let n:(up {S with ends:=[]} m g).nd m=g (S m):=aw ..;erw[C.own rfl (λk O=>bu _ O) (by rwa[n,(I _).1]) f (by simp_all)]
   unfold bD
   split
   .exact C
   .unfold gX
    split
    .exact p _ λd=>(rfl,rfl)
    .split
     .exact p _ λd=>(rfl,rfl)
     .exact C
  let Q:ja T (cK T m i wd {S with ends:=[]}) (λx=>Pe T (cK T m i wd {S with ends:=[]}) x\/(x=m/\((cK T m i wd {S with ends:=[]}).nd m).st="on"))/\Jv T (cK T m i wd {S with ends:=[]})/\(((cK T m i wd {S with ends:=[]}).nd m).st="on"->(cK T m i wd {S with ends:=[]}).ends=[]):=by
   unfold cK;by_cases z:((bD T m i wd {S with ends:=[]}).nd m).st="on"
   .rw[fR z];exact(F.mono λx y=>.inr (y,z),t,λ_=>D)
   .rw[fC z,AY]
    let r:((bD T m i wd {S with ends:=[]}).nd m).st="turning"\/((bD T m i wd {S with ends:=[]}).nd m).st="down":=by
     rcases t.dm m s with y|y|y|y
     .rw[P]at y;erw[absurd y f]
     .exact absurd y z
     .exact .inl y
     .exact .inr y
    let(a,b,c):=rH h 9 m _ A s r t D;erw[(Fx h 9 m _ A s r (dY (ok.deep m A)) K t D F,a,λy=>?_)];simp_all
  let(L,M,N):=Q;erw[FO h _ m _ A s J M N (gx _) L]
def No:Nat->Prop:=λ_=>False
theorem vL(h:gD T):∀(f:Nat) (S S':HS),a8 T f S=some S'->Wf T S->Jv T S->ja T S (Pe T S)->ja T S' No
 |0,S,S',hs,w,j,sx=>by
  unfold a8 at hs
  split at hs
  .cases hs;exact sx.mono λx (e1,e2,_)=>by simp_all
  .cases hs
 |f+1,S,S',hs,w,j,sx=>by
  by_cases e:S.ends=[]
  .unfold a8 at hs;rw[e]at hs;cases hs;exact sx.mono λx (e1,e2,_)=>by simp_all
  .let(i,wd,e):=Io j e;let ok:=gD.tok h;let(c,a,g,_):=w.pop e;unfold a8 at hs;rw[e]at hs;erw[vL h f _ S' hs (c.mV ok g a) (Ia h w j e).1 (Y9 h w j e sx)]
theorem ja.pe{S:HS}(d:ja T S No):ja T S (Pe T S):=d.mono λ_ z=>z.elim
theorem ja.leaf{S S':HS}(d:ja T S No){i:Nat}(e:f7 T i=true)(o:∀k,k≠i->S' k=S k)(of:(S' i).st≠"off")(c:(S i).st≠"off")(as:(S' i).asked=(S i).asked):ja T S' No:=
 λx a b _=>(d x a b id).near o (λz=>by simp_all) of c (λy=>by rwa[as])
def W0(h:gD T){S:HS}(f:S.ends=[])(d:ja T S No){i:Nat}(g:i<T.length)(hs:bM T i S=true):ja T (eR T i S) (Pe T (eR T i S)):=by
 let(e,on,_):=Lw.J7 hs
 let a:ja T (cx T i S).2 No/\(cx T i S).2.ends=[]:=by
  unfold cx
  split
  .dsimp only;exact(d.leaf e (λk c=>bu _ c) (by rwa[aw]) on (by rw[aw]),f)
  .dsimp only;exact(d.leaf e (λk c=>bu _ c) (by rwa[aw]) on (by rw[aw]),f)
 unfold eR;by_cases z:(cx T i S).1=""
 .rw[z];erw[a.1.pe]
 .exact ja.ended z a.2 (a.1.mono λ_ z=>z.elim)
def aah(h:gD T){S a:HS}(w:Wf T S)(j:Jv T S)(e:S.ends=[])(d:ja T S No){f i:Nat}(c:i<T.length)(hs:dj T f i S=some a):ja T a No:=by
 unfold dj at hs;cases z:bM T i S with
 |true=>
  rw[fR z]at hs;erw[vL h f _ a hs (w.eR c z) (Lw.QI h j e c z) (W0 h e d c z)]
 |false=>
  simp_all
theorem run_set(h:gD T){f:Nat}:∀(n a:Nat) (S S':HS),a+n<=T.length->(jj a n).foldlM (λS i=>dj T f i S) S=some S'->Wf T S->Jv T S->S.ends=[]->ja T S No->ja T S' No
 |0,a,S,S',_,hs,_,_,_,d=>by
  simp_all
 |n+1,a,S,S',hn,hs,w,j,he,d=>by
  rw[Xf,YP]at hs;cases z:dj T f a S with
  |none=>simp_all
  |some g=>
   rw[z]at hs;let(c,e,e1):=Lw.Ea h w j he () z;erw[run_set h n (a+1) g S' () hs c e e1 (aah h w j he d () z)]
def XO(h:gD T){S a:HS}(w:Wf T S)(j:Jv T S)(c:S.ends=[])(d:ja T S No){f:Nat}(hs:xr T f S=some a):ja T a No:=by
 unfold xr at hs;rw[ajY]at hs;erw[run_set h T.length 0 _ a () hs (w.tick _) (j.tick _) c d]
def VL(h:gD T):∀{k:Nat} {S S':HS},FL T k S S'->Wf T S->Jv T S->S.ends=[]->ja T S No->ja T S' No/\Wf T S'/\Jv T S'/\S'.ends=[]:=by
 intro k S S' t w j i d
 induction t with
 |zero S=>exact(d,w,j,i)
 |@succ k S S1 S' t x ih=>
  let(a,c,e,e1):=ih w j i d;let(f,g):=x;exact(XO h c e e1 a g,Lw.Mm h c e e1 g)
def ZZ(h:gD T){d:Dk}{S S':HS}{wd:Str}(w:Wf T S)(j:Jv T S)(g:S.ends=[])(n:∀i,d=.DQ i->i<T.length)(s:ja T S No)(q:Z8 T d S S' wd):ja T S' No:=by
 let ok:=gD.tok h;cases d with
 |turns k=>exact(VL h q.1 w j g s).1
 |stop=>
  rcases q with⟨_,rfl,_⟩|⟨c,⟨f,a⟩,_⟩
  .exact s
  .let c:=wu c;unfold C3 at a;by_cases e:(S 0).asked=true
   .simp_all
   .rw[fC e]at a;let e:(S 0).asked=false:=by simp_all
    erw[vL h f _ S' a (Wf.cz ok 10 0 S ok.n0 w) (xD h 10 0 S ok.n0 c e j g).1 (JW h 10 0 S ok.n0 c e (dY (ok.deep 0 ok.n0)) (.inl rfl) w j g (s.mono λ_ z=>z.elim))]
 |DQ i=>
  let n:=n i rfl;rcases q with⟨m,rfl,_⟩|⟨m,c,rfl,_⟩|⟨m,c,⟨f,a⟩,_⟩
  .exact s
  .exact s
  .let on:=wu c;let o:isWord "fallen":= .inr (.inl rfl);erw[vL h f _ S' a (w.aX n λ_=>o) (j.aX ok n on (λk r p=>(by rw[(ok.bB r p).2]at m;cases m)) g) (ja.ended ∅ g (s.mono λ_ z=>z.elim))]
def abu(h:gD T):ja T (new T) No:=by
 rw[Ei h];let c:=(gD.tok h).n0;let e:=Sf h;let:=ja.gv h (S:=(0,[],[],λ_=>ti)) (X:=No) c (λm _ _ _=>Sd.off rfl) (λm a=>by cases a);rw[e]at this;erw[this]
end
end Hm
namespace Ga
open PySem Shp Tr Hs Hm Lw
structure LA where
 due:List Nat
 put:Nat->List Nat
 anw:Nat->List Nat
 on:Nat->Bool
 told:Nat->Bool
 good:Nat->Bool
 down:Nat->Bool
section
variable(T:Re)
def live(ls:LA)(m:Nat):List Nat:=(ls.put m).filter ls.on
def left(ls:LA)(m:Nat):List Nat:=(ls.anw m).filter λk=> !ls.good k
def cA(m i:Nat):List Nat:=if (sh T m).kind=4 then kids T m else if (sh T m).kind=5 then (kids T m).filter λk=>decide (i<=k) else [i]
def QZ(ls:LA)(i:Nat):Prop:=(ls.due≠[]->ls.due.head? =some i)/\(ls.due=[]->∀m,par T i=some m->ls.down m=false/\live ls m=[]/\(left ls m).head? =some i)
def TB(ls:LA)(i:Nat):Prop:=∀m,par T i=some m->ls.down m=true\/(live ls m).head? =some i
def UL(ls:LA)(i:Nat):Prop:=∃m,par T i=some m/\ls.down m=false/\live ls m=[]/\left ls m=[]/\ls.on i=false/\ls.good i=false
def okA(ls:LA)(e:En):Prop:=if e.wd="begun" then QZ T ls e.i else if e.wd="told" then TB T ls e.i else if e.wd="answers" then UL T ls e.i else if e.wd="gives up" then True else isWord e.wd
def less(ls:LA)(i:Nat):LA:=if ls.due=[] then match par T i with
  |some m=>{ls with anw:=aW ls.anw m (left ls m).tail,put:=aW ls.put m []}
  |none=>ls
 else ls
def nxB(ls:LA)(i:Nat):LA:=((if ls.due=[] then jj i (en T i-i) else ls.due).tail,aW (less T ls i).put i [],aW (less T ls i).anw i [],aW ls.on i true,aW ls.told i false,aW ls.good i false,aW ls.down i false)
def qD(ls:LA)(e:En):LA:=if e.wd="begun" then nxB T ls e.i
 else if e.wd="told" then {ls with told:=aW ls.told e.i true,down:=if f7 T e.i then ls.down else aW ls.down e.i true}
 else if e.wd="answers" then (match par T e.i with
  |some m=>{ls with anw:=aW ls.anw m (cA T m e.i),put:=aW ls.put m ((cA T m e.i).reverse.filter ls.on)}
  |none=>ls)
 else if e.wd="gives up" then {ls with down:=aW ls.down e.i true}
 else {ls with on:=aW ls.on e.i false,good:=if ls.told e.i=false/\begun (sh T e.i) e.wd=false then aW ls.good e.i true else ls.good}
def pend(S:HS)(k:Nat):Bool:=S.ends.any λe=>decide (e.1=k)&&(!(S k).asked&& !begun (sh T k) e.2)
structure sC(T:Re)(m0:Nat)(l:List Nat)(S:HS)(ls:LA):Prop where
 on:∀k,k<T.length->ls.on k= !bK S k
 td:∀k,k<T.length->ls.told k=(S k).asked
 du:ls.due=[]
 dn:∀m,m<T.length->f7 T m=false->(S m).st≠"off"->ls.down m=decide ((S m).st="down")
 gd:∀k m,k<T.length->par T k=some m->(S m).st≠"off"->ls.good k=(hI (S m).good (gm T k)||pend T S k)
 pk:∀m k,k∈ls.put m->k<T.length/\par T k=some m
 ak:∀m k,k∈ls.anw m->k<T.length/\par T k=some m
 qt:∀m,m<T.length->f7 T m=false->(S m).st="on"->live ls m=[]/\left ls m=(if m=m0 then l else [])/\(S m).com=0
 tr:∀m,m<T.length->f7 T m=false->(S m).st="turning"->ls.put m=((kids T m).filter λk=>hI (S m).bF (gm T k)).reverse/\left ls m=(kids T m).filter λk=>hI (S m).com (gm T k)&& !ls.good k
 lu:∀m a b,a<b->b<T.length->par T a=some m->par T b=some m->(S m).st="turning"->hI (S m).bF (gm T a)=true->(S b).st≠"off"->hI (S m).bF (gm T b)=true
 lc:∀m k,k<T.length->par T k=some m->(S m).st="turning"->hI (S m).bF (gm T k)=true->hI (S m).com (gm T k)=true\/ls.good k=true
 asd:∀m k,k<T.length->par T k=some m->(S k).st≠"off"->(S k).asked=true->((S m).st="turning"\/(S m).st="down")/\aS T m S=some k
 of:∀m k,k<T.length->par T k=some m->(S k).st="off"->(S m).st="on"\/(S m).st="turning"->ls.good k=true\/k∈(S m).wait\/(∃e∈S.ends,e.1=k)\/((S m).st="turning"/\hI (S m).com (gm T k)=true)\/(m=m0/\k∈l)
 pa:∀e∈S.ends,(S e.1).asked=true->∀m,par T e.1=some m->(S m).st="down"\/((S m).st="turning"/\hI (S m).bF (gm T e.1)=true)
def uc(T:Re)(S:HS)(ls:LA):Prop:=sC T 0 [] S ls
def rd(T:Re):Gr.Rd LA:=(okA T,qD T,λS _ ls=>uc T S ls)
end
section
variable{T:Re}{S S':HS}{ls ls':LA}{m0:Nat}{l:List Nat}
def Xp{k:Nat}(on:(S k).st≠"off"):(!bK S k)=true:=by
 unfold bK;rw[iR on]
 rfl
def sC.agA(h:sC T m0 l S ls){k:Nat}(a:k<T.length)(on:(S k).st≠"off"):ls.on k=true:=by
 rw[h.on k a];erw[Xp on]
def sC.Tu(h:sC T m0 l S ls){k:Nat}(a:k<T.length)(on:(S k).st="off"):ls.on k=false:=by
 rw[h.on k a,xU.mpr on]
 rfl
theorem sC.nil(h:sC T m0 [] S ls)(e:Nat):sC T e [] S ls:=
 (h.on,h.td,h.du,h.dn,h.gd,h.pk,h.ak,λm a b c=>by rw[amP];let:=h.qt m a b c;rw[amP]at this;exact this,h.tr,h.lu,h.lc,h.asd,(λm k a b c d=>by
  rcases h.of m k a b c d with y|y|y|y|⟨_,y⟩
  .exact .inl y
  .exact .inr (.inl y)
  .exact .inr (.inr (.inl y))
  .exact .inr (.inr (.inr (.inl y)))
  .cases y),h.pa)
def MM{m a b:Nat}(h:a<b)(g:b<T.length)(c:par T a=some m)(f:par T b=some m):gm T a<gm T b:=by
 unfold gm;rw[c,f]
 let e:hD b=hD a++jj a (b-a):=by
  rw[ajY,ajY,show jj a (b-a)=jj (0+a) (b-a) by rw[alk],ajH]
  congr 1
  lia
 rw[e,su,jm]
 let:0<((jj a (b-a)).filter λi=>decide (par T i=some m)).length:=by
  erw[List.length_pos_of_mem (mJ.mpr (?_,gy c))];erw[amg.mpr (0,(),())]
 lia
def MP{m a b:Nat}(h:a<T.length)(g:b<T.length)(f:par T a=some m)(c:par T b=some m)(e:gm T a=gm T b):a=b:=by
 let x:=mW h f;rw[e,mW g c]at x;exact(iJ x).symm
def C9{m j k:Nat}(h:aS T m S=some j)(a:k<T.length)(e:par T k=some m)(f:hI (S m).bF (gm T k)=true)(on:(S k).st≠"off"):k<=j:=by
 let(o,g,_):=lW h;by_cases c:k<=j
 .exact c
 .let lt:=MM (show j<k by lia) a g e
  let no:hI (bf T m S) (gm T k)=true:=by
   unfold bf;rw[aT,mW a e,gy (gR a e)];erw[Xp on]
  unfold aS at h
  split at h
  .cases h
  .let(p1,_,_):=Ec h;rw[p1]at lt;let:=amq (rr Nat.lt_log2_self (aks ∅ lt));simp_all
def UA{m k:Nat}(c:k<T.length)(g:par T k=some m)(f:hI (S m).bF (gm T k)=true)(on:(S k).st≠"off")(o:∀b,b<T.length->par T b=some m->hI (S m).bF (gm T b)=true->(S b).st≠"off"->b<=k):aS T m S=some k:=by
 cases e:aS T m S with
 |none=>erw[absurd (uE e c g f) on]
 |some j=>
  let(h,i,n):=lW e;let a:=C9 e c g f on;let b:=o j h i (Gw.uJ e) n;rw[show j=k by lia]
def Yk{R:List Nat}{j:Nat}(s:R.Pairwise λa b=>b<a)(c:j∈R)(f:∀x∈R,x<=j):R.head? =some j:=by
 cases R with
 |nil=>cases c
 |cons a r=>
  let:=f a lq;rcases oT.mp c with e|e
  .rw[e];rfl
  .let:=(akI.mp s).1 j e
   lia
def xI(m:Nat):(kids T m).Pairwise λa b=>a<b:=by
 erw[ajl _ List.pairwise_lt_range]
def DP{m j:Nat}{q:Nat->Bool}(h:aS T m S=some j)(on:∀k,k<T.length->q k= !bK S k):(((kids T m).filter λk=>hI (S m).bF (gm T k)).reverse.filter q).head? =some j:=by
 let(a,i,g):=lW h;erw[Yk ?_ ?_ λx f=>?_]
 .exact ajl _ (ak7.mpr (ajl _ (xI m)))
 .refine mJ.mpr (OH.mpr (mJ.mpr (?_,Gw.uJ h)),by rw[on j a];erw[Xp g]);erw[jb h]
 .let(x1,x2):=mJ.mp f;let(c,e):=mJ.mp (OH.mp x1);let(k1,k2):=aZ c;erw[C9 h k1 k2 e λz=>?_];rw[on x k1,xU.mpr z]at x2;cases x2
def sC.same(h:sC T m0 l S ls)(q:∀k,(S' k).st=(S k).st/\(S' k).asked=(S k).asked/\(S' k).good=(S k).good/\(S' k).wait=(S k).wait/\(S' k).bF=(S k).bF/\(S' k).com=(S k).com)(e:S'.ends=S.ends):sC T m0 l S' ls:=by
 let st:=λk=>(q k).1;let n:=λk=>(q k).2.1;let gd:=λk=>(q k).2.2.1;let v:=λk=>(q k).2.2.2.1;let o:=λk=>(q k).2.2.2.2.1;let cm:=λk=>(q k).2.2.2.2.2;let p:∀k,bK S' k=bK S k:=λk=>by unfold bK;rw[st]
 let pe:∀k,pend T S' k=pend T S k:=λk=>by unfold pend;rw[e,n]
 let u:∀m,aS T m S'=aS T m S:=λm=>fI (o m) λk _ _=>p k
 exact(λk a=>by rw[p];exact h.on k a,λk a=>by rw[n];exact h.td k a,h.du,λm a b c=>by rw[st]at c ⊢;exact h.dn m a b c,λk m a b c=>by rw[st]at c;rw[gd,pe];exact h.gd k m a b c,h.pk,h.ak,
  λm a b c=>by rw[st]at c;rw[cm];exact h.qt m a b c,λm a b c=>by rw[st]at c;rw[o,cm];exact h.tr m a b c,λm a b j g f i t s r=>by rw[st]at t r;rw[o]at s ⊢;exact h.lu m a b j g f i t s r,
  λm k j g f i=>by rw[st]at f;rw[o]at i;rw[cm];exact h.lc m k j g f i,λm k j g f i=>by rw[st]at f;rw[n]at i;rw[st,u];exact h.asd m k j g f i,
  λm k j g f i=>by rw[st]at f;rw[st]at i;rw[v,e,st,cm];exact h.of m k j g f i,λx j g m f=>by rw[e]at j;rw[n]at g;rw[st,o];erw[h.pa x j g m f])
def Vo{p q:Nat->Bool}(h:∀k,p k=true->q k=true)(l:List Nat):l.filter p=(l.filter q).filter p:=by
 rw[ajj];erw[B8 λk _=>?_];simp_all
def jn(h:S.ends=[])(k:Nat):pend T S k=false:=by unfold pend;rw[h];rfl
def ZO{wd:Str}(h:isWord wd)(ls:LA)(t:Int)(i:Nat):qD T ls (t,wd,i)={ls with on:=aW ls.on i false,good:=if ls.told i=false/\begun (sh T i) wd=false then aW ls.good i true else ls.good}:=by
 rcases h with rfl|rfl|rfl|rfl|rfl<;>rfl
def afb{wd:Str}(h:isWord wd){ls:LA}{t:Int}{i:Nat}:okA T ls (t,wd,i):=by
 let q:=h;rcases h with rfl|rfl|rfl|rfl|rfl<;>erw[q]
def afs(h:uc T S ls)(I:S.ends=[]){i:Nat}{wd:Str}(D:i<T.length)(on:(S i).st≠"off")(P:isWord wd)(H:∀k,k<T.length->par T k=some i->(S k).st="off")(o:∀k,k≠i->S' k=S k)(off:(S' i).st="off")(u:(S' i).asked=(S i).asked)(en:S'.ends=[(i,wd)]):uc T S' (qD T ls (S.clk,wd,i)):=by
 rw[ZO P];obtain⟨g,B⟩:∃g,g=if ls.told i=false/\begun (sh T i) wd=false then aW ls.good i true else ls.good:=(_,rfl);rw[<- B]
 let A:∀k,ls.good k=true->g k=true:=λk z=>by
  rw[B]
  split
  .by_cases e:k=i
   .rw[e,bG]
   .rwa[cG e]
  .exact z
 let C:∀k,k≠i->g k=ls.good k:=λk z=>by
  rw[B]
  split
  .exact cG z
  .rfl
 let F:∀m,(ls.anw m).filter (λk=> !g k)=(left ls m).filter λk=> !g k:=λm=>Vo (λk z=>by
  grind) _
 let no:∀k,k≠i->bK S' k=bK S k:=λk z=>by unfold bK;rw[o k z]
 let yi:∀k,(S' k).st≠"off"->k≠i/\(S k).st≠"off":=λk z=>by
  by_cases e:k=i
  .rw[e]at z;erw[absurd off z]
  .rw[o k e]at z;exact(e,z)
 let t:∀{m:Nat} {x:Str},(S' m).st=x->x≠"off"->m≠i:=λ{m x} z y e=>by rw[e,off]at z;erw[y z.symm]
 erw[(λk w=>?_,λk w=>?_,h.du,λm a b c=>?_,λk m a b c=>?_,h.pk,h.ak,λm a b c=>?_,λm a b c=>?_,λm a b p n f j E G K=>?_,λm k p n f j=>?_,λm k p n f j=>?_,λm k p n f j=>?_,λe p n m f=>?_)]
 .show aW ls.on i false k=_;by_cases e:k=i
  .rw[e,bG,xU.mpr off];rfl
  .rw[cG e,no k e];erw[h.on k w]
 .by_cases e:k=i
  .rw[e,u];erw[h.td i D]
  .rw[o k e];erw[h.td k w]
 .let(e,z):=yi m c;rw[o m e];erw[h.dn m a b z]
 .let(e,z):=yi m c;rw[o m e];let q:=h.gd k m a b z;rw[jn I,rW]at q;show g k=_;by_cases s:k=i
  .subst s
   let pe:pend T S' k=(!(S k).asked&& !begun (sh T k) wd):=by
    unfold pend;simp_all
   rw[pe,<-q,B,h.td k a];by_cases z:(S k).asked=false/\begun (sh T k) wd=false
   .rw[fR z,bG,z.1,z.2];cases ls.good k<;>rfl
   .rw[fC z]
    simp_all
  .rw[C k s,q]
   let pe:pend T S' k=false:=by
    unfold pend;rw[en];simp[Ne.symm s]
   rw[pe,rW]
 .let e:=t c ∅;rw[o m e]at c ⊢;let(v,r,M):=h.qt m a b c;refine(CN.mpr λk w z=>?_,?_,M)
  .let z:aW ls.on i false k=true:=z;by_cases s:k=i
   .rw[s,bG]at z;cases z
   .rw[cG s]at z;erw[CN.mp v k w z]
  .rw[amP]at r ⊢;show(ls.anw m).filter (λk=> !g k)=[];rw[F,r]
   rfl
 .let e:=t c ∅;rw[o m e]at c ⊢;let(v,r):=h.tr m a b c;erw[(v,?_)];show(ls.anw m).filter (λk=> !g k)=_;rw[F,r,ajj];erw[B8 λk _=>?_];show(!g k&&(hI (S m).com (gm T k)&& !ls.good k))=(hI (S m).com (gm T k)&& !g k);cases z:ls.good k with
  |true=>rw[A k z];cases hI (S m).com (gm T k)<;>rfl
  |false=>cases g k<;>cases hI (S m).com (gm T k)<;>rfl
 .let e:=t E ∅;rw[o m e]at E G ⊢;erw[h.lu m a b p n f j E G (yi b K).2]
 .let e:=t f ∅;rw[o m e]at f j ⊢;rcases h.lc m k p n f j with z|z
  .exact .inl z
  .exact .inr (A k z)
 .let(e,z):=yi k f;rw[o k e]at j;let(v,r):=h.asd m k p n z j;let mi:m≠i:=λy=>z (H k p (by rwa[<- y]));rw[o m mi];erw[(v,UA p n (by rw[o m mi];exact Gw.uJ r) f λb L O J N=>?_)];rw[o m mi]at J;erw[C9 r L O J (yi b N).2]
 .let mi:m≠i:=by
   intro y;rw[y,off]at j;rcases j with j|j<;>erw[absurd j ∅]
  rw[o m mi]at j ⊢;by_cases s:k=i
  .exact .inr (.inr (.inl ((i,wd),by rw[en];exact l9.mpr rfl,s.symm)))
  .rw[o k s]at f;rcases h.of m k p n f j with y|y|⟨e,y,_⟩|y|⟨_,y⟩
   .exact .inl (A k y)
   .exact .inr (.inl y)
   .simp_all
   .exact .inr (.inr (.inr (.inl y)))
   .cases y
 .rw[en]at p;obtain rfl:=l9.mp p;rw[u]at n;let(v,r):=h.asd m i D f on n
  let mi:m≠i:=λy=>by
   let(_,k2,k3):=lW r;erw[k3 (H i D (by rw[y]at k2;exact k2))]
  rw[o m mi];rcases v with z|z
  .exact .inr (z,Gw.uJ r)
  .exact .inl z
end
section
variable{T:Re}{S S':HS}{ls ls':LA}
theorem aeH(ls:LA)(t:Int)(i:Nat):qD T ls (t,"told",i)={ls with told:=aW ls.told i true,down:=if f7 T i then ls.down else aW ls.down i true}:=rfl
def ad7(h:gD T)(j:Jv T S)(k:uc T S ls)(N:S.ends=[]){i:Nat}(W:i<T.length)(on:(S i).st≠"off")(hw:M4 T S i):TB T ls i/\uc T (bj T i (write T "told" i S)) (qD T ls (S.clk,"told",i)):=by
 let ok:=gD.tok h;let n:=Gw.Kg (T:=T) i S;let o:∀x,x≠i->(bj T i (write T "told" i S)).nd x=S x:=λx B=>bu _ B;let en:(bj T i (write T "told" i S)).ends=[]:=N;generalize bj T i (write T "told" i S)=S1 at n o en;let L:(S1 i).good=(S i).good:=by rw[n];split<;>rfl
 let K:(S1 i).asked=true:=by rw[n];split<;>rfl
 let t:(f7 T i=true->(S1 i).st="told")/\(f7 T i=false->(S1 i).st="down"/\(S1 i).bF=2^(kids T i).length-1):=by
  rw[n];erw[(λz=>by rw[fR z],λz=>by rw[fC (by simp_all)];exact(rfl,rfl))]
 let w:(S1 i).st="told"\/(S1 i).st="down":=by
  cases z:f7 T i with
  |true=>erw[.inl (t.1 z)]
  |false=>erw[.inr (t.2 z).1]
 let u:(S1 i).st≠"off":=by rcases w with z|z<;>rw[z]<;>decide
 let no:∀x,bK S1 x=bK S x:=λx=>by
  by_cases e:x=i
  .rw[e];unfold bK;rw[iR u,iR on]
  .unfold bK;rw[o x e]
 let yi:∀x,(S1 x).st≠"off"↔(S x).st≠"off":=λx=>by
  by_cases e:x=i
  .rw[e];exact(λ_=>on,λ_=>u)
  .rw[o x e]
 let g:∀{m:Nat} {x:Str},(S1 m).st=x->x≠"told"->x≠"down"->m≠i:=λ{m x} z Q R e=>by
  rw[e]at z;rcases w with q|q<;>rw[q]at z
  .exact Q z.symm
  .exact R z.symm
 let pe:∀x,pend T S1 x=pend T S x:=λx=>by rw[jn en,jn N]
 let E:∀m,par T i=some m->((S m).st="turning"\/(S m).st="down")/\aS T m S=some i/\m<T.length/\f7 T m=false:=λm A=>by
  rcases hw with rfl|⟨m',D,C,v,F⟩
  .cases A
  .let(_,p2,_):=lW v;rw[A]at p2;obtain rfl:=iJ p2;exact(F,v,D,C)
 erw[(λm A=>?_,?_)]
 .let(D,C,v,F):=E m A;rcases D with z|z
  .refine .inr ?_;unfold live;rw[(k.tr m v F z).1];erw[DP C k.on]
  .refine .inl ?_;rw[k.dn m v F (by rw[z];decide),gy z]
 erw[(λx B=>by rw[no];exact k.on x B,λx B=>?_,k.du,λm a b c=>?_,λx m a b c=>?_,k.pk,k.ak,λm a b c=>?_,λm a b c=>?_,λm a b r p f s J O Y=>?_,λm x r p f s=>?_,λm x r p f s=>?_,λm x r p f s=>?_,λe r=>by simp_all)]
 .show aW ls.told i true x=_;by_cases e:x=i
  .rw[e,bG,K]
  .rw[cG e,o x e];erw[k.td x B]
 .show (if f7 T i then ls.down else aW ls.down i true) m=_;by_cases e:m=i
  .subst e;rw[fC (by simp_all),bG,(t.2 b).1]
   rfl
  .rw[o m e];rw[o m e]at c;let q:=k.dn m a b c
   split
   .exact q
   .rwa[cG e]
 .rw[pe];let c:=(yi m).mp c;let q:=k.gd x m a b c;by_cases e:m=i
  .rwa[e,L,<-e]
  .rwa[o m e]
 .let e:=g c ∅ ∅;rw[o m e]at c ⊢;erw[k.qt m a b c]
 .let e:=g c ∅ ∅;rw[o m e]at c ⊢;erw[k.tr m a b c]
 .let e:=g J ∅ ∅;rw[o m e]at J O ⊢;erw[k.lu m a b r p f s J O ((yi b).mp Y)]
 .let e:=g f ∅ ∅;rw[o m e]at f s ⊢;erw[k.lc m x r p f s]
 .by_cases e:x=i
  .subst e;let(D,C,v,F):=E m p;let mi:m≠x:=λz=>by let:=(ok.bB W p).1;lia
   erw[(by rwa[o m mi],?_)];rw[fI (by rw[o m mi]) λy _ _=>no y];erw[C]
  .rw[o x e]at s;let(P,I):=k.asd m x r p ((yi x).mp f) s;by_cases mi:m=i
   .subst mi;let Z:=(ok.bB r p).2;let(X,U):=t.2 Z;erw[(.inr X,UA r p (by rw[U];exact xK (gR r p)) f λb H M _ G=>?_)];let G:=(yi b).mp G;by_cases c:b<=x
    .exact c
    .refine C9 I H M ?_ G;rcases P with z|z
     .exact k.lu m x b () H p M z (Gw.uJ I) G
     .rw[j.dwn m z];erw[xK (gR H M)]
   .refine (by rwa[o m mi],?_);rw[fI (by rw[o m mi]) λy _ _=>no y];erw[I]
 .let xi:x≠i:=λz=>by rw[z]at f;exact u f
  let mi:m≠i:=by
   rcases s with z|z
   .exact g z ∅ ∅
   .exact g z ∅ ∅
  rw[o x xi]at f;rw[o m mi]at s ⊢;rw[en];let q:=k.of m x r p f s;rw[N]at q;erw[q]
def Xv(k:uc T S ls){m i:Nat}{wd:Str}(C:i<T.length)(r:par T i=some m)(Q:m<T.length)(M:f7 T m=false)(u:S.ends=[(i,wd)])(B:(S m).st≠"off")(U:(S i).st="off")(R:m≠i):uc T (bD T m i wd {S with ends:=[]}) ls:=by
 obtain⟨g,e1⟩:∃g,g=bD T m i wd {S with ends:=[]}:=(_,rfl)
 let A:g.ends=[]/\(∀x,x≠m->g.nd x=S x)/\(g.nd m).st=(S m).st/\(g.nd m).asked=(S m).asked/\(g.nd m).bF=(S m).bF/\(g.nd m).com=(S m).com∧
   (∀x,x∈(S m).wait->x∈(g.nd m).wait)/\(∀x,x<T.length->par T x=some m->hI (g.nd m).good (gm T x)=(hI (S m).good (gm T x)||pend T S x))∧
   ((S i).asked=false->begun (sh T i) wd=true->(S m).st≠"down"->i∈(g.nd m).wait\/hI (S m).com (gm T i)=true):=by
  let pe:∀x,pend T S x=(decide (i=x)&&(!(S x).asked&& !begun (sh T x) wd)):=λx=>by
   unfold pend;rw[u];simp
  rw[e1];unfold bD;cases ha:(S i).asked with
  |true=>
   erw[(rfl,λ_ _=>rfl,rfl,rfl,rfl,rfl,λ_ z=>z,λx _ _=>?_,λz=>by cases z)];rw[pe];by_cases e:i=x
   .simp_all
   .rw[iR e];exact(rW _).symm
  |false=>
   rw[fC jT];unfold gX;cases hb:begun (sh T i) wd with
   |false=>
    rw[fR rfl];let n:(up {S with ends:=[]} m λd=>{d with good:=d.good ||| 2^gm T i}).nd m={S m with good:=(S m).good ||| 2^gm T i}:=aw ..;erw[(rfl,λx j=>bu _ j,by rw[n],by rw[n],by rw[n],by rw[n],λx z=>by rwa[n],λx j D=>?_,λ_ z=>by cases z)];rw[n];rw[alv,akw,pe]
    by_cases e:i=x
    .subst e;rw[ha,hb,gy rfl,gy rfl];rfl
    .rw[iR e,iR λz=>e (MP C j r D z)];rfl
   |true=>
    rw[fC ∅]
    let F:∀x,pend T S x=false:=λx=>by
     rw[pe];by_cases e:i=x
     .subst e;simp_all
     .rw[iR e];rfl
    by_cases c:(S m).st≠"down"/\hI (S m).com (gm T i)=false
    .rw[fR c];let n:(up {S with ends:=[]} m λd=>{d with wait:=d.wait++[i]}).nd m={S m with wait:=(S m).wait++[i]}:=aw ..;erw[(rfl,λx j=>bu _ j,by rw[n],by rw[n],by rw[n],by rw[n],λx z=>by rw[n];exact ajD _ z,λx j D=>?_,λ_ _ _=>.inl (by rw[n];exact yw _ (l9.mpr rfl)))];rw[n,F,rW]
    .rw[fC c];erw[(rfl,λ_ _=>rfl,rfl,rfl,rfl,rfl,λ_ z=>z,λx _ _=>by rw[F,rW],λ_ _ z=>.inr ?_)];simp_all
 rw[<- e1];let(k1,k2,k3,N,k5,J,P,K,O):=A
 let st:∀x,(g.nd x).st=(S x).st:=λx=>by
  by_cases e:x=m
  .rwa[e]
  .rw[k2 x e]
 let t:∀x,(g.nd x).asked=(S x).asked:=λx=>by
  by_cases e:x=m
  .rwa[e]
  .rw[k2 x e]
 let v:∀x,(g.nd x).bF=(S x).bF:=λx=>by
  by_cases e:x=m
  .rwa[e]
  .rw[k2 x e]
 let cm:∀x,(g.nd x).com=(S x).com:=λx=>by
  by_cases e:x=m
  .rwa[e]
  .rw[k2 x e]
 let no:∀x,bK g x=bK S x:=λx=>by unfold bK;rw[st]
 let L:=k.gd i m C r B
 refine(λx j=>by rw[no];exact k.on x j,λx j=>by rw[t];exact k.td x j,k.du,λx a b c=>by rw[st]at c ⊢;exact k.dn x a b c,λx y a b c=>?_,k.pk,k.ak,λx a b c=>by rw[st]at c;rw[cm];exact k.qt x a b c,λx a b c=>by rw[st]at c;rw[v,cm];exact k.tr x a b c,
  λx a b o p h f H G E=>by rw[st]at H E;rw[v]at G ⊢;exact k.lu x a b o p h f H G E,λx y o p h f=>by rw[st]at h;rw[v]at f;rw[cm];exact k.lc x y o p h f,
  λx y o p h f=>by rw[st]at h;rw[t]at f;rw[st,fI (v x) λz _ _=>no z];exact k.asd x y o p h f,λx y o p h f=>?_,λe o=>by simp_all)
 .rw[st]at c;let q:=k.gd x y a b c;rw[jn k1];by_cases e:y=m
  .simp_all
  .rw[k2 y e];rw[q]
   let:pend T S x=false:=by
    unfold pend;rw[u];let:i≠x:=λz=>e (by simp_all);simp[this]
   rw[this,rW]
 .rw[st]at h;rw[st]at f;by_cases I:y=i
  .subst I;rw[r]at p;obtain rfl:=iJ p;rw[st,cm];cases ha:(S y).asked with
   |true=>
    rcases k.pa (y,wd) (by rw[u];erw[l9.mpr rfl]) ha m r with z|⟨s,w⟩
    .rw[z]at f;rcases f with f|f<;>erw[absurd f ∅]
    .rcases k.lc m y C r s w with z|z
     .exact .inr (.inr (.inr (.inl (s,z))))
     .exact .inl z
   |false=>
    cases hb:begun (sh T y) wd with
    |false=>
     erw[.inl ?_];let:pend T S y=true:=by
      unfold pend;simp_all
     simp_all
    |true=>
     rcases O ha hb (λz=>by rw[z]at f;rcases f with f|f<;>erw[absurd f ∅]) with z|z
     .exact .inr (.inl z)
     .rcases f with f|f
      .rw[(k.qt m Q M f).2.2,Tf]at z;cases z
      .exact .inr (.inr (.inr (.inl (f,z))))
  .rw[st,cm];rcases k.of x y o p h f with z|z|⟨e,s,w⟩|z|z
   .exact .inl z
   .refine .inr (.inl ?_);by_cases e:x=m
    .rw[e]at z ⊢;erw[P y z]
    .rwa[k2 x e]
   .rw[u]at s;rw[l9.mp s]at w;erw[absurd w.symm I]
   .exact .inr (.inr (.inr (.inl z)))
   .exact .inr (.inr (.inr (.inr z)))
end
section
variable{T:Re}{S S':HS}{ls ls':LA}
structure EZ(T:Re)(m:Nat)(S S':HS):Prop where
 o:∀x,x≠m->S' x=S x
 on:(S m).st≠"off"
 on':(S' m).st≠"off"
 ask:(S' m).asked=(S m).asked
 good:(S' m).good=(S m).good
 e:S.ends=[]
 e':S'.ends=[]
def EZ.no{m:Nat}(w:EZ T m S S')(x:Nat):bK S' x=bK S x:=by
 by_cases e:x=m
 .rw[e];unfold bK;rw[iR w.on,iR w.on']
 .unfold bK;rw[w.o x e]
def EZ.yi{m:Nat}(w:EZ T m S S')(x:Nat):(S' x).st≠"off"↔(S x).st≠"off":=by
 by_cases e:x=m
 .rw[e];exact(λ_=>w.on,λ_=>w.on')
 .rw[w.o x e]
def EZ.as{m:Nat}(w:EZ T m S S')(x:Nat):(S' x).asked=(S x).asked:=by
 by_cases e:x=m
 .rw[e];erw[w.ask]
 .rw[w.o x e]
def EZ.gd{m:Nat}(w:EZ T m S S')(x:Nat):(S' x).good=(S x).good:=by
 by_cases e:x=m
 .rw[e];erw[w.good]
 .rw[w.o x e]
def sC.own{D r:Nat}{l A:List Nat}(k:sC T D l S ls){m:Nat}(w:EZ T m S S')(U:m<T.length)(R:f7 T m=false)(F:ls'.on=ls.on)(K:ls'.told=ls.told)(O:ls'.due=[])(p:ls'.good=ls.good)(n:∀x,x≠m->ls'.put x=ls.put x/\ls'.anw x=ls.anw x/\ls'.down x=ls.down x)
  (dn:ls'.down m=decide ((S' m).st="down")) (P:∀x∈ls'.put m,x<T.length/\par T x=some m) (I:∀x∈ls'.anw m,x<T.length/\par T x=some m)
  (H:(S' m).st="on"->live ls' m=[]/\left ls' m=(if m=r then A else [])/\(S' m).com=0) (L:(S' m).st="turning"->ls'.put m=((kids T m).filter λk=>hI (S' m).bF (gm T k)).reverse/\left ls' m=(kids T m).filter λk=>hI (S' m).com (gm T k)&& !ls.good k)
  (M:∀a b,a<b->b<T.length->par T a=some m->par T b=some m->(S' m).st="turning"->hI (S' m).bF (gm T a)=true->(S b).st≠"off"->hI (S' m).bF (gm T b)=true)
  (Q:∀x,x<T.length->par T x=some m->(S' m).st="turning"->hI (S' m).bF (gm T x)=true->hI (S' m).com (gm T x)=true\/ls.good x=true)
  (B:∀x,x<T.length->par T x=some m->(S x).st≠"off"->(S x).asked=true->((S' m).st="turning"\/(S' m).st="down")/\aS T m S'=some x)
  (of:∀x,x<T.length->par T x=some m->(S x).st="off"->(S' m).st="on"\/(S' m).st="turning"->ls.good x=true\/x∈(S' m).wait\/((S' m).st="turning"/\hI (S' m).com (gm T x)=true)\/(m=r/\x∈A))
  (G:∀x,x≠m->(if x=D then l else [])=(if x=r then A else [])):sC T r A S' ls':=by
 let E:∀x,x≠m->left ls' x=left ls x:=λx g=>by unfold left;rw[p,(n x g).2.1]
 let N:∀x,x≠m->live ls' x=live ls x:=λx g=>by unfold live;rw[F,(n x g).1]
 let pe:∀x,pend T S' x=false:=jn w.e';erw[(λx g=>by rw[F,w.no];exact k.on x g,λx g=>by rw[K,w.as];exact k.td x g,O,λx a b c=>?_,λx y a b c=>?_,λy x g=>?_,λy x g=>?_,λx a b c=>?_,λx a b c=>?_,λx a b j i f h t s v=>?_,λx y j i f h=>?_,λx y j i f h=>?_,λx y j i f h=>?_,λe j=>by rw[w.e']at j;cases j)]
 .by_cases e:x=m
  .rwa[e]
  .rw[(n x e).2.2,w.o x e];erw[k.dn x a b ((w.yi x).mp c)]
 .rw[p,w.gd,pe,rW];let:=k.gd x y a b ((w.yi y).mp c);rw[jn w.e,rW]at this;erw[this]
 .by_cases e:y=m
  .rw[e]at g ⊢;erw[P x g]
  .rw[(n y e).1]at g;erw[k.pk y x g]
 .by_cases e:y=m
  .rw[e]at g ⊢;erw[I x g]
  .rw[(n y e).2.1]at g;erw[k.ak y x g]
 .by_cases e:x=m
  .rw[e]at c ⊢;erw[H c]
  .rw[w.o x e]at c ⊢;rw[E x e,N x e,<-G x e];erw[k.qt x a b c]
 .by_cases e:x=m
  .rw[e]at c ⊢;rw[p];erw[L c]
  .rw[w.o x e]at c ⊢;rw[E x e,(n x e).1,p];erw[k.tr x a b c]
 .let v:=(w.yi b).mp v;by_cases e:x=m
  .rw[e]at f h t s ⊢;erw[M a b j i f h t s v]
  .rw[w.o x e]at t s ⊢;erw[k.lu x a b j i f h t s v]
 .rw[p];by_cases e:x=m
  .rw[e]at i f h ⊢;erw[Q y j i f h]
  .rw[w.o x e]at f h ⊢;erw[k.lc x y j i f h]
 .let f:=(w.yi y).mp f;rw[w.as]at h;by_cases e:x=m
  .rw[e]at i ⊢;erw[B y j i f h]
  .rw[w.o x e,fI (by rw[w.o x e]) λz _ _=>w.no z];erw[k.asd x y j i f h]
 .let f:(S y).st="off":=by
   by_cases z:(S y).st="off"
   .exact z
   .exact absurd f ((w.yi y).mpr z)
  rw[p];by_cases e:x=m
  .rw[e]at i h ⊢;rcases of y j i f h with z|z|z|z
   .exact .inl z
   .exact .inr (.inl z)
   .exact .inr (.inr (.inr (.inl z)))
   .exact .inr (.inr (.inr (.inr z)))
  .rw[w.o x e]at h ⊢;rcases k.of x y j i f h with z|z|⟨u,z,_⟩|z|⟨J,C⟩
   .exact .inl z
   .exact .inr (.inl z)
   .rw[w.e]at z;cases z
   .exact .inr (.inr (.inr (.inl z)))
   .let q:=G x e;rw[fR J]at q;by_cases y:x=r
    .rw[fR y]at q;erw[.inr (.inr (.inr (.inr (y,by rwa[<- q]))))]
    simp_all
def acQ(k:uc T S ls)(p:S.ends=[]){m i:Nat}{r:List Nat}(j:m<T.length)(h:f7 T m=false)(a:(S m).st="on")(v:(S m).wait=i::r)(A:i<T.length)(y:par T i=some m)(o:toBe T m i (up S m λd=>{d with wait:=r})=false)(mi:i≠m):uc T (up S m λd=>{d with wait:=r}) ls:=by
 let on:(S m).st≠"off":=by rw[a];decide
 let n:(up S m λd=>{d with wait:=r}).nd m={S m with wait:=r}:=aw ..;let w:EZ T m S (up S m λd=>{d with wait:=r}):=(λx t=>bu _ t,on,by rwa[n],by rw[n],by rw[n],p,p);let g:∀{s:Str},((up S m λd=>{d with wait:=r}).nd m).st=s->s="on":=λ{s} z=>by rw[n]at z;erw[z.symm.trans a]
 erw[k.own w j h rfl rfl k.du rfl (λ_ _=>(rfl,rfl,rfl)) (by rw[n];exact k.dn m j h on) (k.pk m) (k.ak m) (λ_=>by rw[n];exact k.qt m j h a) (λz=>absurd (g z) ∅) (λ_ _ _ _ _ _ z=>absurd (g z) ∅) (λ_ _ _ z=>absurd (g z) ∅) (λx f e c q=>?_) (λx f e c q=>?_) (λ_ _=>rfl)]
 .rcases (k.asd m x f e c q).1 with z|z<;>rw[a]at z<;>erw[absurd z ∅]
 .rcases k.of m x f e c (.inl a) with z|z|⟨u,z,_⟩|⟨z,_⟩|⟨_,z⟩
  .exact .inl z
  .rw[v]at z;rcases oT.mp z with z|z
   .subst z;erw[.inl ?_];unfold toBe at o;rw[show bK (up S m λd=>{d with wait:=r}) x=true from xU.mpr (by rwa[bu _ mi]),n,so,anp]at o;rw[k.gd x m f e on,show hI (S m).good (gm T x)=true from o]
    rfl
   .exact .inr (.inl (by rwa[n]))
  .simp_all
  .rw[a]at z;erw[absurd z ∅]
  .cases z
def acm(k:uc T S ls){m:Nat}(w:EZ T m S S')(j:m<T.length)(n:f7 T m=false)(e:(S m).st="on")(hd:(S' m).st="down"):uc T S' (qD T ls (S.clk,"gives up",m)):=by
 let a:∀{s:Str},(S' m).st=s->s="down":=λ{s} z=>z.symm.trans hd;erw[k.own w j n rfl rfl k.du rfl (λ_ i=>(rfl,rfl,cG i)) (by show aW ls.down m true m=_;rw[bG,gy hd]) (k.pk m) (k.ak m) (λz=>absurd (a z) ∅) (λz=>absurd (a z) ∅) (λ_ _ _ _ _ _ z=>absurd (a z) ∅) (λ_ _ _ z=>absurd (a z) ∅) (λx h g f c=>?_) (λx h g f c=>?_) (λ_ _=>rfl)]
 .rcases (k.asd m x h g f c).1 with z|z<;>rw[e]at z<;>erw[absurd z ∅]
 .rcases c with z|z<;>erw[absurd (a z) ∅]
end
section
variable{T:Re}{S S':HS}{ls ls':LA}
def aaC{a pl ct k:Nat}{f:Nat->Bool}(c:k<ct):hI (Shp.gj a pl ct f) k=(!decide (a=3)&&(f k&&(decide (a=4)||decide (pl<k)))):=by
 unfold Shp.gj
 split
 .rw[Tf];rfl
 .rw[aT,gy c];simp
 .rename_i h3 h4
  rw[aT,gy c,iR h3,iR h4]
  rfl
def XW{a pl ct k:Nat}{f:Nat->Bool}(c:k<ct):hI (anew a pl ct f) k=if a=3 then decide (k=pl) else (decide (a=4)||decide (pl<=k))&& !f k:=by
 unfold anew
 split
 .rw[aT,gy c];rfl
 .rw[aT,gy c];rfl
 .rename_i h3 h4
  rw[aT,gy c,fC h3,iR h4]
  rfl
theorem PB{p:Nat->Bool}{i:Nat}:∀{l:List Nat},l.Pairwise (λa b=>a<b)->i∈l->(∀k∈l,p k=decide (k=i))->l.filter p=[i]
 |[],_,h,_=>by cases h
 |a::r,s,h,q=>by
  let(f,g):=akI.mp s;by_cases e:a=i
  .subst e;rw[nS,fR (by rw[q a lq];erw[gy rfl])]
   erw[CN.mpr λk c z=>?_];rw[q k (mf _ c)]at z;let:=f k c;lia
  .rw[nS,fC (by rw[q a lq,iR e];decide)];rcases oT.mp h with z|z
   .exact absurd z.symm e
   .exact PB g z λk c=>q k (mf _ c)
def YE{m a b:Nat}(j:a<T.length)(i:b<T.length)(h:par T a=some m)(g:par T b=some m):(gm T a<gm T b↔a<b)/\(gm T a<=gm T b↔a<=b):=by
 let f:gm T a<gm T b↔a<b:=by
  erw[(λz=>?_,λz=>MM z i h g)];by_cases c:a<b
  .exact c
  .by_cases e:a=b
   .lia
   .let:=MM (show b<a by lia) j g h
    lia
 erw[(f,?_)]
 constructor
 .intro z;by_cases e:gm T a=gm T b
  .rw[MP j i h g e];erw[gx _]
  .lia
 .intro z;by_cases e:a=b
  .rw[e];erw[gx _]
  .lia
def X5{m i:Nat}(a:par T i=some m)(ls:LA)(t:Int):qD T ls (t,"answers",i)={ls with anw:=aW ls.anw m (cA T m i),put:=aW ls.put m ((cA T m i).reverse.filter ls.on)}:=by
 show(match par T i with|some m=>_|none=>ls)=_;rw[a]
def acO(k:uc T S ls){m i:Nat}{r:List Nat}(w:EZ T m S S')(J:m<T.length)(E:f7 T m=false)(K:(sh T m).kind=3\/(sh T m).kind=4\/(sh T m).kind=5)(h:(S m).st="on")(Z:(S m).wait=i::r)(n:i<T.length)(j:par T i=some m)(io:(S i).st="off")(Y:hI (S m).good (gm T i)=false)
  (D:(S' m).st="turning") (W:(S' m).wait=r) (H:(S' m).bF=Shp.gj (sh T m).kind (gm T i) (kids T m).length λx=>hI (bf T m S) x) (L:(S' m).com=anew (sh T m).kind (gm T i) (kids T m).length λx=>hI (S m).good x):
  UL T ls i/\uc T S' (qD T ls (S.clk,"answers",i)):=by
 let on:(S m).st≠"off":=by rw[h];decide
 let(q1,N,q3):=k.qt m J E h;rw[amP]at N;let gd:∀x,x<T.length->par T x=some m->ls.good x=hI (S m).good (gm T x):=λx a b=>by rw[k.gd x m a b on,jn w.e,rW]
 let G:∀x,x<T.length->par T x=some m->hI (bf T m S) (gm T x)= !bK S x:=λx a b=>by
  unfold bf;rw[aT,mW a b,gy (gR a b)]
  rfl
 let o:∀x,x<T.length->par T x=some m->hI (S' m).bF (gm T x)=(!decide ((sh T m).kind=3)&&(ls.on x&&(decide ((sh T m).kind=4)||decide (i<x)))):=λx a b=>by
  rw[H,aaC (gR a b),G x a b,k.on x a,show decide (gm T i<gm T x)=decide (i<x) from ajL.mpr (YE n a j b).1]
 let cm:∀x,x<T.length->par T x=some m->hI (S' m).com (gm T x)=if (sh T m).kind=3 then decide (x=i) else (decide ((sh T m).kind=4)||decide (i<=x))&& !ls.good x:=λx a b=>by
  rw[L,XW (gR a b),<-gd x a b,show decide (gm T i<=gm T x)=decide (i<=x) from ajL.mpr (YE n a j b).2,show decide (gm T x=gm T i)=decide (x=i) from ajL.mpr (MP a n b j,λz=>by rw[z])]
 let C:=k.Tu n io;let v:ls.good i=false:=by rwa[gd i n j]
 let Q:=JO (mW n j);let dn:ls.down m=false:=by rw[k.dn m J E on,h];rfl
 let t:∀x∈cA T m i,x<T.length/\par T x=some m:=λx c=>by
  unfold cA at c
  split at c
  .exact aZ c
  .split at c
   .exact aZ (mJ.mp c).1
   .rw[l9.mp c];exact(n,j)
 let p:(cA T m i).reverse.filter ls.on=((kids T m).filter λx=>hI (S' m).bF (gm T x)).reverse:=by
  rw[List.filter_reverse]
  congr 1
  unfold cA;rcases K with z|z|z
  .rw[fC (by rw[z];decide),fC (by rw[z];decide),nS,fC (by simp_all)];refine(CN.mpr λx c y=>?_).symm;let(a,b):=aZ c;rw[o x a b,z]at y;cases y
  .rw[fR z];erw[B8 λx c=>?_];let(a,b):=aZ c;rw[o x a b,z];show _=(true&&(ls.on x&&(true||decide (i<x))));simp
  .rw[fC (by simp_all),fR z,ajj];erw[B8 λx c=>?_];let(a,b):=aZ c;rw[o x a b,z];show(ls.on x&&decide (i<=x))=(true&&(ls.on x&&(false||decide (i<x))));rw[so];by_cases e:x=i
   .rw[e,C];rfl
   .congr 1
    erw[ajL.mpr ()]
 let q:(cA T m i).filter (λx=> !ls.good x)=(kids T m).filter λx=>hI (S' m).com (gm T x)&& !ls.good x:=by
  unfold cA;rcases K with z|z|z
  .rw[fC (by rw[z];decide),fC (by rw[z];decide),nS,fR (by rw[v];rfl)];refine(PB (xI m) Q λx c=>?_).symm;let(a,b):=aZ c;rw[cm x a b,fR z];by_cases e:x=i
   .rw[e,v,gy rfl];rfl
   .rw[iR e];rfl
  .rw[fR z];erw[B8 λx c=>?_];let(a,b):=aZ c;rw[cm x a b,z];simp
  .rw[fC (by simp_all),fR z,ajj];erw[B8 λx c=>?_];let(a,b):=aZ c;rw[cm x a b,z];cases ls.good x<;>cases decide (i<=x)<;>rfl
 erw[((m,j,dn,q1,N,C,v),?_)];rw[X5 j];let P:∀{s:Str},(S' m).st=s->s="turning":=λ{s} z=>z.symm.trans D;erw[k.own w J E rfl rfl k.du rfl (λ_ c=>(cG c,cG c,rfl)) (by rwa[D]) (λx c=>?_) (λx c=>?_) (λz=>absurd (P z) ∅) (λ_=>(?_,?_)) (λa b ab F U X _ f R=>?_) (λx a b _ f=>?_) (λx I B A M=>?_) (λx I B A M=>?_) (λ_ _=>rfl)]
 .let c:x∈aW ls.put m ((cA T m i).reverse.filter ls.on) m:=c;rw[bG]at c;erw[t x (OH.mp (mJ.mp c).1)]
 .let c:x∈aW ls.anw m (cA T m i) m:=c;rw[bG]at c;erw[t x c]
 .show aW ls.put m ((cA T m i).reverse.filter ls.on) m=_;rwa[bG]
 .show (aW ls.anw m (cA T m i) m).filter _=_;rwa[bG]
 .let ha:=KX ab F;rw[o a ha U]at f;rw[o b F X];let O:(!decide ((sh T m).kind=3))=true:=by cases y:(!decide ((sh T m).kind=3)) with|true=>rfl|false=>simp_all
  rw[O,so,mu]at f;rw[O,k.agA F R,so];cases y:decide ((sh T m).kind=4) with
  |true=>rfl
  |false=>
   rw[y,ajT]at f;rw[gy (show i<b by lia)]
   rfl
 .rw[o x a b]at f;rw[cm x a b];cases g:ls.good x with
  |true=>erw[.inr rfl]
  |false=>
   erw[.inl ?_];rcases K with z|z|z
   .rw[z]at f;cases f
   .rw[z];rfl
   .rw[z]at f ⊢;let f:=f;rw[gy (show i<=x by lia)]
    rfl
 .rcases (k.asd m x I B A M).1 with z|z<;>rw[h]at z<;>erw[absurd z ∅]
 .rcases k.of m x I B A (.inl h) with z|z|⟨u,z,_⟩|⟨z,_⟩|⟨_,z⟩
  .exact .inl z
  .rw[Z]at z;rcases oT.mp z with z|z
   .subst z;erw[.inr (.inr (.inl (D,?_)))];rw[cm x n j,v]
    simp
   .exact .inr (.inl (by rwa[W]))
  .rw[w.e]at z;cases z
  .rw[h]at z;erw[absurd z ∅]
  .cases z
end
section
variable{T:Re}{S S':HS}{ls ls':LA}
structure af0(ls r:LA)(a e:Nat)(pt an:Nat->List Nat):Prop where
 on:∀k,r.on k=if a<=k/\k<e then true else ls.on k
 told:∀k,r.told k=if a<=k/\k<e then false else ls.told k
 good:∀k,r.good k=if a<=k/\k<e then false else ls.good k
 down:∀k,r.down k=if a<=k/\k<e then false else ls.down k
 put:∀k,r.put k=if a<=k/\k<e then [] else pt k
 anw:∀k,r.anw k=if a<=k/\k<e then [] else an k
 due:r.due=[]
def jh{c:Type}{f:Nat->c}{a e k:Nat}{v:c}(h:a<e):(if a+1<=k/\k<e then v else aW f a v k)=if a<=k/\k<e then v else f k:=by
 by_cases z:k=a
 .rw[z,fC (),fR (),bG]
 .rw[cG z];by_cases y:a+1<=k/\k<e
  .rw[fR y,fR ()]
  .rw[fC y,fC ()]
def Ux(t:Int)(e:Nat):∀(n a:Nat) (ls:LA),a+n=e->ls.due=jj a n->(rd T).Ok ls ((jj a n).map λi=>(t,"begun",i))/\af0 ls ((rd T).run ls ((jj a n).map λi=>(t,"begun",i))) a e ls.put ls.anw
 |0,a,ls,ha,hd=>by
  erw[(trivial,(λk=>?_,λk=>?_,λk=>?_,λk=>?_,λk=>?_,λk=>?_,hd))]<;>rw[fC ()]<;>rfl
 |n+1,a,ls,ha,hd=>by
  rw[Xf]at hd ⊢;let c:ls.due≠[]:=by rw[hd];erw[WB _ _]
  let e1:qD T ls (t,"begun",a)=(jj (a+1) n,aW ls.put a [],aW ls.anw a [],aW ls.on a true,aW ls.told a false,aW ls.good a false,aW ls.down a false):=by
   show nxB T ls a=_;unfold nxB less;rw[hd]
   rfl
  let(j,f,p,o,m,h,g,q):=Ux t e n (a+1) (jj (a+1) n,aW ls.put a [],aW ls.anw a [],aW ls.on a true,aW ls.told a false,aW ls.good a false,aW ls.down a false) () rfl
  let run:(rd T).run ls (((a::jj (a+1) n)).map λi=>((t,"begun",i)))=(rd T).run (jj (a+1) n,aW ls.put a [],aW ls.anw a [],aW ls.on a true,aW ls.told a false,aW ls.good a false,aW ls.down a false) ((jj (a+1) n).map λi=>(t,"begun",i)):=by
   show(rd T).run (qD T ls (t,"begun",a)) _=_;rw[e1]
  rw[run];erw[((?_,by show(rd T).Ok (qD T ls (t,"begun",a)) _;rwa[e1]),(λk=>(f k).trans (jh ()),λk=>(p k).trans (jh ()),λk=>(o k).trans (jh ()),λk=>(m k).trans (jh ()),λk=>(h k).trans (jh ()),λk=>(g k).trans (jh ()),q))];exact(λ_=>by rw[hd];rfl,λz=>absurd z c)
def aa2(t:Int){a:Nat}(r:a<T.length)(ls:LA)(hd:ls.due=[])(q:∀m,par T a=some m->ls.down m=false/\live ls m=[]/\(left ls m).head? =some a):
  (rd T).Ok ls ((jj a (en T a-a)).map λi=>(t,"begun",i))/\af0 ls ((rd T).run ls ((jj a (en T a-a)).map λi=>(t,"begun",i))) a (en T a) (less T ls a).put (less T ls a).anw:=by
 let(e1,e2,e3,e4):=eO r;obtain⟨n,c⟩:∃n,en T a-a=n+1:=(en T a-a-1,())
 let ex:qD T ls (t,"begun",a)=(jj (a+1) n,aW (less T ls a).put a [],aW (less T ls a).anw a [],aW ls.on a true,aW ls.told a false,aW ls.good a false,aW ls.down a false):=by
  show nxB T ls a=_;unfold nxB;rw[fR hd,c]
  rfl
 rw[c,Xf];let(h,e,p,o,j,g,f,s):=Ux t (en T a) n (a+1) (jj (a+1) n,aW (less T ls a).put a [],aW (less T ls a).anw a [],aW ls.on a true,aW ls.told a false,aW ls.good a false,aW ls.down a false) () rfl
 let run:(rd T).run ls (((a::jj (a+1) n)).map λi=>((t,"begun",i)))=(rd T).run (jj (a+1) n,aW (less T ls a).put a [],aW (less T ls a).anw a [],aW ls.on a true,aW ls.told a false,aW ls.good a false,aW ls.down a false) ((jj (a+1) n).map λi=>(t,"begun",i)):=by
  show(rd T).run (qD T ls (t,"begun",a)) _=_;rw[ex]
 rw[run];erw[((?_,by show(rd T).Ok (qD T ls (t,"begun",a)) _;rwa[ex]),(λk=>(e k).trans (jh ()),λk=>(p k).trans (jh ()),λk=>(o k).trans (jh ()),λk=>(j k).trans (jh ()),λk=>(g k).trans (jh ()),λk=>(f k).trans (jh ()),s))];exact(λz=>absurd hd z,λ_=>q)
def aeT(c:Int)(k:Nat)(d:Nd):(nz T c k d).st="on"/\(nz T c k d).asked=false/\(f7 T k=false->(nz T c k d).good=0/\(nz T c k d).com=0):=by
 unfold nz
 split
 .simp_all
 .exact (rfl,rfl,λ_=>(rfl,rfl))
def in_of(h:gD T){a k y:Nat}(j:a<T.length)(i:k<T.length)(m:par T k=some y)(f:a<=y/\y<en T a):a<=k/\k<en T a:=by
 let(g,c,_):=o7 h i m;by_cases e:y=a
 .rw[e]at g c;exact((),c)
 .let:=(Xd h j () f.2).1;exact((),())
def afa(h:gD T){a k y:Nat}(f:a<T.length)(g:par T k=some y)(c:a<=k/\k<en T a):k=a\/(a<=y/\y<en T a):=by
 by_cases e:k=a
 .exact .inl e
 .let(m',y1,y2,y3):=oR h f () c.2;rw[g]at y1;obtain rfl:=iJ y1;erw[.inr (y2,())]
def Xx(h:gD T){p:Nat}{l l':List Nat}(k0:sC T p l S ls)(X:S.ends=[]){a:Nat}(M:a<T.length)(ab:p<T.length)
  (Q:(par T a=none/\l=[]/\l'=[])\/(par T a=some p/\(S p).st="on"/\l=a::l'/\a∉l')):
  (rd T).Ok ls ((jj a (en T a-a)).map λi=>(S.clk,"begun",i))/\sC T p l' (gv T a (en T a) S) ((rd T).run ls ((jj a (en T a-a)).map λi=>(S.clk,"begun",i))):=by
 let ok:=gD.tok h;let(e1,e2,e3,e4):=eO M
 let G:∀m,par T a=some m->m=p/\(S p).st="on"/\f7 T p=false/\l=a::l'/\a∉l'/\live ls p=[]/\left ls p=l/\p<a:=λm j=>by
  rcases Q with⟨z,_⟩|⟨E,F,H,P⟩
  .simp_all
  .rw[j]at E;obtain rfl:=iJ E;let(C,D):=ok.bB M j;let(q1,q2,_):=k0.qt m () D F;rw[fR rfl]at q2;exact(rfl,F,D,H,P,q1,q2,C)
 let(i1,R):=aa2 S.clk M ls k0.du (λm j=>by
  let(rfl,E,F,H,_,P,J,z6):=G m j;erw[(?_,P,by rw[J,H];rfl)];rw[k0.dn m () F (by rw[E];decide),E]
  rfl)
 erw[(i1,?_)];generalize (rd T).run ls ((jj a (en T a-a)).map λi=>(S.clk,"begun",i))=r at R;let nd:∀k,(Hm.gv T a (en T a) S).nd k=if a<=k/\k<en T a then nz T S.clk k (S k) else S k:=λ_=>rfl;let K:(Hm.gv T a (en T a) S).ends=[]:=X;generalize Hm.gv T a (en T a) S=S1 at nd K
 let A:∀{k},(a<=k/\k<en T a)->(S1 k).st="on"/\(S1 k).asked=false/\(f7 T k=false->(S1 k).good=0/\(S1 k).com=0):=λ{k} z=>by
  rw[nd,fR z];erw[aeT _ _ _]
 let f:∀{k},¬(a<=k/\k<en T a)->S1 k=S k:=λ{k} z=>by rw[nd,fC z]
 let O:∀y,y≠p\/par T a=none->(less T ls a).put y=ls.put y/\(less T ls a).anw y=ls.anw y:=λy I=>by
  unfold less;rw[fR k0.du];cases j:par T a with
  |none=>exact(rfl,rfl)
  |some m=>
   let:=(G m j).1;subst this;rcases I with I|I
   .exact (cG I,cG I)
   simp_all
 let l0:∀m,par T a=some m->(less T ls a).put p=[]/\(less T ls a).anw p=l':=λm j=>by
  let(rfl,_,_,H,_,_,J,_):=G m j;unfold less;rw[fR k0.du,j];show aW ls.put m [] m=[]/\aW ls.anw m (left ls m).tail m=l';rw[bG,bG,J,H];exact(rfl,rfl)
 let v:∀{k y},k<T.length->par T k=some y->¬(a<=y/\y<en T a)->k≠a->¬(a<=k/\k<en T a):=λ{k y} n j I Z z=>by
  rcases afa h M j z with e|e
  .exact Z e
  .exact I e
 let ga:∀m,par T a=some m->hI (S p).good (gm T a)=false:=λm j=>by
  let(rfl,E,F,H,_,_,J,z6):=G m j;let g:=k0.gd a m M j (by rw[E];decide);rw[jn X]at g;let:a∈left ls m:=by rw[J,H];erw[lq]
  let:=(mJ.mp this).2;lia
 let W:∀{y},(S y).st="turning"\/(S y).st="down"->par T a≠some y:=λ{y} z j=>by
  let(rfl,E,_):=G y j;rw[E]at z;rcases z with z|z<;>erw[absurd z ∅]
 let N:∀{y:Nat} {x:Str},(S1 y).st=x->x≠"on"->¬(a<=y/\y<en T a):=λ{y x} z hx w=>by
  rw[(A w).1]at z;erw[hx z.symm]
 erw[(λk n=>?_,λk n=>?_,R.due,λm t s o=>?_,λk y t s o=>?_,λy k n=>?_,λy k n=>?_,λy t s o=>?_,λy t s o=>?_,λy u b t s o B U x6 x7=>?_,λy k t s o B=>?_,λy k t s o B=>?_,λy k t s o B=>?_,λe t=>by rw[K]at t;cases t)]
 .rw[R.on];unfold bK;by_cases z:a<=k/\k<en T a
  .rw[fR z,(A z).1];rfl
  .rw[fC z,f z];erw[k0.on k n]
 .rw[R.told];by_cases z:a<=k/\k<en T a
  .rw[fR z,(A z).2.1]
  .rw[fC z,f z];erw[k0.td k n]
 .rw[R.down];by_cases z:a<=m/\m<en T a
  .rw[fR z,(A z).1];rfl
  .rw[fC z,f z];rw[f z]at o;erw[k0.dn m t s o]
 .rw[R.good,jn K,rW];let hl:=(ok.bB t s).2;by_cases w:a<=y/\y<en T a
  .rw[fR (in_of h M t s w),((A w).2.2 hl).1,Tf]
  .rw[f w];rw[f w]at o;by_cases ka:k=a
   .subst ka;rw[fR (gx _,e1)];let:=(G y s).1;subst this;exact(ga y s).symm
   .rw[fC (v t s w ka)];let g:=k0.gd k y t s o;rw[jn X,rW]at g;erw[g]
 .rw[R.put]at n
  split at n
  .cases n
  .by_cases e:y=p
   .cases j:par T a with
    |none=>rw[(O y (.inr j)).1]at n;erw[k0.pk y k n]
    |some m=>rw[e,(l0 m j).1]at n;cases n
   .rw[(O y (.inl e)).1]at n;erw[k0.pk y k n]
 .rw[R.anw]at n
  split at n
  .cases n
  .by_cases e:y=p
   .cases j:par T a with
    |none=>rw[(O y (.inr j)).2]at n;erw[k0.ak y k n]
    |some m=>
     rw[e,(l0 m j).2]at n;let(e5,_,_,H,_,_,J,_):=G m j;let:k∈left ls p:=by rw[J,H];erw[mf _ n]
     rw[e];erw[k0.ak p k (mJ.mp this).1]
   .rw[(O y (.inl e)).2]at n;erw[k0.ak y k n]
 .by_cases w:a<=y/\y<en T a
  .refine (?_,?_,((A w).2.2 s).2)
   .unfold live;rw[R.put,fR w];rfl
   .unfold left;rw[R.anw,fR w]
    split
    .rcases Q with⟨_,_,z⟩|⟨z,_⟩
     .rw[z];rfl
     .let:=(G p z).2.2.2.2.2.2.2
      lia
    .rfl
  .rw[f w]at o ⊢;let(y1,y2,y3):=k0.qt y t s o;by_cases c:y≠p\/par T a=none
   .let(c1,Y):=O y c
    let mem:∀{k},par T k=some y->k<T.length->¬(a<=k/\k<en T a):=λ{k} j n=>v n j w λe=>by
     lia
    erw[(?_,?_,y3)]
    .unfold live at y1 ⊢;rw[R.put,fC w,c1,<-y1];erw[B8 λk n=>?_];let(C,D):=k0.pk y k n;rw[R.on,fC (mem D C)]
    .let e:(if y=p then l' else [])=if y=p then l else []:=by
      rcases c with c|c
      .rw[fC c,fC c]
      .rcases Q with⟨_,E,F⟩|⟨z,_⟩
       .rw[E,F]
       .rw[c]at z;cases z
     rw[e,<-y2];unfold left;rw[R.anw,fC w,Y];erw[B8 λk n=>?_];let(C,D):=k0.ak y k n;rw[R.good,fC (mem D C)]
   .let e:y=p:=by
     by_cases z:y=p
     .exact z
     .exact absurd (.inl z) c
    subst e;cases j:par T a with
    |none=>erw[absurd (.inr j) c]
    |some m=>
     let(l1,l2):=l0 m j;let(e5,_,_,H,P,_,J,_):=G m j;subst e5;erw[(?_,?_,y3)]
     .unfold live;rw[R.put,fC w,l1];rfl
     .unfold left;rw[R.anw,fC w,l2,fR rfl];erw[alr.mpr λk n=>?_];let:k∈left ls m:=by rw[J,H];exact mf _ n
      let(C,D):=mJ.mp this;let(p3,p4):=k0.ak m k C;rw[R.good,fC (v p3 p4 w λe=>P (by rwa[<- e]))];erw[D]
 .let w:=N o ∅;rw[f w]at o ⊢;let L:=W (.inl o)
  let ym:y≠p\/par T a=none:=by
   cases j:par T a with
   |none=>erw[.inr rfl]
   |some m=>
    erw[.inl λz=>L ?_];rw[j,z,(G m j).1]
  let(c1,Y):=O y ym;let mem:∀{k},par T k=some y->k<T.length->¬(a<=k/\k<en T a):=λ{k} j n=>v n j w λe=>L (by rwa[<- e]);let(t1,t2):=k0.tr y t s o;erw[(by rwa[R.put,fC w,c1],?_)]
  let e:left r y=left ls y:=by
   unfold left;rw[R.anw,fC w,Y];erw[B8 λk n=>?_];let(C,D):=k0.ak y k n;rw[R.good,fC (mem D C)]
  rw[e,t2];erw[B8 λk n=>?_];let(C,D):=aZ n;rw[R.good,fC (mem D C)]
 .let w:=N U ∅;rw[f w]at U x6 ⊢;let L:=W (.inl U);let wb:=v s B w λe=>L (by rwa[<- e]);rw[f wb]at x7;erw[k0.lu y u b t s o B U x6 x7]
 .let w:=N o ∅;rw[f w]at o B ⊢;let L:=W (.inl o);rw[R.good,fC (v t s w λe=>L (by rwa[<- e]))];erw[k0.lc y k t s o B]
 .let wk:¬(a<=k/\k<en T a):=λz=>by rw[(A z).2.1]at B;cases B
  let w:=λz=>wk (in_of h M t s z);rw[f wk]at o B;let(C,D):=k0.asd y k t s o B;let L:=W C;rw[f w];erw[(C,?_)];rw[fI (S:=S) (by rw[f w]) λz hz j=>?_]
  .exact D
  .unfold bK;rw[f (v hz j w λe=>L (by rwa[<- e]))]
 .let wk:¬(a<=k/\k<en T a):=λz=>by rw[(A z).1]at o;exact absurd o ∅
  let w:=λz=>wk (in_of h M t s z);rw[f wk]at o;rw[f w]at B ⊢;rw[R.good,fC wk];rcases k0.of y k t s o B with z|z|⟨u,z,_⟩|z|⟨E,F⟩
  .exact .inl z
  .exact .inr (.inl z)
  .rw[X]at z;cases z
  .exact .inr (.inr (.inr (.inl z)))
  .refine .inr (.inr (.inr (.inr (E,?_))));rcases Q with⟨_,q,_⟩|⟨_,_,q,_⟩
   .rw[q]at F;cases F
   .rw[q]at F;rcases oT.mp F with e|e
    .exact absurd ((),()) wk
    .exact e
end
section
variable{T:Re}{S S':HS}{ls:LA}
theorem HW{j e:Nat}(i:j<e):∀{l:List Nat},l.Pairwise (λa b=>a<b)->j∈l->(∀x∈l,j<x->e<=x)->l.filter (λk=>decide (j<=k))=j::l.filter λk=>decide (e<=k)
 |[],_,h,_=>by cases h
 |a::r,s,h,q=>by
  let(c,o):=akI.mp s;by_cases f:a=j
  .subst f;rw[nS,fR (gy (gx a)),nS,fC (λz=>by lia)]
   erw[B8 λk g=>?_];let m:=c k g;let p:=q k (mf _ g) m;rw[gy (show a<=k by lia),gy p]
  .let hr:j∈r:=by
    rcases oT.mp h with z|z
    .exact absurd z.symm f
    .exact z
   let:=c j hr;rw[nS,fC (λz=>by lia),nS,fC (λz=>by lia)];erw[HW i o hr λx n=>q x (mf _ n)]
def Oz(h:gD T){p n i:Nat}{wd:Str}{a:HS}(m:i<T.length)(v:S.ends=[])(on:(S i).st≠"off")(e:isWord wd)(t:∀k,k<T.length->par T k=some i->(S k).st="off")(c:a.clk=S.clk)(b:a.book=S.book)(e1:a.ends=[])(o:∀k,k≠i->a.nd k=S k)(f:(a.nd i).asked=(S i).asked):Gr.Go T (rd T) p n S (aX T i wd a) [(S.clk,wd,i)]:=by
 let(u,q,s,r):=Lw.uv (Uo e) a;let g:=Hm.uv (T:=T) (i:=i) (Uo e) e1;let en:(aX T i wd a).ends=[(i,wd)]:=by rw[g]
 let as:((aX T i wd a).nd i).asked=(S i).asked:=by
  rw[g];show((up a i λd=>{d with st:="off"}).nd i).asked=_;rwa[aw]
 erw[Gr.Go.one m (u.trans c) (by rw[q,b,c]) λls k=>(afb e,afs k v m on e t (λx j=>(s x j).trans (o x j)) r as en)]
theorem N7(ok:kY T){i:Nat}(a:f7 T i=true)(S:HS):∀k,k<T.length->par T k=some i->(S k).st="off":=λk c e=>by
 rw[(ok.bB c e).2]at a;cases a
theorem Th(h:gD T){p i:Nat}(j:Jv T S)(e:S.ends=[])(a:i<T.length)(on:(S i).st≠"off")(c:M4 T S i):Gr.Go T (rd T) p p S (bj T i (write T "told" i S)) [(S.clk,"told",i)]:=
 Gr.Go.one a rfl rfl λls k=>ad7 h j k e a on c
def YQ(h:gD T){p i:Nat}(j:Jv T S)(f:S.ends=[])(o:i<T.length)(m:f7 T i=true)(on:(S i).st≠"off")(r:M4 T S i):∃es,Gr.Go T (rd T) p p S (aX T i (dJ ((bj T i (write T "told" i S)).nd i)) (bj T i (write T "told" i S))) es:=by
 let ok:=gD.tok h;let g:=Th (p:=p) h j f o on r;let n:=Gw.Kg (T:=T) i S;rw[fR m]at n;let e:((bj T i (write T "told" i S)).nd i).st≠"off":=by rw[n];exact(by decide:("told":Str)≠"off")
 let c:∀wd,(wd="ended"\/wd="cut")->∃es,Gr.Go T (rd T) p p S (aX T i wd (bj T i (write T "told" i S))) es:=λwd hd=>by
  let q:isWord wd:=by grind[isWord]
  exact(_,g.trans (Oz h o f e q (N7 ok m _) rfl rfl f (λ_ _=>rfl) rfl))
 rcases AL ((bj T i (write T "told" i S)).nd i) with⟨a,_⟩|⟨a,_⟩|⟨a,_,_⟩
 .rw[a];erw[c _ (.inl rfl)]
 .rw[a];erw[c _ (.inr rfl)]
 .rw[a];exact(_,g)
def abf(h:gD T){p m:Nat}(j:Jv T S)(c:S.ends=[])(g:m<T.length)(n:f7 T m=false)(hd:(S m).st="down")(i:aS T m S=none):∃es,Gr.Go T (rd T) p p S (aX T m (eZ (S m)) S) es:=by
 let f:isWord (eZ (S m)):=by unfold eZ;split<;>simp[isWord]
 exact(_,Oz h g c (by rw[hd];decide) f (λx a e=>uE i a e (by rw[j.dwn m hd];erw[xK (gR a e)])) rfl rfl c (λ_ _=>rfl) rfl)
def ae5(h:gD T){p m i:Nat}{r:List Nat}(j:S.ends=[])(f:m<T.length)(q:f7 T m=false)(c:(S m).st="on")(J:(S m).wait=i::r)(u:i<T.length)(w:par T i=some m)(g:toBe T m i (up S m λd=>{d with wait:=r})=true):∃es,Gr.Go T (rd T) p p S (br T m i (up S m λd=>{d with wait:=r})) es:=by
 let ok:=gD.tok h;let on:(S m).st≠"off":=by rw[c];decide
 let G:i≠m:=λz=>by let:=(ok.bB u w).1;lia
 let y:(up S m λd=>{d with wait:=r}).nd m={S m with wait:=r}:=aw ..;unfold toBe at g;rw[mu]at g
 let B:=by
  let:=xU.mp g.1;rw[bu _ G]at this;erw[this]
 let H:=by
  let t:=g.2;rw[y]at t;rw[Ma]at t;erw[t]
 let(l,I,_):=Gw.VA m (up S m λd=>{d with wait:=r});let o:(up (up S m λd=>{d with wait:=r}) m λd=>{d with aA:=l}).nd m={S m with wait:=r,aA:=l}:=by rw[aw,y]
 let s:∀k,k≠m->(up (up S m λd=>{d with wait:=r}) m λd=>{d with aA:=l}).nd k=S k:=λk A=>by rw[bu _ A,bu _ A]
 unfold br;rw[I];cases en:(aL T m (up S m λd=>{d with wait:=r})).1 with
 |true=>
  rw[fR rfl]
  let n:(giveUp T m (write T "gives up" m (up (up S m λd=>{d with wait:=r}) m λd=>{d with aA:=l}))).nd m=goDown T m {S m with wait:=r,aA:=l,BC:=true}:=by
   unfold giveUp;rw[aw];show goDown T m { (up (up S m λd=>{d with wait:=r}) m λd=>{d with aA:=l}).nd m with BC:=true}=_;rw[o]
  erw[(_,Gr.Go.one f rfl rfl λls k=>(trivial,acm k (λx e=>?_,on,?_,?_,?_,j,j) f q c ?_))]
  .unfold giveUp;rw[bu _ e];erw[s x e]
  .rw[n];exact(by decide:("down":Str)≠"off")
  .rw[n];rfl
  .rw[n];rfl
  .rw[n];rfl
 |false=>
  rw[fC ∅]
  let n:(fP T m i (write T "answers" i (up (up S m λd=>{d with wait:=r}) m λd=>{d with aA:=l}))).nd m=B7 T m i (write T "answers" i (up (up S m λd=>{d with wait:=r}) m λd=>{d with aA:=l})) {S m with wait:=r,aA:=l}:=by
   unfold fP;rw[aw];show B7 T m i _ ((up (up S m λd=>{d with wait:=r}) m λd=>{d with aA:=l}).nd m)=_;rw[o]
  let C:bf T m (write T "answers" i (up (up S m λd=>{d with wait:=r}) m λd=>{d with aA:=l}))=bf T m S:=LC λx e v=>by
   let F:x≠m:=λz=>by let:=(ok.bB e v).1;lia
   show decide (((up (up S m λd=>{d with wait:=r}) m λd=>{d with aA:=l}).nd x).st="off")=_;rw[s x F]
   rfl
  let D:((write T "answers" i (up (up S m λd=>{d with wait:=r}) m λd=>{d with aA:=l})).nd m).good=(S m).good:=by
   show((up (up S m λd=>{d with wait:=r}) m λd=>{d with aA:=l}).nd m).good=_;rw[o]
  let E:(sh T m).kind=3\/(sh T m).kind=4\/(sh T m).kind=5:=by
   let a:=wu q
   let b:(sh T m).kind<=5:=by
    unfold sh;rw[ot,hY f];exact(h.sh _ (uy f)).kd
   lia
  erw[(_,Gr.Go.one u rfl rfl λls k=>acO k (λx e=>?_,on,?_,?_,?_,j,j) f q E c J u w B H ?_ ?_ ?_ ?_)]
  .unfold fP;rw[bu _ e];erw[s x e]
  .rw[n];exact(by decide:("turning":Str)≠"off")
  .rw[n];rfl
  .rw[n];rfl
  .rw[n];rfl
  .rw[n];rfl
  .rw[n];show Shp.gj (sh T m).kind (gm T i) (kids T m).length (λk=>hI (bf T m (write T "answers" i (up (up S m λd=>{d with wait:=r}) m λd=>{d with aA:=l}))) k)=_;rw[C]
  .rw[n];show anew (sh T m).kind (gm T i) (kids T m).length (λk=>hI ((write T "answers" i (up (up S m λd=>{d with wait:=r}) m λd=>{d with aA:=l})).nd m).good k)=_;rw[D]
def acF(h:gD T){p m:Nat}(j:Jv T S)(D:S.ends=[])(F:m<T.length)(X:f7 T m=false)(G:(S m).st="turning")(W:aS T m S=none):∃es,Gr.Go T (rd T) p p S (aV T m S) es:=by
 let ok:=gD.tok h;let on:(S m).st≠"off":=by rw[G];decide
 unfold aV;rw[fC (by rw[G];decide)];let n:(up S m aR).nd m=aR (S m):=aw ..;let o:∀k,k≠m->(up S m aR).nd k=S k:=λk r=>bu _ r;let cs:(aY T m S).Pairwise λa b=>a<b:=by erw[ajl _ (xI m)]
 let cm:∀{k},k∈aY T m S->k<T.length/\par T k=some m:=λr=>by erw[aZ (mJ.mp r).1]
 let l0:∀ls,uc T S ls->sC T m (aY T m S) (up S m aR) ls:=λls k=>by
  let gd:∀x,x<T.length->par T x=some m->ls.good x=hI (S m).good (gm T x):=λx a b=>by rw[k.gd x m a b on,jn D,rW]
  let(t1,t2):=k.tr m F X G;let w:EZ T m S (up S m aR):=(o,on,by rw[n];exact(by decide:("on":Str)≠"off"),by rw[n];rfl,by rw[n];rfl,D,D);let Q:∀{s:Str},((up S m aR).nd m).st=s->s="on":=λ{s} z=>by rw[n]at z;erw[z.symm]
  erw[k.own w F X rfl rfl k.du rfl (λ_ _=>(rfl,rfl,rfl)) (by rw[k.dn m F X on,G,n];rfl) (k.pk m) (k.ak m) (λ_=>(?_,?_,by rw[n];rfl)) (λz=>absurd (Q z) ∅) (λ_ _ _ _ _ _ z=>absurd (Q z) ∅) (λ_ _ _ z=>absurd (Q z) ∅) (λx E A R x4=>?_) (λx E A R x4=>?_) (λx f=>by simp_all)]
  .unfold live;rw[t1];erw[CN.mpr λx f z=>?_];let(P,Z):=mJ.mp (OH.mp f);let(K,Y):=aZ P;rw[k.Tu K (uE W K Y Z)]at z;cases z
  .rw[t2,fR rfl];erw[B8 λx f=>?_];let(K,Y):=aZ f;rw[gd x K Y]
  .rw[(k.asd m x E A R x4).2]at W;cases W
  .rcases k.of m x E A R (.inr G) with z|z|⟨u,z,_⟩|⟨_,z⟩|⟨_,z⟩
   .exact .inl z
   .exact .inr (.inl (by rwa[n]))
   .simp_all
   .cases g:ls.good x with
    |true=>erw[.inl rfl]
    |false=>
     erw[.inr (.inr (.inr (rfl,?_)))];erw[mJ.mpr (JO (mW E A),?_)];rw[z,<-gd x E A,g]
     rfl
   .cases z
 let M:∀{k x},k<T.length->par T k=some m->x∈aY T m S->k<x->en T k<=x:=λ{k x} r C f kx=>by
  let(E,A):=cm f;by_cases c:en T k<=x
  .exact c
  .let(y,P,Z,K):=oR h r kx ();rw[A]at P;obtain rfl:=iJ P;let:=(ok.bB r C).1
   lia
 let res:=Gw.DF h F S (λa S'=>S'.clk=S.clk/\S'.ends=[]/\S' m=aR (S m)/\∃es:List En,(∀e∈es,e.i<T.length/\e.t=S.clk)/\S'.book=S.book++es.map (WH T)/\∀ls,uc T S ls->(rd T).Ok ls es/\sC T m ((aY T m S).filter λk=>decide (a<=k)) S' ((rd T).run ls es)) (λk S' r C hc U=>by
   let(B,O,L,es,H,I,J):=U;let(g1,g2,_,_):=eO r;let mk:=(ok.bB r C).1;erw[(B,O,?_,es++(jj k (en T k-k)).map λi=>(S.clk,"begun",i),λe D=>?_,?_,λls q=>?_)]
   .show (if k<=m/\m<en T k then _ else S' m)=_;rwa[fC ()]
   .rcases ro.mp D with z|z
    .exact H e z
    .let(x,f,rfl):=tU.mp z;let(_,_,z):=amg.mp f;exact(by lia,rfl)
   .show S'.book++_=_;rw[I,kr,zL,akl,B]
    rfl
   .let(N,v):=J ls q;rw[HW g1 cs hc λx f=>M r C f]at v;let b:=Xx h v O r F (.inr (C,by rw[L];rfl,rfl,λz=>by let:=iB (mJ.mp z).2;lia));rw[B]at b;exact(Gr.uh N b.1,by rw[Gr.oZ];erw[b.2]))
  (λk S' r C nc U=>by
   let(B,O,L,es,H,I,J):=U;let g1:=(eO r).1;erw[(B,O,L,es,H,I,λls q=>?_)];let(N,v):=J ls q;erw[(N,?_)]
   let e:((aY T m S).filter λx=>decide (k<=x))=(aY T m S).filter λx=>decide (en T k<=x):=by
    erw[B8 λx f=>ajL.mpr (λz=>?_,λz=>())];by_cases c:x=k
    .simp_all
    .exact M r C f ()
   rw[e]at v;erw[v])
  (up S m aR) (rfl,D,n,[],λe z=>(by cases z),(ov _).symm,λls q=>(trivial,by
   let e:((aY T m S).filter λx=>decide (m+1<=x))=aY T m S:=alr.mpr λx f=>by
    let:=(ok.bB (cm f).1 (cm f).2).1;erw[gy ()]
   rw[e];erw[l0 ls q]))
 let(B,_,L,es,H,I,J):=res;erw[(es,H,B,I,λls q=>?_)];let(N,v):=J ls q
 let e:((aY T m S).filter λx=>decide (en T m<=x))=[]:=CN.mpr λx f z=>by
  let:=(o7 h (cm f).1 (cm f).2).2.1;lia
 rw[e]at v;exact(N,v.nil 0)
def aec(h:gD T)(j:Jv T S)(st:F7 T S S')(p:Nat):∃es,Gr.Go T (rd T) p p S S' es:=by
 let ok:=gD.tok h;cases st with
 |adl n o on G f u=>erw[YQ h j f n o on u]
 |adh n o on G f u=>exact(_,Th h j f n on u)
 |over q o hd w f=>erw[abf h j f q o hd w]
 |back q o F w f=>erw[acF h j f q o F w]
 |@skip m i r q o t u n s f A=>exact(_,Gr.Go.FV rfl rfl λls k=>acQ k f q o t u n s A λz=>by let:=(ok.bB n s).1;lia)
 |ans q o t u n s f A=>erw[ae5 h f q o t u n s A]
 |@adj m i wd n s f q ho iw=>
  let(H,E):=ok.bB n s;erw[(_,Gr.Go.FV ?_ ?_ λls k=>Xv k n s () E f q ho ())]
  .unfold bD gX
   split
   .rfl
   .split
    .rfl
    .split<;>rfl
  .unfold bD gX
   split
   .rfl
   .split
    .rfl
    .split<;>rfl
 |@Q3 i wd n s f=>
  erw[(_,Gr.Go.FV rfl rfl λls k=>?_)];let ne:∀{x y},par T x=some y->i≠x:=λ{x y} z e=>by simp_all
  erw[(k.on,k.td,k.du,k.dn,λx y a b c=>?_,k.pk,k.ak,k.qt,k.tr,k.lu,k.lc,k.asd,λx y v B D C=>?_,λe v=>by cases v)]
  .let g:=k.gd x y a b c
   let e1:pend T S x=false:=by
    unfold pend;rw[f];simp[ne b]
   rw[e1]at g;rwa[jn rfl]
  .rcases k.of x y v B D C with z|z|⟨e,z1,z2⟩|z|z
   .exact .inl z
   .exact .inr (.inl z)
   .rw[f]at z1;rw[l9.mp z1]at z2;erw[absurd z2 (ne B)]
   .exact .inr (.inr (.inr (.inl z)))
   .exact .inr (.inr (.inr (.inr z)))
def XH(h:gD T){i:Nat}(m:S.ends=[])(q:i<T.length)(hs:bM T i S=true):∃es,Gr.Go T (rd T) i (i+1) S (eR T i S) es:=by
 let ok:=gD.tok h;let(p,on,r):=J7 hs
 let FV:∀(g:Nd->Nd),(∀d,(g d).st=d.st/\(g d).asked=d.asked/\(g d).good=d.good/\(g d).wait=d.wait/\(g d).bF=d.bF/\(g d).com=d.com)->Gr.Go T (rd T) i (i+1) S (up S i g) []:=λg f=>Gr.Go.FV rfl rfl λls k=>sC.same k (λx=>by
  by_cases e:x=i
  .rw[e,aw];erw[f _]
  .rw[bu _ e];exact(rfl,rfl,rfl,rfl,rfl,rfl)) rfl
 let c:∀(g:Nd->Nd) (wd:Str),isWord wd->(∀d,(g d).asked=d.asked)->∃es,Gr.Go T (rd T) i (i+1) S (aX T i wd (up S i g)) es:=λg wd n f=>(_,Oz h q m on n (N7 ok p _) rfl rfl m (λx o=>bu _ o) (by rw[aw];erw[f _]));unfold eR cx;by_cases j:(S i).st="told"
 .rw[fR j];dsimp only;rcases AL ((up S i λd=>{d with need:=d.need-1,kG:=d.kG-1}).nd i) with⟨a,_⟩|⟨a,_⟩|⟨a,_,_⟩
  .rw[a];erw[c _ _ (by simp[isWord]) λ_=>rfl]
  .rw[a];erw[c _ _ (by simp[isWord]) λ_=>rfl]
  .rw[a,xx];exact(_,FV _ λ_=>(rfl,rfl,rfl,rfl,rfl,rfl))
 .rw[fC j];dsimp only;by_cases k1:(sh T i).kind=1/\(S i).steps=(sh T i).many
  .let e:endAt (sh T i) (S i).steps="done":=by unfold endAt;rw[fR k1]
   rw[e];erw[c _ _ (by simp[isWord]) λ_=>rfl]
  .by_cases k2:(sh T i).kind=2/\(S i).steps=(sh T i).many
   .let e:endAt (sh T i) (S i).steps="fallen":=by unfold endAt;rw[fC k1,fR k2]
    rw[e];erw[c _ _ (by simp[isWord]) λ_=>rfl]
   .let e:endAt (sh T i) (S i).steps="":=by unfold endAt;rw[fC k1,fC k2]
    rw[e,xx];exact(_,FV _ λ_=>(rfl,rfl,rfl,rfl,rfl,rfl))
theorem reads(h:gD T):Gr.Reads T (rd T) where
 stp p _ j st:=aec h j st p
 step hi hs _ _ he:=XH h he hi hs
 pass _ _ k:=k
 tick _ k:=sC.same k (λ_=>(rfl,rfl,rfl,rfl,rfl,rfl)) rfl
 DQ {S i} hi hl on _ _ he:=Oz h hi he on (.inr (.inl rfl)) (N7 (gD.tok h) hl _) rfl rfl he (λ_ _=>rfl) rfl
def ls0:LA:=([],λ_=>[],λ_=>[],λ_=>false,λ_=>false,λ_=>false,λ_=>false)
def ad3(h:gD T):∃es,(new T).clk=0/\(new T).book=es.map (WH T)/\(∀e∈es,e.i<T.length/\e.t=0)/\(rd T).Ok ls0 es/\uc T (new T) ((rd T).run ls0 es):=by
 let ok:=gD.tok h
 let k0:uc T ((0,[],[],λ_=>ti)) ls0:=by
  let off:∀{x:Str},x≠"off"->¬ti.st=x:=λ{x} h z=>h z.symm;erw[(λ_ _=>rfl,λ_ _=>rfl,rfl,λ_ _ _ z=>absurd rfl z,λ_ _ _ _ z=>absurd rfl z,λ_ _ z=>(by cases z),λ_ _ z=>(by cases z),λ_ _ _ z=>absurd z (off ∅),λ_ _ _ z=>absurd z (off ∅),λ_ _ _ _ _ _ _ z=>absurd z (off ∅),λ_ _ _ _ z=>absurd z (off ∅),λ_ _ _ _ z=>absurd rfl z,λ_ _ _ _ _ z=>?_,λe z=>(by cases z))];rcases z with z|z
  .exact absurd z (off ∅)
  .exact absurd z (off ∅)
 let g:=Xx h k0 rfl ok.n0 ok.n0 (.inl (Cd T,rfl,rfl));rw[Sf h]at g;let e:=Ei h;erw[((jj 0 (T.length-0)).map λi=>(0,"begun",i),by rw[e];rfl,?_,λx a=>?_,g.1,by rw[e];exact g.2)]
 .rw[e];rw[akl]
  rfl
 .let(i,hi,rfl):=tU.mp a;simp_all
def tG(T:Re)(ls:LA)(m:Nat):List Nat:=if ls.down m then (kids T m).reverse.filter ls.on else live ls m
def quiet(T:Re)(ls:LA)(m:Nat):Prop:=(tG T ls m≠[]->(tG T ls m).filter ls.told=(tG T ls m).take 1)/\(tG T ls m=[]->ls.down m=false/\(kids T m).filter (λk=> !ls.on k&& !ls.good k)=[])
def O6{R:List Nat}{j:Nat}{q:Nat->Bool}(s:R.Pairwise λa b=>b<a)(e:R.head? =some j)(h:∀k∈R,q k=decide (k=j)):R≠[]/\R.filter q=R.take 1:=by
 cases R with
 |nil=>cases e
 |cons a r=>
  obtain rfl:a=j:=iJ e;erw[(WB _ _,?_)];rw[nS,fR (by rw[h a lq];erw[gy rfl])];show a::r.filter q=[a]
  erw[CN.mpr λk c z=>?_];rw[h k (mf _ c)]at z;let:=(akI.mp s).1 k c;lia
def YU(j:Jv T S)(k:uc T S ls)(Q:S.ends=[])(J:ja T S No){m:Nat}(t:m<T.length)(p:f7 T m=false)(on:ls.on m=true):quiet T ls m:=by
 let o:(S m).st≠"off":=λz=>by rw[k.Tu t z]at on;cases on
 let d:=k.dn m t p o;let(N,I):=J m t p id
 let g:∀{h:Nat} {R:List Nat},aS T m S=some h->(S h).asked=true->(∀x∈R,x<T.length/\par T x=some m/\ls.on x=true)->∀x∈R,ls.told x=decide (x=h):=λ{h R} K L M x f=>by
  let(i,E,G):=M x f;rw[k.td x i];let A:(S x).st≠"off":=λz=>by rw[k.Tu i z]at G;cases G
  by_cases e:x=h
  .simp_all
  .rw[iR e];cases a:(S x).asked with
   |false=>rfl
   |true=>
    let:=(k.asd m x i E A a).2;simp_all
 rcases j.dm m p with z|z|z|z
 .exact absurd z o
 .rw[z]at d;let d:ls.down m=false:=d;let(O,_,_):=k.qt m t p z;let e:tG T ls m=[]:=by unfold tG;simp_all
  erw[(λy=>absurd e y,λ_=>(d,CN.mpr λx f y=>?_))];let(i,E):=aZ f;rw[mu,Ma]at y
  let A:(S x).st="off":=by
   by_cases c:(S x).st="off"
   .exact c
   .rw[k.agA i c]at y;erw[absurd y.1 ∅]
  rcases k.of m x i E A (.inl z) with w|w|⟨u,w,_⟩|⟨w,_⟩|⟨_,w⟩
  .simp_all
  .simp_all
  .grind
  .rw[z]at w;erw[absurd w ∅]
  .cases w
 .rw[z]at d;let d:ls.down m=false:=d;let(h,r,v):=I (.inl z);let e:tG T ls m=((kids T m).filter λx=>hI (S m).bF (gm T x)).reverse.filter ls.on:=by unfold tG;rw[d,fC jT];unfold live;rw[(k.tr m t p z).1]
  unfold quiet;rw[e]
  let(F,B):=O6 (ajl _ (ak7.mpr (ajl _ (xI m)))) (DP r k.on) (g r v λx f=>by
   let(C,D):=mJ.mp f;let(n,s):=aZ (mJ.mp (OH.mp C)).1;exact(n,s,D))
  exact(λ_=>B,λy=>absurd y F)
 .rw[z]at d;let d:ls.down m=true:=d;let(h,r,v):=I (.inr z)
  let P:((kids T m).filter λx=>hI (S m).bF (gm T x))=kids T m:=alr.mpr λx f=>by
   let(n,s):=aZ f;rw[j.dwn m z];erw[xK (gR n s)]
  let H:=DP r k.on;rw[P]at H;let e:tG T ls m=(kids T m).reverse.filter ls.on:=by unfold tG;rw[d,fR rfl]
  unfold quiet;rw[e]
  let(F,B):=O6 (ajl _ (ak7.mpr (xI m))) H (g r v λx f=>by
   let(C,D):=mJ.mp f;let(n,s):=aZ (OH.mp C);exact(n,s,D))
  exact(λ_=>B,λy=>absurd y F)
end
open L2 Nm PySem.NumText
def Bf(H:Hp)(g:eF)(T:Re):Prop:=∃(c f a e:eF) (as:List eF),H g=some (.tup [.ref c,.ref f,.ref a,.ref e])/\H c=some (.lst ((hD T.length).map λk=>V.int ((dp T k:Nat):Int)))/\H f=some (.lst ((hD T.length).map λk=>V.int (bP T k)))/\H a=some (.lst (as.map V.ref))/\as.length=T.length/\(∀i x,as[i]? =some x->H x=some (.lst ((words (sh T i)).map V.str)))/\H e=some (.lst (T.map λr=>V.str r.sh.name))
def Bf.of{H:Hp}{q g m c f:eF}{T:Re}(h:H q=some (.tup [.ref g,.ref m,.ref c,.ref f]))(t:Mr H g m c f T):Bf H q T:=by
 let(as,r,j,p):=t.w;rw[gQ]at j;erw[(g,m,c,f,as,h,?_,t.e,r,j,λi x o=>?_,t.n)]
 .rw[t.d]
  congr 2
  exact anI λi=>by
   rw[i6,i6];by_cases a:i<T.length
   .rw[Jb a,hY a];show some (V.int (T[i].dep))=some (V.int (((T.getD i default).dep:Nat)));rw[ot,hY a]
    rfl
   .rw[aje (),aje (by rw[mK];lia)]
    rfl
 .let a:i<T.length:=by rw[<- j];exact(rx.mp o).1
  rw[Yc a];erw[p i x _ o (by rw[i6,hY a];rfl)]
def Bf.same{H H':Hp}{j:eF}{T:Re}(h:Bf H j T)(e:aH H H'):Bf H' j T:=by
 let(p,r,n,q,as,a,o,b,c,d,f,g):=h;exact(p,r,n,q,as,e _ _ a,e _ _ o,e _ _ b,e _ _ c,d,λi x m=>e _ _ (f i x m),e _ _ g)
def LA.b(ls:LA):Nat->Nat->Bool
 |0=>ls.on
 |1=>ls.told
 |2=>ls.good
 |_=>ls.down
def LA.setB(ls:LA)(j:Nat)(f:Nat->Bool):LA:=match j with
 |0=>{ls with on:=f}
 |1=>{ls with told:=f}
 |2=>{ls with good:=f}
 |_=>{ls with down:=f}
def LA.l(ls:LA):Nat->Nat->List Nat
 |0=>ls.put
 |_=>ls.anw
def LA.Eh(ls:LA)(j:Nat)(f:Nat->List Nat):LA:=match j with
 |0=>{ls with put:=f}
 |_=>{ls with anw:=f}
def WM:Nat->Str
 |0=>"on"
 |1=>"told"
 |2=>"good"
 |_=>"down"
def b4{j:Nat}(h:j<4):j=0\/j=1\/j=2\/j=3:=by lia
def b2{j:Nat}(h:j<2):j=0\/j=1:=by lia
section
variable(ls:LA){i j:Nat}(f:Nat->Bool)(g:Nat->List Nat)
def ad8(a:j<4)(c:i<4):(ls.setB j f).b i=if i=j then f else ls.b i:=by
 rcases b4 a with rfl|rfl|rfl|rfl<;>rcases b4 c with rfl|rfl|rfl|rfl<;>rfl
def aeY:(ls.setB j f).l i=ls.l i:=by
 unfold LA.setB
 split<;>(unfold LA.l;split<;>rfl)
def aeU(a:j<2)(c:i<2):(ls.Eh j g).l i=if i=j then g else ls.l i:=by
 rcases b2 a with rfl|rfl<;>rcases b2 c with rfl|rfl<;>rfl
def aea:(ls.Eh j g).b i=ls.b i:=by
 unfold LA.Eh
 split<;>(unfold LA.b;split<;>rfl)
def YH:(ls.setB j f).due=ls.due:=by unfold LA.setB;split<;>rfl
def ZI:(ls.Eh j g).due=ls.due:=by unfold LA.Eh;split<;>rfl
end
structure sN where
 c:Nat->eF
 e:Nat->eF
 s:eF
 z:eF->Prop
def sN.has(A:sN)(x:eF):Prop:=x=A.s\/(∃j,j<4/\x=A.c j)\/∃j,j<2/\x=A.e j
def sN.nt(A:sN)(x:eF):Prop:=¬A.has x/\¬A.z x
def kv(A:sN)(d:eF):List (Key×V):=[(.inr "due",.ref d),(.inr "put",.ref (A.e 0)),(.inr "anew",.ref (A.e 1)),(.inr "on",.ref (A.c 0)),(.inr "told",.ref (A.c 1)),(.inr "good",.ref (A.c 2)),(.inr "down",.ref (A.c 3))]
abbrev jE(l:List Nat):List V:=l.map λk:Nat=>V.int (k:Int)
structure iT(H:Hp)(n:Nat)(ls:LA)(A:sN):Prop where
 d:∃q,H A.s=some (.dK (kv A q))/\H q=some (.lst (jE ls.due))/\A.nt q
 b:∀j,j<4->H (A.c j)=some (.lst ((hD n).map λk=>V.bl (ls.b j k)))
 l:∀j,j<2->∃xs:Nat->eF,H (A.e j)=some (.lst ((hD n).map λk=>V.ref (xs k)))/\∀k,k<n->A.nt (xs k)/\H (xs k)=some (.lst (jE (ls.l j k)))
 cc:∀i j,i<4->j<4->i≠j->A.c i≠A.c j
 ce:∀i j,i<4->j<2->A.c i≠A.e j
 ee:A.e 0≠A.e 1
 zd:∀x,A.z x->H x≠none
theorem JQ{H:Hp}{p x:eF}{o:HO}(h:H x≠none):L2.upd H p o x≠none:=λz=>by
 by_cases e:x=p
 .rw[e,ae]at z;cases z
 .rw[ag e]at z;erw[h z]
def cJ(A:sN)(H H':Hp):Prop:=∀x o,¬A.has x->H x=some o->H' x=some o
structure Fz(A:sN)(H G:Hp):Prop where
 sub:aH G H
 no:∀x,A.has x->G x=none
section
variable{A:sN}{H H' H1 H2 G:Hp}{n:Nat}{ls:LA}
theorem IE{j:Nat}(h:j<4):A.has (A.c j):= .inr (.inl (j,h,rfl))
theorem Kp{j:Nat}(h:j<2):A.has (A.e j):= .inr (.inr (j,h,rfl))
theorem cJ.of_same(h:aH H H'):cJ A H H':=λx o _ e=>h x o e
theorem cJ.trans(h:cJ A H H1)(k:cJ A H1 H2):cJ A H H2:=λx o n e=>k x o n (h x o n e)
theorem cJ.upd{p:eF}{o:HO}(h:A.has p):cJ A H (L2.upd H p o):=λx u n e=>by
 rw[ag (λz=>n (by rwa[z]))];erw[e]
theorem Fz.but(h:Fz A H G)(e:cJ A H H'):Fz A H' G:=(λx o z=>e x o (λy=>by rw[h.no x y]at z;cases z) (h.sub x o z),h.no)
def iT.same(h:iT H n ls A)(e:aH H H'):iT H' n ls A:=by
 let(q,g,d2,d3):=h.d
 exact((q,e _ _ g,e _ _ d2,d3),λj a=>e _ _ (h.b j a),λj a=>by
  let(xs,i,c):=h.l j a;exact(xs,e _ _ i,λk f=>((c k f).1,e _ _ (c k f).2)),h.cc,h.ce,h.ee,λx z y=>by cases q:H x with|none=>exact h.zd x z q|some o=>rw[e _ _ q]at y;cases y)
def iT.gb(h:iT H n ls A){j:Nat}(e:j<4):kT H A.s (.str (WM j)) (some (.ref (A.c j))):=by
 let(_,a,_,_):=h.d;rcases b4 e with rfl|rfl|rfl|rfl
 .exact kT.k (k:= .inr "on") a
 .exact kT.k (k:= .inr "told") a
 .exact kT.k (k:= .inr "good") a
 .exact kT.k (k:= .inr "down") a
theorem iT.XP(h:iT H n ls A):kT H A.s (.str "on") (some (.ref (A.c 0))):=h.gb (j:=0) ∅
theorem iT.gtl(h:iT H n ls A):kT H A.s (.str "told") (some (.ref (A.c 1))):=h.gb (j:=1) ∅
theorem iT.ggd(h:iT H n ls A):kT H A.s (.str "good") (some (.ref (A.c 2))):=h.gb (j:=2) ∅
theorem iT.gdn(h:iT H n ls A):kT H A.s (.str "down") (some (.ref (A.c 3))):=h.gb (j:=3) ∅
theorem iT.on(h:iT H n ls A):H (A.c 0)=some (.lst ((hD n).map λk=>V.bl (ls.on k))):=h.b 0 ∅
theorem iT.tl(h:iT H n ls A):H (A.c 1)=some (.lst ((hD n).map λk=>V.bl (ls.told k))):=h.b 1 ∅
theorem iT.gd(h:iT H n ls A):H (A.c 2)=some (.lst ((hD n).map λk=>V.bl (ls.good k))):=h.b 2 ∅
theorem iT.dn(h:iT H n ls A):H (A.c 3)=some (.lst ((hD n).map λk=>V.bl (ls.down k))):=h.b 3 ∅
theorem iT.gpt(h:iT H n ls A):kT H A.s (.str "put") (some (.ref (A.e 0))):=let (_,d1,_,_):=h.d;kT.k (k:= .inr "put") d1
theorem iT.gan(h:iT H n ls A):kT H A.s (.str "anew") (some (.ref (A.e 1))):=let (_,d1,_,_):=h.d;kT.k (k:= .inr "anew") d1
theorem iT.gdu(h:iT H n ls A):∃q,kT H A.s (.str "due") (some (.ref q))/\H q=some (.lst (jE ls.due)):=let (q,d1,d2,_):=h.d;(q,kT.k (k:= .inr "due") d1,d2)
def iT.nc(h:iT H n ls A){j:Nat}(e:j<4):A.s≠A.c j:=by
 let(q,a,_,_):=h.d;erw[Qh a (h.b j e) (λz=>by cases z)]
def iT.ns(h:iT H n ls A){j:Nat}(f:j<2):A.s≠A.e j:=by
 let(q,a,_,_):=h.d;let(xs,c,_):=h.l j f;erw[Qh a c (λz=>by cases z)]
def iT.setB(h:iT H n ls A){j:Nat}(f:j<4)(i:Nat)(v:Bool):iT (upd H (A.c j) (.lst (((hD n).map λk=>V.bl (ls.b j k)).set i (.bl v)))) n (ls.setB j (aW (ls.b j) i v)) A:=by
 let(q,m,d2,d3):=h.d;erw[((q,by rwa[ag (h.nc f)],by rw[ag (λz=>d3.1 (by rw[z];exact IE f)),YH];exact d2,d3),λx a=>?_,λx a=>?_,h.cc,h.ce,h.ee,λx z=>JQ (h.zd x z))]
 .rw[ad8 ls _ f a];by_cases e:x=j
  .rw[e,ae,set_range,fR rfl,Qp V.bl]
  .rw[ag (h.cc x j a f e),fC e];erw[h.b x a]
 .let(xs,l1,l2):=h.l x a;erw[(xs,by rwa[ag (h.ce j x f a).symm],λk g=>((l2 k g).1,?_))];rw[ag (λz=>(l2 k g).1.1 (by rw[z];erw[IE f])),aeY];exact(l2 k g).2
def iT.Eh(h:iT H n ls A){j:Nat}(a:j<2){xs:Nat->eF}(u:H (A.e j)=some (.lst ((hD n).map λk=>V.ref (xs k))))(p:∀k,k<n->A.nt (xs k)/\H (xs k)=some (.lst (jE (ls.l j k))))(i:Nat){y:eF}{v:List Nat}(r:H y=some (.lst (jE v)))(f:A.nt y):iT (upd H (A.e j) (.lst (((hD n).map λk=>V.ref (xs k)).set i (.ref y)))) n (ls.Eh j (aW (ls.l j) i v)) A:=by
 let(q,s,d2,d3):=h.d;erw[((q,by rwa[ag (h.ns a)],by rw[ag (λz=>d3.1 (by rw[z];exact Kp a)),ZI];exact d2,d3),λx m=>?_,λx m=>?_,h.cc,h.ce,h.ee,λx z=>JQ (h.zd x z))]
 .rw[ag (h.ce x j m a),aea];erw[h.b x m]
 .rw[aeU ls _ a m];by_cases e:x=j
  .refine (aW xs i y,by rw[e,ae,set_range,Qp V.ref],λk g=>?_);rw[fR e];by_cases c:k=i
   .rw[c,bG,bG];exact(f,by rw[ag (λz=>f.1 (by rw[z];erw[Kp a]))];erw[r])
   .rw[cG c,cG c];exact((p k g).1,by rw[ag (λz=>(p k g).1.1 (by rw[z];erw[Kp a]))];exact(p k g).2)
  .rw[fC e];let(ys,t,o):=h.l x m;erw[(ys,?_,λk g=>((o k g).1,by rw[ag (λz=>(o k g).1.1 (by rw[z];exact Kp a))];exact(o k g).2))];rw[ag (λz=>e ?_)]
   .exact t
   .rcases b2 m with rfl|rfl<;>rcases b2 a with rfl|rfl
    .rfl
    .exact absurd z h.ee
    .exact absurd z h.ee.symm
    .rfl
def iT.adu(h:iT H n ls A){q:eF}{v:List Nat}(g:H q=some (.lst (jE v)))(f:A.nt q):∃H',Qt H A.s (.str "due") (.ref q) H'/\cJ A H H'/\iT H' n {ls with due:=v} A:=by
 let(i,e,d2,d3):=h.d;erw[(_,Qt.k (k:= .inr "due") e (aM (by show 7<=1000;decide)),cJ.upd (.inl rfl),(q,by rw[ae];rfl,by rwa[ag (λz=>f.1 (.inl z))],f),λj a=>?_,λj a=>?_,h.cc,h.ce,h.ee,λx z=>JQ (h.zd x z))]
 .rw[ag (h.nc a).symm];erw[h.b j a]
 .let(xs,l1,l2):=h.l j a;exact(xs,by rwa[ag (h.ns a).symm],λk c=>((l2 k c).1,by rw[ag (λz=>(l2 k c).1.1 (.inl z))];exact(l2 k c).2))
def iT.aev(h:iT H n ls A){y:eF}(e:A.has y):∃o,H y=some o/\((∃xs,o=.lst xs)\/∃kv,o=.dK kv):=by
 let(q,c,_,_):=h.d;rcases e with z|⟨j,a,z⟩|⟨j,a,z⟩
 .exact (_,by rwa[z],.inr (_,rfl))
 .exact (_,by rw[z];exact h.b j a,.inl (_,rfl))
 .let(xs,l1,_):=h.l j a;exact(_,by rwa[z],.inl (_,rfl))
theorem iT.CD(h:iT H n ls A){y:eF}(a:H y=none):A.nt y:=
 (λz=>(by let(o,e,_):=h.aev z;simp_all),λz=>h.zd y z a)
open Classical in
noncomputable def Qw (A:sN) (H:Hp):Hp:=λy=>if A.has y then none else H y
def aaI(A:sN)(H:Hp):Fz A H (Qw A H):=by
 erw[(λx o e=>?_,λx e=>fR e)];unfold Qw at e
 simp_all
theorem acB(h:Fz A H G):aH G (Qw A H):=λx o e=>by
 unfold Qw;rw[fC (λz=>by rw[h.no x z]at e;cases e)];erw[h.sub x o e]
def iT.ag6{K:gI}(h:iT H n ls A){p:eF}{xs:List V}(s:jx K H p xs):jx K (Qw A H) p xs:=by
 let k:∀{x:eF} {o:HO},H x=some o->(∀xs,o≠ .lst xs)->(∀xs,o≠ .dK xs)->Qw A H x=some o:=λ{x o} e1 a c=>by
  unfold Qw
  rw[fC (λy=>by
   let(u,e,w):=h.aev y;rw[e1]at e;obtain rfl:=iJ e;rcases w with⟨ys,w⟩|⟨ys,w⟩
   .exact a ys w
   .exact c ys w)]
  erw[e1]
 rcases s with(s|⟨o,s⟩)|s
 .exact .inl (.inl (k s (λ_ z=>by cases z) (λ_ z=>by cases z)))
 .exact .inl (.inr (o,k s (λ_ z=>by cases z) (λ_ z=>by cases z)))
 .exact .inr s
def aej{F:FS}{B:Hp}(h:Ck F H B)(l:iT B n ls A)(own:∀y,F y->H y≠none):iT H n ls {A with z:=F}:=by
 let(q,i,d2,d3):=l.d;let g:∀{x o},B x=some o->¬F x:=λz f=>by rw[h.2 _ f]at z;cases z
 exact((q,h.1 _ _ i,h.1 _ _ d2,d3.1,g d2),λj a=>h.1 _ _ (l.b j a),λj a=>by
  let(xs,m,c):=l.l j a;exact(xs,h.1 _ _ m,λk e=>(((c k e).1.1,g (c k e).2),h.1 _ _ (c k e).2)),l.cc,l.ce,l.ee,own)
open Classical in
def afn{F:FS}{B:Hp}{ls':LA}(h:Ck F H B)(m:Fz A B G)(l:iT B n ls A)(c:∀y,¬A.z y)(e:cJ A H H')(l':iT H' n ls' {A with z:=F}):∃g,Ck F H' g/\Fz A g G/\iT g n ls' A/\∀y,F y->¬A.has y:=by
 let p:∀{x o},B x=some o->¬F x:=λz f=>by rw[h.2 _ f]at z;cases z
 let fa:∀y,A.has y->¬F y:=λy r=>by let(o,z,_):=l.aev r;erw[p z]
 let get:∀{y o},H' y=some o->¬F y->(if F y then none else H' y)=some o:=λ{y o} z f=>by rwa[fC f]
 let(q,s,d2,d3):=l'.d;erw[(λy=>if F y then none else H' y,(λx o z=>?_,λx f=>fR f),(λx o z=>?_,m.no),((q,get s (fa _ (.inl rfl)),get d2 d3.2,d3.1,c q),λj a=>get (l'.b j a) (fa _ (IE a)),λj a=>?_,l'.cc,l'.ce,l'.ee,λx z=>absurd z (c x)),λy f z=>fa y z f)]
 .simp_all
 .let b:=m.sub x o z;erw[get (e x o (λy=>by rw[m.no x y]at z;cases z) (h.1 _ _ b)) (p b)]
 .let(xs,l1,l2):=l'.l j a;exact(xs,get l1 (fa _ (Kp a)),λk i=>(((l2 k i).1.1,c _),get (l2 k i).2 (l2 k i).1.2))
end
end Ga
namespace K11
local macro_rules | `(tactic| lk) => `(tactic| repeat (first | refine L2.ju rfl ?_ | refine ⟨rfl, ?_⟩ | refine ⟨_, _, rfl, rfl, ?_⟩ | refine ⟨_, _, rfl, ?_⟩ | (refine ⟨?_, ?_⟩; focus ((with_reducible show (0 : Int) < _); decide)) | (refine ⟨L2.agJ ?_, ?_⟩; focus (exact rfl)) | (refine ⟨L2.cpowB ?_, ?_⟩; focus (exact rfl))))
open Lean in
local macro_rules|`(tactic|erw[$e:term,$f,*])=>`(tactic|(refine $e;lk;erw[$f,*]))
local macro_rules | `(tactic| kt_ors) => `(tactic| exact ⟨rfl, rfl, rfl, by decide +kernel, rfl, by decide +kernel, by decide +kernel⟩)
local macro_rules | `(tactic| fin2) => `(tactic| try dsimp only [L2.w9, L2.Cx.je])
local macro_rules | `(tactic| rcases $s:ident, $t:term with ⟨$ps,*⟩) => do let i := Lean.mkIdent; `(tactic| (refine $(i `F.CK) $s fun $(i `vs) $(i `H) $(i `Q) $(i `E) y => ?_; rcases y with ⟨$ps,*⟩; refine ⟨rfl, fun cdv Ar fM $(i `s) $(i `hr) => ⟨_, $t, ?_⟩⟩; fin2))
local macro_rules | `(tactic| kd_p) => `(tactic| exact ⟨rfl, rfl, by decide +kernel, by decide +kernel, rfl, by decide +kernel, (by repeat (first | exact True.intro | refine ⟨rfl, ?_⟩)), by repeat (first | exact True.intro | refine ⟨(by first | exact fun _ => ⟨_, rfl⟩ | (intro z; cases z)), ?_⟩), (by repeat (first | exact True.intro | refine ⟨⟨rfl, .inl rfl, rfl, rfl⟩, ?_⟩))⟩)
local macro_rules | `(tactic| k_ne) => `(tactic| first | exact Or.inl rfl | exact Or.inr rfl)
local macro_rules | `({$xs:term,*}) => do return (<- xs.getElems.foldrM (fun x (r : Lean.Term) => `(L2.ag1 $x $r)) (<- `(L2.bQ))).raw
open PySem L2 Shp Nm Tr PySem.NumText
seal L2.PE L2.PA L2.PT L2.PW L2.PS L2.nN L2.PG L2.PGs L2.PI L2.PF L2.PJ L2.PH L2.PO L2.PC L2.aeJ L2.PIp
abbrev zFn(P:Program)(w:World)(K:PySem.W.Frag)(mg:Str->Option Value)(b:Heap):=aD P w K mg b (gf P w) true
def top(i:Nat):gF:=PySem.Challenge.pw_minders_k11_whole_answered_as_its_way_sa.main.body.getD i (.Pass (0,0,0,0))
abbrev Yi:gF:=top 11
abbrev MN:gF:=top 12
abbrev Ez:gF:=top 13
abbrev Iz:gF:=top 15
abbrev BQ:gF:=top 16
abbrev iA:gF:=ba (top 18) 0
abbrev kh:gF:=ba (top 18) 1
abbrev eX:gF:=ba (top 19) 0
abbrev gC:gF:=ba (top 19) 1
abbrev iC:gF:=ba (top 19) 2
abbrev fj:gF:=ba (top 19) 3
abbrev fF:gF:=ba (top 19) 4
abbrev ir:gF:=ba (top 19) 5
abbrev dM:gF:=ba (top 20) 0
abbrev cY:gF:=ba (top 20) 1
abbrev fW:gF:=ba (top 20) 2
abbrev fK:gF:=ba (top 20) 3
abbrev dR:gF:=ba (top 20) 4
abbrev eI:gF:=ba (top 20) 5
abbrev eK:gF:=ba (top 20) 6
abbrev fY:gF:=ba (top 20) 7
abbrev eG:gF:=ba (top 20) 8
abbrev dE:gF:=ba (top 20) 9
abbrev dP:gF:=ba (top 20) 10
abbrev di:gF:=ba (top 20) 11
abbrev dQ:gF:=ba (top 20) 12
abbrev dF:gF:=ba (top 20) 13
abbrev dD:gF:=ba (top 20) 14
abbrev cF:gF:=ba (top 20) 15
abbrev sV:gF:=top 21
abbrev qr:gF:=top 22
abbrev lL:gF:=ba (top 24) 0
abbrev vq:gF:=ba (top 24) 1
abbrev vb:gF:=ba (top 24) 2
abbrev vE:gF:=ba (top 24) 3
abbrev vn:gF:=ba (top 24) 6
abbrev fE:gF:=ba (top 24) 7
abbrev rT:gF:=ba (top 24) 8
abbrev rK:gF:=ba (top 24) 9
abbrev vd:gF:=ba (top 24) 10
abbrev qh:gF:=ba (top 24) 11
abbrev pJ:gF:=ba (top 24) 12
abbrev kC:gF:=ba (top 24) 13
abbrev fN:gF:=ba (top 24) 14
abbrev qy:gF:=ba (top 24) 15
abbrev lO:gF:=ba (top 24) 16
abbrev iI:gF:=ba (top 24) 17
abbrev M8:gF:=top 25
abbrev Ed:gF:=top 30
abbrev pU:gF:=top 31
abbrev xM:gF:=top 32
abbrev D8:gF:=top 36
abbrev lG:gF:=ba (top 39) 0
abbrev iH:gF:=ba (top 39) 1
abbrev nv:gF:=ba (top 40) 0
abbrev xV:gF:=ba (top 40) 1
abbrev vS:gF:=ba (top 40) 2
abbrev jW:gF:=ba (top 40) 3
abbrev sM:gF:=ba (top 40) 4
abbrev j9:gF:=ba (top 41) 0
abbrev iO:gF:=ba (top 41) 1
abbrev iy:gF:=ba (top 42) 0
abbrev mR:gF:=ba (top 42) 1
abbrev iW:gF:=ba (top 43) 0
abbrev mQ:gF:=ba (top 43) 1
abbrev kD:gF:=ba (top 44) 0
abbrev sW:gF:=ba (top 44) 1
abbrev qw:gF:=ba (top 44) 2
abbrev vi:gF:=ba (top 44) 3
abbrev m9:gF:=ba (top 44) 4
abbrev mU:gF:=ba (top 45) 0
abbrev jz:gF:=ba (top 45) 1
abbrev lF:gF:=ba (top 46) 0
abbrev iu:gF:=ba (top 46) 1
abbrev Et:gF:=top 50
abbrev yN:gF:=top 51
abbrev ni:gF:=top 52
abbrev BS:gF:=top 53
abbrev nj:gF:=ba (top 57) 0
abbrev vf:gF:=ba (top 57) 1
abbrev yo:gF:=ba (top 57) 2
abbrev zf:gF:=ba (top 57) 3
abbrev iQ:gF:=ba (top 57) 4
abbrev rV:gF:=top 58
abbrev BO:gF:=top 59
abbrev qb:gF:=top 60
abbrev rO:gF:=top 61
abbrev pP:gF:=top 62
abbrev SO:gF:=top 63
abbrev DS:gF:=top 65
abbrev JN:gF:=top 66
abbrev qe:gF:=top 67
abbrev kH:gF:=top 68
abbrev BK:gF:=top 69
abbrev Rl:gF:=top 70
abbrev OV:gF:=top 71
abbrev DY:gF:=top 72
abbrev SW:gF:=top 73
abbrev M7:gF:=top 74
abbrev R0:gF:=top 75
abbrev RP:gF:=top 76
abbrev Rc:gF:=top 77
abbrev Nr:gF:=top 78
abbrev Rh:gF:=top 79
abbrev EK:gF:=top 80
abbrev NY:gF:=top 81
abbrev MD:gF:=top 82
abbrev P2:gF:=top 83
structure Txt(mg:Str->Option fy):Prop where
 b_ValueError:mg "ValueError"=none
 agg:mg "all"=none
 FG:mg "enumerate"=none
 adw:mg "int"=none
 oI:mg "isinstance"=none
 fH:mg "len"=none
 Y7:mg "list"=none
 af3:mg "min"=none
 lX:mg "range"=none
 JB:mg "reversed"=none
 tS:mg "str"=none
 aga:mg "sum"=none
abbrev VY:List Str:=["_law_script","_law_k"]
def SX:ar VY VY (ah DS):=by kt_ors
abbrev Xq:List Str:=["_law_k","_law_mark","_law_signs","_law_two"]
abbrev ZC:List Str:=["_law_k","_law_mark"]
def OS:ar Xq ZC (ah JN):=by kt_ors
abbrev Ip:List Str:=["_law_cell","_law_other","_law_keep","_law_way","_law_most"]
abbrev yI:List Str:=["_law_cell","_law_other"]
def jo:ar Ip yI (ah qe):=by kt_ors
abbrev Dc:List Str:=["_law_cell","_law_other","_law_keep","_law_work","_law_numbers","_law_words"]
def fV:ar Dc yI (ah kH):=by kt_ors
abbrev Ri:List Str:=["_law_script","_law_first","_law_count","_law_mark","_law_depths","_law_elders","_law_words","_law_path","_law_k","_law_cell","_law_other","_law_names"]
abbrev YM:List Str:=["_law_script","_law_first","_law_count","_law_mark"]
def kE:ar Ri YM (ah BK):=by kt_ors
abbrev ae6:List Str:=["_law_tree_here","_law_depths","_law_elders","_law_words","_law_names","_law_rows"]
abbrev Xu:List Str:=["_law_tree_here"]
def zy:ar ae6 Xu (ah Rl):=by kt_ors
abbrev acI:List Str:=["_law_house","_law_name_here","_law_found","error"]
abbrev Ur:List Str:=["_law_house","_law_name_here"]
def JR:ar acI Ur (ah OV):=by kt_ors
abbrev Vb:List Str:=["_law_house","_law_found"]
abbrev LK:List Str:=["_law_house"]
def HI:ar Vb LK (ah DY):=by kt_ors
abbrev aeV:List Str:=["_law_house","_law_names","_law_cell","_law_k"]
abbrev Yl:List Str:=["_law_house","_law_names","_law_cell"]
def U0:ar aeV Yl (ah SW):=by kt_ors
abbrev abT:List Str:=["_law_tree_here","_law_at"]
def aab:ar abT abT (ah M7):=by kt_ors
abbrev afc:List Str:=["_law_state","_law_at"]
def acG:ar afc afc (ah R0):=by kt_ors
def acJ:ar afc afc (ah RP):=by kt_ors
abbrev aeg:List Str:=["_law_tree_here","_law_at","_law_word","_law_keep"]
abbrev aaf:List Str:=["_law_tree_here","_law_at","_law_word"]
def TX:ar aeg aaf (ah Rc):=by kt_ors
abbrev aaX:List Str:=["_law_tree_here","_law_state","_law_at","_law_elder","_law_k","_law_left_here","_law_key"]
abbrev TN:List Str:=["_law_tree_here","_law_state","_law_at"]
def uC:ar aaX TN (ah Nr):=by kt_ors
abbrev aeF:List Str:=["_law_tree_here","_law_state","_law_at","_law_elder","_law_live_here"]
def NT:ar aeF TN (ah Rh):=by kt_ors
abbrev W9:List Str:=["_law_tree_here","_law_state","_law_at","_law_elder","_law_young_here","_law_way","_law_chosen"]
def jq:ar W9 TN (ah EK):=by kt_ors
abbrev acN:List Str:=["_law_tree_here","_law_state","_law_entry_here","_law_at"]
abbrev Ti:List Str:=["_law_tree_here","_law_state","_law_entry_here"]
def Pa:ar acN Ti (ah NY):=by kt_ors
abbrev aaS:List Str:=["_law_tree_here","_law_state","_law_at","_law_young_here","_law_live_here","_law_told_here","_law_lost"]
abbrev Tg:List Str:=["_law_tree_here","_law_state"]
def qv:ar aaS Tg (ah MD):=by kt_ors
abbrev adA:List Str:=["_law_script","_law_count","_law_tree_here","_law_house","_law_state","_law_key","_law_met","_law_cell","_law_rows","_law_entry_here"]
abbrev adg:List Str:=["_law_script"]
def pz:ar adA adg (ah P2):=by kt_ors
theorem aq{H:Hp}{q:eF}{o:HO}(h:H q=none):aH H (upd H q o):=λb u e=>by rwa[ag (ao e h)]
def gS{H a:Hp}{q:eF}{o:HO}(e:upd H q o=a)(h:H q=none):aH H a:=by rw[<- e];erw[aq h]
def gA{H a:Hp}{q:eF}{o:HO}(e:upd H q o=a):a q=some o:=by rw[<- e];erw[ae]
theorem MV{a b:Int}(h:decide (V.int a=V.int b)=true):a=b:=V.int.inj (iB h)
theorem Sb{a b:Int}(h:¬decide (V.int a=V.int b)=true):a≠b:=λz=>h (gy (iY V.int z))
theorem fq{n:Nat}(h:n<=1000):n<=sizeLine:=vC (aM h)
def dC{i:Int}(c:0<=i)(a:i<=1000001):i.natAbs.log2<1920:=by
 let h:i.natAbs<2^20:=by lia
 by_cases z:i.natAbs=0
 .rw[z];decide
 .let:=(anO z).mpr h
  lia
section
variable{P:iU}{w:iP}{K:gI}{mg:Str->Option fy}{eC:h7}{f:eF}{fd:pG}{dV:fy}
def SM(K:gI):Sp:=λvs H Q _=>∃(a:eF) (k:Int) (ns:List Int),vs=[.ref a,.int k]/\fT K H a (ns.map V.int)/\0<=k/\Q (.int (ns.getD k.toNat 0)) H
def ab0{cm:Bool}(F:wv "_law_cell_at" DS)(T:Txt mg):wP (gf P w) cm 1 f fd VY (SM K):=by
 rcases SX,(aa (aO (ix nI (pv 1) (a9 aU ⋯ T.fH cW {pv 0})) (af (au (ig aB (pv 0) (pv 1)))) ay)
   (af (au ai))) with⟨a,k,ns,rfl,hS,h0,q⟩
 let(j,rfl):=ajm h0;lk;erw[jl a _ (kz rfl (.inl hS) ?_),bR (λe=>?_) (λe=>?_)]
 .let e:=iB e;rw[gQ]at e;let c:j<ns.length:=by lia
  lk;erw[iG a _ _ (V.int (ns.getD j 0)) (gT rfl rfl hS (cb ?_) q)];rw[i6,ot,hY c]
  rfl
 .let e:¬j<((ns.map V.int).length:Int):=λz=>e (gy z);rw[gQ]at e;let z:ns.getD j 0=0:=by rw[ot,aje ()];rfl
  let q:Q (.int (ns.getD j 0)) H:=q;rw[z]at q;erw[q]
def Zl:Sp:=λvs H Q _=>∃(k:Nat) (mark:Int),vs=[.int (k:Int),.int mark]/\k<64/\Q (.str (nameOf k mark)) H
def acj(F:wv "_law_name" JN)(T:Txt mg):zn 1 ZC Zl:=by
 erw[F.CK OS λvs H Q E x=>?_];let(k,mark,rfl,I,q):=x;erw[(rfl,λo A fM s G=>?_)]
 let tl:∃t,nN (w9 true (gf P w) P w K mg eC Xq "_law_name" (ah JN) f o A fM s H E).je ((cZ JN).drop 2) t/\(¬(mark%11=5/\k<36)->t {nx:=λ_ H'=>Q .non H',rt:=Q} [some (.int k),some (.int mark),some (.str "abcdefghijklmnopqrstuvwxyz0123456789"),none] H):=by
  refine(_,(aa (bH (i:=3) OS.nd (aG o6 (rD (pv 2) (aG cu (pv 0) ai) (λ_ _=>rfl)) (rD (pv 2) (aG cu (aG gG (aG eh (pv 0) ai) (pv 1)) ai) (λ_ _=>rfl))))
   (af (au (aG o6 (aG o6 (aG BF aj (aG cu (pv 1) ai)) (pv 3)) (aG BF aj (aG cu (aG eh (pv 1) ai) ai)))))),?_)
  intro m;lk;let k1:(k%36)=((k%36:Nat):Int):=by lia
  erw[mI _ _ (sgn (k%36)) (kR rfl (iY V.int k1) () (by lia) (by show((k%36:Nat):Int)<36;lia) (Sj (show k%36<36 by lia)) ?_)];let b:=dq (((k/36:Nat))+mark) (n:=36) ∅;let(j,r):=ajm b.1;let k2:(k/36+mark)%36=j:=by simp_all
  lk;erw[mI _ _ (sgn j) (kR rfl (iY V.int k2) () (by lia) (by show(j:Int)<36;lia) (Sj (show j<36 by lia)) ?_),((by show 1+1<=_;exact fq ∅),?_)];lk;let D:=dq mark (n:=7) ∅;let B:=dq (mark/7) (n:=5) ∅;let(c,g):=ajm D.1;let(a,h):=ajm B.1;let u:gu ⟨(ko c ("q":Str).cps).foldl (·++·) #[]⟩=ko c 113:=by rw[zx];erw[Po c 113]
  let p:gu ⟨(ko a ("q":Str).cps).foldl (·++·) #[]⟩=ko a 113:=by rw[zx];erw[Po a 113]
  let v:(⟨(ko c ("q":Str).cps).foldl (·++·) #[]⟩:Str).length=c:=by rw[<- bT,u,NC]
  let C:(⟨(ko a ("q":Str).cps).foldl (·++·) #[]⟩:Str).length=a:=by rw[<- bT,p,NC]
  erw[jl ("q") c (pE rfl (iY V.int g) (by show 1*c<=_;lia) () (by decide) ?_),((by rw[v];show _+2<=_;exact fq ()),?_),jl ("q") a (pE rfl (iY V.int h) (by show 1*a<=_;lia) () (by decide) ?_)];erw[jl _ _ (ll rfl rfl (by rw[UB,v,C];show _+2+_<=_;exact fq ()) ?_)]
  let en:nameOf k mark=(⟨(ko c ("q":Str).cps).foldl (·++·) #[]⟩)++((⟨#[sgn (k%36)]⟩)++(⟨#[sgn j]⟩))++(⟨(ko a ("q":Str).cps).foldl (·++·) #[]⟩):=by
   erw[vh ?_];rw[lK,lK,u,p];unfold nameOf wg;rw[fC m,r,g,h]
   rfl
  rw[en]at q;erw[q]
 let(J,y,m):=tl
 refine(_,(aa (bH (i:=2) OS.nd aj)
   (aa (aO (PW.pt (iq (ix cq (aG cu (pv 1) ai) ai) (eU (ix nI (pv 0) ai)))) (af (au (rD (pv 2) (pv 0) (λ_ _=>rfl)))) ay)
   y)),?_)
 lk;erw[bR (λe=>?_) (λe=>?_)]
 .let e:=MV e;lk;refine bR (λe2=>?_) (λe2=>?_)
  .lk;refine mI _ _ (sgn k) (kR rfl rfl () (by lia) (by show(k:Int)<36;lia) (Sj (show k<36 by lia)) ?_)
   let en:nameOf k mark=⟨#[sgn k]⟩:=by
    unfold nameOf wg;rw[fR (e,())]
    rfl
   rw[en]at q;erw[q]
  .erw[m λz=>by lia]
 .let e:=Sb e;erw[m λz=>e z.1]
def QT:Sp:=λvs H Q _=>∃(cell other:Int),vs=[.int cell,.int other]/\∀(q:eF) (H':Hp),aH H H'->H q=none->H' q=some (.lst ((words (bN cell other "")).map V.str))->Q (.ref q) H'
def QY:Sp:=λvs H Q _=>∃(cell other:Int),vs=[.int cell,.int other]/\∀(q:eF) (H':Hp),aH H H'->H q=none->H' q=some (.lst ((words (leafOf cell other "")).map V.str))->Q (.ref q) H'
def xC(cell other:Int)(nm:Str):words (bN cell other nm)=[("minder":Str),qo (cell/5%4),YA (cell/20%3),dN (bN cell other nm).bU,dN (bN cell other nm).cS]:=by
 let a:=dq (cell/20) (n:=3) ∅;let:cell/20%3=0\/cell/20%3=1\/cell/20%3=2:=by lia
 unfold words bN;rcases this with z|z|z<;>rw[z]<;>rfl
def OA(cell other:Int)(nm:Str):words (leafOf cell other nm)=[("leaf":Str),qo (cell/5%4),dN (leafOf cell other nm).bU,dN (leafOf cell other nm).cS,L6 (cell/20%4)]++(if cell/20%4=1 then [] else [dN (leafOf cell other nm).many]):=by
 let a:=dq (cell/20) (n:=4) ∅;let:cell/20%4=0\/cell/20%4=1\/cell/20%4=2\/cell/20%4=3:=by lia
 unfold words Tr.leafOf;rcases this with z|z|z|z<;>rw[z]<;>rfl
def Ws(F:wv "_law_minder_words" qe)(T:Txt mg):zn 1 yI QT:=by
 rcases jo,(aa (bH (i:=2) jo.nd (ig aB (aP {(aj),(aj),(aj),(aj)}) (aG cu (aG eh (pv 0) ai) ai)))
   (aa (bH (i:=3) jo.nd (ig aB (aP {(aj),(aj),(aj)}) (aG cu (aG eh (pv 0) ai) ai)))
   (aa (aO (ix cq (aG cu (pv 1) ai) ai) (af (au (aP {(aj),pv 2,pv 3,cv bV ⋯ T.tS lE {aG cu (pv 1) ai},cv bV ⋯ T.tS lE {aG gG ai (aG cu (aG eh (pv 1) ai) ai)}}))) ay)
   (aa (bH (i:=4) jo.nd (ig aB (aP (LU rfl)) (aG cu (pv 1) ai)))
   (af (au (aP {(aj),pv 2,pv 3,cv bV ⋯ T.tS lE {pv 4},cv bV ⋯ T.tS lE {aG gG ai (aG cu (aG eh (pv 1) ai) ai)}}))))))) with⟨cell,other,rfl,k⟩
 let x:=dq (cell/5) (n:=4) ∅;let B:=dq (cell/20) (n:=3) ∅;let A:=dq other (n:=8) ∅;let D:=dq other (n:=1000001) ∅;let v:=dq (other/3) (n:=1000000) ∅;let C:=dq (other/8) (n:=5) ∅;rw[xC]at k
 let e4:ql [V.str "always",V.str "fallen",V.str "always",V.str "never"] (cell/5%4)=some (V.str (qo (cell/5%4))):=by
  let:cell/5%4=0\/cell/5%4=1\/cell/5%4=2\/cell/5%4=3:=by lia
  rcases this with z|z|z|z<;>rw[z]<;>rfl
 let e3:ql [V.str "one",V.str "all",V.str "rest"] (cell/20%3)=some (V.str (YA (cell/20%3))):=by
  let:cell/20%3=0\/cell/20%3=1\/cell/20%3=2:=by lia
  rcases this with z|z|z<;>rw[z]<;>rfl
 let e8:ql [V.int 9,V.int 2,V.int 30,V.int 1,V.int 3,V.int 0,V.int 9,V.int 2] (other%8)=some (V.int (C1 (other%8))):=by
  let:other%8=0\/other%8=1\/other%8=2\/other%8=3\/other%8=4\/other%8=5\/other%8=6\/other%8=7:=by lia
  rcases this with z|z|z|z|z|z|z|z<;>rw[z]<;>rfl
 let y:0<=C1 (other%8)/\C1 (other%8)<=30:=by unfold C1;(repeat' split)<;>decide
 erw[(fq (by decide),λt j=>?_),iG t _ _ _ (gT rfl rfl (fT.of ae) e4 ?_),(fq (by decide),λu g=>?_),iG u _ _ _ (gT rfl rfl (fT.of ae) e3 ?_)];let h:=(aq j).trans (aq (o:= .lst [V.str "one",V.str "all",V.str "rest"]) g);lk;erw[bR (λe=>?_) (λe=>?_)]
 .let e:=MV e;let m:(bN cell other "").bU=other%1000001:=fR e;let es:(bN cell other "").cS=1+other/3%1000000:=fR e;rw[m,es]at k;lk;erw[(dC () (),?_),(dC () (),?_),(fq (by show 5<=1000;decide),λq a=>?_)];erw[k q _ (h.trans (aq a)) (h.free a) ae]
 .let e:=Sb e;let m:(bN cell other "").bU=C1 (other%8):=fC e;let es:(bN cell other "").cS=1+other/8%5:=fC e;rw[m,es]at k;erw[(fq (by decide),λr c=>?_),iG r _ _ _ (gT rfl rfl (fT.of ae) e8 ?_)];let p:=h.trans (aq (o:= .lst [V.int 9,V.int 2,V.int 30,V.int 1,V.int 3,V.int 0,V.int 9,V.int 2]) c);lk;erw[(dC () (),?_),(dC () (),?_),(fq (by show 5<=1000;decide),λq a=>?_)];erw[k q _ (p.trans (aq a)) (p.free a) ae]
def Vu(F:wv "_law_leaf_words" kH)(T:Txt mg):zn 1 yI QY:=by
 erw[F.CK fV λvs H Q E L=>?_];let(cell,other,rfl,k):=L;erw[(rfl,λu A fM s Y=>?_)];let X:=dq (cell/5) (n:=4) ∅;let h3:=dq (cell/20) (n:=4) ∅;rw[OA]at k
 let e4:ql [V.str "always",V.str "fallen",V.str "always",V.str "never"] (cell/5%4)=some (V.str (qo (cell/5%4))):=by
  let:cell/5%4=0\/cell/5%4=1\/cell/5%4=2\/cell/5%4=3:=by lia
  rcases this with z|z|z|z<;>rw[z]<;>rfl
 let e3:ql [V.str "falls",V.str "idle",V.str "steady",V.str "falls"] (cell/20%4)=some (V.str (L6 (cell/20%4))):=by
  let:cell/20%4=0\/cell/20%4=1\/cell/20%4=2\/cell/20%4=3:=by lia
  rcases this with z|z|z|z<;>rw[z]<;>rfl
 let D:L6 (cell/20%4)="idle"↔cell/20%4=1:=by
  let:cell/20%4=0\/cell/20%4=1\/cell/20%4=2\/cell/20%4=3:=by lia
  rcases this with z|z|z|z<;>rw[z]<;>decide
 let tl:∃t,nN (w9 true (gf P w) P w K mg eC Dc "_law_leaf_words" (ah kH) f u A fM s H E).je ((cZ kH).drop 4) t/\(∀(h:Hp) (p:eF) (x y z:Int),aH H h->h p=some (.lst [V.int x,.int y,.int z])->x=(leafOf cell other "").bU->y=(leafOf cell other "").cS->(cell/20%4≠1->z=(leafOf cell other "").many)->
   t {nx:=λ_ H'=>Q .non H',rt:=Q} [some (.int cell),some (.int other),some (.str (qo (cell/5%4))),some (.str (L6 (cell/20%4))),some (.ref p),none] h):=by
  refine(_,(aa (bH (i:=5) fV.nd (aP {(aj),pv 2,cv bV ⋯ T.tS lE {ig aB (pv 4) ai},cv bV ⋯ T.tS lE {ig aB (pv 4) ai},pv 3}))
   (aa (aO (ix uO (pv 3) aj) (af (aE (gg xZ Aq B6 cX (pv 5) {cv bV ⋯ T.tS lE {ig aB (pv 4) ai}}))) ay)
   (af (au (pv 5))))),?_)
  intro h p x y z j m ex C r;let ok:=UJ (cell:=cell) (other:=other) (nm:="qa") (by decide +kernel);let J:0<=x:=by rw[ex];erw[ok.g0]
  let Z:x<=1000000:=by rw[ex];erw[ok.g1]
  let W:0<=y:=by rw[C];erw[ok.s0]
  let g3:y<=1000000:=by rw[C];erw[ok.s1]
  rw[<- ex,<-C]at k;lk;erw[iG p _ 0 _ (gT rfl rfl (fT.of m) rfl ?_),(dC J (),?_),iG p _ 1 _ (gT rfl rfl (fT.of m) rfl ?_),(dC W (),?_),(fq (by show 5<=1000;decide),λq g=>?_),bR (λe=>?_) (λe=>?_)]
  .let e:cell/20%4≠1:=λz=>by
    rw[gy (iY V.str (D.mpr z))]at e;lia
   let M:0<=z:=by rw[r e];erw[ok.m0]
   let z1:z<=1000000:=by rw[r e];erw[ok.m1]
   rw[fC e,<-r e]at k;let a:=(aq (o:= .lst [V.str "leaf",.str (qo (cell/5%4)),.str (dN x),.str (dN y),.str (L6 (cell/20%4))]) g) _ _ m;lk;erw[(.inl (rfl,_,fT.of ae),?_),iG p _ 2 _ (gT rfl rfl (fT.of a) rfl ?_),(dC M (),?_),mI q _ _ (gT rfl rfl ae (aM (by show 5<=1000;decide)) ?_)];rw[bp];lk;erw[k q _ (j.trans (aq g)) (j.free g) ae]
  .let e:=D.mp (by
    lia)
   rw[fR e]at k;lk;erw[k q _ (j.trans (aq g)) (j.free g) ae]
 let(tt,O,G):=tl
 refine(_,(aa (bH (i:=2) fV.nd (ig aB (aP {(aj),(aj),(aj),(aj)}) (aG cu (aG eh (pv 0) ai) ai)))
   (aa (bH (i:=3) fV.nd (ig aB (aP {(aj),(aj),(aj),(aj)}) (aG cu (aG eh (pv 0) ai) ai)))
   (aa (bH (i:=4) fV.nd (aP {aG cu (pv 1) ai,aG cu (aG eh (pv 1) ai) ai,aG cu (aG eh (pv 1) ai) ai}))
   (aa (aO (ix cq (aG cu (pv 1) ai) ai) (af (bH (i:=4) fV.nd (aP {aG cu (pv 1) ai,aG cu (aG eh (pv 1) ai) ai,aG cu (aG eh (pv 1) ai) ai}))) ay)
   O)))),?_)
 erw[(fq (by decide),λS v=>?_),iG S _ _ _ (gT rfl rfl (fT.of ae) e4 ?_),(fq (by decide),λU a=>?_),iG U _ _ _ (gT rfl rfl (fT.of ae) e3 ?_)];let I:=(aq v).trans (aq (o:= .lst [V.str "falls",V.str "idle",V.str "steady",V.str "falls"]) a);lk;erw[(fq (by show 3<=1000;decide),λN c=>?_),bR (λe=>?_) (λe=>?_)]
 .let e:=MV e;lk;erw[(fq (by show 3<=1000;decide),λR B=>?_)];refine G _ R _ _ _ ((I.trans (aq c)).trans (aq B)) ae ?_ ?_ ?_
  .exact (fR e).symm
  .exact (fR e).symm
  .intro z;show _=ite _ _ _;rw[fC z,fR e]
 .let e:=Sb e;refine G _ N _ _ _ (I.trans (aq c)) ae ?_ ?_ ?_
  .exact (fC e).symm
  .exact (fC e).symm
  .intro z;show _=ite _ _ _;rw[fC z,fC e]
def aav(K:gI):Sp:=λvs H Q _=>∃(q dp g c e:eF) (a:Re),vs=[.ref q]/\H q=some (.tup [.ref dp,.ref g,.ref c,.ref e])/\Mr H dp g c e a/\gD a/\∀H',aH H H'->Q (.str (Au (written a))) H'
def abv(F:wv "_law_text" Rl)(T:Txt mg):zn 1 Xu (aav K):=by
 rcases zy,(aa (jy (pv 0) (RS rfl (mh (c9 (i:=1) zy.nd rfl (by k_ne)) (mh (c9 (i:=2) zy.nd rfl (by k_ne)) (mh (c9 (i:=3) zy.nd rfl (by k_ne)) (mh (c9 (i:=4) zy.nd rfl (by k_ne)) MC))))))
   (aa (lT (j:=5) zy.nd rfl (by k_ne) (fr:=[("_law_depths",1),("_law_words",3),("_law_names",4)]) (by kd_p) rfl (jN ⋯ T.lX {a9 aU ⋯ T.fH cW {pv 4}}) (λ_ _ _ _=>Br) (λ_ _ _ _=>(aG o6 (aG BF aj (ig (gM rfl) (pv 1) (pv 0))) (ae0 rfl ajc amE amF (Of) aj {aG JX (ig (gM rfl) (pv 2) (pv 0)) (aP {ig (gM rfl) (pv 3) (pv 0)})}))))
   (af (au (gg ajc amE amF FR aj {pv 5}))))) with⟨q,dp,ep,wp,np,rows,rfl,hq,hT,ok,k⟩
 let g:(rows.map λr=>V.str r.sh.name).length=rows.length:=gQ _;let R:=ok.len;lk;erw[jl q _ (ll rfl (jx.of hq) rfl ?_),jl np _ (kz rfl (.inl (fT.of hT.n)) ?_)];rw[g];lk;erw[((),(),cO (n:=rows.length) (λi ys H'=>aH H H'/\∃xs:List Str,ys=xs.map V.str/\xs.map gu=(ng rows).take i) (aH.refl _,[],rfl,rfl) (λi ys H' c _=>c) (λys H' _=>gx _) ?_ ?_)]
 .rintro i ys H' v H2 c ⟨s1,xs,rfl,hx⟩ ⟨rfl,rfl⟩;let a:=hY c;let h:=ok.sh rows[i] (uy c);let C:=hT.mono s1
  let A:xs.length=i:=by
   let:=iY List.length hx;rw[gQ,ve,Tr.plain_len]at this
   lia
  let t:0+i=(i:Int):=anr _
  let J:ql (rows.map λr=>V.int (r.dep)) (0+i)=some (V.int (rows[i].dep)):=by
   rw[t];erw[cb ?_];rw[i6,a]
   rfl
  let Z:ql (rows.map λr=>V.str r.sh.name) (0+i)=some (V.str rows[i].sh.name):=by
   rw[t];erw[cb ?_];rw[i6,a]
   rfl
  let(as,U,L,w3):=id C.w;rw[gQ]at L;let G:as[i]? =some (as[i]'()):=hY ()
  let M:ql (as.map V.ref) (0+i)=some (V.ref (as[i]'())):=by
   rw[t];erw[cb ?_];rw[i6,G]
   rfl
  let hw:=w3 i _ (words rows[i].sh) G (by rw[i6,a];rfl)
  let m:rows[i].dep<=8:=by
   let:=ok.fit i c;rw[ot,a]at this;unfold Tr.fits at this
   split at this
   .let:rows[i].dep=0:=this.1
    lia
   simp_all
  let O:=Fq h;let N:gu (⟨(ko rows[i].dep ("  ":Str).cps).foldl (·++·) #[]⟩)=ko (2*rows[i].dep) 32:=by rw[zx];erw[Pz _ 32]
  let ld:(⟨(ko rows[i].dep ("  ":Str).cps).foldl (·++·) #[]⟩:Str).length=2*rows[i].dep:=by rw[<- bT,N,NC]
  lk;erw[iG dp _ _ _ (gT rfl rfl (fT.of C.d) J ?_)];erw[jl ("  ") (rows[i].dep) (pE rfl rfl (by show 2*_<=_;lia) () (by decide) ?_),iG wp _ _ _ (gT rfl rfl (fT.of U) M ?_),iG np _ _ _ (gT rfl rfl (fT.of C.n) Z ?_)];erw[(fq (by show 1<=1000;decide),λu Y=>?_)];let D:=aq (o:= .lst [V.str rows[i].sh.name]) Y;let wl:((words rows[i].sh).map V.str).length<=7:=by rw[gQ];let:=O.2;rw[jm]at this;lia
  erw[iG (as[i]'()) u _ _ (pE rfl rfl (D _ _ hw) ae (by show _+1<=_;exact fq ()) (λz B=>?_))];let sz:=D.trans (aq (o:= .lst ((words rows[i].sh).map V.str++[V.str rows[i].sh.name])) B);let W:(words rows[i].sh).map V.str++[V.str rows[i].sh.name]=(words rows[i].sh++[rows[i].sh.name]).map V.str:=by rw[kr];rfl
  erw[mI (" ") z (words rows[i].sh++[rows[i].sh.name]) (gT rfl rfl (by rw[<- W];exact fT.of ae) (by show _+_*1<=_;lia) ?_)];let rc:=YJ rows[i].dep rows[i].sh;let X:=Oq h rows[i].dep;rw[<- rc,bT,UB]at X;erw[jl _ _ (ll rfl rfl (fq ()) ?_)];erw[(by rw[gQ,A];exact aM (),s1.trans sz,xs++[_],by rw[kr];rfl,?_)];rw[kr,AD]
  congr 1
  show [gu _]=_;rw[rc];unfold ng;rw[i6,a]
  rfl
 .rintro ys H' ⟨s1,xs,rfl,hx⟩;rw[<- Tr.plain_len,zN]at hx
  let A:=by
   let:=iY List.length hx;rwa [gQ,Tr.plain_len]at this
  erw[(by rw[gQ,A];exact fq (),λp S=>?_)];lk
  let m:∀r∈rows,(Bw r.dep 0 0 r.sh).length<=83:=λr a=>by
   let(i,c,rfl):=amX a;let h2:=Oq (ok.sh _ a) rows[i].dep
   let:rows[i].dep<=8:=by
    let:=ok.fit i c;rw[ot,hY c]at this;unfold Tr.fits at this
    split at this
    .let:rows[i].dep=0:=this.1
     lia
    simp_all
   lia
  let sm:(xs.map (·.length)).sum<=83*xs.length:=by
   erw[jC (Rb λy I=>?_) (by rw[gQ];exact gx _)];let(z,B,rfl):=tU.mp I;let:gu z∈ng rows:=by rw[<- hx];erw[tU.mpr (z,B,rfl)]
   let(r,a,e):=tU.mp this;rw[<- bT,<-e];erw[m r a]
  erw[mI ("\n") p xs (gT rfl rfl (fT.of ae) (by show _+_*1<=_;lia) ?_)]
  let ej:amN "\n" xs=Au (written rows):=by
   erw[vh ?_];rw[I0,hx]
   rfl
  rw[ej];erw[k _ (s1.trans (aq S))]
def XB(K:gI):Sp:=λvs H Q _=>∃(a:eF) (ns:List Int) (g mark:Int) (ct:Nat),vs=[.ref a,.int g,.int (ct:Int),.int mark]/\fT K H a (ns.map V.int)/\0<=g/\1<=ct/\ct<=64∧
 ∀(q dp i e h:eF) (H':Hp) (c:Re),aH H H'->H' q=some (.tup [.ref dp,.ref i,.ref e,.ref h])->Mr H' dp i e h c->ny c mark->c.length=ct->Q (.ref q) H'
def aaW(F:wv "_law_tree" BK)(T:Txt mg)(fU:wE true 1 "_law_cell_at" (SM K) [])(S9:wE true 1 "_law_name" Zl [])
  (jX:wE true 1 "_law_minder_words" QT []) (vO:wE true 1 "_law_leaf_words" QY []):zn 3 YM (XB K):=by
 erw[F.CK kE λvs H Q E y0=>?_];let(a,ns,fi,mark,ct,rfl,hS,hf,h1,bO,k):=y0;erw[(rfl,λbe A fM s hr=>?_)]
 let t6:∃t,nN (w9 true (gf P w) P w K mg eC Ri "_law_tree" (ah BK) f be A fM s H E).je ((cZ BK).drop 6) t/\(∀(G:Hp) (dp B h:eF) (c:Re) (v1 v2 v3 v4:Option V),aH H G->H dp=none->H B=none->H h=none→
   G dp=some (.lst (c.map λr=>V.int (r.dep)))->G B=some (.lst ((hD c.length).map λk=>V.int (bP c k)))->vD G h (c.map λr=>words r.sh)->ny c mark->c.length=ct→
   t {nx:=λ_ H'=>Q .non H',rt:=Q} [some (.ref a),some (.int fi),some (.int ct),some (.int mark),some (.ref dp),some (.ref B),some (.ref h),v1,v2,v3,v4,none] G):=by
  refine(_,(aa (lT (j:=11) kE.nd rfl (by k_ne) (fr:=[("_law_mark",3)]) (by kd_p) rfl (jN ⋯ T.lX {pv 2}) (λ_ _ _ _=>Br) (λ_ _ _ _=>(Iv S9 (hr.mono (by omega)) ⋯ zE {pv 0,pv 1})))
   (af (au (xB {pv 4,pv 5,pv 6,pv 11})))),?_)
  intro G dp B h c v1 v2 v3 v4 s1 hd he hw h4 h5 h6 hR hl;lk;erw[((),(),cO (n:=ct) (λi ys H'=>H'=G/\ys=(hD i).map λk=>V.str (nameOf k mark)) (rfl,rfl) (λi ys H' hi _=>hi) (λys H' _=>gx _) ?_ ?_)]
  .rintro i ys H' v U hi ⟨rfl,rfl⟩ ⟨rfl,rfl⟩;lk;erw[((by lia),by rw[gQ,mK];exact aM (),rfl,?_)];rw[F1,kr,alk]
   rfl
  .rintro ys H' ⟨rfl,rfl⟩;erw[(by rw[gQ,mK];exact fq (),λnp bm=>?_),(fq (by show 4<=1000;decide),λq hq=>?_)];let W:aH H' (upd (upd H' np (.lst ((hD ct).map λk=>V.str (nameOf k mark)))) q (.tup [.ref dp,.ref B,.ref h,.ref np])):=(aq bm).trans (aq hq);erw[k q dp B h np _ c (s1.trans W) ae (W _ _ h4,W _ _ h5,h6.mono W,?_) hR hl];rw[hR.names,hl];erw[aq hq _ _ ae]
 let(tt,ht,hn):=t6
 let t4:∃t,nN (w9 true (gf P w) P w K mg eC Ri "_law_tree" (ah BK) f be A fM s H E).je ((cZ BK).drop 4) t/\(∀(G:Hp) (dp B h:eF) (c:Re),aH H G->H dp=none->H B=none->H h=none->dp≠B->dp≠h->B≠h→
   G dp=some (.lst (c.map λr=>V.int (r.dep)))->G B=some (.lst ((hD c.length).map λk=>V.int (bP c k)))->vD G h (c.map λr=>words r.sh)->ny c mark->c.length=1→
   t {nx:=λ_ H'=>Q .non H',rt:=Q} [some (.ref a),some (.int fi),some (.int ct),some (.int mark),some (.ref dp),some (.ref B),some (.ref h),none,none,none,none,none] G):=by
  refine(_,(aa (bH (i:=7) kE.nd (aP {(ai)}))
   (aa (lM yu rfl (VN ⋯ T.lX {(ai),pv 2}) (c9 (i:=8) kE.nd rfl (by k_ne)) (aa (bH (i:=9) kE.nd (aG gG (cn fU {pv 0,aG gG (pv 1) (pv 8)}) (aG adS ai (pv 8))))
   (aa (bH (i:=10) kE.nd (aG gG (cn fU {pv 0,aG gG (aG gG (pv 1) (pv 8)) ai}) (pv 8)))
   (aa (aO (ix nI (aG cu (pv 3) ai) ai) (af (bH (i:=7) kE.nd (pO uT (pv 7) C6 (oG (aG gG ai (aG cu (aG eh (pv 9) ai) (a9 aU ⋯ T.fH cW {pv 7}))))))) ay)
   (aa (aE (gg xZ Aq B6 cX (pv 4) {a9 aU ⋯ T.fH cW {pv 7}}))
   (aa (aE (gg xZ Aq B6 cX (pv 5) {ig aB (pv 7) (Ds yk ai)}))
   (af (aO (PW.pt (nR (ix nI (aG cu (pv 9) ai) ai) (qp (PW.pt (iq (ix cq (aG cu (pv 3) ai) ai) (eU (ix nI (a9 aU ⋯ T.fH cW {pv 7}) ai))))))) (aa (aE (gg xZ Aq B6 cX (pv 6) {cn jX {pv 9,pv 10}}))
   (af (aO (ix nI (a9 aU ⋯ T.fH cW {pv 7}) ai) (af (bH (i:=7) kE.nd (aG JX (pv 7) (aP {pv 8})))) ay))) (af (aE (gg xZ Aq B6 cX (pv 6) {cn vO {pv 9,pv 10}})))))))))))
   ht)),?_)
  fin2
  intro G dp B h c s1 hd he hw n1 n2 n3 h4 h5 h6 hR hl;erw[(fq (by decide),λpp a3=>?_)];let sn:=aq (o:= .lst [V.int 0]) a3
  let bv:fv c [0]:=by
   obtain⟨r,rfl⟩:∃r,c=[r]:=by
    match c,hl with
    |[r],_=>exact(r,rfl)
   erw[fv.first ?_];let:=hR.fit 0 aoe;erw[this.2]
  lk;erw[((∅,(),(),()),?_)];let bB:((ct:Int)-1).toNat=ct-1:=by lia
  refine zl (λi σ U=>∃(c:Re) (pp:eF) (lp:List Nat) (v1 v2 v3:Option V),σ=[some (.ref a),some (.int fi),some (.int ct),some (.int mark),some (.ref dp),some (.ref B),some (.ref h),some (.ref pp),v1,v2,v3,none]/\aH H U∧
    U dp=some (.lst (c.map λr=>V.int (r.dep)))/\U B=some (.lst ((hD c.length).map λk=>V.int (bP c k)))/\vD U h (c.map λr=>words r.sh)/\ny c mark/\c.length=1+i/\U pp=some (.lst (lp.map λj:Nat=>V.int j))/\fv c lp/\pp≠dp/\pp≠B)
   (c,pp,[0],none,none,none,rfl,s1.trans sn,sn _ _ h4,sn _ _ h5,h6.mono sn,hR,(),ae,bv,(ao h4 a3).symm,(ao h5 a3).symm) ?_ ?_
  .rintro i σ U hi ⟨c,pp,lp,v1,v2,v3,rfl,W,g4,g5,g6,hR,hl,gp,hP,m1,m2⟩;rw[bB]at hi;let r1:=hR.ne;let wn:=adI r1;refine Kd (M:=λbn H'=>∃(p:eF) (g:List Nat) (cl I:Int),bn=[some (.ref a),some (.int fi),some (.int ct),some (.int mark),some (.ref dp),some (.ref B),some (.ref h),some (.ref p),some (.int (1+i)),some (.int cl),some (.int I),none]/\aH U H'/\H' p=some (.lst (g.map λj:Nat=>V.int j))/\fv c g/\p≠dp/\p≠B) (λN hN=>?_) ?_
   .lk;erw[mI a _ ns (ll rfl (W.seq hS) () ?_),(.inl (∅,∅),?_),mI a _ ns (ll rfl (W.seq hS) () ?_)];lk;let a6:(lp.map λj:Nat=>V.int j).length=lp.length:=gQ _;let b1:=hP.l1;refine bR (λe=>?_) (λe=>?_)
    .lk;erw[jl pp _ (kz rfl (.inl (fT.of gp)) ?_),((by lia),?_),jl pp _ (kz rfl (fT.of gp) (λp2 aK=>?_))];let(m,em):=ajm (dq ((ns.getD (fi+(1+i)).toNat 0+3*(1+i))/80) (n:=(lp.length)) ()).1;let bW:=(dq ((ns.getD (fi+(1+i)).toNat 0+3*(1+i))/80) (n:=(lp.length)) ()).2;erw[hN _ _ (p2,lp.take (1+m),_,_,rfl,aq aK,?_,hP.take () (),(ao g4 aK).symm,(ao g5 aK).symm)];rw[ae,a6,em,show(1+m)=((1+m:Nat):Int) from rfl,UN,ak0]
    .erw[hN _ _ (pp,lp,_,_,rfl,λ_ _ z=>z,gp,hP,m1,m2)]
   .rintro σ3 H3 ⟨p,g,cl,I,rfl,sn2,kp,hP3,q1,q2⟩;let s3:=W.trans sn2;let k4:=sn2 _ _ g4;let k5:=sn2 _ _ g5;let k6:=g6.mono sn2;let c1:=hP3.l1;let c8:=hP3.l8;let J:(g.map λj:Nat=>V.int j).length=g.length:=gQ _;let rl:c.length<64:=by lia
    lk;erw[(.inl (rfl,_,fT.of k4),?_),jl p _ (kz rfl (.inl (fT.of kp)) ?_)];rw[J];erw[mI dp _ _ (gT rfl rfl k4 (by rw[gQ];exact aM ()) ?_)];let a4:(upd H3 dp (.lst ((c.map λr=>V.int (r.dep))++[V.int (g.length)]))) p=some (.lst (g.map λj:Nat=>V.int j)):=(ag q1).trans kp;let al:(upd H3 dp (.lst ((c.map λr=>V.int (r.dep))++[V.int (g.length)]))) B=some (.lst ((hD c.length).map λk=>V.int (bP c k))):=(ag n1.symm).trans k5;lk;erw[(.inl (rfl,_,fT.of al),?_)];lk
    let aF:ql (g.map λj:Nat=>V.int j) (-1)=some (V.int ((g[g.length-1]'():Nat))):=by
     rw[aai (),J,i6,hY ()]
     rfl
    erw[iG p _ _ _ (gT rfl rfl (fT.of a4) aF ?_),mI B _ _ (gT rfl rfl al (by rw[gQ,mK];exact aM ()) ?_)];obtain⟨H4,R⟩:∃H4,H4=upd (upd H3 dp (.lst ((c.map λr=>V.int (r.dep))++[V.int (g.length)]))) B (.lst (((hD c.length).map λk=>V.int (bP c k))++[V.int ((g[g.length-1]'():Nat))])):=(_,rfl);rw[<- R];let s4:aH H H4:=by rw[R];erw[uA (uA s3 hd) he]
    let j4:H4 dp=some (.lst ((c.map λr=>V.int (r.dep))++[V.int (g.length)])):=by rw[R,ag n1];erw[ae]
    let j5:H4 B=some (.lst (((hD c.length).map λk=>V.int (bP c k))++[V.int ((g[g.length-1]'():Nat))])):=by rw[R];erw[ae]
    let jp:H4 p=some (.lst (g.map λj:Nat=>V.int j)):=by rwa[R,ag q2]
    let j6:vD H4 h (c.map λr=>words r.sh):=by
     let(x1,y1,z1):=Mf r1 (λr=>(r.dep));let(x2,y2,z2):=IS r1 (λk=>bP c k);rw[R];erw[vD.upd (i:=x2) (xs:=y2) (vD.upd (i:=x1) (xs:=y1) k6 ?_ wn (Ol c)) ?_ wn (Ol c)]
     .rw[k4,z1]
     .rw[al,z2]
    let ac:=λsh=>hP3.fits (r:=(g.length,sh)) () c1 (gx _);let a1:∀sh,bP (c++[(g.length,sh)]) c.length=((g[g.length-1]'():Nat)):=λsh=>hP3.bP () c1 (gx _)
    let a7:∀sh,fv (c++[(g.length,sh)]) g:=λsh=>by
     let:=hP3.next (r:=(g.length,sh)) c1 (gx _);simp_all
    clear R a4 al aF
    let a5:h≠dp:=by
     lia
    let bd:h≠B:=by
     lia
    let bb:h≠p:=by
     obtain⟨x,y,z⟩:∃x y,g=x::y:=by
      match g,c1 with
      |x::y,_=>exact(x,y,rfl)
     erw[j6.ne (by rw[jp,z];rfl) wn]
    let(bJ,w1,_):=id j6;dsimp only;erw[aeA (decide (cl%5<2)||(decide (mark%5=4)&&decide ((g.length:Int)<8))) (λN hN=>?_) ?_]
    .lk;refine bR (λe1=>?_) (λe1=>?_)
     .simp_all
     .rw[show decide (cl%5<2)=false from iR λz=>e1 (gy z)]at hN;lk;refine bR (λe2=>?_) (λe2=>?_)
      .rw[gy (show mark%5=4 from V.int.inj (iB e2))]at hN;lk;erw[jl p _ (kz rfl (.inl (fT.of jp)) ?_)];rw[J];lk;erw[hN]
      .rw[iR (show ¬mark%5=4 from λz=>e2 (gy (iY V.int z)))]at hN;erw[hN]
    .refine bR (λ_=>?_) (λ_=>?_)
     .lk;erw[(.inl (rfl,_,fT.of w1),?_),λq H5 s5 aN L=>?_];let(a0,w2,wl,j7):=(j6.mono s5).push L wn (Ol c) (EB _);erw[mI h _ _ (gT rfl rfl w2 (by rw[gQ,wl,gQ];exact aM ()) ?_)];obtain⟨Z,C⟩:∃Z,Z=upd H5 h (.lst (a0.map V.ref++[.ref q])):=(_,rfl);rw[<- C]at j7 ⊢;let s6:aH H Z:=by rw[C];exact uA (s4.trans s5) hw
      let ak:Z dp=some (.lst ((c.map λr=>V.int (r.dep))++[V.int (g.length)])):=by rw[C,ag a5.symm];erw[s5 _ _ j4]
      let ab:Z B=some (.lst (((hD c.length).map λk=>V.int (bP c k))++[V.int ((g[g.length-1]'():Nat))])):=by rw[C,ag bd.symm];erw[s5 _ _ j5]
      let ad:Z p=some (.lst (g.map λj:Nat=>V.int j)):=by rw[C,ag bb.symm];erw[s5 _ _ jp]
      let ln:∀r,(c++[r]).length=1+(i+1):=λr=>by rw[jm];show c.length+1=_;lia
      lk;erw[jl p _ (kz rfl (.inl (fT.of ad)) ?_)];rw[J];lk;erw[bR (λe4=>?_) (λe4=>?_)]
      .lk;erw[(fq (by show 1<=1000;decide),λu hu=>?_)];erw[iG p u _ _ (pE rfl rfl ((aq hu) _ _ ad) ae (by rw[J];show _+1<=_;exact fq ()) (λz hz=>?_))];let sz:=(aq hu).trans (aq (o:= .lst ((g.map λj:Nat=>V.int j)++[V.int (1+i)])) hz);refine(c++[(g.length,bN cl I (nameOf c.length mark))],z,g++[c.length],_,_,_,rfl,s6.trans sz,?_,?_,?_,hR.next rl (ac _) (EO (Hk rl)) rfl,ln _,?_,?_,?_,?_)
       .rw[kr];erw[sz _ _ ak]
       .rw[yF (a1 _)];erw[sz _ _ ab]
       .rw[kr];erw[j7.mono sz]
       .rw[ae,kr,hl]
        rfl
       .let:=hP3.more (r:=(g.length,bN cl I (nameOf c.length mark))) c1 (gx _) (by lia) (gy (aj2 _ _));rw[zN]at this;erw[this]
       .exact (ao ((aq hu) _ _ ak) hz).symm
       .exact (ao ((aq hu) _ _ ab) hz).symm
      .refine (c++[(g.length,bN cl I (nameOf c.length mark))],p,g,_,_,_,rfl,s6,?_,?_,?_,hR.next rl (ac _) (EO (Hk rl)) rfl,ln _,ad,a7 _,q1,q2)
       .rwa[kr]
       .rwa[yF (a1 _)]
       .rwa[kr]
     .lk;erw[(.inl (rfl,_,fT.of w1),?_),λq H5 s5 aN L=>?_];let(a0,w2,wl,j7):=(j6.mono s5).push L wn (Ol c) (EB _);erw[mI h _ _ (gT rfl rfl w2 (by rw[gQ,wl,gQ];exact aM ()) ?_)];obtain⟨Z,C⟩:∃Z,Z=upd H5 h (.lst (a0.map V.ref++[.ref q])):=(_,rfl);rw[<- C]at j7 ⊢;let s6:aH H Z:=by rw[C];exact uA (s4.trans s5) hw
      let ak:Z dp=some (.lst ((c.map λr=>V.int (r.dep))++[V.int (g.length)])):=by rw[C,ag a5.symm];erw[s5 _ _ j4]
      let ab:Z B=some (.lst (((hD c.length).map λk=>V.int (bP c k))++[V.int ((g[g.length-1]'():Nat))])):=by rw[C,ag bd.symm];erw[s5 _ _ j5]
      let ad:Z p=some (.lst (g.map λj:Nat=>V.int j)):=by rw[C,ag bb.symm];erw[s5 _ _ jp]
      let ln:∀r,(c++[r]).length=1+(i+1):=λr=>by rw[jm];show c.length+1=_;lia
      erw[(c++[(g.length,Tr.leafOf cl I (nameOf c.length mark))],p,g,_,_,_,rfl,s6,?_,?_,?_,hR.next rl (ac _) (UJ (Hk rl)) rfl,ln _,ad,a7 _,q1,q2)]
      .rwa[kr]
      .rwa[yF (a1 _)]
      .rwa[kr]
  .rintro σ U ⟨c,pp,lp,v1,v2,v3,rfl,W,g4,g5,g6,hR,hl,gp,hP,m1,m2⟩;erw[hn U dp B h c _ _ _ _ W hd he hw g4 g5 g6 hR ()]
 let(tt,ht,hn):=t4
 refine(_,(aa (bH (i:=4) kE.nd (aP {(ai)}))
   (aa (bH (i:=5) kE.nd (aP {Ds yk ai}))
   (aa (bH (i:=6) kE.nd (aP {cn jX {cn fU {pv 0,pv 1},cn fU {pv 0,aG gG (pv 1) ai}}}))
   (aa (aO (ix nI (aG cu (aG eh (pv 3) ai) ai) ai) (af (jy aj (kI (ig aB (pv 6) ai) ai set_list))) ay)
   ht)))),?_)
 fin2
 erw[(fq (by decide),λdp ap=>?_),(fq (by decide),λB O=>?_)];let sA:=(aq ap).trans (aq (o:= .lst [V.int (-1)]) O);lk;erw[mI a _ ns (ll rfl (sA.seq hS) () ?_),mI a _ ns (ll rfl (sA.seq hS) () ?_),λq G s1 aN L=>?_];obtain⟨cl,I,L⟩:∃cl I,G q=some (.lst ((words (bN cl I "")).map V.str)):=(_,_,L);erw[(fq (by show 1<=1000;decide),λh Y=>?_)];let W:=s1.trans (aq (o:= .lst [V.ref q]) Y);let sB:=sA.trans W;let an:=W _ _ ((aq O) _ _ ae);let am:(upd G h (.lst [V.ref q])) B=some (.lst [V.int (-1)]):=W _ _ ae;let S:(upd G h (.lst [V.ref q])) q=some (.lst ((words (bN cl I "")).map V.str)):=(aq Y) _ _ L;let a2:(upd G h (.lst [V.ref q])) h=some (.lst [V.ref q]):=ae;let aA:=(aq ap).free O;let az:=(sA.trans s1).free Y;let n1:dp≠B:=λz=>by rw[z]at O;rw[ae]at O;cases O
 let n2:=ao (s1 _ _ ((aq O) _ _ (ae))) Y;let n3:=ao (s1 _ _ (ae)) Y
 let one:∀sh,ue sh->3<=sh.kind->sh.name=nameOf 0 mark->ny [(0,sh)] mark:=λsh hs hk bq=>by
  erw[(gx _,by show 1<=64;decide,?_,?_,?_)]
  .intro j hj;obtain rfl:j=0:=by let:j<1:=hj;lia
   exact(rfl,gy hk)
  .simp_all
  .intro j hj;obtain rfl:j=0:=by let:j<1:=hj;lia
   erw[bq]
 let D:=EO (cell:=cl) (other:=I) (Hk (k:=0) (mark:=mark) ∅);lk;erw[bR (λe=>?_) (λe=>?_)]
 .lk;erw[iG h _ 0 _ (gT rfl rfl (fT.of a2) rfl ?_)];let ew:(words (bN cl I "")).map V.str=[V.str "minder",V.str (qo (cl/5%4)),V.str (YA (cl/20%3)),V.str (dN (bN cl I "").bU),V.str (dN (bN cl I "").cS)]:=by rw[xC];rfl
  rw[ew]at S;erw[iG q _ 3 3 (gT rfl rfl S rfl ?_)];obtain⟨U,X⟩:∃U,U=upd (upd G h (.lst [V.ref q])) q (.lst [V.str "minder",V.str (qo (cl/5%4)),V.str (YA (cl/20%3)),V.str "100",V.str (dN (bN cl I "").cS)]):=(_,rfl);let bF:=sA.free aN;obtain⟨sh,ax⟩:∃sh:Sh,sh={bN cl I (nameOf 0 mark) with bU:=100}:=(_,rfl);let bg:dp≠q:=λz=>by rw[z]at an;rw[an]at S;cases S
  let bi:B≠q:=λz=>by rw[z]at am;rw[am]at S;cases S
  let bE:=(ao L Y).symm
  let bo:(words sh).map V.str=[V.str "minder",V.str (qo (cl/5%4)),V.str (YA (cl/20%3)),V.str "100",V.str (dN (bN cl I "").cS)]:=by
   let:cl/20%3=0\/cl/20%3=1\/cl/20%3=2:=by lia
   rw[ax];unfold words bN;rcases this with z|z|z<;>rw[z]<;>rfl
  let hok:ue sh:=by
   rw[ax];exact(D.kd,D.kp,D.m0,D.m1,D.m2,by simp,by simp,D.s0,D.s1,D.s2,D.nm)
  let z:=hn U dp B h [(0,sh)] (by rw[X];erw[uA sB bF]) ap aA az n1 n2 n3 (by rwa[X,ag bg]) (by rwa[X,ag bi])
   ([q],by rwa[X,ag bE],rfl,λj x ws g1 g2=>?_) (one sh hok (by rw[ax];erw[aj2 _ _]) (by rw[ax];rfl)) rfl
  .rw[X]at z;erw[z]
  .let hj:j=0:=by let:=(rx.mp g1).1;let:j<1:=this;lia
   subst hj;obtain rfl:q=x:=iJ g1;obtain rfl:words sh=ws:=iJ g2;rw[X,ae,bo]
 .refine hn _ dp B h [(0,bN cl I (nameOf 0 mark))] sB ap aA az n1 n2 n3 an am ([q],a2,rfl,λj x ws g1 g2=>?_) (one _ D (aj2 _ _) rfl) rfl;let hj:j=0:=by let:=(rx.mp g1).1;let:j<1:=this;lia
  subst hj;obtain rfl:q=x:=iJ g1;obtain rfl:words (bN cl I (nameOf 0 mark))=ws:=iJ g2;erw[S]
end
abbrev Ey:List Str:=["self","name","keep"]
def CW:ar Ey Ey (ah lG):=by kt_ors
abbrev GQ:List Str:=["self","name","keep","grace","slow"]
def Fn:ar GQ GQ (ah nv):=by kt_ors
abbrev Dd:List Str:=["self","name","keep","many","grace","slow"]
def BE:ar Dd Dd (ah j9):=by kt_ors
abbrev CG:List Str:=["self","name","keep","most","span"]
def Bm:ar CG CG (ah kD):=by kt_ors
abbrev zR:List Str:=["self","word"]
def ye:ar zR zR (ah iH):=by kt_ors
abbrev QW:List Str:=["self"]
def Nq:ar QW QW (ah xV):=by kt_ors
def JI:ar QW QW (ah sW):=by kt_ors
abbrev KA:List Str:=["self","steps"]
def Ii:ar KA KA (ah sM):=by kt_ors
def E2:ar KA KA (ah mR):=by kt_ors
def Er:ar KA KA (ah mQ):=by kt_ors
def yE:ar KA KA (ah iO):=by kt_ors
def Bi:ar QW QW (ah jW):=by kt_ors
def xP:ar QW QW (ah iy):=by kt_ors
def yz:ar QW QW (ah iW):=by kt_ors
def KD:ar QW QW (ah vS):=by kt_ors
def Lg:ar QW QW (ah vi):=by kt_ors
def Gn:ar QW QW (ah qw):=by kt_ors
def EV:ar QW QW (ah mU):=by kt_ors
def B1:ar QW QW (ah lF):=by kt_ors
abbrev GX:List Str:=["self","place","count","on","good"]
def Fg:ar GX GX (ah m9):=by kt_ors
def Ac:ar GX GX (ah jz):=by kt_ors
abbrev Ae:List Str:=["self","place","count","on","good","put_away","begun"]
def gP:ar Ae GX (ah iu):=by kt_ors
abbrev af1:List Str:=["place"]
def afd:ar af1 af1 (ah Yi):=by kt_ors
def ZJ:ar af1 af1 (ah MN):=by kt_ors
abbrev Vz:List Str:=["bits","others"]
def SV:ar Vz Vz (ah Ez):=by kt_ors
structure CF(K:gI)(C:eF):Prop where
 cl:rz K C
 n1:bw K C "name"
 n2:bw K C "keep"
 n3:bw K C "grace"
 n4:bw K C "slow"
 n5:bw K C "many"
 n6:bw K C "most"
 n7:bw K C "span"
def vz(s:Sh):List (Str×V):=match s.kind with
 |0=>[("name",.str s.name),("keep",.str s.keep),("grace",.int s.bU),("slow",.int s.cS)]
 |1=>[("name",.str s.name),("keep",.str s.keep),("grace",.int s.bU),("slow",.int s.cS),("many",.int s.many)]
 |2=>[("name",.str s.name),("keep",.str s.keep),("grace",.int s.bU),("slow",.int s.cS),("many",.int s.many)]
 |_=>[("name",.str s.name),("keep",.str s.keep),("most",.int s.bU),("span",.int s.cS)]
structure Pl where
 c:Nat->eF
 pr:Nat->Prop
 inj:∀i j,pr i->pr j->c i=c j->i=j
def Pl.rep(p:Pl):Rep:=λH a s=>Gk s/\p.pr s.kind/\∃e:eF,H a=some (.ins (p.c s.kind) e (vz s))
def Pl.cl(p:Pl)(j:Nat)(C:eF):Prop:=p.pr j/\C=p.c j
def Pl.mono{p:Pl}{H H':Hp}{a:eF}{s:Sh}(e:aH H H')(h:p.rep H a s):p.rep H' a s:=by
 let(g,i,f,c):=h;exact(g,i,f,e _ _ c)
def lg{p:Pl}{H:Hp}{a m:eF}{fs:List (Str×V)}{s:Sh}{j:Nat}(i:p.pr j)(g:p.rep H a s)(n:H a=some (.ins (p.c j) m fs)):s.kind=j/\fs=vz s/\Gk s:=by
 let(ok,h,f,e):=g;rw[n]at e;let e:=HO.ins.inj (iJ e);exact(p.inj _ _ h i e.1.symm,e.2.2,ok)
def G9(s:Sh):(vz s).lookup ("keep":Str)=some (.str s.keep):=by
 unfold vz
 split<;>rfl
def G1(s:Sh):(vz s).lookup ("name":Str)=some (.str s.name):=by
 unfold vz
 split<;>rfl
def Qq{s:Sh}(h:s.kind<3):(vz s).lookup ("grace":Str)=some (.int s.bU):=by
 unfold vz;let:s.kind=0\/s.kind=1\/s.kind=2:=by lia
 rcases this with z|z|z<;>rw[z]<;>rfl
def Te{s:Sh}(h:s.kind<3):(vz s).lookup ("slow":Str)=some (.int s.cS):=by
 unfold vz;let:s.kind=0\/s.kind=1\/s.kind=2:=by lia
 rcases this with z|z|z<;>rw[z]<;>rfl
def Oc{s:Sh}(h:s.kind=1\/s.kind=2):(vz s).lookup ("many":Str)=some (.int s.many):=by
 unfold vz;rcases h with z|z<;>rw[z]<;>rfl
def LV{s:Sh}(h:3<=s.kind)(ok:Gk s):vz s=([("name",V.str s.name),("keep",V.str s.keep),("most",V.int s.bU),("span",V.int s.cS)]:List (Str×V)):=by
 unfold vz;let:s.kind=3\/s.kind=4\/s.kind=5:=by let:=ok.kd;lia
 rcases this with z|z|z<;>rw[z]<;>rfl
section
variable{P:iU}{w:iP}{K:gI}{mg:Str->Option fy}{eC:h7}{f:eF}{fd:pG}{dV:fy}{p:Pl}
theorem l8{n:Nat}(h:n<=100):n<=sizeLine:=vC (aM ())
def He(K:gI):Sp:=λvs H Q _=>∃(x C c:eF) (nm a:V),vs=[.ref x,nm,a]/\CF K C/\H x=some (.ins C c [])/\Q .non (upd H x (.ins C c [("name",nm),("keep",a)]))
def aaw(F:aI K "__init__" "Child.__init__" lG dV f fd):zn 1 Ey (He K):=by
 rcases CW,(aa (aJ (pv 0) (pv 1) rfl)
   (af (aJ (pv 0) (pv 2) rfl))) with⟨x,C,dx,nm,kp,rfl,hc,hx,k⟩
 lk;erw[cw hx hc.cl hc.n1 ∅ ?_,cw ae hc.cl hc.n2 (by show 1<1000;decide) ?_];rwa[bp]
theorem made{x c C:eF}{a H:Hp}{fs:List (Str×V)}(g:a x=none)(h:a c=none)(e:H=upd (upd a c (.own x)) x (.ins C c [])):aH a (upd H x (.ins C c fs)):=λb o z=>by
 rwa[ag (ao z g),e,ag (ao z g),ag (ao z h)]
def Hg(K:gI):Sp:=λvs H Q _=>∃(x C c:eF) (nm a:V) (g l:V),vs=[.ref x,nm,a,g,l]/\CF K C/\H x=some (.ins C c [])/\Q .non (upd H x (.ins C c [("name",nm),("keep",a),("grace",g),("slow",l)]))
def P5(F:aI K "__init__" "Leaf.__init__" nv dV f fd)(a:UO P w K mg eC true 1 "Child" "__init__" (He K) []):zn 2 GQ (Hg K):=by
 rcases Fn,(aa (aE (Ig a (hr.mono (by omega)) ⋯ cI {pv 0,pv 1,pv 2}))
   (aa (aJ (pv 0) (pv 3) rfl)
   (af (aJ (pv 0) (pv 4) rfl)))) with⟨x,C,dx,nm,kp,g,l,rfl,hc,hx,k⟩
 lk;erw[oi x C dx nm kp (ll rfl hc hx ?_),cw ae hc.cl hc.n3 (by show 2<1000;decide) ?_,cw ae hc.cl hc.n4 (by show 3<1000;decide) ?_];rwa[bp,bp]
def abF(i:CF K (p.c 0))(n:p.pr 0)(F:zn 2 GQ (Hg K)):zn 2 GQ (KQ p.rep (p.c 0) YI):=by
 erw[F.imp λvs H Q E h=>?_];let(x,a,q,us,s,rfl,(nm,o,g,l,rfl,rfl,ok),j,m,ne,e,k):=h;erw[ml x (p.c 0) a _ _ _ _ (ll rfl i (by rw[e];exact ae) (k _ (made j m e) (ok,n,a,?_)))];rw[ae]
 rfl
def Oe(K:gI):Sp:=λvs H Q _=>∃(x C c:eF) (nm a:V) (m g l:V),vs=[.ref x,nm,a,m,g,l]/\CF K C/\H x=some (.ins C c [])/\Q .non (upd H x (.ins C c [("name",nm),("keep",a),("grace",g),("slow",l),("many",m)]))
def QQ(F:aI K "__init__" "Worker.__init__" j9 dV f fd)(a:UO P w K mg eC true 2 "Leaf" "__init__" (Hg K) []):zn 3 Dd (Oe K):=by
 rcases BE,(aa (aE (Ig a (hr.mono (by omega)) ⋯ cI {pv 0,pv 1,pv 2,pv 4,pv 5}))
   (af (aJ (pv 0) (pv 3) rfl))) with⟨x,C,dx,nm,kp,m,g,l,rfl,hc,hx,k⟩
 lk;erw[ml x C dx nm kp g l (ll rfl hc hx ?_),cw ae hc.cl hc.n5 (by show 4<1000;decide) ?_];rwa[bp]
def Vh(i:CF K (p.c 1))(o:p.pr 1)(F:zn 3 Dd (Oe K)):zn 3 Dd (KQ p.rep (p.c 1) P1):=by
 erw[F.imp λvs H Q E h=>?_];let(x,a,r,us,s,rfl,(nm,q,m,g,l,rfl,rfl,ok),j,n,ne,e,k):=h;erw[ex8 x (p.c 1) a _ _ _ _ _ (ll rfl i (by rw[e];exact ae) (k _ (made j n e) (ok,o,a,?_)))];rw[ae]
 rfl
def Xa(i:CF K (p.c 2))(o:p.pr 2)(F:zn 3 Dd (Oe K)):zn 3 Dd (KQ p.rep (p.c 2) Q4):=by
 erw[F.imp λvs H Q E h=>?_];let(x,a,r,us,s,rfl,(nm,q,m,g,l,rfl,rfl,ok),j,n,ne,e,k):=h;erw[ex8 x (p.c 2) a _ _ _ _ _ (ll rfl i (by rw[e];exact ae) (k _ (made j n e) (ok,o,a,?_)))];rw[ae]
 rfl
def Ts(K:gI):Sp:=λvs H Q _=>∃(x C c:eF) (nm a:V) (g l:V),vs=[.ref x,nm,a,g,l]/\CF K C/\H x=some (.ins C c [])/\Q .non (upd H x (.ins C c [("name",nm),("keep",a),("most",g),("span",l)]))
def IB(F:aI K "__init__" "Minder.__init__" kD dV f fd)(a:UO P w K mg eC true 1 "Child" "__init__" (He K) []):zn 2 CG (Ts K):=by
 rcases Bm,(aa (aE (Ig a (hr.mono (by omega)) ⋯ cI {pv 0,pv 1,pv 2}))
   (aa (aJ (pv 0) (pv 3) rfl)
   (af (aJ (pv 0) (pv 4) rfl)))) with⟨x,C,dx,nm,kp,g,l,rfl,hc,hx,k⟩
 lk;erw[oi x C dx nm kp (ll rfl hc hx ?_),cw ae hc.cl hc.n6 (by show 2<1000;decide) ?_,cw ae hc.cl hc.n7 (by show 3<1000;decide) ?_];rwa[bp,bp]
def Fl{j:Nat}(m:3<=j)(i:CF K (p.c j))(n:p.pr j)(F:zn 2 CG (Ts K)):zn 2 CG (KQ p.rep (p.c j) (CA j)):=by
 erw[F.imp λvs H Q E h=>?_];let(x,a,t,us,s,rfl,(nm,r,g,l,rfl,rfl,ok),o,q,ne,e,k):=h;erw[ml x (p.c j) a _ _ _ _ (ll rfl i (by rw[e];exact ae) (k _ (made o q e) (ok,n,a,?_)))];rw[ae,LV m ok]
def ud{j:Nat}{i:eF}(F:aI K "begun_again" "Child.begun_again" iH dV f fd)(m:p.pr j)(g:CF K (p.c j))(o:mg "FALLS"=some (.ref i))(q:∀H:Hp,jx K H i [V.str "fallen",V.str "gave up"]):
  zn 1 zR (NF p.rep (p.c j)):=by
 erw[F.okN ye (λvs H Q E h=>?_) (λn A fM s H vs Q E r h=>?_)]
 .let(a,dx,fs,s,wd,rfl,_):=h
  rfl
 .let(a,dx,fs,s,wd,rfl,hR,hi,hw,k):=h;let(_,rfl,_):=lg m hR hi;let k:=k _ (aH.refl _);refine(_,(af (au (YX (vV cq (av (pv 0) rfl) aj) (ly (pA (vV cq (av (pv 0) rfl) aj) (ly (vV Eu (pv 1) (zv ⋯ o)))))))),?_)
  erw[(_,rfl,a,p.c j,dx,_,_,rfl,hi,g.cl,g.n2,G9 _,rfl,_,rfl,?_)];unfold begun at k;erw[bR (λe=>?_) (λe=>?_)]
  .let e:=V.str.inj (iB e);rw[gy e]at k;erw[k]
  let e:=λz=>e (gy (iY V.str z));rw[iR e]at k;erw[(_,rfl,a,p.c j,dx,_,_,rfl,hi,g.cl,g.n2,G9 _,rfl,_,rfl,?_)];erw[bR (λe2=>?_) (λe2=>?_)]
  .let e2:=V.str.inj (iB e2);refine ju rfl (jl i _ (gT rfl (.inr (q _)) rfl rfl ?_))
   let e3:M5 (V.str wd) [V.str "fallen",V.str "gave up"]=(decide (wd="fallen")||decide (wd="gave up")):=by
    rw[tL];simp only[M5,pf,aj6,aoI,Nw,xc,pD,rW];exact(λz=>z.imp Eq.symm Eq.symm,λz=>z.imp Eq.symm Eq.symm)
   rw[gy e2,<-e3]at k;erw[k]
  .let e2:=λz=>e2 (gy (iY V.str z));rw[iR e2]at k;erw[k]
def IQ{j:Nat}(F:aI K "leaf" "Leaf.leaf" xV dV f fd)(g:p.pr j)(m:j<3):zn 1 QW (xT p.rep (p.c j)):=by
 erw[F.okN Nq (λvs H Q E h=>?_) (λi A fM s H vs Q E n h=>?_)]
 .let(a,dx,fs,s,rfl,_):=h
  rfl
 .let(a,dx,fs,s,rfl,hR,hi,k):=h;let(e,rfl,ok):=lg g hR hi;refine(_,(af (au cP)),?_)
  let k:=k _ (aH.refl _);rw[gy ()]at k;erw[k]
def Kc{j:Nat}(F:aI K "leaf" "Minder.leaf" sW dV f fd)(g:p.pr j)(m:3<=j):zn 1 QW (xT p.rep (p.c j)):=by
 erw[F.okN JI (λvs H Q E h=>?_) (λi A fM s H vs Q E n h=>?_)]
 .let(a,dx,fs,s,rfl,_):=h
  rfl
 .let(a,dx,fs,s,rfl,hR,hi,k):=h;let(e,rfl,ok):=lg g hR hi;refine(_,(af (au cP)),?_)
  let k:=k _ (aH.refl _);rw[iR ()]at k;erw[k]
def Fu(s:Sh):List Str:=match s.kind with
 |0=>["idle"]
 |1=>["steady",dN s.many]
 |_=>["falls",dN s.many]
def Bu(R:Rep)(C:eF):Sp:=λvs H Q _=>∃(a c:eF) (fs:List (Str×V)) (s:Sh),vs=[.ref a]/\R H a s/\H a=some (.ins C c fs)/\s.kind<3∧
 ∀(q:eF) (H':Hp),aH H H'->H q=none->H' q=some (.lst ((Fu s).map V.str))->Q (.ref q) H'
def aay(F:aI K "work_words" "Leaf.work_words" jW dV f fd)(i:p.pr 0):zn 1 QW (Bu p.rep (p.c 0)):=by
 erw[F.okN Bi (λvs H Q E h=>?_) (λj A fM s H vs Q E m h=>?_)]
 .let(a,dx,fs,s,rfl,_):=h
  rfl
 .let(a,dx,fs,s,rfl,hR,hi,h3,k):=h;let(e,rfl,ok):=lg i hR hi;refine(_,(af (au (aP {(aj)}))),?_)
  erw[(l8 (show 1<=100 by decide),λq g=>k q _ (aq g) g ?_)];rw[ae];unfold Fu;rw[e]
  rfl
def XJ(F:aI K "work_words" "Steady.work_words" iy dV f fd)(T:Txt mg)(j:p.pr 1)(g:CF K (p.c 1)):zn 1 QW (Bu p.rep (p.c 1)):=by
 erw[F.okN xP (λvs H Q E h=>?_) (λm A fM s H vs Q E n h=>?_)]
 .let(a,dx,fs,s,rfl,_):=h
  rfl
 .let(a,dx,fs,s,rfl,hR,hi,h3,k):=h;let(e,rfl,ok):=lg j hR hi;refine(_,(af (au (aP {(aj),cv bV ⋯ T.tS lE {av (pv 0) rfl}}))),?_)
  erw[(_,rfl,a,p.c 1,dx,_,_,rfl,hi,g.cl,g.n5,Oc (.inl e),_,rfl,dC ok.m0 ok.m1,l8 (show 2<=100 by decide),λq i=>k q _ (aq i) i ?_)];rw[ae];unfold Fu;rw[e]
  rfl
def Zk(F:aI K "work_words" "Faller.work_words" iW dV f fd)(T:Txt mg)(j:p.pr 2)(g:CF K (p.c 2)):zn 1 QW (Bu p.rep (p.c 2)):=by
 erw[F.okN yz (λvs H Q E h=>?_) (λm A fM s H vs Q E n h=>?_)]
 .let(a,dx,fs,s,rfl,_):=h
  rfl
 .let(a,dx,fs,s,rfl,hR,hi,h3,k):=h;let(e,rfl,ok):=lg j hR hi;refine(_,(af (au (aP {(aj),cv bV ⋯ T.tS lE {av (pv 0) rfl}}))),?_)
  erw[(_,rfl,a,p.c 2,dx,_,_,rfl,hi,g.cl,g.n5,Oc (.inr e),_,rfl,dC ok.m0 ok.m1,l8 (show 2<=100 by decide),λq i=>k q _ (aq i) i ?_)];rw[ae];unfold Fu;rw[e]
  rfl
def Sq{s:Sh}(h:s.kind<3):words s=[("leaf":Str),s.keep,dN s.bU,dN s.cS]++Fu s:=by
 unfold words Fu;let:s.kind=0\/s.kind=1\/s.kind=2:=by lia
 rcases this with z|z|z<;>rw[z]<;>rfl
def YO(s:Sh):(Fu s).length<=2:=by
 unfold Fu
 split<;>simp
def DN{j:Nat}(F:aI K "words" "Leaf.words" vS dV f fd)(T:Txt mg)(z:p.pr j)(m:j<3)(i:CF K (p.c j))(hs:xz 1 "work_words" (Bu p.rep) λC=>C=p.c j):
  zn 2 QW (Om p.rep (p.c j)):=by
 erw[F.okN KD (λvs H Q E h=>?_) (λB A fM s H vs Q E I h=>?_)]
 .let(a,dx,fs,s,rfl,_):=h
  rfl
 .let(a,dx,fs,s,rfl,hR,hi,k):=h;let g:=hs.d;let(e,rfl,ok):=lg z hR hi;let m:s.kind<3:=by lia
  erw[(_,(af (au (aG JX (aP {(aj),av (pv 0) rfl,cv bV ⋯ T.tS lE {av (pv 0) rfl},cv bV ⋯ T.tS lE {av (pv 0) rfl}}) (kU (pv 0) g)))),?_)]
  refine(_,rfl,a,p.c j,dx,_,_,rfl,hi,i.cl,i.n2,G9 _,_,rfl,a,p.c j,dx,_,_,rfl,hi,i.cl,i.n3,Qq m,_,rfl,dC ok.g0 ok.g1,_,rfl,a,p.c j,dx,_,_,rfl,hi,i.cl,i.n4,Te m,_,rfl,dC ok.s0 ok.s1,
   l8 (show 4<=100 by decide),λu x=>?_)
  let n:aH H (upd H u (.lst [V.str "leaf",.str s.keep,.str (dN s.bU),.str (dN s.cS)])):=aq x;erw[(_,rfl,a,p.c j,dx,_,_,_,rfl,n _ _ hi,(rfl,rfl,rfl),(by unfold vz;split<;>rfl),a,dx,_,s,rfl,Pl.mono n hR,n _ _ hi,m,λq G o D t=>?_)]
  let r:=o _ _ (ae);erw[iG u q _ _ (pE rfl rfl r t ?_ (λy v=>?_))]
  .rw[gQ];let:=YO s;erw[l8 (by show 4+_<=100;lia)]
  .refine k y _ ((n.trans o).trans (aq v)) ((n.trans o).free v) ?_;rw[ae,Sq m]
   rfl
def aaG(F:aI K "end_at" "Leaf.end_at" sM dV f fd)(g:p.pr 0):zn 1 KA (L9 p.rep (p.c 0)):=by
 erw[F.okN Ii (λvs H Q E h=>?_) (λi A fM s H vs Q E j h=>?_)]
 .let(a,dx,fs,s,n,rfl,_):=h
  rfl
 .let(a,dx,fs,s,n,rfl,hR,hi,h3,h0,hm,k):=h;let(e,rfl,ok):=lg g hR hi;refine(_,(af (au aj)),?_)
  let k:=k _ (aH.refl _);unfold endAt at k;rw[fC (),fC ()]at k;erw[k]
def Q5(R:Rep)(C:eF):Sp:=λvs H Q _=>∃(a c:eF) (fs:List (Str×V)) (s:Sh) (n:Int),vs=[.ref a,.int n]/\R H a s/\H a=some (.ins C c fs)/\Q (.bl (decide (s.many<=n))) H
def Xs{j:Nat}(F:aI K "worked_out" "Worker.worked_out" iO dV f fd)(i:p.pr j)(o:j=1\/j=2)(g:CF K (p.c j)):zn 1 KA (Q5 p.rep (p.c j)):=by
 erw[F.okN yE (λvs H Q E h=>?_) (λm A fM s H vs Q E q h=>?_)]
 .let(a,dx,fs,s,n,rfl,_):=h
  rfl
 .let(a,dx,fs,s,n,rfl,hR,hi,k):=h;let(e,rfl,ok):=lg i hR hi;refine(_,(af (au (vV Ym (pv 1) (av (pv 0) rfl)))),?_)
  erw[ju rfl (ju rfl (oi a (p.c j) dx _ _ (pE rfl hi g.cl g.n5 (Oc ()) ?_))),k]
def abC(F:aI K "end_at" "Steady.end_at" mR dV f fd)(j:p.pr 1)(hs:xz 1 "worked_out" (Q5 p.rep) λC=>C=p.c 1):zn 2 KA (L9 p.rep (p.c 1)):=by
 erw[F.okN E2 (λvs H Q E h=>?_) (λm A fM s H vs Q E o h=>?_)]
 .let(a,dx,fs,s,n,rfl,_):=h
  rfl
 .let(a,dx,fs,s,n,rfl,hR,hi,h3,h0,i,k):=h;let g:=hs.d;let(e,rfl,ok):=lg j hR hi;refine(_,(af (au (pR (bx (lS (pv 0) g {pv 1})) aj aj))),?_)
  erw[(_,rfl,a,p.c 1,dx,_,_,_,rfl,hi,(rfl,rfl,rfl),(by unfold vz;split<;>rfl),_,rfl,a,dx,_,s,n,rfl,hR,hi,?_)]
  let k:=k _ (aH.refl _);let i:=i ();unfold endAt at k;lk;erw[bR (λe1=>?_) (λe1=>?_)]
  .rw[fR (e,())]at k;erw[k]
  .rw[fC (),fC ()]at k;erw[k]
def aaJ(F:aI K "end_at" "Faller.end_at" mQ dV f fd)(j:p.pr 2)(hs:xz 1 "worked_out" (Q5 p.rep) λC=>C=p.c 2):zn 2 KA (L9 p.rep (p.c 2)):=by
 erw[F.okN Er (λvs H Q E h=>?_) (λm A fM s H vs Q E o h=>?_)]
 .let(a,dx,fs,s,n,rfl,_):=h
  rfl
 .let(a,dx,fs,s,n,rfl,hR,hi,h3,h0,i,k):=h;let g:=hs.d;let(e,rfl,ok):=lg j hR hi;refine(_,(af (au (pR (bx (lS (pv 0) g {pv 1})) aj aj))),?_)
  erw[(_,rfl,a,p.c 2,dx,_,_,_,rfl,hi,(rfl,rfl,rfl),(by unfold vz;split<;>rfl),_,rfl,a,dx,_,s,n,rfl,hR,hi,?_)]
  let k:=k _ (aH.refl _);let i:=i ();unfold endAt at k;lk;erw[bR (λe1=>?_) (λe1=>?_)]
  .rw[fC (),fR (e,())]at k;erw[k]
  .rw[fC (),fC ()]at k;erw[k]
def Yr:Nat->Str
 |3=>"one"
 |4=>"all"
 |_=>"rest"
def JZ(R:Rep)(C:eF):Sp:=λvs H Q _=>∃(a c:eF) (fs:List (Str×V)) (s:Sh),vs=[.ref a]/\R H a s/\H a=some (.ins C c fs)/\Q (.str (Yr s.kind)) H
def abH(F:aI K "way" "Minder.way" vi dV f fd)(g:p.pr 3):zn 1 QW (JZ p.rep (p.c 3)):=by
 erw[F.okN Lg (λvs H Q E h=>?_) (λi A fM s H vs Q E j h=>?_)]
 .let(a,dx,fs,s,rfl,_):=h
  rfl
 .let(a,dx,fs,s,rfl,hR,hi,k):=h;let(e,rfl,ok):=lg g hR hi;refine(_,(af (au aj)),?_)
  rw[e]at k;erw[k]
def acR(F:aI K "way" "AllMinder.way" mU dV f fd)(g:p.pr 4):zn 1 QW (JZ p.rep (p.c 4)):=by
 erw[F.okN EV (λvs H Q E h=>?_) (λi A fM s H vs Q E j h=>?_)]
 .let(a,dx,fs,s,rfl,_):=h
  rfl
 .let(a,dx,fs,s,rfl,hR,hi,k):=h;let(e,rfl,ok):=lg g hR hi;refine(_,(af (au aj)),?_)
  rw[e]at k;erw[k]
def abY(F:aI K "way" "RestMinder.way" lF dV f fd)(g:p.pr 5):zn 1 QW (JZ p.rep (p.c 5)):=by
 erw[F.okN B1 (λvs H Q E h=>?_) (λi A fM s H vs Q E j h=>?_)]
 .let(a,dx,fs,s,rfl,_):=h
  rfl
 .let(a,dx,fs,s,rfl,hR,hi,k):=h;let(e,rfl,ok):=lg g hR hi;refine(_,(af (au aj)),?_)
  rw[e]at k;erw[k]
def MU{s:Sh}(h:3<=s.kind)(ok:Gk s):words s=[("minder":Str),s.keep,Yr s.kind,dN s.bU,dN s.cS]:=by
 unfold words Yr;let:s.kind=3\/s.kind=4\/s.kind=5:=by let:=ok.kd;lia
 rcases this with z|z|z<;>rw[z]<;>rfl
def E9{j:Nat}(F:aI K "words" "Minder.words" qw dV f fd)(T:Txt mg)(r:p.pr j)(m:3<=j)(i:CF K (p.c j))(hs:xz 1 "way" (JZ p.rep) λC=>C=p.c j):
  zn 2 QW (Om p.rep (p.c j)):=by
 erw[F.okN Gn (λvs H Q E h=>?_) (λt A fM s H vs Q E u h=>?_)]
 .let(a,dx,fs,s,rfl,_):=h
  rfl
 .let(a,dx,fs,s,rfl,hR,hi,k):=h;let g:=hs.d;let(e,rfl,ok):=lg r hR hi;let m:3<=s.kind:=by lia
  let n:=LV m ok;erw[(_,(af (au (aP {(aj),av (pv 0) rfl,kU (pv 0) g,cv bV ⋯ T.tS lE {av (pv 0) rfl},cv bV ⋯ T.tS lE {av (pv 0) rfl}}))),?_)]
  refine(_,rfl,a,p.c j,dx,_,_,rfl,hi,i.cl,i.n2,G9 _,_,rfl,a,p.c j,dx,_,_,_,rfl,hi,(rfl,rfl,rfl),(by rw[n];rfl),a,dx,_,s,rfl,hR,hi,_,rfl,a,p.c j,dx,_,.int s.bU,rfl,hi,i.cl,i.n6,(by rw[n];rfl),_,rfl,dC ok.g0 ok.g1,
   _,rfl,a,p.c j,dx,_,.int s.cS,rfl,hi,i.cl,i.n7,(by rw[n];rfl),_,rfl,dC ok.s0 ok.s1,l8 (show 5<=100 by decide),λq o=>k q _ (aq o) o ?_)
  rw[ae,MU m ok]
  rfl
def Mx:Sp:=λvs H Q _=>∃n:Nat,vs=[.int n]/\n<=1000000/\Q (.int ((2^n:Nat):Int)) H
def afy(F:wv "bit" Yi):zn 1 af1 Mx:=by
 erw[F.CK afd λvs H Q E h=>?_];let(n,rfl,c,k):=h;erw[(rfl,λa A fM s e=>(_,(af (au (aG Z6 ai (pv 0)))),?_))]
 lk;erw[(((),(),∅),?_)];rw[<- Uk]at k;erw[k]
def G6:Sp:=λvs H Q _=>∃n:Nat,vs=[.int n]/\n<=1000000/\Q (.int ((2^n-1:Nat):Int)) H
def Ze(F:wv "below" MN):zn 1 af1 G6:=by
 erw[F.CK ZJ λvs H Q E h=>?_];let(n,rfl,c,k):=h;erw[(rfl,λa A fM s e=>(_,(af (au (aG E7 (aG Z6 ai (pv 0)) ai))),?_))]
 lk;erw[(((),(),∅),?_)];lk;rw[<- VF]at k;erw[k]
def zB:Sp:=λvs H Q _=>∃a b:Nat,vs=[.int a,.int b]/\Q (.int ((a &&& (a ^^^ b):Nat):Int)) H
def Ru(F:wv "without" Ez):zn 1 Vz zB:=by
 rcases SV,(af (au (aG Kb (pv 0) (Ds adF (pv 1))))) with⟨a,b,rfl,k⟩;lk;rw[<- Le]at k;erw[k]
def vN(n m:Nat)(h:n<=m):2^n-1=cV (λk=>decide (k<n)) m:=by
 erw[Dq λk=>?_];rw[alE];lia
def oJ(f g:Nat->Bool)(n:Nat):cV f n &&& (cV f n ^^^ cV g n)=cV (λk=>f k&& !g k) n:=by
 erw[Dq λk=>?_];rw[Cf,ajG,aT,aT];cases decide (k<n)<;>cases f k<;>cases g k<;>rfl
def Yz{k n:Nat}(h:k<n):2^k=cV (λj=>decide (j=k)) n:=by
 erw[Dq λj=>?_];rw[akw];lia
def Bc{f g:Nat->Bool}{n:Nat}(h:∀k,k<n->f k=g k):cV f n=cV g n:=by
 erw[Dq λk=>?_];rw[aT];by_cases z:k<n
 .rw[h k z]
 .rw[iR z,Hy,Hy]
def S6(F:aI K "chosen" "Minder.chosen" m9 dV f fd)(m:p.pr 3)(j:wE true 1 "bit" Mx []):zn 2 GX (yy p.rep (p.c 3)):=by
 erw[F.okN Fg (λvs H Q E h=>?_) (λn A fM s H vs Q E o h=>?_)]
 .let(a,dx,fs,s,pl,ct,f,g,rfl,_):=h
  rfl
 .let(a,dx,fs,s,pl,ct,f,g,rfl,hR,hi,h3,hp,hc,hf,hg,k):=h;let(e,rfl,ok):=lg m hR hi;refine(_,(af (au (xB {(ai),cn j {pv 1}}))),?_)
  lk;erw[((),?_),(l8 (show 2<=100 by decide),λq i=>k q _ (aq i) i ?_)];rw[ae,e,Yz hp]
  rfl
def RH(F:aI K "chosen" "AllMinder.chosen" jz dV f fd)(j:p.pr 4)(m:wE true 1 "below" G6 [])(n:wE true 1 "without" zB []):
  zn 2 GX (yy p.rep (p.c 4)):=by
 erw[F.okN Ac (λvs H Q E h=>?_) (λo A fM s H vs Q E u h=>?_)]
 .let(a,dx,fs,s,pl,ct,f,g,rfl,_):=h
  rfl
 .let(a,dx,fs,s,pl,ct,f,g,rfl,hR,hi,h3,hp,hc,hf,hg,k):=h;let(e,rfl,ok):=lg j hR hi;refine(_,(af (au (xB {pv 3,cn n {cn m {pv 2},pv 4}}))),?_)
  lk;erw[((),?_),(l8 (show 2<=100 by decide),λq i=>k q _ (aq i) i ?_)];rw[ae,e,vN ct ct (gx _),oJ];let r:cV (λk=>decide (k<ct)&& !g k) ct=cV (λk=> !g k) ct:=Bc λk t=>by rw[gy t,so]
  rw[r]
  rfl
def RY(F:aI K "chosen" "RestMinder.chosen" iu dV f fd)(r:p.pr 5)(j:wE true 1 "below" G6 [])(m:wE true 1 "without" zB []):
  zn 2 GX (yy p.rep (p.c 5)):=by
 erw[F.okN gP (λvs H Q E h=>?_) (λt A fM s H vs Q E u h=>?_)]
 .let(a,dx,fs,s,pl,ct,f,g,rfl,_):=h
  rfl
 .let(a,dx,fs,s,pl,ct,f,g,rfl,hR,hi,h3,hp,hc,hf,hg,k):=h;let(e,rfl,ok):=lg r hR hi
  refine(_,(aa (bH (i:=5) gP.nd (cn m {pv 3,cn j {aG gG (pv 1) ai}}))
   (aa (bH (i:=6) gP.nd (cn m {cn j {pv 2},cn j {pv 1}}))
   (af (au (xB {pv 5,cn m {pv 6,pv 4}}))))),?_)
  lk;erw[((by lia),?_),((),?_),((),?_),(l8 (show 2<=100 by decide),λq n=>k q _ (aq n) n ?_)];rw[ae,e,vN (pl+1) ct (),vN ct ct (gx _),vN pl ct (),oJ,oJ,oJ]
  let e1:cV (λk=>f k&& !decide (k<pl+1)) ct=cV (λk=>f k&&decide (pl<k)) ct:=Bc λk o=>by
   let:(!decide (k<pl+1))=decide (pl<k):=by
    by_cases z:pl<k
    .rw[gy z,iR ()];rfl
    .rw[iR z,gy ()];rfl
   rw[this]
  let e2:cV (λk=>(decide (k<ct)&& !decide (k<pl))&& !g k) ct=cV (λk=>decide (pl<=k)&& !g k) ct:=Bc λk o=>by
   let:(!decide (k<pl))=decide (pl<=k):=by
    by_cases z:pl<=k
    .rw[gy z,iR ()];rfl
    .rw[iR z,gy ()];rfl
   rw[this,gy o,so]
  rw[e1,e2]
  rfl
open PySem L2 Shp Nm Tr Hs PySem.NumText
abbrev W4:List Str:=["text","signs"]
def R8:ar W4 W4 (ah Ed):=by kt_ors
abbrev IL:List Str:=["text"]
def GK:ar IL IL (ah pU):=by kt_ors
abbrev Qg:List Str:=["text","most","bound"]
abbrev xW:List Str:=["text","most"]
def Cs:ar Qg xW (ah xM):=by kt_ors
def Sr:ar IL IL (ah D8):=by kt_ors
abbrev We:List Str:=["words","name","keep","grace","slow","work","many"]
abbrev L0:List Str:=["words"]
def jr:ar We L0 (ah Et):=by kt_ors
abbrev Qk:List Str:=["words","name","keep","way","most","span"]
def g7:ar Qk L0 (ah yN):=by kt_ors
def Fp:ar L0 L0 (ah ni):=by kt_ors
def PQ:ar L0 L0 (ah BS):=by kt_ors
def Fi:ar QW QW (ah nj):=by kt_ors
def KR:ar QW QW (ah vf):=by kt_ors
abbrev Qa:List Str:=["self","name"]
def Ni:ar Qa Qa (ah yo):=by kt_ors
abbrev QO:List Str:=["self","child","blanks","above"]
def MG:ar QO QO (ah zf):=by kt_ors
abbrev zK:List Str:=["self","blanks","place","fits"]
abbrev nB:List Str:=["self","blanks"]
def gE:ar zK nB (ah iQ):=by kt_ors
abbrev K5:List Str:=["row","rest"]
abbrev AN:List Str:=["row"]
def yK:ar K5 AN (ah rV):=by kt_ors
def Q8:ar AN AN (ah BO):=by kt_ors
def Gv:ar AN AN (ah qb):=by kt_ors
abbrev Lu:List Str:=["tree","child","blanks","above"]
def Im:ar Lu Lu (ah rO):=by kt_ors
abbrev Jz:List Str:=["tree","row","number","child","blanks","above"]
abbrev HE:List Str:=["tree","row","number"]
def rg:ar Jz HE (ah pP):=by kt_ors
abbrev aei:List Str:=["text","tree","number","row"]
def Hi:ar aei IL (ah SO):=by kt_ors
def qU{n:Nat}(h:n<=100010):n<=sizeLine:=by rw[LQ];lia
def Jy:Sp:=λvs H Q _=>∃x y:Str,vs=[.str x,.str y]/\x.length<=100000/\∀H',aH H H'->Q (.bl ((gu x).all λc=>(gu y).contains c)) H'
def Vp(F:wv "made_of" Ed)(T:Txt mg):zn 1 W4 Jy:=by
 rcases R8,(af (au (a9 (Z2 rfl) ⋯ T.agg aeR {gU (fr:=[("signs",1)]) (by kd_p) rfl (aeX (pv 0)) (λ_ _ _ _=>Br) (λ_ _ _ _=>(TH Vl (pv 0) (pv 1) (by rfl)))}))) with⟨x,y,rfl,j,k⟩;let h:=bT x;lk;erw[cO (n:=x.length) (λi ys H'=>H'=H/\ys=((gu x).take i).map λc=>V.bl ((gu y).contains c)) (rfl,rfl) (λi ys H' e _=>e) (λys H' _=>rfl) ?_ ?_]
 .rintro i ys H' v H2 e ⟨rfl,rfl⟩ ⟨rfl,c,a,rfl⟩;let a:(gu x)[i]? =some c:=by rw[<- a];exact ak3
  lk;rw[afv];erw[(?_,rfl,?_)]
  .rw[gQ,ve,LQ]
   lia
  .rw[AD,a,kr]
   rfl
 .rintro ys H' ⟨rfl,rfl⟩;rw[show x.length=(gu x).length from h.symm,zN];erw[(qU (by rw[gQ];lia),λq g=>?_)];refine(q,(gu x).map λc=>(gu y).contains c,rfl,?_,?_)
  .rw[akl];erw[fT.of ae]
  .rw[ang];erw[k _ (aq g)]
def Ln(x:Str):Bool:=decide (1<=x.length)&&decide (x.length<=12)&&(gu x).all NZ
def Pj:Sp:=λvs H Q _=>∃x:Str,vs=[.str x]/\x.length<=100000/\∀H',aH H H'->Q (.bl (Ln x)) H'
def ae4:("abcdefghijklmnopqrstuvwxyz":Str)++("0123456789":Str)="abcdefghijklmnopqrstuvwxyz0123456789":=by decide +kernel
def VB{g q e:Tok}(F:wv "is_name" D8)(T:Txt mg)(i:mg "LETTERS"=some (.str "abcdefghijklmnopqrstuvwxyz" g))(t:mg "LONGEST"=some (.int 12 q))(r:mg "FIGURES"=some (.str "0123456789" e))
  (n:wE true 1 "made_of" Jy []):zn 2 IL Pj:=by
 erw[F.CK Sr λvs H Q E h=>?_];let(x,rfl,j,k):=h;erw[(rfl,λm A fM s v=>(_,(af (au (pA (XU nI adm ai (a9 oy ⋯ T.fH cW {pv 0}) (uW ⋯ t)) (ly (cn n {pv 0,aG o6 (Oh ⋯ i) (Oh ⋯ r)}))))),?_))]
 let a:=k _ (aH.refl _);lk;erw[(qU (),?_),bR (λe1=>?_) (λe1=>?_)]
 .lk;refine bR (λe2=>?_) (λe2=>?_)
  .lk;erw[(by decide +kernel,?_),(j,λu o=>?_)];rw[ae4]
   let:Ln x=(gu x).all λc=>(gu "abcdefghijklmnopqrstuvwxyz0123456789").contains c:=by
    unfold Ln;rw[gy (show 1<=x.length by lia),gy (show x.length<=12 by lia),so,so]
    congr 1
    funext c
    exact(adU c).symm
   rw[<- this];erw[k _ o]
  .let:Ln x=false:=by
    unfold Ln;rw[iR (show ¬x.length<=12 by lia),akj,Hy]
   rw[this]at a;erw[a]
 .let:Ln x=false:=by
   unfold Ln;rw[iR (show ¬1<=x.length by lia),Hy,Hy]
  rw[this]at a;lk;erw[a]
def Yu:Sp:=λvs H Q _=>∃x:Str,vs=[.str x]/\x.length<=100000/\∀H',aH H H'->Q (.bl (BG x)) H'
def acP{y q:Tok}(F:wv "told_plainly" pU)(T:Txt mg)(B:mg "MOST_FIGURES"=some (.int 7 y))(v:mg "FIGURES"=some (.str "0123456789" q))
  (C:wE true 1 "made_of" Jy []):zn 2 IL Yu:=by
 erw[F.CK GK λvs H Q E h=>?_];let(x,rfl,n,k):=h
 refine(rfl,λu A fM s G=>(_,(aa (aO (PW.pt (nR (ix cq (pv 0) aj) (qp (ix LH (a9 oy ⋯ T.fH cW {pv 0}) (uW ⋯ B))))) (af (au cP)) ay)
   (aa (aO (PW.pt (iq (ix cq (rD (pv 0) ai (λ_ _=>rfl)) aj) (eU (ix uO (pv 0) aj)))) (af (au cP)) ay)
   (af (au (cn C {pv 0,Oh ⋯ v}))))),?_))
 let no:BG x=false->Q (.bl false) H:=λz=>by
  let:=k H (aH.refl _);rw[z]at this;erw[this]
 lk;erw[bR (λe=>?_) (λe=>?_)]
 .let e:=V.str.inj (iB e);erw[no ?_];subst e
  rfl
 let e:=λz=>e (gy (iY V.str z));let ne:gu x≠[]:=λz=>e (vh z);lk;erw[(qU (),?_),bR (λe2=>?_) (λe2=>?_)]
 .erw[no ?_];unfold BG;rw[iR (show ¬x.length<=7 by lia),akj,Hy,Hy]
 obtain⟨c,r,g⟩:∃c r,gu x=c::r:=by
  cases z:gu x with
  |nil=>erw[absurd z ne]
  |cons c r=>exact(c,r,rfl)
 let t:x.cps[0]? =some c:=by rw[<- ak3];show(gu x)[0]? =_;rw[g];rfl
 let D:0<x.length:=by rw[<- bT,g];erw[ali _]
 lk;erw[mI _ _ c (kR rfl rfl () () (by lia) t ?_)]
 let a:((gu x).head? =some 48->gu x=[48])->∀H',aH H H'->Q (.bl ((gu x).all λc=>(gu "0123456789").contains c)) H':=λz H' o=>by
  let:=k H' o;unfold BG at this;rw[gy ne,gy (show x.length<=7 by lia),gy z,so]at this;let e:=funext abV;rwa[e]
 lk;erw[bR (λe3=>?_) (λe3=>?_)]
 .let e3:=by
   let z:=V.str.inj (iB e3);let z:=iY gu z;erw[List.head_eq_of_cons_eq z]
  subst e3;lk;erw[bR (λe4=>?_) (λe4=>?_)]
  .refine no ?_
   let e4:x≠"0":=λz=>by
    rw[z]at e4;erw[absurd e4 ∅]
   let j:¬((gu x).head? =some 48->gu x=[48]):=λz=>e4 (vh (z (by rw[g];rfl)));unfold BG;rw[iR j,akj,Hy]
  .let e4:x="0":=by
    lia
   lk;exact(n,λi m=>a (λ_=>by rw[e4];rfl) i m)
 .let e3:c≠48:=λz=>e3 (by subst z;erw[gy rfl]);lk;exact(n,λi m=>a (λz=>by rw[g]at z;erw[absurd (iJ z) e3]) i m)
def Ul:Sp:=λvs H Q _=>∃(x:Str) (v:Int),vs=[.str x,.int 1000000]/\numOf x=some v/\∀H',aH H H'->Q (.int v) H'
def aeZ{h:Tok}(F:wv "number_in" xM)(T:Txt mg)(c:mg "GREATEST"=some (.int 1000000 h))
  (j:wE true 2 "told_plainly" Yu []):zn 3 xW Ul:=by
 rcases Cs,(aa (bH (i:=2) Cs.nd (a9 (WA rfl) ⋯ T.af3 aef {pv 1,uW ⋯ c}))
   (aa (aO (PW.pt (nR (fA (bx (cn j {pv 0}))) (qp (ix LH (cv AM ⋯ T.adw Y3 {pv 0}) (pv 2))))) (af yR) ay)
   (af (au (cv AM ⋯ T.adw Y3 {pv 0}))))) with⟨x,v,rfl,hn,k⟩
 let(m,a,q,o,r):=jS hn;lk;erw[((),λn g=>?_)];rw[m];lk;erw[jl x v (ll rfl a () ?_),bR (λe=>?_) (λe=>?_)]
 .exact absurd (iB e) ()
 .lk;exact(x,v,rfl,a,(),k _ g)
structure MkT(P:iU)(w:iP)(K:gI)(mg:Str->Option fy)(eC:h7)(p:Pl)(k:Nat):Prop where
 leaf:wr true k "Leaf" (p.c 0) (KQ p.rep (p.c 0) YI) []
 aeP:wr true k "Steady" (p.c 1) (KQ p.rep (p.c 1) P1) []
 aem:wr true k "Faller" (p.c 2) (KQ p.rep (p.c 2) Q4) []
 one:wr true k "Minder" (p.c 3) (KQ p.rep (p.c 3) (CA 3)) []
 all:wr true k "AllMinder" (p.c 4) (KQ p.rep (p.c 4) (CA 4)) []
 rest:wr true k "RestMinder" (p.c 5) (KQ p.rep (p.c 5) (CA 5)) []
def Fs(K:gI)(p:Pl)(b:Option Bool):Sp:=λvs H Q _=>∃(q:eF) (c:List Str) (s:Sh),vs=[.ref q]/\fT K H q (c.map V.str)/\rowOf c=some s/\(b=some true->c.head? =some ("leaf":Str))/\(b=some false->c.head? ≠some ("leaf":Str))/\(∀x∈c,x.length<=100000)/\∀a H',aH H H'->H a=none->p.rep H' a s->Q (.ref a) H'
def jY{H H':Hp}{a:eF}(e:aH H H')(h:H' a=none):H a=none:=by
 cases z:H a with
 |none=>rfl
 |some o=>rw[e _ _ z]at h;cases h
theorem LD(a:List Str):(a.map V.str).all gH=true:=z8.mpr λx c=>by
 let(y,_,rfl):=tU.mp c
 rfl
def Vf(F:wv "leaf_in" Et)(T:Txt mg)(M:MkT P w K mg eC p 3)(cR:wE true 3 "number_in" Ul [.int 1000000]):zn 5 L0 (Fs K p (some true)):=by
 erw[F.okN jr (λvs H Q E h=>?_) (λab A fM s0 H vs Q E X h=>?_)]
 .let(q,ws,s,rfl,_):=h
  rfl
 .let(q,ws,s,rfl,hS,hw,hd,_,hz,k):=h;let n:=M.leaf;let a:=M.aeP;let c:=M.aem;let ok:=(X9 hw).okS
  refine(_,(aa (bH (i:=1) jr.nd (ig aB (pv 0) (Ds yk ai)))
   (aa (bH (i:=2) jr.nd (ig aB (pv 0) ai))
   (aa (bH (i:=3) jr.nd (cn cR {ig aB (pv 0) ai}))
   (aa (bH (i:=4) jr.nd (cn cR {ig aB (pv 0) ai}))
   (aa (bH (i:=5) jr.nd (pO uT (pv 0) (oG ai) (oG (Ds yk ai))))
   (aa (aO (ix (A1 (iM X)) (pv 5) (aP {(aj)})) (af (au (vy n (X.mono (by omega)) ⋯ cI {pv 1,pv 2,pv 3,pv 4}))) ay)
   (aa (aO (ix uO (a9 aU ⋯ T.fH cW {pv 5}) ai) (af (au fO)) ay)
   (aa (bH (i:=6) jr.nd (cn cR {ig aB (pv 5) ai}))
   (aa (aO (ix cq (ig aB (pv 5) ai) aj) (af (au (vy a (X.mono (by omega)) ⋯ cI {pv 1,pv 2,pv 6,pv 3,pv 4}))) ay)
   (aa (aO (ix cq (ig aB (pv 5) ai) aj) (af (au (vy c (X.mono (by omega)) ⋯ cI {pv 1,pv 2,pv 6,pv 3,pv 4}))) ay)
   (af (au fO)))))))))))),?_)
  fin2
  rcases Ja hw (hd rfl) with⟨G,g,l,nm,D,I,rfl,c1,c2,Z,el,rfl⟩|⟨G,g,l,v,m,nm,D,I,mi,kd,rfl,c1,c2,ck,Z,el,em,rfl⟩
  .lk;erw[iG q _ _ (V.str nm) (gT rfl rfl hS rfl ?_),iG q _ _ (V.str G) (gT rfl rfl hS rfl ?_),iG q _ _ (V.str g) (gT rfl rfl hS rfl ?_)];erw[jl g D (kz rfl Z (λH1 C=>?_)),iG q _ _ (V.str l) (gT rfl rfl (hS.same C) rfl ?_)];erw[jl l I (kz rfl el (λW O=>?_)),jl q _ (kz rfl ((hS.same C).same O) (λt B=>?_)),(l8 ∅,λN j=>?_),iG t N ([V.str "idle"]) ([V.str "idle"]) (kR rfl rfl (fT.of (aq j _ _ ae)) (fT.of ae) rfl rfl ?_)];lk;intro x R u J U;let y:aH H (upd (upd W t (.lst [V.str "idle"])) N (.lst [V.str "idle"])):=λb o e=>aq j _ _ (aq B _ _ (O _ _ (C _ _ e)));exact(x,R,_,_,_,rfl,(nm,G,D,I,rfl,rfl,ok),u,J,U,rfl,λH' L r=>(rfl,k x H' (λb o e=>L _ _ (y _ _ e)) (jY y u) r))
  .lk;erw[iG q _ _ (V.str nm) (gT rfl rfl hS rfl ?_),iG q _ _ (V.str G) (gT rfl rfl hS rfl ?_),iG q _ _ (V.str g) (gT rfl rfl hS rfl ?_)];erw[jl g D (kz rfl Z (λH1 C=>?_)),iG q _ _ (V.str l) (gT rfl rfl (hS.same C) rfl ?_)];erw[jl l I (kz rfl el (λW O=>?_)),jl q _ (kz rfl ((hS.same C).same O) (λt B=>?_))];let Y:∀{Hx:Hp},aH (upd W t (.lst [V.str v,V.str m])) Hx->Hx t=some (.lst [V.str v,V.str m]):=λz=>z _ _ ae;lk;erw[(l8 ∅,λN j=>?_)];refine iG t N ([V.str v,V.str m]) ([V.str "idle"]) (kR rfl rfl (fT.of (aq j _ _ ae)) (fT.of ae) rfl rfl ?_)
   let ef:zQ [V.str v,V.str m] [V.str "idle"]=false:=by
    erw[akj _]
   erw[(_,rfl,?_)];erw[bR (λe=>?_) (λe=>?_)]
   .simp_all
   lk;let y:aH H (upd (upd W t (.lst [V.str v,V.str m])) N (.lst [V.str "idle"])):=λb o e=>aq j _ _ (aq B _ _ (O _ _ (C _ _ e)));erw[jl t _ (kz rfl (.inl (fT.of (Y (aq j)))) ?_),iG t _ _ (V.str m) (gT rfl rfl (fT.of (Y (aq j))) rfl ?_)];erw[jl m mi (kz rfl em (λH3 S=>?_))];let w3:=Y (λb o e=>S _ _ (aq j _ _ e));lk;erw[iG t _ _ (V.str v) (gT rfl rfl (fT.of w3) rfl ?_)];rcases ck with⟨rfl,rfl⟩|⟨rfl,rfl⟩
   .lk;intro x R u J U;exact(x,R,_,_,_,rfl,(nm,G,mi,D,I,rfl,rfl,ok),u,J,U,rfl,λH' L r=>(rfl,k x H' (λb o e=>L _ _ (S _ _ (y _ _ e))) (jY (λb o e=>S _ _ (y _ _ e)) u) r))
   .lk;erw[iG t _ _ (V.str "falls") (gT rfl rfl (fT.of w3) rfl ?_)];lk;intro x R u J U;exact(x,R,_,_,_,rfl,(nm,G,mi,D,I,rfl,rfl,ok),u,J,U,rfl,λH' L r=>(rfl,k x H' (λb o e=>L _ _ (S _ _ (y _ _ e))) (jY (λb o e=>S _ _ (y _ _ e)) u) r))
def VZ{U:Tok}(F:wv "minder_in" yN)(T:Txt mg)(S:mg "FEWEST_WORDS"=some (.int 6 U))(M:MkT P w K mg eC p 3)(I:wE true 3 "number_in" Ul [.int 1000000]):zn 5 L0 (Fs K p (some false)):=by
 erw[F.okN g7 (λvs H Q E h=>?_) (λL A fM s0 H vs Q E C h=>?_)]
 .let(q,ws,s,rfl,_):=h
  rfl
 .let(q,ws,s,rfl,hS,hw,_,hd,hz,k):=h;let g:=M.one;let c:=M.all;let a:=M.rest;let ok:=(X9 hw).okS
  refine(_,(aa (bH (i:=1) g7.nd (ig aB (pv 0) (Ds yk ai)))
   (aa (bH (i:=2) g7.nd (ig aB (pv 0) ai))
   (aa (bH (i:=3) g7.nd (ig aB (pv 0) ai))
   (aa (bH (i:=4) g7.nd (cn I {ig aB (pv 0) ai}))
   (aa (bH (i:=5) g7.nd (cn I {ig aB (pv 0) ai}))
   (aa (aO (PW.pt (nR (ix uO (a9 aU ⋯ T.fH cW {pv 0}) (uW ⋯ S)) (qp (ix cq (pv 5) ai)))) (af (au fO)) ay)
   (aa (aO (ix cq (pv 3) aj) (af (au (vy g (C.mono (by omega)) ⋯ cI {pv 1,pv 2,pv 4,pv 5}))) ay)
   (aa (aO (ix cq (pv 3) aj) (af (au (vy c (C.mono (by omega)) ⋯ cI {pv 1,pv 2,pv 4,pv 5}))) ay)
   (aa (aO (ix cq (pv 3) aj) (af (au (vy a (C.mono (by omega)) ⋯ cI {pv 1,pv 2,pv 4,pv 5}))) ay)
   (af (au fO))))))))))),?_)
  fin2
  let(z,J,m,sp,nm,mi,B,Z,rfl,c1,X,R,N,es,W,rfl):=DD hw (hd rfl);lk;erw[iG q _ _ (V.str nm) (gT rfl rfl hS rfl ?_),iG q _ _ (V.str z) (gT rfl rfl hS rfl ?_),iG q _ _ (V.str J) (gT rfl rfl hS rfl ?_),iG q _ _ (V.str m) (gT rfl rfl hS rfl ?_)];erw[jl m mi (kz rfl N (λY D=>?_)),iG q _ _ (V.str sp) (gT rfl rfl (hS.same D) rfl ?_)];erw[jl sp B (kz rfl es (λO G=>?_)),jl q _ (kz rfl (.inl ((hS.same D).same G)) ?_),bR (λe=>?_) (λe=>?_)]
  .exact absurd (V.int.inj (iB e)) W
  let n:aH H O:=λb o e=>G _ _ (D _ _ e);rcases R with⟨rfl,rfl⟩|⟨rfl,rfl⟩|⟨rfl,rfl⟩
  .lk;intro x y j v u;exact(x,y,_,_,_,rfl,(nm,z,mi,B,rfl,rfl,ok),j,v,u,rfl,λH' t r=>(rfl,k x H' (λb o e=>t _ _ (n _ _ e)) (jY n j) r))
  .lk;intro x y j v u;exact(x,y,_,_,_,rfl,(nm,z,mi,B,rfl,rfl,ok),j,v,u,rfl,λH' t r=>(rfl,k x H' (λb o e=>t _ _ (n _ _ e)) (jY n j) r))
  .lk;intro x y j v u;exact(x,y,_,_,_,rfl,(nm,z,mi,B,rfl,rfl,ok),j,v,u,rfl,λH' t r=>(rfl,k x H' (λb o e=>t _ _ (n _ _ e)) (jY n j) r))
def Sa(F:wv "by_first_word" ni)(T:Txt mg)(c:wE true 5 "leaf_in" (Fs K p (some true)) [])(i:wE true 5 "minder_in" (Fs K p (some false)) []):zn 6 L0 (Fs K p none):=by
 erw[F.okN Fp (λvs H Q E h=>?_) (λg A fM o H vs Q E n h=>?_)]
 .let(q,ws,s,rfl,_):=h
  rfl
 .let(q,ws,s,rfl,hS,hw,_,_,hz,k):=h
  refine(_,(aa (aO (ix cq (ig aB (pv 0) ai) aj) (af (au (cn c {pv 0}))) ay)
   (aa (aO (ix cq (ig aB (pv 0) ai) aj) (af (au (cn i {pv 0}))) ay)
   (af (au fO)))),?_)
  obtain⟨a,r,rfl⟩:∃a r,ws=a::r:=by
   cases ws with
   |nil=>cases hw
   |cons a r=>exact(a,r,rfl)
  lk;erw[iG q _ _ (V.str a) (gT rfl rfl hS (cb rfl) ?_),bR (λe=>?_) (λe=>?_)]
  .let e:=V.str.inj (iB e);lk;exact(q,_,s,rfl,hS,hw,λ_=>iY some e,λz=>(by cases z),hz,k)
  .let e:=λz=>e (gy (iY V.str z))
   let m:a="minder":=by
    let(_,_,_,_,_,_,_,_,e1,_):=DD hw (λz=>e (iJ z));exact(akZ e1).1
   lk;erw[iG q _ _ (V.str a) (gT rfl rfl hS (cb rfl) ?_)];subst m;lk;exact(q,_,s,rfl,hS,hw,λz=>(by cases z),λ_ z=>e (iJ z),hz,k)
def agC{x:Str}(h:mZ x):Ln x=true:=by
 unfold Ln;rw[gy h.1,gy h.2.1,h.2.2]
 rfl
def abD{x:Str}(h:eN x):M5 (.str x) [V.str "always",V.str "fallen",V.str "never"]=true:=by
 rcases h with rfl|rfl|rfl<;>rfl
def Ss{R:Tok}{x:eF}(F:wv "child_in" BS)(T:Txt mg)(M:mg "FEWEST_WORDS"=some (.int 6 R))(J:mg "KEEPS"=some (.ref x))(C:∀H:Hp,jx K H x [V.str "always",V.str "fallen",V.str "never"])
  {B:eF} (I:mg "NoNumber"=some (.ref B)) (W:Ew K B) (Y:wE true 2 "is_name" Pj []) (N:wE true 6 "by_first_word" (Fs K p none) []):zn 7 L0 (Fs K p none):=by
 erw[F.okN PQ (λvs H Q E h=>?_) (λS A fM s0 H vs Q E L h=>?_)]
 .let(q,ws,s,rfl,_):=h
  rfl
 .let(q,ws,s,rfl,hS,hw,_,_,hz,k):=h
  refine(_,(aa (aO (PW.pt (nR (ix nI (a9 aU ⋯ T.fH cW {pv 0}) (uW ⋯ M)) (nR (ix MX (ig aB (pv 0) ai) (zv ⋯ J)) (qp (fA (bx (cn Y {ig aB (pv 0) (Ds yk ai)}))))))) (af (au fO)) ay)
   (af (Si (rfl,rfl,rfl) (λD O E' U hP=>(af (au (Iv N (L.mono (by omega)) ⋯ (passes U) {pv 0}))))
    ay
    (Yv (rfl,rfl,rfl) ⋯ I W (λe=>(af (au fO)))
    OC)))),?_)
  let l6:6<=ws.length:=by
   rcases DZ hw with⟨a,b,c,d,e,g,rfl⟩|⟨a,b,c,d,e,g,i,rfl⟩
   .exact gx _
   .show 6<=7
    decide
  obtain⟨a,t,r,nm,e1,e2,v,u⟩:∃(a t:Str) (r:List Str) (nm:Str),ws=a::t::r/\ql (ws.map V.str) (-1)=some (V.str nm)/\eN t/\nm∈ws/\mZ nm:=by
   by_cases z:ws.head? =some ("leaf":Str)
   .rcases Ja hw z with⟨t,g,l,nm,gi,li,rfl,c1,c2,_⟩|⟨t,g,l,wk,m,nm,gi,li,mi,kd,rfl,c1,c2,_⟩
    .exact (_,t,_,nm,rfl,rfl,c1,by simp,c2)
    .exact (_,t,_,nm,rfl,rfl,c1,by simp,c2)
   .let(t,wy,m,sp,nm,mi,si,kd,rfl,c1,c2,_):=DD hw z;exact(_,t,_,nm,rfl,rfl,c1,by simp,c2)
  let X:=abD v;lk;erw[jl q _ (kz rfl (.inl hS) ?_),bR (λe=>?_) (λe=>?_)]
  .let e:=iB e;rw[gQ]at e;erw[absurd e ()]
  lk;erw[iG q _ _ (V.str t) (gT rfl rfl hS (cb (by rw[e1];rfl)) ?_),jl x _ (gT rfl (.inr (C _)) rfl rfl ?_)];erw[(_,rfl,?_)];erw[bR (λe=>?_) (λe=>?_)]
  .simp_all
  lk;erw[iG q _ _ (V.str nm) (gT rfl rfl hS e2 ?_),(hz nm u.1,λZ y=>?_)];rw[agC u.2];lk;exact(q,ws,s,rfl,hS.same y,hw,λz=>(by cases z),λz=>(by cases z),hz,λa H' G n r=>k a H' (λb o e=>G _ _ (y _ _ e)) (jY y n) r)
def lI(a:Re):List V:=(hD a.length).map λi=>if i=0 then V.non else V.int (bP a i)
def cU(a:Re):List (Key×V):=(hD a.length).map λi=>(.inr (a.getD i default).sh.name,V.int (i:Int))
def dI(a:Re):List V:=a.map λr=>V.int ((2*r.dep:Nat):Int)
def fsT(c b a d:eF):List (Str×V):=[("children",.ref c),("blanks",.ref b),("above",.ref a),("places",.ref d)]
structure zO(cT:eF)(p:Pl)(H:Hp)(t:eF)(rows:Re)(c b a d:eF)(as:List eF):Prop where
 ob:∃dx,H t=some (.ins cT dx (fsT c b a d))
 ch:H c=some (.lst (as.map V.ref))
 ln:as.length=rows.length
 rp:∀(i:Nat) (x:eF),as[i]? =some x->p.rep H x (rows.getD i default).sh
 bl:H b=some (.lst (dI rows))
 ab:H a=some (.lst (lI rows))
 pl:H d=some (.dK (cU rows))
 n1:c≠b
 n2:c≠a
 n3:b≠a
theorem zO.same{j:eF}{H H':Hp}{t:eF}{g:Re}{c b a d:eF}{as:List eF}(h:zO j p H t g c b a d as)(e:aH H H'):zO j p H' t g c b a d as:=
 (h.ob.imp λ_ z=>e _ _ z,e _ _ h.ch,h.ln,λi x z=>Pl.mono e (h.rp i x z),e _ _ h.bl,e _ _ h.ab,e _ _ h.pl,h.n1,h.n2,h.n3)
def getD_snoc(a:Re)(r:Row)(i:Nat):(a++[r]).getD i default=if i<a.length then a.getD i default else if i=a.length then r else default:=by
 by_cases h:i<a.length
 .rw[fR h,pM _ _ _ h]
 .rw[fC h];by_cases e:i=a.length
  .rw[fR e,e,i9 a r [] default]
  .rw[fC e,ot,aje (by rw[jm];show a.length+1<=i;lia)]
   rfl
def Il{a:Type}(n:Nat)(g:Nat->a):(hD (n+1)).map g=(hD n).map g++[g n]:=by
 rw[F1,kr]
 rfl
def P8(a:Re)(r:Row):lI (a++[r])=lI a++[if a.length=0 then V.non else V.int (bP (a++[r]) a.length)]:=by
 unfold lI;rw[jm];show(hD (a.length+1)).map _=_;rw[Il]
 erw[aj3 λi c=>?_];rw[Ms a [r] (qG.mp c)]
def OM(a:Re)(r:Row):cU (a++[r])=cU a++[(.inr r.sh.name,V.int (a.length:Int))]:=by
 unfold cU;rw[jm];show(hD (a.length+1)).map _=_;rw[Il,i9 a r [] default]
 erw[aj3 λi c=>?_];rw[pM _ _ _ (qG.mp c)]
theorem Nz(a:Re)(r:Row):dI (a++[r])=dI a++[V.int ((2*r.dep:Nat):Int)]:=kr
def FI{a:Re}{x:Str}(h:x∉a.map (·.sh.name)):Am (cU a) (.inr x)=none:=by
 unfold Am;rw[alF.mpr]
 .rfl
 .intro kv hk z;let(i,c,rfl):=tU.mp hk;let z:=anK (iB z);let c:=qG.mp c;erw[h (tU.mpr (a[i],uy c,?_))];rw[<- z,ot,hY c]
  rfl
def Rq{a:Re}{r:Row}(h:r.sh.name∉a.map (·.sh.name)):putK (cU a) (.inr r.sh.name) (V.int (a.length:Int))=cU (a++[r]):=by
 unfold putK;rw[fC,OM];intro z;let(kv,c,z):=List.any_eq_true.mp z;let n:=FI h;unfold Am at n;cases f:(cU a).find? λkv=>decide (kv.1=(.inr r.sh.name)) with
 |none=>erw[alF.mp f kv c z]
 |some w=>simp_all
def zm{H:Hp}{x q C a:eF}{o:HO}{fs gs:List (Str×V)}(h:H x=some (.ins C a fs))(c:H q=none):(upd (upd H q o) x (.ins C a gs)) x=some (.ins C a gs)/\(upd (upd H q o) x (.ins C a gs)) q=some o/\(∀b u,b≠x->H b=some u->(upd (upd H q o) x (.ins C a gs)) b=some u)∧
  (∀b,b≠x->(upd (upd H q o) x (.ins C a gs)) b=none->H b=none/\b≠q)/\q≠x/\(upd H q o) x=some (.ins C a fs):=by
 let nx:q≠x:=λz=>by simp_all
 erw[(ae,by rw[ag nx];exact ae,λb u g e=>?_,λb g e=>?_,nx,by rw[ag (Ne.symm nx)];exact h)]
 .rwa[ag g,ag (ao e c)]
 .rw[ag g]at e;by_cases z:b=q
  .rw[z,ae]at e;cases e
  .rw[ag z]at e;exact(e,z)
structure CT(K:gI)(C:eF):Prop where
 cl:rz K C
 n1:bw K C "children"
 n2:bw K C "blanks"
 n3:bw K C "above"
 n4:bw K C "places"
def HX(h:eF)(p:Pl):Sp:=λvs H Q _=>∃(x g:eF) (e:Hp),vs=[.ref x]/\e x=none/\e g=none/\g≠x/\H=upd (upd e g (.own x)) x (.ins h g [])∧
 ∀(H':Hp) (c b a d:eF),aH e H'->e c=none->e b=none->e a=none->e d=none->zO h p H' x [] c b a d []->Q .non H'
def PV{g:eF}(F:aI K "__init__" "Tree.__init__" nj dV f fd)(h:CT K g):zn 1 QW (HX g p):=by
 rcases Fi,(aa (aJ (pv 0) (aP bQ) rfl)
   (aa (aJ (pv 0) (aP bQ) rfl)
   (aa (aJ (pv 0) (aP bQ) rfl)
   (af (aJ (pv 0) ZX rfl))))) with⟨x,dx,H0,rfl,h0,h1,h2,eH,k⟩
 let hx:H x=some (.ins g dx []):=by rw[eH];erw[ae]
 let s0:∀b u,H0 b=some u->H b=some u/\b≠x:=λb u e=>(by rwa[eH,ag (ao e h0),ag (ao e h1)],ao e h0)
 let D:∀b,b≠x->H b=none->H0 b=none:=λb hb e=>by
  rw[eH,ag hb]at e;by_cases z:b=dx
  .rwa[z]
  .rw[ag z]at e;erw[e]
 erw[(l8 ∅,λc r=>?_)];let(R,U,M,q,B,p6):=zm hx r;erw[ju rfl (cw p6 h.cl h.n1 ∅ ?_)]
 change wM _ _ _ _ (upd (upd H c (.lst [])) x (.ins g dx [("children",.ref c)]))
 generalize upd (upd H c (.lst [])) x (.ins g dx [("children",.ref c)])=H1 at R U M q;erw[(l8 ∅,λb j=>?_)];let(X,S,J,G,t,q6):=zm R j;erw[ju rfl (cw q6 h.cl h.n2 (by show 1<1000;decide) ?_)]
 change wM _ _ _ _ (upd (upd H1 b (.lst [])) x (.ins g dx [("children",.ref c),("blanks",.ref b)]))
 generalize upd (upd H1 b (.lst [])) x (.ins g dx [("children",.ref c),("blanks",.ref b)])=H2 at X S J G;erw[(l8 ∅,λa m=>?_)];let(L,W,A,N,y,Z):=zm X m;erw[ju rfl (cw Z h.cl h.n3 (by show 2<1000;decide) ?_)];dsimp only
 change afH _ _ _ _ _ _ (upd (upd H2 a (.lst [])) x (.ins g dx [("children",.ref c),("blanks",.ref b),("above",.ref a)]))
 generalize upd (upd H2 a (.lst [])) x (.ins g dx [("children",.ref c),("blanks",.ref b),("above",.ref a)])=H3 at L W A N;intro d v;let(t1,O,n,t4,C,t6):=zm (o:= .dK []) (gs:=fsT c b a d) L v;erw[ju rfl (cw t6 h.cl h.n4 (by show 3<1000;decide) ?_)]
 change Q .non (upd (upd H3 d (.dK [])) x (.ins g dx (fsT c b a d)))
 generalize upd (upd H3 d (.dK [])) x (.ins g dx (fsT c b a d))=H4 at t1 O n t4;let I:=Ne.symm (q b t j).2;let Y:=G a y m;let T:=q a y Y.1;let y3:=N d C v;let y2:=G d C y3.1;let y1:=q d C y2.1;let gc:=n c _ B (A c _ B (J c _ B U));let gb:=n b _ t (A b _ t S);erw[k H4 c b a d (λe u z=>?_) (D c B r) (D b t (q b t j).1) (D a y T.1) (D d C y1.1) ((dx,t1),gc,rfl,λi x e=>(by cases e),gb,n a _ y W,O,I,Ne.symm T.2,Ne.symm Y.2)];let(e1,e2):=s0 e u z;erw[n e u e2 (A e u e2 (J e u e2 (M e u e2 e1)))]
def N2{a:Re}{i:Nat}(h:i<a.length):a[i]? =some (a.getD i default):=by
 rw[ot,hY h]
 rfl
def namesOf(a:Re):List Str:=a.map (·.sh.name)
def G3(p:Pl)(C:eF):Sp:=λvs H Q _=>∃(t:eF) (e:Re) (c b a d:eF) (as:List eF),vs=[.ref t]/\zO C p H t e c b a d as/\e.length<=1000∧
 ∀(q:eF) (H':Hp),aH H H'->H q=none->H' q=some (.lst ((namesOf e).map V.str))->Q (.ref q) H'
def Zo{y:eF}(F:aI K "names" "Tree.names" vf dV f fd)(u:CT K y)(r:∀j,p.pr j->CF K (p.c j)):zn 1 QW (G3 p y):=by
 rcases KR,(af (au (gU (fr:=[]) (by kd_p) rfl (eo (av (pv 0) rfl)) (λ_ _ _ _=>Br) (λ_ _ _ _=>(NG rfl (pv 0) ⋯))))) with⟨t,e,c,b,a,d,as,rfl,g,B,k⟩;let(L,o):=g.ob;lk;erw[bA o u.cl u.n1 rfl ?_,((_,fT.of g.ch),cO (n:=e.length) (λi ys H'=>H'=H/\ys=((namesOf e).take i).map V.str) (rfl,rfl) ?_ ?_ ?_ ?_)]
 .rintro i ys H' hi ⟨rfl,rfl⟩;exact(_,V.ref (as[i]'(by rwa[g.ln])),fT.of g.ch,by rw[i6,hY (by rwa[g.ln])];rfl)
 .rintro ys H' ⟨rfl,rfl⟩;exact(_,fT.of g.ch,by rw[gQ,g.ln];erw[gx _])
 .rintro i ys H' v H2 hi ⟨rfl,rfl⟩ ⟨rfl,m⟩;let h:i<as.length:=by rwa[g.ln]
  let m:=m _ (fT.of g.ch);rw[i6,hY h]at m;obtain rfl:V.ref as[i]=v:=iJ m;let(I,G,C,D):=g.rp i _ (hY h);let z:=r _ G;lk;erw[bA D z.cl z.n1 (G1 _) ?_];erw[(?_,rfl,?_)]
  .rw[gQ,ve];erw[aM ()]
  .let:(namesOf e)[i]? =some (e.getD i default).sh.name:=by
    unfold namesOf;rw[i6,N2 hi]
    rfl
   rw[AD,this,kr]
   rfl
 .rintro ys H' ⟨rfl,rfl⟩;let:(namesOf e).length=e.length:=gQ _;rw[<- this,zN];erw[(?_,λq A=>k q _ (aq A) A ae)];rw[gQ,this];erw[vC (aM B)]
def ae1(p:Pl)(C:eF):Sp:=λvs H Q _=>∃(t:eF) (e:Re) (c b a d:eF) (as:List eF) (i:Nat),vs=[.ref t,.str (e.getD i default).sh.name]/\zO C p H t e c b a d as/\i<e.length/\(e.map (·.sh.name)).Nodup∧
 ∀H',aH H H'->Q (.int (i:Int)) H'
def Qc{a:Re}{i:Nat}(m:i<a.length)(nd:(a.map (·.sh.name)).Nodup):Am (cU a) (.inr (a.getD i default).sh.name)=some (V.int (i:Int)):=by
 unfold Am;cases f:(cU a).find? λkv=>decide (kv.1=(.inr (a.getD i default).sh.name)) with
 |none=>
  erw[absurd (gy rfl) (alF.mp f (.inr (a.getD i default).sh.name,V.int i) (tU.mpr (i,qG.mpr m,rfl)))]
 |some kv=>
  let g:=iB (List.find?_some (p:=λkv:Key×V=>decide (kv.1=.inr (a.getD i default).sh.name)) f);let(j,c,rfl):=tU.mp (List.mem_of_find?_eq_some f);let c:=qG.mp c;let g:=anK g
  let e:=by
   let h:(a.map (·.sh.name))[j]? =some (a.getD j default).sh.name:=by rw[i6,N2 c];rfl
   let n:(a.map (·.sh.name))[i]? =some (a.getD i default).sh.name:=by rw[i6,N2 m];rfl
   rw[g]at h;exact(anJ (by rwa[gQ]) nd).mp (h.trans n.symm)
  rw[e]
  rfl
def abt{h:eF}(F:aI K "find" "Tree.find" yo dV f fd)(g:CT K h):zn 1 Qa (ae1 p h):=by
 rcases Ni,(aa (aO (afz (Mq (pI hr) (pv 1) (av (pv 0) rfl))) (af yR) ay)
   (af (au (mX (av (pv 0) rfl) (pv 1))))) with⟨t,rows,c,b,a,d,as,i,rfl,hT,hi,nd,k⟩
 let(j,e):=hT.ob
 let dg:=by
  let:=kT.k (k:= .inr (rows.getD i default).sh.name) hT.pl;rw[Qc hi nd]at this;erw[this]
 lk;erw[bA e g.cl g.n4 rfl ?_,jl d (some (V.int i)) (kz rfl dg ?_),bA e g.cl g.n4 rfl ?_];lk;exact(d,_,rfl,dg,k _ (aH.refl _))
theorem x8{H:Hp}{x y:eF}{o u:HO}(a:H x=some o)(c:H y=some u)(h:o≠u):x≠y:=λz=>h (iJ (a.symm.trans (by rwa[z])))
def Yf(p:Pl)(C:eF):Sp:=λvs H Q _=>∃(t x:eF) (g:Re) (r:Row) (c b a d:eF) (as:List eF) (ab:V),vs=[.ref t,.ref x,.int ((2*r.dep:Nat):Int),ab]/\zO C p H t g c b a d as/\p.rep H x r.sh/\g.length<=1000/\r.sh.name∉g.map (·.sh.name)∧
 ab=(if g.length=0 then V.non else V.int (bP (g++[r]) g.length))/\∀H',(∀e u,e≠c->e≠b->e≠a->e≠d->H e=some u->H' e=some u)->zO C p H' t (g++[r]) c b a d (as++[x])->Q .non H'
def acw{m:eF}(F:aI K "take" "Tree.take" zf dV f fd)(T:Txt mg)(h:CT K m)(G:∀j,p.pr j->CF K (p.c j)):zn 1 QO (Yf p m):=by
 rcases MG,(aa (G8 (pI hr) (av (pv 0) rfl) (av (pv 1) rfl) (a9 aU ⋯ T.fH cW {av (pv 0) rfl}) rfl)
   (aa (aE (gg xZ Aq B6 cX (av (pv 0) rfl) {pv 1}))
   (aa (aE (gg xZ Aq B6 cX (av (pv 0) rfl) {pv 2}))
   (af (aE (gg xZ Aq B6 cX (av (pv 0) rfl) {pv 3})))))) with⟨t,x,rows,r,c,b,a,d,as,ab,rfl,hT,hR,hl,hn,hab,k⟩
 let(o,g):=hT.ob;let(r1,r2,ac,r3):=id hR;let cf:=G _ r2;lk;erw[bA g h.cl h.n1 rfl ?_,jl c _ (kz rfl (.inl (fT.of hT.ch)) ?_),bA g h.cl h.n4 rfl ?_];erw[ju rfl (bA r3 cf.cl cf.n1 (G1 _) ?_)];let ln:((as.map V.ref).length)=(rows.length):=by rw[gQ,hT.ln]
 rw[ln];erw[jl d _ (kz rfl (Qt.k (k:= .inr r.sh.name) hT.pl (by unfold cU;rw[gQ,mK];exact aM hl)) ?_)];rw[Rq hn];let L:=x8 g hT.pl (λz=>by cases z);let C:=x8 hT.ch hT.pl (λz=>by cases z);let q:=x8 hT.bl hT.pl (λz=>by cases z);let B:=x8 hT.ab hT.pl (λz=>by cases z);let U:=x8 g hT.ch (λz=>by cases z);let W:=x8 g hT.bl (λz=>by cases z);let O:=x8 g hT.ab (λz=>by cases z);let e1:(upd H d (.dK (cU (rows++[r])))) t=some (.ins m o (fsT c b a d)):=by rwa[ag L]
 let e2:(upd H d (.dK (cU (rows++[r])))) c=some (.lst (as.map V.ref)):=by rw[ag C];erw[hT.ch]
 let e3:(upd H d (.dK (cU (rows++[r])))) b=some (.lst (dI rows)):=by rw[ag q];erw[hT.bl]
 let e4:(upd H d (.dK (cU (rows++[r])))) a=some (.lst (lI rows)):=by rw[ag B];erw[hT.ab]
 let e5:(upd H d (.dK (cU (rows++[r])))) d=some (.dK (cU (rows++[r]))):=ae;let e6:∀e u,e≠d->H e=some u->(upd H d (.dK (cU (rows++[r])))) e=some u:=λe u n z=>by rwa[ag n]
 generalize upd H d (.dK (cU (rows++[r])))=H1 at e1 e2 e3 e4 e5 e6;erw[ju rfl (oi t m o _ _ (kR rfl e1 h.cl h.n1 rfl (.inl (rfl,_,fT.of e2)) ?_)),mI c _ _ (gT rfl rfl e2 (by rw[gQ,hT.ln];exact aM hl) ?_)];let X:(upd H1 c (.lst (as.map V.ref++[V.ref x]))) t=some (.ins m o (fsT c b a d)):=by rwa[ag U]
 let I:(upd H1 c (.lst (as.map V.ref++[V.ref x]))) b=some (.lst (dI rows)):=by rwa[ag (Ne.symm hT.n1)]
 let f4:(upd H1 c (.lst (as.map V.ref++[V.ref x]))) a=some (.lst (lI rows)):=by rwa[ag (Ne.symm hT.n2)]
 let Y:(upd H1 c (.lst (as.map V.ref++[V.ref x]))) c=some (.lst (as.map V.ref++[V.ref x])):=ae;let f5:(upd H1 c (.lst (as.map V.ref++[V.ref x]))) d=some (.dK (cU (rows++[r]))):=by rwa[ag (Ne.symm C)]
 let f6:∀e u,e≠d->e≠c->H e=some u->(upd H1 c (.lst (as.map V.ref++[V.ref x]))) e=some u:=λe u n v z=>by rw[ag v];erw[e6 e u n z]
 generalize upd H1 c (.lst (as.map V.ref++[V.ref x]))=H2 at X Y I f4 f5 f6;erw[ju rfl (oi t m o _ _ (kR rfl X h.cl h.n2 rfl (.inl (rfl,_,fT.of I)) ?_)),mI b _ _ (gT rfl rfl I (by unfold dI;rw[gQ];exact aM hl) ?_)];let bs:=(Nz rows r).symm;rw[bs];let R:(upd H2 b (.lst (dI (rows++[r])))) t=some (.ins m o (fsT c b a d)):=by rwa[ag W]
 let g2:(upd H2 b (.lst (dI (rows++[r])))) c=some (.lst (as.map V.ref++[V.ref x])):=by rwa[ag hT.n1]
 let g3:(upd H2 b (.lst (dI (rows++[r])))) b=some (.lst (dI (rows++[r]))):=ae;let J:(upd H2 b (.lst (dI (rows++[r])))) a=some (.lst (lI rows)):=by rwa[ag (Ne.symm hT.n3)]
 let g5:(upd H2 b (.lst (dI (rows++[r])))) d=some (.dK (cU (rows++[r]))):=by rwa[ag (Ne.symm q)]
 let Z:∀e u,e≠d->e≠c->e≠b->H e=some u->(upd H2 b (.lst (dI (rows++[r])))) e=some u:=λe u n v N z=>by rw[ag N];erw[f6 e u n v z]
 generalize upd H2 b (.lst (dI (rows++[r])))=H3 at R g2 g3 J g5 Z;erw[ju rfl (oi t m o _ _ (kR rfl R h.cl h.n3 rfl (.inl (rfl,_,fT.of J)) ?_)),mI a _ _ (gT rfl rfl J (by unfold lI;rw[gQ,mK];exact aM hl) ?_)];let S:lI rows++[ab]=lI (rows++[r]):=by rw[hab];exact(P8 rows r).symm
 rw[S];let keep:∀e u,e≠c->e≠b->e≠a->e≠d->H e=some u->(upd H3 a (.lst (lI (rows++[r])))) e=some u:=λe u n1 v N n4 z=>by rw[ag N];erw[Z e u n4 n1 v z]
 let rk:∀(y:eF) (D:Sh),p.rep H y D->p.rep (upd H3 a (.lst (lI (rows++[r])))) y D:=λy D z=>by
  let(z1,z2,dz,A):=z;exact(z1,z2,dz,keep _ _ (x8 A hT.ch (λz=>by cases z)) (x8 A hT.bl (λz=>by cases z)) (x8 A hT.ab (λz=>by cases z)) (x8 A hT.pl (λz=>by cases z)) A)
 erw[k _ keep ((o,by rwa[ag O]),by rw[ag hT.n2,g2,kr];rfl,by rw[jm,jm,hT.ln];rfl,λi y e=>?_,by rwa[ag hT.n3],ae,by rwa[ag (Ne.symm B)],hT.n1,hT.n2,hT.n3)];rw[getD_snoc];by_cases hi:i<as.length
 .rw[zW hi]at e;rw[fR (by rwa[<- hT.ln])];erw[rk _ _ (hT.rp i y e)]
 .rw[FZ ()]at e
  let M:i-as.length=0:=by
   let:=(rx.mp e).1;let:i-as.length<1:=this
   lia
  rw[M]at e;let e:=iJ e;subst e;let:i=rows.length:=by let:=hT.ln;lia
  rw[fC (),fR this];erw[rk _ _ hR]
def Tv(p:Pl)(C:eF):Sp:=λvs H Q _=>∃(t:eF) (e:Re) (c b a d:eF) (as:List eF) (dp:Nat),vs=[.ref t,.int ((2*dp:Nat):Int)]/\zO C p H t e c b a d as/\e.length<=1000∧
 ((e=[]/\Q .non H)\/∃j,j<e.length/\(e.getD j default).dep+1=dp/\(e.getD j default).DM=true/\(∀i,j<i->i<e.length->dp<=(e.getD i default).dep)/\∀H',aH H H'->Q (.int (j:Int)) H')
def YW{J:eF}(F:aI K "minder_above" "Tree.minder_above" iQ dV f fd)(T:Txt mg)(m:CT K J)(I:If P w K mg eC 3 p.rep p.cl):zn 4 nB (Tv p J):=by
 let g:∀C s u,Dt (xT p.rep) (λC=>∃j,p.cl j C) C s u->wT (gf P w) true 3 "leaf" C s u:=by
  rintro C s u ⟨⟨j,z⟩,rfl,rfl⟩;erw[I.leaf z]
 rcases gE,(aa (lM yu rfl (acH ⋯ T.lX {aG E7 (a9 aU ⋯ T.fH cW {av (pv 0) rfl}) ai,Ds yk ai,Ds yk ai}) (c9 (i:=2) gE.nd rfl (by k_ne)) (af (aO (ix nI (ig aB (av (pv 0) rfl) (pv 2)) (pv 1)) (aa (bH (i:=3) gE.nd (pA (vV cq (ig aB (av (pv 0) rfl) (pv 2)) (aG E7 (pv 1) ai)) (ly (Jx (kU (ig aB (av (pv 0) rfl) (pv 2)) g)))))
   (af (au (pR (bx (pv 3)) (pv 2) fO)))) ay)))
   (af (au fO))) with⟨t,rows,c,b,a,d,as,dp,rfl,hT,hl,k⟩
 let(dx,h):=hT.ob;lk;erw[bA h m.cl m.n1 rfl ?_,jl c _ (kz rfl (.inl (fT.of hT.ch)) ?_)];lk;let an:(as.map V.ref).length=rows.length:=by rw[gQ,hT.ln]
 rw[an];erw[((),?_)]
 let A:∀i,i<rows.length->(dI rows)[i]? =some (V.int ((2*(rows.getD i default).dep:Nat))):=λi o=>by
  unfold dI;rw[i6,N2 o]
  rfl
 rcases k with⟨e0,k⟩|⟨j,X,hd,hm,O,k⟩
 .let n0:rows.length=0:=by rw[e0];rfl
  rw[n0];erw[p9 (λ_ r H'=>H'=H) rfl (λi r H' o=>absurd o (ze _)) (λi r H' x Z o=>absurd o (ze _)) (λr H' e=>(gx _,?_))];subst e;erw[k]
 .refine p9 (λi r H'=>H'=H/\j+i<rows.length/\∃M G,r=[some (.ref t),some (.int ((2*dp:Nat))),M,G]) (rfl,X,none,none,rfl) (λi r H' o _=>o) ?_ (λr H' z=>absurd z.2.1 ());rintro i r H' x Z o ⟨rfl,R,M,G,rfl⟩ ⟨rfl,rfl⟩;let pe:(rows.length)-1-i=((rows.length-1-i:Nat):Int):=by lia
  rw[pe];let y:rows.length-1-i<rows.length:=by lia
  generalize hq:rows.length-1-i=q at y;lk;erw[bA h m.cl m.n2 rfl ?_,iG b _ _ _ (gT rfl rfl (fT.of hT.bl) (cb (A q y)) ?_),bR (λe=>?_) (λe=>?_)]
  .let S:q=j:=by
    by_cases z:j<q
    .let:=O q z y
     lia
    .lia
   subst S;let v:q<as.length:=by rwa[hT.ln]
   let B:=hT.rp q as[q] (hY v);lk;erw[bA h m.cl m.n2 rfl ?_,iG b _ _ _ (gT rfl rfl (fT.of hT.bl) (cb (A q y)) ?_)];lk;let eb:V.int ((2*(rows.getD q default).dep:Nat))=V.int (((2*dp:Nat))-2):=by congr 1;lia
   erw[bR (λe2=>?_) (λe2=>?_)]
   .lk;erw[bA h m.cl m.n1 rfl ?_,iG c _ _ (V.ref as[q]) (gT rfl rfl (fT.of hT.ch) (cb (by rw[i6,hY v];rfl)) ?_)];let(C',W,D,L,N,i3,i4,_):=I.inst B;erw[eS L ((_,N),rfl,rfl) i4 ?_];refine iG (as[q]) W D _ (ll rfl B L (λH3 s3=>?_))
    let U:decide ((rows.getD q default).sh.kind<3)=false:=by
     let:=iB hm;erw[iR ()]
    rw[U];lk;erw[k _ s3]
   .exact absurd (gy eb) e2
  .erw[(rfl,?_,_,_,rfl)];let:q≠j:=λz=>e (by lia)
   lia
abbrev mq:=Hp->eF->Re->FS->Prop
def agV(x:Str):Prop:=x.length<=100000/\True
def Xt(TR:mq):Sp:=λvs H Q _=>∃(x:Str) (a:Re),vs=[.str x]/\agV x/\parse (gu x)=.ok a/\gD a/\∀(t:eF) (H':Hp) (c:FS),aH H H'->(∀b,c b->H b=none)->TR H' t a c->Q (.ref t) H'
def s32:SE " "=⟨#[32]⟩:=by rfl
def s35:SE "#"=⟨#[35]⟩:=by rfl
def sS:SE "\n"=⟨#[10]⟩:=by rfl
def O2:Sp:=λvs H Q _=>∃x:Str,vs=[.str x]/\x.length<=100000/\Q (.bl (mH (gu x))) H
def WV(F:wv "passed_over" rV)(T:Txt mg):zn 1 AN O2:=by
 erw[F.CK yK λvs H Q E h=>?_];let(x,rfl,m,k):=h
 refine(rfl,λg A fM s n=>(_,(aa (bH (i:=1) yK.nd (gg ajc al7 al8 yT (pv 0) {(aj)}))
   (af (au (YX (vV cq (pv 1) aj) (ly (gg ajc PySem.F.slot_str_startswith PySem.F.type_str_startswith Cg (pv 1) {(aj)})))))),?_))
 let j:=C7 x 32;lk;erw[(qU (),?_)];rw[s32];unfold mH at k;rw[<- j]at k;generalize ajR x ⟨#[32]⟩=y at k;lk;erw[bR (λe=>?_) (λe=>?_)]
 .let e:=V.str.inj (iB e);subst e;erw[k]
 .let e:=λz=>e (gy (iY V.str z));lk;rw[s35,MF];cases hy:gu y with
  |nil=>erw[absurd (vh hy) e]
  |cons c r=>
   rw[hy]at k
   let a:decide ((c::r).head? =some 35)=(c==35):=by
    show decide (some c=some 35)=_;rw[tL,pD,xc,Option.some.injEq]
   rwa[a]
def Pf(x:Str):(df (gu x)).map Au=(Txt.split x ⟨#[32]⟩).filter λy:Str=>decide (y≠""):=by
 unfold df;rw[<- rq x ∅,List.filter_map,akl];let:(Au∘gu)=id:=funext λy=>Uj y;rw[this,aoS]
 congr 1
 funext y
 show(!(gu y).isEmpty)=_;rw[tL,pD,Ma,List.isEmpty_eq_false_iff];exact(λz e=>z (by rw[e];rfl),λz e=>z (vh e))
def My:Sp:=λvs H Q _=>∃x:Str,vs=[.str x]/\x.length<=100000/\∀(q:eF) (H':Hp),aH H H'->H q=none->H' q=some (.lst (((df (gu x)).map Au).map V.str))->Q (.ref q) H'
def RX(F:wv "words_in" BO)(T:Txt mg):zn 1 AN My:=by
 erw[F.CK Q8 λvs H Q E h=>?_];let(x,rfl,I,k):=h;erw[(rfl,λC A fM s G=>(_,(af (au (gU (fr:=[]) (by kd_p) rfl (eo (gg ajc amr ams Az (pv 0) {(aj)})) (λ_ _ _ _=>(mL (zF uO (pv 0) aj (BP _)))) (λ_ _ _ _=>(pv 0))))),?_))]
 rw[Pf]at k;let B:=aor x (c:=32) ∅;let bl:=FK x 32;rw[s32];lk;generalize hys:Txt.split x ⟨#[32]⟩=ys at k B;erw[(qU (),rfl,qU (jC bl ()),qU (),λq D=>?_)];erw[(q,rfl,(_,fT.of ae),?_)];let m:fT K (upd H q (.lst (ys.map V.str))) q (ys.map V.str):=fT.of ae;let r:aH H (upd H q (.lst (ys.map V.str))):=aq D;generalize upd H q (.lst (ys.map V.str))=H1 at m r;erw[cO (n:=ys.length) (λi g H'=>H'=H1/\g=((ys.take i).filter λy:Str=>decide (y≠"")).map V.str) (rfl,rfl) ?_ ?_ ?_ ?_]
 .rintro i g H' hi ⟨rfl,rfl⟩;exact(_,V.str ys[i],m,by rw[i6,hY hi];rfl)
 .rintro g H' ⟨rfl,rfl⟩;exact(_,m,by rw[gQ];erw[gx _])
 .rintro i g H' v H2 hi ⟨rfl,rfl⟩ ⟨rfl,j⟩;let j:=j _ m;rw[i6,hY hi]at j;obtain rfl:V.str ys[i]=v:=iJ j;let u:((ys.take i).filter λy:Str=>decide (y≠"")).length<=ys.length:=jC (yS _ _) (by rw[ve];lia);lk;refine bR (λe=>?_) (λe=>?_)
  .let e:ys[i]≠"":=λz=>by rw[z]at e;exact absurd e ∅
   lk;erw[(by rw[gQ,LQ];lia,rfl,?_)];rw[AD,hY hi,su,kr];show _=_++(anN _ [ys[i]]).map V.str;rw[nS,fR (gy e)]
   rfl
  .let e:ys[i]="":=by
    simp_all
   erw[(rfl,?_)];rw[AD,hY hi,su,kr];show _=_++(anN _ [ys[i]]).map V.str;rw[nS,fC (λz=>(iB z) e)];exact(ov _).symm
 .rintro g H' ⟨rfl,rfl⟩;rw[zN];let u:(ys.filter λy:Str=>decide (y≠"")).length<=ys.length:=yS _ _;erw[(qU (by rw[gQ];lia),λt a=>k t _ (λb o z=>aq a _ _ (r _ _ z)) ?_ ae)];cases z:H t with
  |none=>rfl
  |some o=>rw[r _ _ z]at a;cases a
def PL:Sp:=λvs H Q _=>∃x:Str,vs=[.str x]/\x.length<=100000/\Q (.int ((lead (gu x):Nat):Int)) H
def Vk(F:wv "blanks_ahead" qb)(T:Txt mg):zn 1 AN PL:=by
 erw[F.CK Gv λvs H Q E h=>?_];let(x,rfl,g,k):=h;erw[(rfl,λc A fM s j=>(_,(af (au (aG E7 (a9 oy ⋯ T.fH cW {pv 0}) (a9 oy ⋯ T.fH cW {gg ajc al7 al8 yT (pv 0) {(aj)}})))),?_))]
 let a:=C7 x 32;let e:(x.length)-((ajR x ⟨#[32]⟩).length)=((lead (gu x)):Int):=by
  let h:=iY List.length (List.takeWhile_append_dropWhile (p:=(·==32)) (l:=gu x));rw[jm,bT,<-a,bT]at h;unfold lead
  lia
 lk;erw[(qU (),?_),(qU (),?_)];rw[s32];lk;erw[(qU (),?_)];lk;simp_all
def Y4(g:eF)(p:Pl):Sp:=λvs H Q _=>∃(t x:eF) (e:Re) (r:Row) (c b a d:eF) (as:List eF) (ab:V),vs=[.ref t,.ref x,.int ((2*r.dep:Nat):Int),ab]/\zO g p H t e c b a d as/\p.rep H x r.sh/\e.length<=1000∧
 ((e=[]/\r.dep=0/\r.DM=true)\/(e≠[]/\(∃j:Int,ab=.int j)/\r.dep<=8/\r.sh.name∉e.map (·.sh.name)))/\∀H',aH H H'->Q (.bl true) H'
def acL{D:eF}{tB:Tok}(F:wv "stands_well" rO)(T:Txt mg)(L:CT K D)(y:∀j,p.pr j->CF K (p.c j))(I:If P w K mg eC 3 p.rep p.cl)(rS:mg "MOST_BLANKS"=some (.int 16 tB))
  (hN:xz 1 "names" (G3 p) λC=>C=D):zn 4 Lu (Y4 D p):=by
 let g:=hN.d
 let h:∀C s i,Dt (xT p.rep) (λC=>∃j,p.cl j C) C s i->wT (gf P w) true 3 "leaf" C s i:=by
  rintro C s i ⟨⟨j,z⟩,rfl,rfl⟩;erw[I.leaf z]
 rcases Im,(aa (aO (ix (A1 (iM hr)) (kU (pv 0) g) (aP bQ)) (af (au (pA (vV cq (pv 2) ai) (ly (Jx (kU (pv 1) h)))))) ay)
   (af (au (pA (vV UU (pv 3) fO) (pA (vV adm (pv 2) (uW ⋯ rS)) (ly (afq (Mq (pI hr) (av (pv 1) rfl) (av (pv 0) rfl))))))))) with⟨t,x,rows,r,c,b,a,d,as,ab,rfl,hT,hR,hl,hk,k⟩
 let(dx,u):=hT.ob;let(r1,r2,W,r3):=id hR;let O:=y _ r2;lk;erw[eS u (rfl,rfl,rfl) rfl ?_];erw[ml t rows c b a d as (ll rfl hT hl (λq S s1 hq A=>?_)),(l8 ∅,λM B=>?_)];let G:=aq (o:= .lst []) B;erw[iG q M _ ([]) (kR rfl rfl (fT.of (G _ _ A)) (fT.of ae) (LD _) rfl ?_)];generalize upd S M (.lst [])=H2 at G;let m:aH H H2:=λb o z=>G _ _ (s1 _ _ z);erw[(_,rfl,?_)];rcases hk with⟨rfl,h0,hm⟩|⟨hn,⟨j,rfl⟩,h8,v⟩
 .rw[h0];lk;let(C',U,J,N,R,i3,Z,_):=I.inst (I.mono m hR);erw[eS N ((_,R),rfl,rfl) Z ?_];refine iG x U J _ (ll rfl (I.mono m hR) N (λH3 s3=>?_))
  let nl:decide (r.sh.kind<3)=false:=by
   let:=iB hm;erw[iR ()]
  rw[nl];lk;erw[k _ (λb o z=>s3 _ _ (m _ _ z))]
 .refine bR (λe=>?_) (λe=>?_)
  .cases rows with
   |nil=>erw[absurd rfl hn]
   |cons r0 rs=>erw[absurd e (by show ¬(false=true);decide)]
  .let T2:=hT.same m;let(ac,n):=T2.ob;let(_,_,X,Y):=Pl.mono m hR
   let dg:=by
    let:=kT.k (k:= .inr r.sh.name) T2.pl;rw[FI v]at this;erw[this]
   lk;erw[bR (λe2=>?_) (λe2=>absurd (gy (show((2*r.dep):Int)<=16 by lia)) e2),bA Y O.cl O.n1 (G1 _) ?_,bA n L.cl L.n4 rfl ?_];exact(d,none,rfl,dg,k _ m)
theorem Og(c:Nat):∀l:List Nat,∀y∈mE c l,y.length<=l.length
 |[],y,h=>by
  rw[aaK,l9]at h;rw[h];erw[gx _]
 |a::r,y,h=>by
  rw[yW]at h;by_cases e:a=c
  .rw[fR e]at h;rcases oT.mp h with rfl|h
   .exact qj _
   .exact jC (Og c r y h) (LM _)
  .rw[fC e]at h;let g:=Og c r;cases hz:mE c r with
   |nil=>erw[absurd hz (Rn c r)]
   |cons u v=>
    rw[hz]at h g;rcases oT.mp h with rfl|h
    .exact al0 (g u lq)
    .exact jC (g y (mf _ h)) (LM _)
def abc{x y:Str}(h:y∈(df (gu x)).map Au):y.length<=x.length:=by
 let(l,a,rfl):=tU.mp h;let:=Og 32 (gu x) l (mJ.mp a).1;rwa[<- bT,<-bT]
def L3(h:eF)(p:Pl):Sp:=λvs H Q _=>∃(t:eF) (x:Str) (n:Int) (g:Re) (r:Row) (c b a d:eF) (as:List eF),vs=[.ref t,.str x,.int n]/\zO h p H t g c b a d as/\OkP g/\g.length<64/\x.length<=100000/\sI (gu x)=some r∧
 fits (cB g g.length) g.length r/\r.sh.name∉g.map (·.sh.name)/\∀(H':Hp) (y:eF),(∀e u,e≠c->e≠b->e≠a->e≠d->H e=some u->H' e=some u)->H y=none->zO h p H' t (g++[r]) c b a d (as++[y])->Q .non H'
def Rr{I:eF}{tR:Tok}(F:wv "take_row" pP)(T:Txt mg)(hc:CT K I)(xu:mg "MOST_ROWS"=some (.int 64 tR))(hN:xz 1 "names" (G3 p) λC=>C=I)(hA:xz 4 "minder_above" (Tv p) λC=>C=I)
  (hK:xz 1 "take" (Yf p) λC=>C=I) (Bk:wE true 7 "child_in" (Fs K p none) []) (BH:wE true 1 "words_in" My []) (oW:wE true 1 "blanks_ahead" PL [])
  (sT:wE true 4 "stands_well" (Y4 I p) []):zn 8 HE (L3 I p):=by
 erw[F.CK rg λvs H Q E y0=>?_];let(t,x,n,g,r,c,b,a,d,as,rfl,hT,hO,am,X,ak,U,M,k):=y0;erw[(rfl,λY A fM s hr=>?_)];let(ld,ac):=aat ak;let m:=hN.d;let h:=hA.d;let v:=hK.d;let wl:∀y∈(df (gu x)).map Au,y.length<=100000:=λy hy=>jC (abc hy) X
 let t3:∃tt,nN (w9 true (gf P w) P w K mg eC Jz "take_row" (ah pP) f Y A fM s H E).je ((cZ pP).drop 3) tt/\∀(y:eF) (ab:V) (J:Hp),aH H J->H y=none->p.rep J y r.sh->ab=(if g.length=0 then V.non else V.int (bP (g++[r]) g.length))→
   ((g=[]/\r.dep=0/\r.DM=true)\/(g≠[]/\(∃j:Int,ab=.int j)/\r.dep<=8/\r.sh.name∉g.map (·.sh.name)))->tt {nx:=λ_ H'=>Q .non H',rt:=Q} [some (.ref t),some (.str x),some (.int n),some (.ref y),some (.int ((2*r.dep:Nat))),some ab] J:=by
  refine(_,(aa (aO (PW.pt (nR (ix ES (pv 3) fO) (qp (fA (bx (cn sT {pv 0,pv 3,pv 4,pv 5})))))) (af yR) ay)
   (aa (aO (ix cq (a9 aU ⋯ T.fH cW {kU (pv 0) m}) (uW ⋯ xu)) (af yR) ay)
   (af (aE (lS (pv 0) v {pv 3,pv 4,pv 5}))))),?_)
  intro y ab J R hy O ad hw;let T3:=hT.same R;let hl:g.length<=1000:=by lia
  lk;erw[aaP t y g r c b a d as ab (pE rfl T3 O hl hw (λH4 s4=>?_))];let W:=T3.same s4;let(an,S):=W.ob;lk;erw[eS S (rfl,rfl,rfl) rfl ?_];erw[ml t g c b a d as (ll rfl W hl (λq H5 s5 hq D=>?_))];let T5:=W.same s5;let(al,L):=T5.ob;erw[jl q _ (kz rfl (.inl (fT.of D)) ?_),bR (λe=>?_) (λe=>?_)]
  .let e:=V.int.inj (iB e);rw[gQ]at e;let:(namesOf g).length=g.length:=gQ _
   lia
  erw[ju rfl (eS L (rfl,rfl,rfl) rfl ?_)];erw[ju rfl (ju rfl (ju rfl (aaP t y g r c b a d as ab (kR rfl T5 (Pl.mono s5 (Pl.mono s4 O)) hl M ad (λH6 k6 T6=>?_)))))];erw[k H6 y (λe u n1 n2 n3 n4 z=>k6 e u n1 n2 n3 n4 (s5 _ _ (s4 _ _ (R _ _ z)))) hy T6]
 let(tt,ht,hn):=t3
 refine(_,(aa (bH (i:=3) rg.nd (cn Bk {cn BH {pv 1}}))
   (aa (bH (i:=4) rg.nd (cn oW {pv 1}))
   (aa (bH (i:=5) rg.nd (lS (pv 0) h {pv 4}))
   ht))),?_)
 lk;erw[(X,λq H1 s1 hq D=>?_),mI q _ r.sh (kR rfl (fT.of D) ac (λz=>(by cases z)) (λz=>(by cases z)) wl (λy H2 s2 Z O=>?_)),(X,?_)];rw[ld];let B:aH H H2:=λb o z=>s2 _ _ (s1 _ _ z);let T2:=hT.same B;let(ap,N):=T2.ob;let yn:=jY s1 Z;lk;erw[eS N (rfl,rfl,rfl) rfl ?_];erw[ju rfl (ex8 t g c b a d as r.dep (ll rfl T2 () ?_))];by_cases G:g=[]
 .let hf0:=by
   unfold fits at U;rw[fR (by rw[G];rfl)]at U;erw[U]
  erw[.inl (G,hn y _ H2 B yn O (by rw[fR (by rw[G];rfl)]) (.inl (G,hf0)))]
 .let(j,j1,j2,j3,j4,j5,j6):=aaQ hO G U;erw[.inr (j,j1,j2,j3,j4,λJ R=>?_)];erw[hn y _ J (λb o z=>R _ _ (B _ _ z)) yn (Pl.mono R O) (by rw[fC (λz=>G (Yw.mp z)),j6]) (.inr (G,(_,rfl),j5,M))]
def k8(h:eF)(p:Pl):mq:=λH t g i=>∃(c b a d:eF) (as:List eF),zO h p H t g c b a d as/\i=λe=>e=t\/e=c\/e=b\/e=a\/e=d\/e∈as
def aaO{B:eF}(F:wv "read" SO)(T:Txt mg)(hc:CT K B)(SA:wr true 1 "Tree" B (HX B p) [])(hN:xz 1 "names" (G3 p) λC=>C=B)
  (rP:wE true 1 "passed_over" O2 []) (Bv:wE true 8 "take_row" (L3 B p) []):zn 9 IL (Xt (k8 B p)):=by
 let j:=hN.d
 rcases Hi,(aa (bH (i:=1) Hi.nd (ab4 SA (hr.mono (by omega)) ⋯ cI))
   (aa (lM yu rfl (Yo ⋯ T.FG {gg ajc amr ams Az (pv 0) {(aj)}}) (RS rfl (mh (c9 (i:=2) Hi.nd rfl (by k_ne)) (mh (c9 (i:=3) Hi.nd rfl (by k_ne)) MC))) (af (aO (fA (bx (cn rP {pv 3}))) (af (aE (cn Bv {pv 1,pv 3,pv 2}))) ay)))
   (aa (aO (ix (A1 (iM hr)) (kU (pv 1) j) (aP bQ)) (af yR) ay)
   (af (au (pv 1)))))) with⟨x,out,rfl,⟨hx,_⟩,hp,hO,k⟩
 unfold parse at hp;rw[<- rq x ∅]at hp;let sl:=aor x (c:=10) ∅;let bl:=FK x 10
 let le:∀y∈Txt.split x ⟨#[10]⟩,y.length<=100000:=λy A=>by
  let:=Og 10 (gu x) (gu y) (by rw[<- rq x ∅];erw[tU.mpr (y,A,rfl)]);rw[bT,bT]at this
  lia
 intro t dx n1 n2 n3;erw[mI t dx H (pE rfl n1 n2 n3 rfl (λN c b a d s1 f1 f2 f3 f4 L=>(rfl,?_)))];lk;rw[sS];generalize Txt.split x ⟨#[10]⟩=lns at hp sl le;erw[(qU (),rfl,qU (jC bl ()),qU (),λq m=>?_)];lk;let X:(upd N q (.lst (lns.map V.str))) q=some (.lst (lns.map V.str)):=ae;let W:aH N (upd N q (.lst (lns.map V.str))):=aq m;erw[((_,fT.of X),?_)];let O:q≠c/\q≠b/\q≠a/\q≠d:=(λz=>(by rw[z,L.ch]at m;cases m),λz=>(by rw[z,L.bl]at m;cases m),λz=>(by rw[z,L.ab]at m;cases m),λz=>(by rw[z,L.pl]at m;cases m))
 refine p9 (n:=lns.length) (λi R H'=>H' q=some (.lst (lns.map V.str))/\aH H H'/\∃(g:Re) (as:List eF) (v2 S:Option V),zO B p H' t g c b a d as/\OkP g/\g.length<=64/\scan g i ((lns.drop i).map gu)=.ok out/\(∀y∈as,H y=none)/\R=[some (.str x),some (.ref t),v2,S])
  (X,λe u z=>W _ _ (s1 _ _ z),[],[],none,none,L.same W,λi D=>absurd D (ze _),qj _,hp,λy A=>(by cases A),rfl) ?_ ?_ ?_
 .rintro i R H' D ⟨z,_⟩;exact(_,V.str lns[i],fT.of z,by rw[i6,hY D];rfl)
 .rintro i R H' v H3 D ⟨z1,z2,g,as,v2,S,Tp,Op,l64,sc,fr,rfl⟩ ⟨q3,y,hq3,rfl,A,rfl⟩;let A:=A _ (fT.of z1);rw[i6,hY D]at A;obtain rfl:V.str lns[i]=y:=iJ A;let J:=aq (o:= .tup [.int ((1+i:Nat)),V.str lns[i]]) hq3;erw[jl q3 _ (ll rfl (jx.of ae) rfl ?_)];let dr:(lns.drop i).map gu=gu lns[i]::(lns.drop (i+1)).map gu:=by rw[akB D,xl]
  rw[dr]at sc;let lx:=le lns[i] (uy D);let T3:=Tp.same J;lk;erw[(lx,?_)];rcases WC sc with⟨I,G⟩|⟨I,r,ak,M,ac,ap,G⟩
  .rw[I];lk;exact(J _ _ z1,λe u z=>J _ _ (z2 _ _ z),g,as,_,_,T3,Op,l64,G,fr,rfl)
  .rw[I];lk;erw[aaP t (lns[i]) _ g r c b a d as (DK rfl T3 Op () lx ak M ac (λH4 y k4 an T4=>?_))];refine(k4 _ _ O.1 O.2.1 O.2.2.1 O.2.2.2 (J _ _ z1),λe u z=>?_,g++[r],as++[y],_,_,T4,Op.snoc M,by rw[jm];show g.length+1<=64;lia,G,λy' al=>?_,rfl)
   .exact k4 e u (ao z f1) (ao z f2) (ao z f3) (ao z f4) (J _ _ (z2 _ _ z))
   .rcases ro.mp al with h|h
    .exact fr y' h
    .rw[l9.mp h];erw[jY (λe u z=>J _ _ (z2 _ _ z)) an]
 .rintro R H' ⟨z1,z2,g,as,v2,S,Tp,Op,l64,sc,fr,rfl⟩;rw[anZ]at sc;let(am,rfl):=ZR sc;let(az,ad):=Tp.ob;erw[((_,fT.of z1,by rw[gQ];exact gx _),?_),eS ad (rfl,rfl,rfl) rfl ?_];erw[ml t out c b a d as (ll rfl Tp () (λq5 H5 s5 ax Y=>?_)),(l8 ∅,λq6 Z=>?_)];let U:=aq (o:= .lst []) Z;erw[iG q5 q6 _ ([]) (kR rfl rfl (fT.of (U _ _ Y)) (fT.of ae) (LD _) rfl ?_)];erw[(_,rfl,?_)];refine bR (λe=>?_) (λe=>?_)
  .cases out with
   |nil=>erw[absurd rfl am]
   |cons r0 rs=>erw[absurd e (by show ¬(false=true);decide)]
  .lk;erw[k t _ _ (λe u z=>U _ _ (s5 _ _ (z2 _ _ z))) (λe he=>?_) (c,b,a,d,as,(Tp.same s5).same U,rfl)];rcases he with rfl|rfl|rfl|rfl|rfl|he
   .exact n1
   .exact f1
   .exact f2
   .exact f3
   .exact f4
   .exact fr _ he
end
open PySem L2 Shp Nm Tr Hs Hm Hr PySem.NumText
abbrev Ai:List Str:=["self","child"]
def yc:ar Ai Ai (ah iA):=by kt_ors
def BL:ar QW QW (ah kh):=by kt_ors
def sF:ar Ai Ai (ah eX):=by kt_ors
abbrev zb:List Str:=["self","clock"]
def xf:ar zb zb (ah gC):=by kt_ors
def yX:ar QW QW (ah iC):=by kt_ors
def sj:ar zb zb (ah fj):=by kt_ors
def rM:ar QW QW (ah fF):=by kt_ors
def mz:ar zR QW (ah ir):=by kt_ors
def pH:ar Ai Ai (ah dM):=by kt_ors
def i7:ar QW QW (ah cY):=by kt_ors
abbrev wX:List Str:=["self","standing"]
def uZ:ar wX wX (ah fW):=by kt_ors
def tT:ar zb zb (ah fK):=by kt_ors
def o9:ar zb zb (ah dR):=by kt_ors
def qI:ar QW QW (ah eI):=by kt_ors
def qK:ar QW QW (ah eK):=by kt_ors
def vP:ar QW QW (ah fY):=by kt_ors
def oK:ar QW QW (ah dE):=by kt_ors
abbrev qd:List Str:=["self","left"]
def gk:ar qd QW (ah dF):=by kt_ors
section
variable{P:iU}{w:iP}{K:gI}{mg:Str->Option fy}{eC:h7}{f:eF}{fd:pG}{dV:fy}{R:Rep}{TR:Hr.mq}{fx:HC}{T:Re}{L:Lo}{D:Dy}
structure CS(K:gI)(C:eF):Prop where
 cl:rz K C
 child:bw K C "child"
 state:bw K C "state"
 asked:bw K C "asked"
 Od:bw K C "minder"
 place:bw K C "place"
 vH:bw K C "minded"
 Jh:bw K C "begun_at"
 steps:bw K C "steps"
 OQ:bw K C "needed"
 Hf:bw K C "granted"
 aA:bw K C "falls"
 good:bw K C "good"
 waiting:bw K C "waiting"
 leaving:bw K C "leaving"
 aY:bw K C "coming"
 G5:bw K C "gave_up"
theorem BY(d:Nd)(i:Nat):(k7 T L D d i).lookup ("child":Str)=some (.ref (L.ch i)):=rfl
theorem Zz(d:Nd)(i:Nat):(k7 T L D d i).lookup ("state":Str)=some (.str d.st):=rfl
theorem Ic(d:Nd)(i:Nat):(k7 T L D d i).lookup ("asked":Str)=some (.bl d.asked):=rfl
theorem HD(d:Nd)(i:Nat):(k7 T L D d i).lookup ("minder":Str)=some (vt T L i):=rfl
theorem yA(d:Nd)(i:Nat):(k7 T L D d i).lookup ("place":Str)=some (.int ((gm T i:Nat):Int)):=rfl
theorem WO(d:Nd)(i:Nat):(k7 T L D d i).lookup ("minded":Str)=some (.ref (L.mi i)):=rfl
def UD{i:Nat}(h:f7 T i=true)(d:Nd):k7 T L D d i=m8 T L d i++fsL d:=by
 unfold k7;rw[h]
 rfl
def zC{i:Nat}(h:f7 T i=false)(d:Nd):k7 T L D d i=m8 T L d i++pw (D.fa i) (D.wa i) d:=by
 unfold k7;rw[h]
 rfl
def ag8(x y:Str):decide (V.str x=V.str y)=decide (x=y):=by
 simp
def vM(R:Rep)(TR:Hr.mq)(fx:HC)(C:eF):Sp:=λvs H Q _=>∃(T:Re) (L:Lo) (a:FS) (D:Dy) (S:HS) (i:Nat),vs=[.ref (L.nd i)]/\Rp R TR fx T L a D S H/\i<T.length/\bI fx T i=C/\Q (.bl (bK S i)) H
def Pp(F:aI K "is_off" "Standing.is_off" kh dV f fd){C:eF}(a:CS K C):zn 1 QW (vM R TR fx C):=by
 rcases BL,(af (au (vV cq (av (pv 0) rfl) aj))) with⟨T,L,g,D,S,i,rfl,h,e,rfl,k⟩;let c:=h.cells (.nd i) e;lk;erw[bA c a.cl a.state (Zz _ _) ?_];lk;rwa[ag8]
def jU(R:Rep)(TR:Hr.mq)(fx:HC)(b:Bool)(more:Re->HS->Nat->List V->Prop)(next:Re->Nat->HS->HS)(ans:Re->HS->Nat->V)(C:eF):Sp:=λvs H Q _=>∃(T:Re) (L:Lo) (a:FS) (D:Dy) (S:HS) (i:Nat) (us:List V),vs=.ref (L.nd i)::us/\more T S i us/\Rp R TR fx T L a D S H/\i<T.length∧
 f7 T i=b/\bI fx T i=C/\∀D' H',Goes R TR fx T L a D H D' (next T i S) H'->Q (ans T S i) H'
def uS:Re->HS->Nat->List V->Prop:=λ_ _ _ us=>us=[]
def FN:Re->HS->Nat->List V->Prop:=λ_ S _ us=>us=[.int S.clk]
def pF:Re->HS->Nat->V:=λ_ _ _=>.non
def oO{H:Hp}{S:HS}{a:FS}{i:Nat}(h:Rp R TR fx T L a D S H)(e:i<T.length)(c:f7 T i=true):H (L.nd i)=some (.ins (bI fx T i) (L.dn i) (m8 T L (S i) i++fsL (S i))):=by
 let:=h.cells (.nd i) e;rwa[<- UD c]
def bC{H:Hp}{S:HS}{a:FS}{i:Nat}(h:Rp R TR fx T L a D S H)(e:i<T.length)(c:f7 T i=false):H (L.nd i)=some (.ins (bI fx T i) (L.dn i) (m8 T L (S i) i++pw (D.fa i) (D.wa i) (S i))):=by
 let:=h.cells (.nd i) e;rwa[<- zC c]
def zD{H:Hp}{S:HS}{c:FS}{i:Nat}(a:jA TR)(h:Rp R TR fx T L c D S H)(n:i<T.length)(m:f7 T i=true)(g:Nd->Nd)(j:(g (S i)).aA=(S i).aA)(e:(g (S i)).wait=(S i).wait):
  Goes R TR fx T L c D H D (up S i g) (upd H (L.nd i) (.ins (bI fx T i) (L.dn i) (m8 T L (g (S i)) i++fsL (g (S i))))):=by
 let:=h.node a n g j e;rw[UD m]at this;erw[this]
def lQ{H:Hp}{S:HS}{c:FS}{i:Nat}(a:jA TR)(h:Rp R TR fx T L c D S H)(n:i<T.length)(m:f7 T i=false)(g:Nd->Nd)(j:(g (S i)).aA=(S i).aA)(e:(g (S i)).wait=(S i).wait):
  Goes R TR fx T L c D H D (up S i g) (upd H (L.nd i) (.ins (bI fx T i) (L.dn i) (m8 T L (g (S i)) i++pw (D.fa i) (D.wa i) (g (S i))))):=by
 let:=h.node a n g j e;rw[zC m]at this;erw[this]
def Va(c:jA TR)(F:aI K "begin" "LeafStanding.begin" gC dV f fd){C:eF}(a:CS K C):zn 1 zb (jU R TR fx true FN oX pF C):=by
 rcases xf,(aa (aJ (pv 0) aj rfl)
   (aa (aJ (pv 0) cP rfl)
   (aa (aJ (pv 0) (pv 1) rfl)
   (af (aJ (pv 0) ai rfl))))) with⟨T,L,FT,D,S,i,us,rfl,rfl,h,hi,hl,rfl,k⟩
 let e:=oO h hi hl;lk;erw[cw e a.cl a.state (by show 10<1000;decide) ?_,cw ae a.cl a.asked (by show 10<1000;decide) ?_];rw[bp];lk;erw[cw ae a.cl a.Jh (by show 10<1000;decide) ?_];rw[bp];lk;erw[cw ae a.cl a.steps (by show 10<1000;decide) ?_];rw[bp];let g:=zD c h hi hl (λd=>if f7 T i then {d with st:="on",asked:=false,beg:=S.clk,steps:=0} else forget {d with st:="on",asked:=false}) (by rw[hl];rfl) (by rw[hl];rfl);erw[k D _ ?_];rw[hl]at g;unfold oX;rwa[hl]
def XQ(q:jA TR)(n:∀{H:Hp} {a:eF} {s:Sh},R H a s->∃j y fs,H a=some (.ins j y fs)/\CF K j/\(s.kind<3->fs.lookup ("grace":Str)=some (.int s.bU)/\fs.lookup ("slow":Str)=some (.int s.cS)))
  (F:aI K "tell" "LeafStanding.tell" iC dV f fd) {C:eF} (c:CS K C):zn 1 QW (jU R TR fx true uS bj pF C):=by
 rcases yX,(aa (aJ (pv 0) aj rfl)
   (aa (aJ (pv 0) cP rfl)
   (aa (aJ (pv 0) (av (av (pv 0) rfl) rfl) rfl)
   (af (aJ (pv 0) (av (av (pv 0) rfl) rfl) rfl))))) with⟨T,L,FT,D,S,i,us,rfl,rfl,h,hi,hl,rfl,k⟩
 let t:=oO h hi hl;let(I,r,z):=h.ch i hi;let(j,G,A,u,m,B):=n (z H r);let(v,x):=B (iB hl);let p:L.ch i≠L.nd i:=Ne.symm ((h.nt (.nd i) hi).2.1 i hi).2;let e:∀o,(upd H (L.nd i) o) (L.ch i)=some (.ins j G A):=λo=>by rwa[ag p]
 lk;erw[cw t c.cl c.state (by show 10<1000;decide) ?_,cw ae c.cl c.asked (by show 10<1000;decide) ?_];rw[bp];lk;erw[bA ae c.cl c.child rfl ?_,bA (e _) m.cl m.n4 x ?_,cw ae c.cl c.OQ (by show 10<1000;decide) ?_];rw[bp];lk;erw[bA ae c.cl c.child rfl ?_,bA (e _) m.cl m.n3 v ?_,cw ae c.cl c.Hf (by show 10<1000;decide) ?_];rw[bp];let g:=zD q h hi hl (λd=>if f7 T i then {d with st:="told",asked:=true,need:=(sh T i).cS,kG:=(sh T i).bU} else goDown T i {d with asked:=true}) (by rw[hl];rfl) (by rw[hl];rfl);erw[k D _ ?_];rw[hl]at g;unfold bj;rwa[hl]
def VD(q:xz 1 "is_off" (vM R TR fx) λC=>C=fx.cL\/C=fx.cM)(F:aI K "steps_at" "LeafStanding.steps_at" fj dV f fd){C:eF}(m:C=fx.cL)(e:CS K C)(o:jA TR):zn 2 zb (jU R TR fx true FN (λ_ _ S=>S) (λT S i=>.bl (bM T i S)) C):=by
 let a:=q.d;rcases sj,(af (au (pA (Jx (kU (pv 0) a)) (ly (vV nI (av (pv 0) rfl) (pv 1)))))) with⟨T,L,n,D,S,i,us,rfl,rfl,h,j,g,p,k⟩;subst p;let c:=oO h j g;let k:Q (.bl (bM T i S)) H:=k D H (Goes.refl h);unfold bM at k;rw[g]at k;lk;erw[j0 (L.nd i) _ _ _ _ ([]) (gT rfl c (.inl m,rfl,rfl) rfl ?_)];erw[j0 T L n D S i (gT rfl h j rfl ?_)];cases ho:bK S i with
 |true=>
  rw[ho]at k;lk;erw[k]
 |false=>
  rw[ho]at k;lk;erw[bA c e.cl e.Jh rfl ?_,k]
def RD(F:aI K "told_end" "LeafStanding.told_end" fF dV f fd){C:eF}(a:CS K C):zn 1 QW (jU R TR fx true uS (λ_ _ S=>S) (λ_ S i=>.str (dJ (S i))) C):=by
 rcases rM,(aa (aO (ix cq (av (pv 0) rfl) ai) (af (au aj)) ay)
   (af (au (pR (ix cq (av (pv 0) rfl) ai) aj aj)))) with⟨T,L,FT,D,S,i,us,rfl,rfl,h,hi,hl,rfl,k⟩
 let c:=oO h hi hl;let k:Q (.str (dJ (S i))) H:=k D H (Goes.refl h);unfold dJ at k;lk;erw[bA c a.cl a.OQ rfl ?_,bR (λe=>?_) (λe=>?_)]
 .let e:=V.int.inj (iB e);rw[fR e]at k;erw[k]
 .let e:=λz=>e (gy (iY V.int z));rw[fC e]at k;lk;erw[bA c a.cl a.Hf rfl ?_];lk;refine bR (λe2=>?_) (λe2=>?_)
  .let e2:=V.int.inj (iB e2);rw[fR e2]at k;erw[k]
  .let e2:=λz=>e2 (gy (iY V.int z));rw[fC e2]at k;erw[k]
def aal(n:jA TR){x:eF->Prop}(u:∀{H:Hp} {a:eF} {s:Sh},R H a s->∃r U fs,H a=some (.ins r U fs)/\(s.kind<3->x r)/\fs.lookup ("end_at":Str)=none)
  (W:xz 3 "end_at" (L9 R) x) (O:xz 1 "told_end" (jU R TR fx true uS (λ_ _ S=>S) (λ_ S i=>.str (dJ (S i)))) λC=>C=fx.cL)
  (F:aI K "step" "LeafStanding.step" ir dV f fd) {C:eF} (Y:C=fx.cL) (j:CS K C):zn 4 QW (jU R TR fx true (λT S i us=>us=[]/\((S i).st≠"told"->0<=(S i).steps/\((sh T i).kind≠0->(S i).steps<=(sh T i).many))) (λT i S=>(cx T i S).2) (λT S i=>.str (cx T i S).1) C):=by
 let c:=O.d;let g:=W.d
 rcases mz,(aa (aO (ix cq (av (pv 0) rfl) aj) (aa (zH (pv 0) ai X1)
   (aa (zH (pv 0) ai X1)
   (af (au (kU (pv 0) c))))) ay)
   (aa (bH (i:=1) mz.nd (lS (av (pv 0) rfl) g {av (pv 0) rfl}))
   (aa (zH (pv 0) ai Zy)
   (af (au (pv 1)))))) with⟨T,L,FT,D,S,i,us,rfl,⟨rfl,o⟩,h,hi,hl,e0,k⟩
 subst e0;let p:=oO h hi hl;let k:∀D' H',Goes R TR fx T L FT D H D' (cx T i S).2 H'->Q (.str (cx T i S).1) H':=k;unfold cx at k;lk;erw[bA p j.cl j.state rfl ?_,bR (λe=>?_) (λe=>?_)]
 .let e:=V.str.inj (iB e);rw[fR e]at k;lk;erw[bA p j.cl j.OQ rfl ?_,(_,_,p,by show 10<1000;decide,?_),bA ae j.cl j.Hf rfl ?_,(_,_,ae,by show 10<1000;decide,?_)];rw[bp];let v:=zD n h hi hl (λd=>{d with need:=d.need-1,kG:=d.kG-1}) rfl rfl;let m:=oO v.rp hi hl;lk;erw[j0 (L.nd i) _ _ _ _ ([]) (gT rfl m (Y,rfl,rfl) rfl ?_)];exact(T,L,FT,D,_,i,[],rfl,rfl,v.rp,hi,hl,rfl,λX N Z=>k X N (v.trans Z))
 .let e:=λz=>e (gy (iY V.str z));let(o,t):=o e;rw[fC e]at k;let(oc,q,I):=h.ch i hi;let(r,J,y,B,M,c3):=u (I H q);lk;erw[bA p j.cl j.child rfl ?_,j0 (L.ch i) r J y _ ([]) (gT rfl B (M (iB hl),rfl,rfl) c3 ?_),bA p j.cl j.steps rfl ?_];erw[oi (L.ch i) J y (sh T i) _ (kR rfl (I H q) B (iB hl) o t (λH1 G=>?_))];let A:=h.same n G;let m:=oO A hi hl;lk;erw[bA m j.cl j.steps rfl ?_,(_,_,m,by show 10<1000;decide,?_),k D _ ((Goes.same n h G).trans (zD n A hi hl (λd=>{d with steps:=d.steps+1}) rfl rfl))]
def LY(S:HS)(i:Nat)(g g':Nd->Nd):up (up S i g) i g'=up S i λd=>g' (g d):=by
 unfold up
 simp_all
def Vr(g:jA TR)(F:aI K "forget" "MinderStanding.forget" cY dV f fd){C:eF}(a:CS K C):zn 1 QW (jU R TR fx false uS (λ_ i S=>up S i forget) pF C):=by
 rcases i7,(aa (aJ (pv 0) (aP bQ) rfl)
   (aa (aJ (pv 0) ai rfl)
   (aa (aJ (pv 0) (aP bQ) rfl)
   (aa (aJ (pv 0) ai rfl)
   (aa (aJ (pv 0) ai rfl)
   (af (aJ (pv 0) cP rfl))))))) with⟨T,L,FT,D,S,i,us,rfl,rfl,h,hi,hl,rfl,k⟩
 let o:=bC h hi hl;erw[(l8 ∅,λq p=>?_)];let t:=ao o p;erw[ju rfl (cw (by rwa[ag t]) a.cl a.aA (by show 12<1000;decide) ?_)];let c:=h.afP g hi hl p ({·with aA:=[],good:=0}) rfl;rw[zC hl,show({D with fa:=fD D.fa i q}:Dy).fa i=q from bS _ _ _]at c;lk;erw[cw ae a.cl a.good (by show 12<1000;decide) ?_];rw[bp]
 let m:(upd (upd H q (.lst [])) (L.nd i) (.ins (bI fx T i) (L.dn i) (m8 T L (S i) i++pw q (D.wa i) {S i with aA:=[],good:=0}))) (L.nd i)=some (.ins (bI fx T i) (L.dn i) (m8 T L (S i) i++pw q (D.wa i) {S i with aA:=[],good:=0})):=ae;erw[(l8 ∅,λj e=>?_)];let n:=ao m e;erw[ju rfl (cw (by rwa[ag n]) a.cl a.waiting (by show 12<1000;decide) ?_)];let r:=c.rp.ac9 g hi hl e ({·with wait:=[],bF:=0,com:=0,BC:=false}) rfl;rw[zC hl,show({ ({D with fa:=fD D.fa i q}:Dy) with wa:=fD ({D with fa:=fD D.fa i q}:Dy).wa i j}:Dy).wa i=j from bS _ _ _,show({ ({D with fa:=fD D.fa i q}:Dy) with wa:=fD ({D with fa:=fD D.fa i q}).wa i j}:Dy).fa i=q from bS _ _ _,LY,aw]at r;lk;erw[cw ae a.cl a.leaving (by show 12<1000;decide) ?_];rw[bp];lk;erw[cw ae a.cl a.aY (by show 12<1000;decide) ?_];rw[bp];lk;erw[cw ae a.cl a.G5 (by show 12<1000;decide) ?_];rw[bp];erw[k _ _ (c.trans r)]
def VQ(j:jA TR)(o:xz 1 "forget" (jU R TR fx false uS (λ_ i S=>up S i forget) pF) λC=>C=fx.cM)(F:aI K "begin" "MinderStanding.begin" fK dV f fd){C:eF}(t:C=fx.cM)(c:CS K C):
  zn 2 zb (jU R TR fx false FN oX pF C):=by
 let a:=o.d
 rcases tT,(aa (aJ (pv 0) aj rfl)
   (aa (aJ (pv 0) cP rfl)
   (af (aE (kU (pv 0) a))))) with⟨T,L,FT,D,S,i,us,rfl,rfl,h,hi,hl,e0,k⟩
 subst e0;let n:=bC h hi hl;lk;erw[cw n c.cl c.state (by show 12<1000;decide) ?_,cw ae c.cl c.asked (by show 12<1000;decide) ?_];rw[bp];let m:=lQ j h hi hl ({·with st:="on",asked:=false}) rfl rfl;let g:=bC m.rp hi hl;erw[ju rfl (j0 (L.nd i) _ _ _ _ ([]) (gT rfl g (t,rfl,rfl) rfl ?_))];erw[ml T L FT D _ i ([]) (kR rfl rfl m.rp hi hl rfl (λq r u=>?_))];erw[k q r ?_];let p:=m.trans u
 let e:up (up S i λd=>{d with st:="on",asked:=false}) i forget=oX T i S:=by
  rw[LY];unfold oX;rw[hl]
  rfl
 rwa[<- e]
def Vt(F:aI K "steps_at" "MinderStanding.steps_at" dR dV f fd){C:eF}:zn 2 zb (jU R TR fx false FN (λ_ _ S=>S) (λT S i=>.bl (bM T i S)) C):=by
 rcases o9,(af (au cP)) with⟨T,L,c,D,S,i,us,rfl,rfl,h,e,a,rfl,k⟩;let k:Q (.bl (bM T i S)) H:=k D H (Goes.refl h);unfold bM at k;rw[a]at k;erw[k]
def Qs(F:aI K "last_word" "MinderStanding.last_word" dE dV f fd){C:eF}(a:CS K C):zn 1 QW (jU R TR fx false uS (λ_ _ S=>S) (λ_ S i=>.str (eZ (S i))) C):=by
 rcases oK,(af (au (pR (bx (av (pv 0) rfl)) aj aj))) with⟨T,L,j,D,S,i,us,rfl,rfl,h,g,e,rfl,k⟩;let c:=bC h g e;let k:Q (.str (eZ (S i))) H:=k D H (Goes.refl h);unfold eZ at k;lk;erw[bA c a.cl a.G5 rfl ?_];lk;cases hg:(S i).BC with
 |true=>
  rw[hg]at k;erw[k]
 |false=>
  rw[hg]at k;erw[k]
def tP(U:Re)(i:Nat):(kids U i).length<=U.length:=by
 erw[jC (yS _ _) (by rw[mK];exact gx _)]
def W6(g:jA TR)(T:Txt mg)(v:wE true 1 "below" G6 [])(F:aI K "go_down" "MinderStanding.go_down" eK dV f fd){C:eF}(a:CS K C):
  zn 2 QW (jU R TR fx false (λT _ _ us=>us=[]/\T.length<=64) (λT i S=>up S i (goDown T i)) pF C):=by
 rcases qK,(aa (aJ (pv 0) aj rfl)
   (aa (aJ (pv 0) (aP bQ) rfl)
   (aa (aJ (pv 0) (cn v {a9 aU ⋯ T.fH cW {av (pv 0) rfl}}) rfl)
   (af (aJ (pv 0) ai rfl))))) with⟨U,L,FT,D,S,i,us,rfl,⟨rfl,h64⟩,h,hi,hl,rfl,k⟩
 let q:=bC h hi hl;let x:=tP U i;lk;erw[cw q a.cl a.state (by show 12<1000;decide) ?_];let j:=lQ g h hi hl ({·with st:="down"}) rfl rfl;let m:=bC j.rp hi hl
 rw[aw]at m;erw[(l8 ∅,λn c=>?_)];let o:=ao m c;erw[ju rfl (cw (by rwa[ag o]) a.cl a.waiting (by show 12<1000;decide) ?_)];let p:=j.rp.ac9 g hi hl c ({·with wait:=[],bF:=2^(kids U i).length-1,com:=0}) rfl;rw[zC hl,show({D with wa:=fD D.wa i n}:Dy).wa i=n from bS _ _ _,LY,aw]at p;let e:=j.rp.mi i hi;let t:=ao e c;let u:L.mi i≠L.nd i:=Ne.symm ((h.nt (.nd i) hi).2.1 i hi).1;lk;erw[bA ae a.cl a.vH rfl ?_,jl (L.mi i) _ (kz rfl (.inl (fT.of (by rwa[ag u,ag t]))) ?_)];lk;rw[gQ];erw[((),?_),cw ae a.cl a.leaving (by show 12<1000;decide) ?_];rw[bp];lk;erw[cw ae a.cl a.aY (by show 12<1000;decide) ?_];rw[bp];erw[k _ _ (j.trans p)]
def aak(g:jA TR)(o:xz 2 "go_down" (jU R TR fx false (λT _ _ us=>us=[]/\T.length<=64) (λT i S=>up S i (goDown T i)) pF) λC=>C=fx.cM)(F:aI K "tell" "MinderStanding.tell" fY dV f fd){C:eF}(t:C=fx.cM)(m:CS K C):
  zn 3 QW (jU R TR fx false (λT _ _ us=>us=[]/\T.length<=64) bj pF C):=by
 let a:=o.d
 rcases vP,(aa (aJ (pv 0) cP rfl)
   (af (aE (kU (pv 0) a)))) with⟨U,L,FT,D,S,i,us,rfl,⟨rfl,h64⟩,h,hi,hl,e0,k⟩
 subst e0;let n:=bC h hi hl;lk;erw[cw n m.cl m.asked (by show 12<1000;decide) ?_];let j:=lQ g h hi hl ({·with asked:=true}) rfl rfl;let c:=bC j.rp hi hl;erw[ju rfl (j0 (L.nd i) _ _ _ _ ([]) (gT rfl c (t,rfl,rfl) rfl ?_))];erw[ml U L FT D _ i ([]) (kR rfl (rfl,h64) j.rp hi hl rfl (λq r u=>?_))];erw[k q r ?_];let p:=j.trans u
 let e:up (up S i λd=>{d with asked:=true}) i (goDown U i)=bj U i S:=by
  rw[LY];unfold bj;rw[hl]
  rfl
 rwa[<- e]
def JS(T:Re)(m:Nat)(S:HS):Nat->Bool:=λk=>match (kids T m)[k]? with|some j=> !bK S j|none=>false
def WJ(r:jA TR)(T:Txt mg)(M:xz 1 "is_off" (vM R TR fx) λC=>C=fx.cL\/C=fx.cM)(u:CS K fx.cL)(c:CS K fx.cM)(N:wE true 1 "bit" Mx [])(F:aI K "not_off" "MinderStanding.not_off" eI dV f fd){C:eF}(A:C=fx.cM):
  zn 2 QW (jU R TR fx false (λT _ _ us=>us=[]/\T.length<=64) (λ_ _ S=>S) (λT S i=>.int ((bf T i S:Nat):Int)) C):=by
 let a:=M.d;rcases qI,(af (au (a9 (X3 rfl) ⋯ T.aga aep {gU (fr:=[]) (by kd_p) rfl (eo (av (pv 0) rfl)) (λ_ _ _ _=>(mL (fA (bx (jJ (pv 0) a (hr.mono (by omega)) zE))))) (λ_ _ _ _=>(Iv N (hr.mono (by omega)) ⋯ zE {NG rfl (pv 0) ⋯}))}))) with⟨U,L,I,D,S,i,us,rfl,⟨rfl,G⟩,h,y,B,W,k⟩;subst W;let e:=bC h y B;let X:=Uy U i;let mi:=h.mi i y
 let g:∀j,CS K (bI fx U j):=λj=>by
  unfold bI
  split
  .exact u
  .exact c
 lk;erw[bA e ((A ▸ c).cl) ((A ▸ c).vH) rfl ?_,((_,fT.of mi),cO (n:=(kids U i).length) (λt ys H'=>H'=H/\∃ns:List Int,ys=ns.map V.int/\(∀n∈ns,0<=n)/\ns.sum=((cV (JS U i S) t:Nat))/\ns.length<=t) (rfl,[],rfl,λn e=>(by cases e),rfl,gx _) ?_ ?_ ?_ ?_)]
 .rintro t ys H' ht ⟨rfl,_⟩;exact(_,V.ref (L.nd (kids U i)[t]),fT.of mi,by rw[i6,hY ht];rfl)
 .rintro ys H' ⟨rfl,_⟩;exact(_,fT.of mi,by rw[gQ];erw[gx _])
 .rintro t ys H' v H2 ht ⟨rfl,ns,rfl,n0,nsum,nl⟩ ⟨rfl,o⟩;let o:=o _ (fT.of mi);rw[i6,hY ht]at o;obtain rfl:V.ref (L.nd (kids U i)[t])=v:=iJ o;let(k1,k2,k3):=Ec (hY ht)
  let m:JS U i S t= !bK S (kids U i)[t]:=by
   unfold JS;rw[hY ht]
  let p:=h.cells (.nd (kids U i)[t]) k3;generalize (kids U i)[t]=j at k1 k2 k3 m p;lk;erw[j0 (L.nd j) _ _ _ _ ([]) (gT rfl p (?_,rfl,rfl) (by unfold k7;cases f7 U j<;>rfl) ?_)]
  .unfold bI
   split
   .exact .inl rfl
   .exact .inr rfl
  erw[j0 U L I D S j (gT rfl h k3 rfl ?_)];let bs:cV (JS U i S) (t+1)=cV (JS U i S) t+if JS U i S t=true then 2^t else 0:=rfl;cases ho:bK S j with
  |true=>
   rw[ho]at m;lk;erw[(n0,?_,())];rw[nsum,bs,m]
   rfl
  |false=>
   lk;erw[bA p ((g j).cl) ((g j).place) (yA _ _) ?_];rw[k1];lk;erw[((),?_)];erw[(by rw[gQ];exact aM (),rfl,ns++[((2^t):Int)],by rw[kr];rfl,λn e=>?_,?_,by rw[jm];show ns.length+1<=t+1;lia)]
   .rcases ro.mp e with z|z
    .exact n0 n z
    .rw[l9.mp z];erw[akG _]
   simp_all
 .rintro ys H' ⟨rfl,ns,rfl,n0,nsum,nl⟩;erw[(by rw[gQ];exact vC (aM ()),λq O=>?_)];let lt:cV (JS U i S) (kids U i).length<2^63:=rr (pB _ _) (aks ∅ ());erw[jl q ns (gT rfl (fT.of ae) n0 (by rw[nsum];exact_mod_cast lt) ?_)];rw[nsum];erw[k D _ (Goes.same r h (aq O))]
theorem afe{a n:Nat}(c:a≠0)(h:a<2^n):alw a<n:=(anO c).mpr h
def ZW(a:Nat)(c:a≠0):aky (a:Int)=alw a+1:=by
 unfold aky;simp_all
def Um(T:Re)(L:Lo)(S:HS)(m:Nat):V:=match aS T m S with
 |none=>.non
 |some j=>.ref (L.nd j)
def ZA(R:Rep)(TR:Hr.mq)(fx:HC)(C:eF):Sp:=λvs H Q _=>∃(T:Re) (L:Lo) (a:FS) (D:Dy) (S:HS) (i:Nat),vs=[.ref (L.nd i)]/\Rp R TR fx T L a D S H/\i<T.length/\T.length<=64/\f7 T i=false/\bI fx T i=C/\∀D' H',Goes R TR fx T L a D H D' S H'->Q (Um T L S i) H'
def Qj(v:jA TR)(T:Txt mg)(x:xz 2 "not_off" (jU R TR fx false (λT _ _ us=>us=[]/\T.length<=64) (λ_ _ S=>S) (λT S i=>.int ((bf T i S:Nat):Int))) λC=>C=fx.cM)(j:CS K fx.cM)
  (F:aI K "last_left" "MinderStanding.last_left" dF dV f fd) {C:eF} (q:C=fx.cM):zn 3 QW (ZA R TR fx C):=by
 let a:=x.d
 rcases gk,(aa (bH (i:=1) gk.nd (aG Kb (av (pv 0) rfl) (kU (pv 0) a)))
   (af (au (pR (ix uO (pv 1) ai) (ig aB (av (pv 0) rfl) (aG E7 (afp PySem.F.plainAttrs_int PySem.F.slot_int_bit_length PySem.F.type_int_bit_length B3 (pv 1)) ai)) fO)))) with⟨U,L,FT,D,S,i,rfl,h,hi,h64,hl,e0,k⟩
 let c:CS K (bI fx U i):=by rwa[e0,q]
 let n:=bC h hi hl;lk;erw[bA n c.cl c.leaving rfl ?_,j0 (L.nd i) _ _ _ _ ([]) (gT rfl n (e0.trans q,rfl,rfl) rfl ?_)];erw[ml U L FT D S i ([]) (kR rfl (rfl,h64) h hi hl rfl (λt o m=>?_))];let r:=bC m.rp hi hl;let mi:=m.rp.mi i hi;lk;let lt:(S i).bF &&& bf U i S<2^(kids U i).length:=uk al5 (pB _ _);let k:=k t o m;unfold Um aS at k;let g:=HM (S i).bF (bf U i S);generalize (S i).bF &&& bf U i S=left at k lt g;erw[bR (λe=>?_) (λe=>?_)]
 .let e:left≠0:=λz=>by
   simp_all
  rw[fC e]at k;let p:=afe e lt;let u:(aky (yU ((S i).bF:Int) (bf U i S:Int)))-1=((alw left):Int):=by rw[g,ZW left e];lia
  lk;erw[bA r c.cl c.vH rfl ?_,iG (L.mi i) _ _ (V.ref (L.nd (kids U i)[alw left])) (gT rfl (iY V.int u) (fT.of mi) (cb (by rw[i6,hY p];rfl)) ?_)];rw[hY p]at k;erw[k]
 .let e:left=0:=by
   simp_all
  rw[fR e]at k;erw[k]
def qT:ar QW QW (ah eG):=by kt_ors
abbrev qA:List Str:=["self","standing","word","place"]
abbrev g9:List Str:=["self","standing","word"]
def gL:ar qA g9 (ah dP):=by kt_ors
abbrev oz:List Str:=["self","clock","child"]
def fS:ar oz zb (ah di):=by kt_ors
abbrev qJ:List Str:=["self","standing","clock","pair"]
abbrev hV:List Str:=["self","standing","clock"]
def gJ:ar qJ hV (ah dQ):=by kt_ors
abbrev qg:List Str:=["self","coming"]
def fZ:ar qg QW (ah dD):=by kt_ors
def jZ:ar wX wX (ah cF):=by kt_ors
abbrev Za:List Str:=["falls","clock","span"]
def W8:ar Za Za (ah Iz):=by kt_ors
abbrev RT:List Str:=["falls","clock","span","most"]
def O5:ar RT RT (ah BQ):=by kt_ors
structure ShI(P:iU)(w:iP)(K:gI)(mg:Str->Option fy)(eC:h7)(R:Rep)(Cl:Nat->eF->Prop):Prop where
 I:If P w K mg eC 3 R Cl
 fld:∀{H:Hp} {a:eF} {s:Sh},R H a s->∃Cc dx fs,H a=some (.ins Cc dx fs)/\CF K Cc/\fs.lookup ("name":Str)=some (.str s.name)/\(s.kind<3->fs.lookup ("grace":Str)=some (.int s.bU)/\fs.lookup ("slow":Str)=some (.int s.cS))/\(3<=s.kind->fs.lookup ("most":Str)=some (.int s.bU)/\fs.lookup ("span":Str)=some (.int s.cS))
 bg:xz 3 "begun_again" (NF R) λC=>∃j,Cl j C
 en:xz 3 "end_at" (L9 R) λC=>∃j,j<3/\Cl j C
 ch:xz 3 "chosen" (yy R) λC=>∃j,3<=j/\Cl j C
def U8(g:jA TR)(o:xz 2 "go_down" (jU R TR fx false (λT _ _ us=>us=[]/\T.length<=64) (λT i S=>up S i (goDown T i)) pF) λC=>C=fx.cM)(F:aI K "give_up" "MinderStanding.give_up" eG dV f fd){C:eF}(t:C=fx.cM)(m:CS K C):
  zn 3 QW (jU R TR fx false (λT _ _ us=>us=[]/\T.length<=64) giveUp pF C):=by
 let a:=o.d
 rcases qT,(aa (aJ (pv 0) cP rfl)
   (af (aE (kU (pv 0) a)))) with⟨U,L,FT,D,S,i,us,rfl,⟨rfl,h64⟩,h,hi,hl,e0,k⟩
 subst e0;let n:=bC h hi hl;lk;erw[cw n m.cl m.G5 (by show 12<1000;decide) ?_];let j:=lQ g h hi hl ({·with BC:=true}) rfl rfl;let c:=bC j.rp hi hl;erw[ju rfl (j0 (L.nd i) _ _ _ _ ([]) (gT rfl c (t,rfl,rfl) rfl ?_))];erw[ml U L FT D _ i ([]) (kR rfl (rfl,h64) j.rp hi hl rfl (λq r u=>?_))];erw[k q r ?_];let p:=j.trans u
 let e:up (up S i λd=>{d with BC:=true}) i (goDown U i)=giveUp U i S:=by
  rw[LY]
  rfl
 rwa[<- e]
def Qm(R:Rep)(TR:Hr.mq)(fx:HC)(a:Re->HS->Nat->Nat->List V->Prop)(next:Re->Nat->Nat->HS->HS)(ans:Re->HS->Nat->Nat->V)(C:eF):Sp:=λvs H Q _=>∃(T:Re) (L:Lo) (c:FS) (D:Dy) (S:HS) (m i:Nat) (us:List V),vs=.ref (L.nd m):: .ref (L.nd i)::us/\a T S m i us/\Rp R TR fx T L c D S H/\m<T.length/\f7 T m=false/\i<T.length/\par T i=some m/\T.length<=64∧
 bI fx T m=C/\∀D' H',Goes R TR fx T L c D H D' (next T m i S) H'->Q (ans T S m i) H'
def abR(a k:Nat):(a &&& 2^k=0)↔hI a k=false:=by
 constructor
 .intro z;let:=iY (λx=>hI x k) z;rw[Cf,Nat.testBit_two_pow_self,amR,Tf]at this;erw[this]
 .intro z;erw[ajF λj=>?_];rw[Cf,Tf,akw];by_cases e:k=j
  .rw[<- e,z]
   rfl
  .rw[iR e,akj]
def MQ(a k:Nat):yU (a:Int) ((2^k:Nat):Int)=0↔hI a k=false:=by
 rw[HM,<-abR]
 simp
def Ht(T:Re){i m:Nat}(c:i<T.length)(a:par T i=some m):gm T i<(kids T m).length:=by
 unfold gm kids;rw[a]
 let:((hD (i+1)).filter λj=>decide (par T j=some m)).length<=((hD T.length).filter λj=>decide (par T j=some m)).length:=
  ((List.range_sublist.mpr c).filter _).length_le
 rw[F1,su,jm,nS,fR (gy a)]at this;erw[this]
def ab1(u:jA TR)(T:Txt mg)(v:xz 1 "is_off" (vM R TR fx) λC=>C=fx.cL\/C=fx.cM)(j:CS K fx.cL)(g:CS K fx.cM)(A:wE true 1 "bit" Mx [])(F:aI K "to_be_answered" "MinderStanding.to_be_answered" cF dV f fd){C:eF}(B:C=fx.cM):
  zn 2 wX (Qm R TR fx (λ_ _ _ _ us=>us=[]) (λ_ _ _ S=>S) (λT S m i=>.bl (toBe T m i S)) C):=by
 let a:=v.d;rcases jZ,(af (au (pA (kU (pv 1) a) (ly (vV cq (aG Kb (av (pv 0) rfl) (cn A {av (pv 1) rfl})) ai))))) with⟨U,L,t,D,S,m,i,us,rfl,rfl,h,I,q,n,x,r,G,k⟩;let o:CS K (bI fx U m):=by rwa[G,B]
 let c:CS K (bI fx U i):=by
  unfold bI
  split
  .exact j
  .exact g
 let y:=bC h I q;let p:=h.cells (.nd i) n;let pl:=Ht U n x;let J:=tP U m;let k:Q (.bl (toBe U m i S)) H:=k D H (Goes.refl h);unfold toBe at k;lk;erw[j0 (L.nd i) _ _ _ _ ([]) (gT rfl p (?_,rfl,rfl) (by unfold k7;cases f7 U i<;>rfl) ?_)]
 .unfold bI
  split
  .exact .inl rfl
  .exact .inr rfl
 erw[j0 U L t D S i (gT rfl h n rfl ?_)];cases ho:bK S i with
 |false=>
  rw[ho]at k;lk;erw[k]
 |true=>
  rw[ho]at k;lk;erw[bA y o.cl o.good rfl ?_,bA p c.cl c.place (yA _ _) ?_,((),?_)];lk
  let e:decide (V.int (yU ((S m).good) ((2^gm U i:Nat)))=V.int 0)= !Nat.testBit (S m).good (gm U i):=by
   let:=MQ (S m).good (gm U i);simp_all
  rwa[e]
theorem aes(a b:Nat):akX (a:Int) (b:Int)=((a ||| b:Nat):Int):=Wq a b
def Xe(R:Rep)(TR:Hr.mq)(fx:HC)(C:eF):Sp:=λvs H Q E=>∃wd,isWord wd/\Qm R TR fx (λ_ S m _ us=>us=[.str wd]/\(S m).wait.length<sizeLine) (λT m i S=>gX T m i wd S) (λ_ _ _ _=>.non) C vs H Q E
def aa8(n:jA TR)(T:Txt mg){Y:Nat->eF->Prop}(J:ShI P w K mg eC R Y)(v:CS K fx.cL)(q:CS K fx.cM)(pN:wE true 1 "bit" Mx [])(F:aI K "note_end" "MinderStanding.note_end" dP dV f fd){C:eF}(hC:C=fx.cM):
  zn 4 g9 (Xe R TR fx C):=by
 let a:=J.bg.d
 rcases gL,(aa (bH (i:=3) gL.nd (cn pN {av (pv 1) rfl}))
   (af (aO (fA (bx (lS (av (pv 1) rfl) a {pv 2}))) (af (aJ (pv 0) (aG afV (av (pv 0) rfl) (pv 3)) rfl)) (af (aO (PW.pt (iq (ix uO (av (pv 0) rfl) aj) (eU (ix cq (aG Kb (av (pv 0) rfl) (pv 3)) ai)))) (af (aE (gg xZ Aq B6 cX (av (pv 0) rfl) {pv 1}))) ay))))) with⟨wd,hw,U,L,FT,D,S,m,i,us,rfl,⟨rfl,hwl⟩,h,hm,hl,hi,hp,h64,e0,k⟩
 let g:CS K (bI fx U m):=by rwa[e0,hC]
 let o:CS K (bI fx U i):=by
  unfold bI
  split
  .exact v
  .exact q
 let hn:=bC h hm hl;let x:=h.cells (.nd i) hi;let pl:=Ht U hi hp;let kl:=tP U m;let(oc,r,M):=h.ch i hi;let(Cc,dc,Z,A,O,c3,c4,X,c6,c7):=J.I.inst (M H r);let k:∀D' H',Goes R TR fx U L FT D H D' (gX U m i wd S) H'->Q .non H':=k;unfold gX at k;lk;erw[bA x o.cl o.place (yA _ _) ?_,((),?_),bA x o.cl o.child (BY _ _) ?_,eS A ((_,O),rfl,rfl) X ?_];erw[ju rfl (oi (L.ch i) dc Z (sh U i) wd (gT rfl (M H r) A hw (λW G=>?_)))];let t:=h.same n G;let c:=bC t hm hl;let u:=Goes.same n h G;cases hb:begun (sh U i) wd with
 |false=>
  rw[fR hb]at k;lk;erw[bA c g.cl g.good rfl ?_,cw c g.cl g.good (by show 12<1000;decide) ?_]
  change Q .non (upd W (L.nd m) (.ins (bI fx U m) (L.dn m) (lC "good" (V.int (akX ((S m).good) ((2^gm U i:Nat)))) (m8 U L (S m) m++pw (D.fa m) (D.wa m) (S m)))))
  rw[aes];erw[k D _ (u.trans (lQ n t hm hl (λd=>{d with good:=d.good ||| 2^gm U i}) rfl rfl))]
 |true=>
  rw[fC (by simp_all)]at k;lk;erw[bA c g.cl g.state rfl ?_,bR (λe=>?_) (λe=>?_)]
  .let e:(S m).st≠"down":=λz=>by
    lia
   lk;erw[bA c g.cl g.aY rfl ?_];lk;let B:=MQ (S m).com (gm U i);erw[bR (λe2=>?_) (λe2=>?_)]
   .let e2:=B.mp (V.int.inj (iB e2));rw[fR (e,e2)]at k;let p:=t.cells (.wa m) (hm,hl);lk;erw[oi (L.nd m) _ _ _ _ (kR rfl c g.cl g.waiting rfl (.inl (rfl,_,fT.of p)) ?_),mI _ _ _ (gT rfl rfl p (by rwa[gQ]) ?_)];let N:=t.ac2 n hm hl ((S m).wait++[i]);rw[kr]at N;erw[k D _ ?_];let g3:=u.trans N
    let e3:(up S m λd=>{d with wait:=d.wait++[i]})=up S m λd=>{d with wait:=(S m).wait++[i]}:=by
     unfold up
     simp_all
    rwa[e3]
   .let e2:=λz=>e2 (gy (iY V.int (B.mpr z)));rw[fC (λz=>e2 z.2)]at k;erw[k D _ u]
  .let e:(S m).st="down":=by
    lia
   rw[fC (λz=>z.1 e)]at k;erw[k D _ u]
def Hq(K:gI):Sp:=λvs H Q _=>∃(p:eF) (c s:Int) (ns:List Int),vs=[.ref p,.int c,.int s]/\fT K H p (ns.map V.int)/\ns.length<sizeLine/\∀(q:eF) (H':Hp),aH H H'->H q=none->H' q=some (.lst ((cg c s ns).map V.int))->Q (.ref q) H'
theorem By(c sp:Int)(ns:List Int):(cg c sp ns).length<=ns.length:=yS _ _
def Wt(F:wv "recent" Iz)(T:Txt mg):zn 1 Za (Hq K):=by
 rcases W8,(af (au (gU (fr:=[("span",2),("clock",1)]) (by kd_p) rfl (eo (pv 0)) (λ_ _ _ _=>(mL (zF nI (aG E7 (pv 2) (pv 0)) (pv 1) (BP _)))) (λ_ _ _ _=>(pv 0))))) with⟨p,c,sp,ns,rfl,g,j,k⟩;lk;erw[((_,g),cO (n:=ns.length) (λi ys H'=>H'=H/\ys=(cg c sp (ns.take i)).map V.int) (rfl,rfl) ?_ ?_ ?_ ?_)]
 .rintro i ys H' hi ⟨rfl,rfl⟩;exact(_,V.int ns[i],g,by rw[i6,hY hi];rfl)
 .rintro ys H' ⟨rfl,rfl⟩;exact(_,g,by rw[gQ];erw[gx _])
 .rintro i ys H' v H2 hi ⟨rfl,rfl⟩ ⟨rfl,a⟩;let a:=a _ g;rw[i6,hY hi]at a;obtain rfl:V.int ns[i]=v:=iJ a
  let tk:cg c sp (ns.take (i+1))=cg c sp (ns.take i)++(if c-ns[i]<sp then [ns[i]] else []):=by
   unfold cg;rw[AD,hY hi,su];by_cases z:c-ns[i]<sp<;>simp[z]
  lk;erw[bR (λe=>?_) (λe=>?_)]
  .let e:=iB e;lk;refine(?_,?_)
   .let:=By c sp (ns.take i);rw[gQ];rw[ve]at this
    lia
   .refine (rfl,?_);rw[tk,fR e,kr]
    rfl
  .let e:¬c-ns[i]<sp:=λz=>e (gy z);simp_all
 .rintro ys H' ⟨rfl,rfl⟩;rw[zN];erw[(?_,λq h=>k q _ (aq h) h ae)];let:=By c sp ns;rw[gQ]
  lia
def LB(K:gI):Sp:=λvs H Q _=>∃(p:eF) (c s m:Int) (ns:List Int),vs=[.ref p,.int c,.int s,.int m]/\fT K H p (ns.map V.int)/\ns.length<sizeLine/\∀H',aH H H'->Q (.bl (decide (m<((cg c s ns).length:Int)+1))) H'
def Sv(F:wv "too_many" BQ)(T:Txt mg)(i:wE true 1 "recent" (Hq K) []):zn 2 RT (LB K):=by
 rcases O5,(af (au (vV LH (aG gG (a9 aU ⋯ T.fH cW {cn i {pv 0,pv 1,pv 2}}) ai) (pv 3)))) with⟨p,c,sp,m,ns,rfl,g,j,k⟩;lk;erw[iG p c sp ns (ll rfl g j (λq n e h a=>?_)),jl q _ (kz rfl (.inl (fT.of a)) ?_)];lk;rw[gQ];erw[k _ e]
def OT(c sp:Int)(ns:List Int):cg c sp (cg c sp ns)=cg c sp ns:=by
 unfold cg;simp
def Py(R:Rep)(TR:Hr.mq)(fx:HC)(C:eF):Sp:=λvs H Q _=>∃(T:Re) (L:Lo) (a:FS) (D:Dy) (S:HS) (m:Nat),vs=[.ref (L.nd m),.int S.clk]/\(S m).aA.length<sizeLine/\Rp R TR fx T L a D S H/\m<T.length/\f7 T m=false/\bI fx T m=C/\∀D' H',Goes R TR fx T L a D H D' (aL T m S).2 H'->Q (.bl (aL T m S).1) H'
def V6(t:jA TR)(T:Txt mg){W:Nat->eF->Prop}(hS:ShI P w K mg eC R W)(B:CS K fx.cM)(ua:wE true 1 "recent" (Hq K) [])(A6:wE true 2 "too_many" (LB K) [])(F:aI K "has_enough" "MinderStanding.has_enough" di dV f fd){C:eF}(hC:C=fx.cM):
  zn 3 zb (Py R TR fx C):=by
 rcases fS,(aa (bH (i:=2) fS.nd (av (pv 0) rfl))
   (aa (aO (ix nI (a9 aU ⋯ T.fH cW {av (pv 0) rfl}) (av (pv 2) rfl)) (af (au cP)) ay)
   (aa (aJ (pv 0) (cn ua {av (pv 0) rfl,pv 1,av (pv 2) rfl}) rfl)
   (af (au (cn A6 {av (pv 0) rfl,pv 1,av (pv 2) rfl,av (pv 2) rfl})))))) with⟨U,L,FT,D,S,m,rfl,hfl,h,hm,hl,e0,k⟩
 let a:CS K (bI fx U m):=by rwa[e0,hC]
 let u:=bC h hm hl;let(oc,G,hR):=h.ch m hm;let(N,dc,Y,y,c,c3,c4,O):=hS.fld (hR H G)
 let X:3<=(sh U m).kind:=by
  let:=wu hl
  lia
 let(cm,I):=O X;let o:=h.cells (.fa m) (hm,hl);unfold aL at k;lk;erw[bA u a.cl a.child rfl ?_,bA u a.cl a.aA rfl ?_,jl (D.fa m) _ (kz rfl (.inl (fT.of o)) ?_),bA y c.cl c.n6 cm ?_];lk;rw[gQ];erw[bR (λe=>?_) (λe=>?_)]
 .let e:=iB e;rw[fR e]at k;erw[k D H (Goes.refl h)]
 .let e:=λz=>e (gy z);rw[fC e]at k;lk;erw[bA u a.cl a.aA rfl ?_,bA y c.cl c.n7 I ?_];erw[iG (D.fa m) S.clk _ _ (ll rfl (fT.of o) hfl (λq j A M p=>?_))];let n:=h.afG t hm hl M A (cg S.clk (sh U m).cS (S m).aA) p;rw[zC hl,show({D with fa:=fD D.fa m q}:Dy).fa m=q from bS _ _ _]at n;let v:=A _ _ u;lk;refine cw v a.cl a.aA (by show 12<1000;decide) ?_
  let J:(upd j (L.nd m) (.ins (bI fx U m) (L.dn m) (m8 U L (S m) m++pw q (D.wa m) (S m)))) (L.nd m)=some (.ins (bI fx U m) (L.dn m) (m8 U L (S m) m++pw q (D.wa m) (S m))):=ae;let x:L.ch m≠L.nd m:=Ne.symm ((h.nt (.nd m) hm).2.1 m hm).2;let g:(upd j (L.nd m) (.ins (bI fx U m) (L.dn m) (m8 U L (S m) m++pw q (D.wa m) (S m)))) (L.ch m)=some (.ins N dc Y):=by rw[ag x];erw[A _ _ y]
  let r:(upd j (L.nd m) (.ins (bI fx U m) (L.dn m) (m8 U L (S m) m++pw q (D.wa m) (S m)))) q=some (.lst ((cg S.clk (sh U m).cS (S m).aA).map V.int)):=by rwa[ag (Ne.symm (ao u M))]
  lk;erw[bA J a.cl a.aA rfl ?_,bA g c.cl c.n7 I ?_,bA g c.cl c.n6 cm ?_];erw[oi q S.clk _ _ _ (ll rfl (fT.of r) (uk (By _ _ _) hfl) (λZ s3=>?_))];rw[OT];erw[k _ Z (n.trans (Goes.same t n.rp s3))]
def LX{n ct:Nat}(h:n<2^ct):cV (λk=>hI n k) ct=n:=by
 refine(Dq λk=>?_).symm;by_cases a:k<ct
 .rw[gy a,so]
 .rw[iR a];erw[amq (rr h (aks ∅ ()))]
def Vv{S:HS}{m i:Nat}(c:i<T.length)(a:par T i=some m):hI (bf T m S) (gm T i)= !bK S i:=by
 unfold bf;rw[aT,mW c a,gy (Ht T c a)]
 rfl
def RN(r:jA TR)(T:Txt mg){Cl:Nat->eF->Prop}(hS:ShI P w K mg eC R Cl)(hN:xz 2 "not_off" (jU R TR fx false (λT _ _ us=>us=[]/\T.length<=64) (λ_ _ S=>S) (λT S i=>.int ((bf T i S:Nat):Int))) λC=>C=fx.cM)(M:CS K fx.cL)(A:CS K fx.cM)
  (F:aI K "turn_for" "MinderStanding.turn_for" dQ dV f fd) {C:eF} (hC:C=fx.cM):
  zn 4 hV (Qm R TR fx (λT S m i us=>us=[.int S.clk]/\(S m).aA.length<sizeLine/\(S m).good<2^(kids T m).length/\toBe T m i S=true) fP (λ_ _ _ _=>.non) C):=by
 let a:=hN.d;let e:=hS.ch.d
 rcases gJ,(aa (bH (i:=3) gJ.nd (lS (av (pv 0) rfl) e {av (pv 1) rfl,a9 aU ⋯ T.fH cW {av (pv 0) rfl},kU (pv 0) a,av (pv 0) rfl}))
   (aa (aE (gg xZ Aq B6 cX (av (pv 0) rfl) {pv 2}))
   (aa (aJ (pv 0) aj rfl)
   (aa (aJ (pv 0) (ig de (pv 3) ai) rfl)
   (af (aJ (pv 0) (ig de (pv 3) ai) rfl)))))) with⟨U,L,FT,D,S,m,i,us,rfl,⟨rfl,hfl,hgd,htb⟩,h,hm,hl,hi,hp,h64,e0,k⟩
 let c:CS K (bI fx U m):=by rwa[e0,hC]
 let x:CS K (bI fx U i):=by
  unfold bI
  split
  .exact M
  .exact A
 let N:=bC h hm hl;let hj:=h.cells (.nd i) hi;let mi:=h.mi m hm;let pl:=Ht U hi hp;let kl:=tP U m
 let Y:3<=(sh U m).kind:=by
  let:=wu hl
  lia
 let(oc,W,hR):=h.ch m hm;let(Cc,dc,fc,Z,c2,c3,c4,c5,c6,c7):=hS.I.inst (hR H W);let k:∀D' H',Goes R TR fx U L FT D H D' (fP U m i S) H'->Q .non H':=k;unfold fP B7 at k;dsimp only at k;unfold toBe at htb;rw[mu,Ma]at htb;lk;erw[bA N c.cl c.child rfl ?_,eS Z ((_,Y,c2),rfl,rfl) c7 ?_,bA hj x.cl x.place (yA _ _) ?_,bA N c.cl c.vH rfl ?_,jl (L.mi m) _ (kz rfl (.inl (fT.of mi)) ?_)];rw[gQ];lk;erw[j0 (L.nd m) _ _ _ _ ([]) (gT rfl N (e0.trans hC,rfl,rfl) rfl ?_)];erw[ml U L FT D S m ([]) (kR rfl (rfl,h64) h hm hl rfl (λo H1 y=>?_))];let n1:=bC y.rp hm hl;let(ab,u,O):=y.rp.ch m hm;let J:=y.kp _ _ (λl v z=>((h.nt l v).2.1 m hm).2 z.symm) Z;lk;erw[bA n1 c.cl c.good rfl ?_];let lt:bf U m S<2^(kids U m).length:=pB _ _;erw[(L.ch m,dc,fc,sh U m,gm U i,(kids U m).length,λk=>hI (bf U m S) k,λk=>hI (S m).good k,by rw[LX lt,LX hgd];rfl,O H1 u,J,Y,pl,(),?_,htb.2,λq B s2 hq g=>?_)]
 .show hI (bf U m S) (gm U i)=false;rw[Vv hi hp,htb.1]
  rfl
 let G:=y.trans (Goes.same r y.rp s2);let n2:=bC G.rp hm hl;let p:=G.rp.cells (.fa m) (hm,hl);generalize Shp.gj (sh U m).kind (gm U i) (kids U m).length (λk=>hI (bf U m S) k)=pa at k g;generalize anew (sh U m).kind (gm U i) (kids U m).length (λk=>hI (S m).good k)=pb at k g;lk;erw[oi (L.nd m) _ _ _ _ (kR rfl n2 c.cl c.aA rfl (.inl (rfl,_,fT.of p)) ?_),mI _ _ _ (gT rfl rfl p (by rwa[gQ]) ?_)];let qf:q≠o.fa m:=λz=>by rw[z]at g;rw[show (Lb.fa m).at L o=o.fa m from rfl,g]at p;cases p
 let t:=G.trans (G.rp.agm r hm hl ((S m).aA++[S.clk]));rw[kr]at t
 let n:(upd B (o.fa m) (.lst ((S m).aA.map V.int++[V.int S.clk]))) q=some (.tup [.int ((pa:Nat)),.int ((pb:Nat))]):=by rwa[ag qf]
 let X:=bC t.rp hm hl;rw[aw]at X;lk;erw[cw X c.cl c.state (by show 12<1000;decide) ?_];let qn:q≠L.nd m:=λz=>by simp_all
 lk;erw[iG q _ _ _ (gT rfl rfl (jx.of (by rwa[ag qn])) rfl ?_),cw ae c.cl c.leaving (by show 12<1000;decide) ?_];rw[bp];lk;erw[iG q _ _ _ (gT rfl rfl (jx.of (by rwa[ag qn])) rfl ?_),cw ae c.cl c.aY (by show 12<1000;decide) ?_];rw[bp];let g4:=t.trans (lQ r t.rp hm hl ({·with st:="turning",bF:=pa,com:=pb}) rfl rfl);rw[LY,aw]at g4;erw[k o _ ?_]
 let e4:(up S m λd=>{d with aA:=d.aA++[S.clk],st:="turning",bF:=pa,com:=pb})=up S m λd=>{ ({d with aA:=(S m).aA++[S.clk]}) with st:="turning",bF:=pa,com:=pb}:=by
  unfold up
  congr 1
  funext j
  by_cases z:j=m
  .rw[fR z,fR z,z]
  simp_all
 rwa[e4]
def YB(R:Rep)(TR:Hr.mq)(fx:HC)(C:eF):Sp:=λvs H Q _=>∃(T:Re) (L:Lo) (a:FS) (D:Dy) (S:HS) (m:Nat),vs=[.ref (L.nd m)]/\Rp R TR fx T L a D S H/\m<T.length/\T.length<=64/\f7 T m=false/\bI fx T m=C∧
 ∀H' q,Goes R TR fx T L a D H D (up S m aR) H'->H q=none->H' q=some (.lst ((aY T m S).map λj=>V.ref (L.nd j)))->Q (.ref q) H'
def QD(o:jA TR)(T:Txt mg)(A:CS K fx.cL)(r:CS K fx.cM)(W:wE true 1 "bit" Mx [])(X:wE true 1 "without" zB [])
  (F:aI K "turn_back" "MinderStanding.turn_back" dD dV f fd) {C:eF} (Z:C=fx.cM):zn 2 QW (YB R TR fx C):=by
 rcases fZ,(aa (bH (i:=1) fZ.nd (cn X {av (pv 0) rfl,av (pv 0) rfl}))
   (aa (aJ (pv 0) aj rfl)
   (aa (aJ (pv 0) ai rfl)
   (aa (aJ (pv 0) ai rfl)
   (af (au (gU (fr:=[("coming",1)]) (by kd_p) rfl (eo (av (pv 0) rfl)) (λ_ _ _ _=>(mL (zF uO (aG Kb (pv 1) (Iv W (hr.mono (by omega)) ⋯ zE {NG rfl (pv 0) ⋯})) ai (BP _)))) (λ_ _ _ _=>(pv 0))))))))) with⟨U,L,FT,D,S,m,rfl,h,hm,h64,hl,e0,k⟩
 let a:CS K (bI fx U m):=by rwa[e0,Z]
 let p:∀j,CS K (bI fx U j):=λj=>by
  unfold bI
  split
  .exact A
  .exact r
 let B:=bC h hm hl;let kl:=tP U m;lk;erw[bA B a.cl a.aY rfl ?_,bA B a.cl a.good rfl ?_];erw[jl ((S m).com) ((S m).good) (rfl,?_),cw B a.cl a.state (by show 12<1000;decide) ?_,cw ae a.cl a.leaving (by show 12<1000;decide) ?_];rw[bp];lk;erw[cw ae a.cl a.aY (by show 12<1000;decide) ?_];rw[bp];let g:=lQ o h hm hl aR rfl rfl;let N:=g.al;lk;let c:=g.rp.mi m hm;erw[bA ae a.cl a.vH rfl ?_,((_,fT.of c),?_)]
 change Fv _ _ _ _ _ (upd H (L.nd m) (.ins (bI fx U m) (L.dn m) (m8 U L (aR (S m)) m++pw (D.fa m) (D.wa m) (aR (S m))))) _
 generalize upd H (L.nd m) (.ins (bI fx U m) (L.dn m) (m8 U L (aR (S m)) m++pw (D.fa m) (D.wa m) (aR (S m))))=H1 at g N c;erw[cO (n:=(kids U m).length) (λt ys H'=>H'=H1/\ys=(((kids U m).take t).filter λj=>hI (S m).com (gm U j)&& !Nat.testBit (S m).good (gm U j)).map λj=>V.ref (L.nd j)) (rfl,rfl) ?_ ?_ ?_ ?_]
 .rintro t ys H' ht ⟨rfl,_⟩;exact(_,V.ref (L.nd (kids U m)[t]),fT.of c,by rw[i6,hY ht];rfl)
 .rintro ys H' ⟨rfl,_⟩;exact(_,fT.of c,by rw[gQ];erw[gx _])
 .rintro t ys H' v H2 ht ⟨rfl,rfl⟩ ⟨rfl,u⟩;let u:=u _ (fT.of c);rw[i6,hY ht]at u;obtain rfl:V.ref (L.nd (kids U m)[t])=v:=iJ u;let(k1,k2,k3):=Ec (hY ht);let tk:(kids U m).take (t+1)=(kids U m).take t++[(kids U m)[t]]:=by simp
  let I:=g.rp.cells (.nd (kids U m)[t]) k3;let M:(((kids U m).take t).filter λj=>hI (S m).com (gm U j)&& !Nat.testBit (S m).good (gm U j)).length<=64:=jC (yS _ _) (by rw[ve];lia);generalize (kids U m)[t]=j at k1 k2 k3 I tk;lk;erw[bA I ((p j).cl) ((p j).place) (yA _ _) ?_,(by lia,?_)];lk;let G:=MQ ((S m).com &&& ((S m).com ^^^ (S m).good)) (gm U j)
  let Y:hI ((S m).com &&& ((S m).com ^^^ (S m).good)) (gm U j)=(hI (S m).com (gm U j)&& !Nat.testBit (S m).good (gm U j)):=by
   rw[Cf,ajG];cases hI (S m).com (gm U j)<;>cases hI (S m).good (gm U j)<;>rfl
  rw[Y]at G;erw[bR (λe=>?_) (λe=>?_)]
  .let e:(hI (S m).com (gm U j)&& !Nat.testBit (S m).good (gm U j))=true:=by
    cases z:(hI (S m).com (gm U j)&& !Nat.testBit (S m).good (gm U j)) with
    |true=>rfl
    |false=>rw[gy (iY V.int (G.mpr z))]at e;cases e
   lk;erw[(by rw[gQ];exact aM (),rfl,?_)];rw[tk,su,nS,fR e,kr]
   rfl
  .let e:(hI (S m).com (gm U j)&& !Nat.testBit (S m).good (gm U j))=false:=by
    cases z:(hI (S m).com (gm U j)&& !Nat.testBit (S m).good (gm U j)) with
    |false=>rfl
    |true=>erw[absurd (show(!decide (V.int (yU (((S m).com &&& ((S m).com ^^^ (S m).good):Nat)) ((2^gm U j:Nat)))=V.int 0))=true by rw[iR (λy=>by rw[G.mp (V.int.inj y)]at z;cases z)];rfl) e]
   erw[(rfl,?_)];rw[tk,su,nS,fC (by rw[e];decide),GZ,ov]
 .rintro ys H' ⟨rfl,rfl⟩;rw[zN];let M:(aY U m S).length<=64:=jC (yS _ _) ();erw[(by rw[gQ];exact vC (aM (jC M ∅)),λq O=>?_)];erw[k _ q (g.trans (Goes.same o g.rp (aq O))) (N q O) ae]
abbrev Ff:List Str:=["self","tree"]
def CJ:ar Ff Ff (ah lL):=by kt_ors
def Ay:ar wX QW (ah vq):=by kt_ors
abbrev NR:List Str:=["self","name","standing"]
def AS:ar NR Qa (ah vb):=by kt_ors
abbrev Nc:List Str:=["self","top"]
def AV:ar Nc QW (ah vE):=by kt_ors
def KJ:ar QW QW (ah vn):=by kt_ors
def sk:ar Qa Qa (ah fE):=by kt_ors
abbrev K9:List Str:=["self","word","standing"]
def IM:ar K9 K9 (ah rT):=by kt_ors
abbrev KU:List Str:=["self","standing","each"]
def zh:ar KU wX (ah rK):=by kt_ors
def K1:ar wX wX (ah vd):=by kt_ors
def GV:ar g9 g9 (ah qh):=by kt_ors
abbrev Jw:List Str:=["self","end"]
def wD:ar Jw QW (ah pJ):=by kt_ors
abbrev CZ:List Str:=["self","standing","word","minder"]
def sD:ar CZ g9 (ah kC):=by kt_ors
abbrev vQ:List Str:=["self","minder","standing"]
abbrev kN:List Str:=["self","minder"]
def jK:ar vQ kN (ah fN):=by kt_ors
def GS:ar vQ vQ (ah qy):=by kt_ors
abbrev DO:List Str:=["self","minder","last"]
def q9:ar DO kN (ah lO):=by kt_ors
def mr:ar vQ kN (ah iI):=by kt_ors
abbrev acV:List Str:=["tree"]
def Zd:ar acV acV (ah M8):=by kt_ors
structure CH(K:gI)(C:eF):Prop where
 cl:rz K C
 tree:bw K C "tree"
 Jk:bw K C "clock"
 entries:bw K C "entries"
 ends:bw K C "ends"
 tO:bw K C "standings"
def Cv(R:Rep)(TR:Hr.mq)(fx:HC)(C:eF):Sp:=λvs H Q _=>∃(T:Re) (L:Lo) (a:FS) (D:Dy) (S:HS) (i:Nat) (wd:Str),vs=[.ref L.x,.str wd,.ref (L.nd i)]/\Rp R TR fx T L a D S H/\fx.cH=C/\i<T.length/\S.book.length<sizeLine/\∀D' H',Goes R TR fx T L a D H D' (write T wd i S) H'->Q .non H'
def qZ(c:CS K fx.cL)(a:CS K fx.cM)(U:Re)(j:Nat):CS K (bI fx U j):=by
 unfold bI
 split
 .exact c
 .exact a
def Y0(n:jA TR){y:Nat->eF->Prop}(J:ShI P w K mg eC R y)(g:CS K fx.cL)(j:CS K fx.cM)(a:CH K fx.cH)(F:aI K "write" "House.write" rT dV f fd){C:eF}:zn 1 K9 (Cv R TR fx C):=by
 rcases IM,(af (aE (gg xZ Aq B6 cX (av (pv 0) rfl) {xB {av (pv 0) rfl,pv 1,av (av (pv 2) rfl) rfl}}))) with⟨U,L,N,D,S,i,wd,rfl,h,e0,t,z,k⟩;let r:=h.cells .hs trivial;let c:=h.cells .en trivial;let G:=h.cells (.nd i) t;let e:=qZ g j U i;let(Z,p,A):=h.ch i t;let(X,W,Y,I,v,B,c4,M):=J.fld (A H p);lk;erw[oi L.x _ _ _ _ (kR rfl r a.cl a.entries rfl (.inl (rfl,_,fT.of c)) ?_),bA r a.cl a.Jk rfl ?_,bA G e.cl e.child (BY _ _) ?_,bA I v.cl v.n1 B ?_];erw[(l8 (by show 3<=100;decide),λq m=>?_)];let ne:L.en≠q:=ao c m;erw[mI L.en _ _ (gT rfl rfl (by rwa[ag ne]) (by rwa[gQ,h.bkl]) ?_)];let u:=h.entry n (S.clk,wd,(sh U i).name) m;rw[kr]at u;erw[k _ _ u]
def mG(R:Rep)(TR:Hr.mq)(fx:HC)(a:Re->Nat->HS->Prop)(c:Re->Nat->HS->HS)(C:eF):Sp:=λvs H Q _=>∃(T:Re) (L:Lo) (e:FS) (D:Dy) (S:HS) (i:Nat),vs=[.ref L.x,.ref (L.nd i)]/\Rp R TR fx T L e D S H/\fx.cH=C/\kY T/\Wf T S/\i<T.length/\a T i S/\(c T i S).book.length<sizeLine∧
 ∀D' H',Goes R TR fx T L e D H D' (c T i S) H'->Q .non H'
def DtB(R:Rep)(TR:Hr.mq)(fx:HC)(C:eF)(s:Sp)(a:List V):Prop:=a=[]/\((C=fx.cL/\s=jU R TR fx true FN oX pF C)\/(C=fx.cM/\s=jU R TR fx false FN oX pF C))
def PZ{U:Re}{L:Lo}{D:Dy}{d:Nd}{i:Nat}{x:Str}(c:(m8 U L d i++fsL d).lookup x=none)(a:(m8 U L d i++pw (D.fa i) (D.wa i) d).lookup x=none):(k7 U L D d i).lookup x=none:=by
 unfold k7;cases f7 U i with
 |true=>erw[c]
 |false=>erw[a]
def acM{U:Re}{L:Lo}{D:Dy}{d:Nd}{i:Nat}:(k7 U L D d i).length<1000:=by
 unfold k7;cases f7 U i with
 |true=>show 10<1000;decide
 |false=>show 12<1000;decide
def tJ{U:Re}{i:Nat}(h:f7 U i=true):bI fx U i=fx.cL:=by unfold bI;rw[h];rfl
def fQ{U:Re}{i:Nat}(h:f7 U i=false):bI fx U i=fx.cM:=by unfold bI;rw[h];rfl
def ael(U:Re)(i:Nat):∃sp,DtB R TR fx (bI fx U i) sp []/\∀(L:Lo) (a:FS) (D:Dy) (S:HS) (H:Hp) (Q:VK) (E:XK),Rp R TR fx U L a D S H->i<U.length->(∀D' H',Goes R TR fx U L a D H D' (oX U i S) H'->Q .non H')->sp [.ref (L.nd i),.int S.clk] H Q E:=by
 cases hl:f7 U i with
 |true=>exact(_,(rfl,.inl (tJ hl,rfl)),λL a D S H Q E h c k=>(U,L,a,D,S,i,_,rfl,rfl,h,c,hl,rfl,k))
 |false=>exact(_,(rfl,.inr (fQ hl,rfl)),λL a D S H Q E h c k=>(U,L,a,D,S,i,_,rfl,rfl,h,c,hl,rfl,k))
def Cn{U:Re}{d:Nat}(ok:kY U)(l:List Nat)(g:∀j∈l,j<U.length)(a:HS)(c:Wf U a)(t:Nat):Wf U ((l.take t).foldl (λS j=>bz U d j S) a)/\((l.take t).foldl (λS j=>bz U d j S) a).book.length<=(l.foldl (λS j=>bz U d j S) a).book.length:=by
 constructor
 .exact Wf.foldl _ _ (λj e S w=>Wf.bz ok d j S (g j (alh e)) w) c
 .let:=tw (l.drop t) ((l.take t).foldl (λS j=>bz U d j S) a) (f:=λS j=>bz U d j S) (λj _ S=>oY d j S);rw[<- akf,ak6]at this;erw[this]
def WE(ac:jA TR)(T:Txt mg)(I:CS K fx.cL)(O:CS K fx.cM)(q:CH K fx.cH){n:Nat}(d:Nat)(hn:2<=n)(a:∀C s p,DtB R TR fx C s p->wT (gf P w) true n "begin" C s p)(hW:xz 1 "write" (Cv R TR fx) λC=>C=fx.cH)
  (hB:xz n "begin" (mG R TR fx (λT i _=>b6 T d i) (λT i S=>bz T d i S)) λC=>C=fx.cH) (F:aI K "begin" "House.begin" rK dV f fd) {C:eF}:
  wS (n+1) f fd wX (mG R TR fx (λT i _=>b6 T (d+1) i) (λT i S=>bz T (d+1) i S) C):=by
 let jk:=hW.d;let c:=hB.d
 rcases zh,(aa (aE (lS (pv 1) a {av (pv 0) rfl}))
   (aa (aE (lS (pv 0) jk {(aj),pv 1}))
   (af (lM yu rfl (eo (av (pv 1) rfl)) (c9 (i:=2) zh.nd rfl (by k_ne)) (af (aE (lS (pv 0) c {pv 2}))))))) with⟨U,L,FT,D,S,i,rfl,h,e0,ok,wf,hi,hdp,G,k⟩
 let hx:=h.cells .hs trivial;let B:=h.cells (.nd i) hi;let o:=qZ I O U i;lk;let(sp,hd,M):=ael U i;erw[j0 (L.nd i) _ _ _ sp ([]) (gT rfl B hd (PZ rfl rfl) ?_),bA hx q.cl q.Jk rfl ?_];erw[M L FT D S H _ _ h hi (λD1 H1 J=>?_)];let x1:=J.rp.cells .hs trivial;let w1:=wf.oX ok hi;let X:=w1.write "begun" i;let ad:(write U "begun" i (oX U i S)).book.length<=(bz U (d+1) i S).book.length:=tw _ _ λj _ S=>oY d j S;let ab:=dA (T:=U) "begun" i (oX U i S);erw[ju rfl (eS x1 (rfl,rfl,rfl) rfl ?_),ml U L FT D1 _ i ("begun") (pE rfl J.rp rfl hi () (λN H2 g=>?_))];let g:=J.trans g;let j2:=g.rp.cells (.nd i) hi;let e:=g.rp.mi i hi;let W:∀j∈kids U i,j<U.length:=λj B=>(aZ B).1
 let A:∀(l:Lb),vl U l->L.mi i≠l.at L N:=λl v z=>by
  rcases g.fr l v with y|y
  .exact ((h.nt l v).2.1 i hi).1 (by rw[z,y])
  .rw[<- z,h.mi i hi]at y;cases y
 lk;erw[bA j2 o.cl o.vH (WO _ _) ?_,((_,fT.of e),?_)];erw[p9 (n:=(kids U i).length) (λt u H'=>∃m v,Goes R TR fx U L FT N H2 m (((kids U i).take t).foldl (λS j=>bz U d j S) (write U "begun" i (oX U i S))) H'/\u=[some (.ref L.x),some (.ref (L.nd i)),v]) (N,none,Goes.refl g.rp,rfl) ?_ ?_ ?_]
 .rintro t u H' ht ⟨m,v,g3,_⟩;exact(_,V.ref (L.nd (kids U i)[t]),fT.of (g3.kp _ _ A e),by rw[i6,hY ht];rfl)
 .rintro t u H' y H3 ht ⟨m,v,g3,rfl⟩ ⟨rfl,r⟩;let r:=r _ (fT.of (g3.kp _ _ A e));rw[i6,hY ht]at r;obtain rfl:V.ref (L.nd (kids U i)[t])=y:=iJ r;let x3:=g3.rp.cells .hs trivial;let(w3,_):=Cn ok (kids U i) W _ X t;let(_,Y):=Cn ok (kids U i) W _ X (t+1);let Z:=uy ht
  let tk:((kids U i).take (t+1)).foldl (λS j=>bz U d j S) (write U "begun" i (oX U i S))=bz U d (kids U i)[t] (((kids U i).take t).foldl (λS j=>bz U d j S) (write U "begun" i (oX U i S))):=by
   rw[AD,hY ht,akf]
   rfl
  rw[tk]at Y;erw[ju rfl (eS x3 (rfl,rfl,rfl) rfl ?_)];erw[ju rfl (j0 U L FT m _ ((kids U i)[t]) (DK rfl g3.rp rfl ok w3 (W _ Z) (hdp _ Z) (uk Y G) (λD4 H4 g4=>?_)))];exact(D4,_,by rw[tk];exact g3.trans g4,rfl)
 .rintro u H' ⟨m,v,g3,rfl⟩;erw[((_,fT.of (g3.kp _ _ A e),by rw[gQ];exact gx _),?_)];rw[zN]at g3;erw[k m H' (g.trans g3)]
def CQ(R:Rep)(TR:Hr.mq)(fx:HC)(C:eF):Sp:=λvs H Q _=>∃(T:Re) (L:Lo) (a:FS) (D:Dy) (S:HS) (i:Nat) (wd:Str),vs=[.ref L.x,.ref (L.nd i),.str wd]/\Rp R TR fx T L a D S H/\fx.cH=C/\S.ends.length<=S.book.length/\i<T.length/\(aX T i wd S).book.length<sizeLine∧
 ∀D' H',Goes R TR fx T L a D H D' (aX T i wd S) H'->Q .non H'
def Wj(a:jA TR)(r:CS K fx.cL)(p:CS K fx.cM)(j:CH K fx.cH)(I:xz 1 "write" (Cv R TR fx) λC=>C=fx.cH)(F:aI K "end_by" "House.end_by" qh dV f fd){C:eF}:zn 2 g9 (CQ R TR fx C):=by
 let jk:=I.d
 rcases GV,(af (aO (ix uO (pv 2) aj) (aa (aJ (pv 1) aj rfl)
   (aa (aE (lS (pv 0) jk {pv 2,pv 1}))
   (af (aE (gg xZ Aq B6 cX (av (pv 0) rfl) {xB {pv 1,pv 2}}))))) ay)) with⟨U,L,FT,D,S,i,wd,rfl,h,e0,he,hi,g,k⟩
 let J:=h.cells (.nd i) hi;let m:=qZ r p U i;unfold aX at k g;lk;erw[bR (λe=>?_) (λe=>?_)]
 .let e:¬wd="":=λz=>by
   lia
  rw[fC e]at k g
  let W:S.book.length+1<sizeLine:=by
   let:=dA (T:=U) wd i (up S i λd=>{d with st:="off"});rw[this]at g;erw[g]
  let t:=h.node a hi ({·with st:="off"}) rfl rfl
  lk;erw[iG (L.nd i) _ _ _ (pE rfl J m.cl m.state acM ?_)]
  let M:=t.rp.cells .hs trivial;erw[ju rfl (eS M (rfl,rfl,rfl) rfl ?_),ml U L FT D _ i wd (pE rfl t.rp rfl hi (by show S.book.length<sizeLine;lia) (λX Y c=>?_))];let c:=t.trans c;let B:=c.rp.cells .hs trivial;let n:=c.rp.cells .qu trivial;lk;erw[oi L.x _ _ _ _ (kR rfl B j.cl j.ends rfl (.inl (rfl,_,fT.of n)) ?_),(l8 (by show 2<=100;decide),λq A=>?_)];let O:=aq (o:= .tup [.ref (L.nd i),.str wd]) A;let v:=Goes.same a c.rp O;let ne:L.qu≠q:=ao n A;let N:X.qs.length=S.ends.length:=c.rp.qsl;erw[mI L.qu _ _ (gT rfl rfl (by rwa[ag ne]) (by rw[gQ,N];lia) ?_)];let u:=v.rp.Tq a (e:=(i,wd)) ae;rw[kr]at u;erw[k _ _ (c.trans (v.trans u))]
 .let e:wd="":=by
   lia
  rw[fR e]at k;erw[k D H (Goes.refl h)]
def Ke(ab:jA TR)(T:Txt mg)(X:CS K fx.cL)(Y:CS K fx.cM)(ac:CH K fx.cH){n:Nat}(hn:2<=n)(hL:xz 1 "last_word" (jU R TR fx false uS (λ_ _ S=>S) (λ_ S i=>.str (eZ (S i)))) λC=>C=fx.cM)(hE:xz 2 "end_by" (CQ R TR fx) λC=>C=fx.cH)
  (hK:xz 2 "turn_back" (YB R TR fx) λC=>C=fx.cM) (hB:xz n "begin" (mG R TR fx (λT i _=>b6 T 9 i) (λT i S=>bz T 9 i S)) λC=>C=fx.cH) (F:aI K "end_turning" "House.end_turning" iI dV f fd) {C:eF}:
  wS (n+1) f fd kN (mG R TR fx (λT i _=>f7 T i=false) aV C):=by
 let a:=hL.d;let g:=hE.d;let c:=hK.d;let m:=hB.d;rcases mr,(af (aO (ix cq (av (pv 1) rfl) aj) (af (aE (lS (pv 0) g {pv 1,kU (pv 1) a}))) (af (lM yu rfl (eo (kU (pv 1) c)) (c9 (i:=2) mr.nd rfl (by k_ne)) (af (aE (lS (pv 0) m {pv 2}))))))) with⟨U,L,G,D,S,i,rfl,h,e0,ok,A,N,r,p,k⟩;let B:=bC h N r;let Z:=qZ X Y U i;let hx:=h.cells .hs trivial;unfold aV at k p;lk;erw[bA B Z.cl Z.state rfl ?_,bR (λe=>?_) (λe=>?_)]
 .let e:=V.str.inj (iB e);rw[fR e]at k p;lk;erw[eS hx (rfl,rfl,rfl) rfl ?_,j0 (L.nd i) _ _ _ _ ([]) (gT rfl B (fQ r,rfl,rfl) rfl ?_)];erw[ml U L G D S i ([]) (kR rfl rfl h N r rfl (λD1 H1 I=>?_))];erw[ml U L G D1 S i _ (kR rfl I.rp rfl (by let:=A.wl i;lia) N p (λD2 H2 g2=>k D2 H2 (I.trans g2)))]
 .let e:=λz=>e (gy (iY V.str z));rw[fC e]at k p;lk;erw[j0 (L.nd i) _ _ _ _ ([]) (gT rfl B (fQ r,rfl,rfl) rfl ?_)];erw[j0 U L G D S i (kR rfl h N ok.n64 r rfl (λH1 q I hq o=>?_))];lk;let w1:Wf U (up S i aR):=A.up (A.wt i) (A.gd i) (A.fl i) (A.wl i) (λz=>by simp_all);let O:∀j∈aY U i S,j<U.length:=λj B=>(aZ (lB B)).1
  let W:∀(l:Lb),vl U l->q≠l.at L D:=λl v z=>by
   rw[z,h.cells l v]at hq;cases hq
  erw[((_,fT.of o),?_)];erw[p9 (n:=(aY U i S).length) (λt M H'=>∃u v,Goes R TR fx U L G D H1 u (((aY U i S).take t).foldl (λS j=>bz U 9 j S) (up S i aR)) H'/\M=[some (.ref L.x),some (.ref (L.nd i)),v]) (D,none,Goes.refl I.rp,rfl) ?_ ?_ ?_]
  .rintro t M H' ht ⟨u,v,g3,_⟩;exact(_,V.ref (L.nd (aY U i S)[t]),fT.of (g3.kp _ _ W o),by rw[i6,hY ht];rfl)
  .rintro t M H' y H3 ht ⟨u,v,g3,rfl⟩ ⟨rfl,J⟩;let J:=J _ (fT.of (g3.kp _ _ W o));rw[i6,hY ht]at J;obtain rfl:V.ref (L.nd (aY U i S)[t])=y:=iJ J;let x3:=g3.rp.cells .hs trivial;let(w3,_):=Cn ok (aY U i S) O _ w1 t;let(_,l4):=Cn ok (aY U i S) O _ w1 (t+1);let km:=uy ht
   let tk:((aY U i S).take (t+1)).foldl (λS j=>bz U 9 j S) (up S i aR)=bz U 9 (aY U i S)[t] (((aY U i S).take t).foldl (λS j=>bz U 9 j S) (up S i aR)):=by
    rw[AD,hY ht,akf]
    rfl
   rw[tk]at l4;erw[ju rfl (eS x3 (rfl,rfl,rfl) rfl ?_)];erw[ju rfl (j0 U L G u _ ((aY U i S)[t]) (DK rfl g3.rp rfl ok w3 (O _ km) (ok.deep _ (O _ km)) (uk l4 p) (λD4 H4 g4=>?_)))];exact(D4,_,by rw[tk];exact g3.trans g4,rfl)
  .rintro M H' ⟨u,v,g3,rfl⟩;erw[((_,fT.of (g3.kp _ _ W o),by rw[gQ];exact gx _),?_)];rw[zN]at g3;erw[k u H' (I.trans g3)]
def QR(J:jA TR)(T:Txt mg)(o:CS K fx.cL)(q:CS K fx.cM)(O:CH K fx.cH){n:Nat}(d:Nat)(X:3<=n)(I:xz 3 "last_left" (ZA R TR fx) λC=>C=fx.cM)
  (N:xz n "end_turning" (mG R TR fx (λT i _=>f7 T i=false) aV) λC=>C=fx.cH) (M:xz n "tell" (mG R TR fx (λT i _=>b6 T d i) (λT i S=>cz T d i S)) λC=>C=fx.cH) (F:aI K "put_away" "House.put_away" lO dV f fd) {C:eF}:
  wS (n+1) f fd kN (mG R TR fx (λT i _=>f7 T i=false/\b6 T (d+1) i) (λT i S=>aC T d i S) C):=by
 let c:=I.d;let a:=N.d;let e:=M.d
 rcases q9,(aa (bH (i:=2) q9.nd (kU (pv 1) c))
   (af (aO (ix ES (pv 2) fO) (af (aE (lS (pv 0) a {pv 1}))) (af (aO (fA (bx (av (pv 2) rfl))) (af (aE (lS (pv 0) e {pv 2}))) ay))))) with⟨U,L,FT,D,S,i,rfl,h,e0,ok,wf,hi,⟨hl,hdp⟩,g,k⟩
 let G:=bC h hi hl;let g:(aC U d i S).book.length<sizeLine:=g;let k:∀D' H',Goes R TR fx U L FT D H D' (aC U d i S) H'->Q .non H':=k;unfold aC at k g;lk;erw[j0 (L.nd i) _ _ _ _ ([]) (gT rfl G (fQ hl,rfl,rfl) rfl ?_)];erw[j0 U L FT D S i (kR rfl h hi ok.n64 hl rfl (λr B m=>?_))];let z:=m.rp.cells .hs trivial;unfold Um;cases hll:aS U i S with
 |none=>
  rw[hll]at k g;lk;erw[eS z (rfl,rfl,rfl) rfl ?_];erw[ju rfl (j0 U L FT r S i (DK rfl m.rp rfl ok wf hi hl g (λv u x=>k v u (m.trans x))))]
 |some j=>
  rw[hll]at k g;dsimp only at k g;let A:=jb hll;let y:=(aZ A).1;let p:=qZ o q U j;let t:=m.rp.cells (.nd j) y;lk;erw[bA t p.cl p.asked (Ic _ _) ?_];cases ha:(S j).asked with
  |true=>
   rw[ha]at k;lk;erw[k r B m]
  |false=>
   rw[ha]at k g;lk;erw[eS z (rfl,rfl,rfl) rfl ?_];erw[ju rfl (j0 U L FT r S j (DK rfl m.rp rfl ok wf y (hdp j A) g (λv u x=>k v u (m.trans x))))]
def DtT(R:Rep)(TR:Hr.mq)(fx:HC)(C:eF)(s:Sp)(a:List V):Prop:=a=[]/\((C=fx.cL/\s=jU R TR fx true uS bj pF C)\/(C=fx.cM/\s=jU R TR fx false (λT _ _ us=>us=[]/\T.length<=64) bj pF C))
def aeK(U:Re)(c:U.length<=64)(i:Nat):∃sp,DtT R TR fx (bI fx U i) sp []/\∀(L:Lo) (a:FS) (D:Dy) (S:HS) (H:Hp) (Q:VK) (E:XK),Rp R TR fx U L a D S H->i<U.length->(∀D' H',Goes R TR fx U L a D H D' (bj U i S) H'->Q .non H')->sp [.ref (L.nd i)] H Q E:=by
 cases hl:f7 U i with
 |true=>exact(_,(rfl,.inl (tJ hl,rfl)),λL a D S H Q E h e k=>(U,L,a,D,S,i,_,rfl,rfl,h,e,hl,rfl,k))
 |false=>exact(_,(rfl,.inr (fQ hl,rfl)),λL a D S H Q E h e k=>(U,L,a,D,S,i,_,rfl,(rfl,c),h,e,hl,rfl,k))
def ZG(y:jA TR)(T:Txt mg){Y:Nat->eF->Prop}(hS:ShI P w K mg eC R Y)(A:CS K fx.cL)(O:CS K fx.cM)(ac:CH K fx.cH){n:Nat}(d:Nat)(hn:3<=n)(o:∀C s m,DtT R TR fx C s m->wT (gf P w) true n "tell" C s m)(hW:xz 1 "write" (Cv R TR fx) λC=>C=fx.cH)
  (hE:xz 2 "end_by" (CQ R TR fx) λC=>C=fx.cH) (hO:xz 1 "told_end" (jU R TR fx true uS (λ_ _ S=>S) (λ_ S i=>.str (dJ (S i)))) λC=>C=fx.cL)
  (hP:xz n "put_away" (mG R TR fx (λT i _=>f7 T i=false/\b6 T (d+1) i) (λT i S=>aC T d i S)) λC=>C=fx.cH) (F:aI K "tell" "House.tell" vd dV f fd) {C:eF}:
  wS (n+1) f fd wX (mG R TR fx (λT i _=>b6 T (d+1) i) (λT i S=>cz T (d+1) i S) C):=by
 let jk:=hW.d;let g:=hE.d;let c:=hO.d;let a:=hP.d
 let p:∀C s m,Dt (xT R) (λC=>∃j,Y j C) C s m->wT (gf P w) true 3 "leaf" C s m:=by
  rintro C s m ⟨⟨j,z⟩,rfl,rfl⟩;erw[hS.I.leaf z]
 rcases K1,(aa (aE (lS (pv 0) jk {(aj),pv 1}))
   (aa (aE (kU (pv 1) o))
   (af (aO (bx (kU (av (pv 1) rfl) p)) (af (aE (lS (pv 0) g {pv 1,kU (pv 1) c}))) (af (aE (lS (pv 0) a {pv 1}))))))) with⟨U,L,FT,D,S,i,rfl,h,e0,ok,wf,hi,hdp,q,k⟩
 let hx:=h.cells .hs trivial;let u:=qZ A O U i;let q:(cz U (d+1) i S).book.length<sizeLine:=q;let k:∀D' H',Goes R TR fx U L FT D H D' (cz U (d+1) i S) H'->Q .non H':=k;let w1:=wf.write "told" i;let x:=w1.bj (i:=i);let ab:=dA (T:=U) "told" i S
 let M:(write U "told" i S).book.length<=(cz U (d+1) i S).book.length:=by
  rw[eJ]
  split
  .exact zq i _ (bj U i (write U "told" i S))
  .exact kf d i (bj U i (write U "told" i S))
 rw[eJ]at k;rw[eJ]at q;erw[ju rfl (eS hx (rfl,rfl,rfl) rfl ?_),ml U L FT D S i ("told") (pE rfl h rfl hi (by lia) (λD1 H1 B=>?_))];let j1:=B.rp.cells (.nd i) hi;let(sp,hd,G):=aeK U ok.n64 i;lk;erw[j0 (L.nd i) _ _ _ sp ([]) (gT rfl j1 hd (PZ rfl rfl) ?_)];erw[G L FT D1 _ H1 _ _ B.rp hi (λD2 H2 r=>?_)];let r:=B.trans r;let x2:=r.rp.cells .hs trivial;let Z:=r.rp.cells (.nd i) hi;generalize bj U i (write U "told" i S)=S2 at k q x r Z x2;let(oc,v,hR):=r.rp.ch i hi;let(Cc,dc,fc,c1,c2,c3,c4,c5,c6,c7):=hS.I.inst (hR H2 v);lk;erw[bA Z u.cl u.child (BY _ _) ?_,eS c1 ((_,c2),rfl,rfl) c4 ?_];erw[iG (L.ch i) dc fc (sh U i) (ll rfl (hR H2 v) c1 (λH3 s3=>?_))];let t:=r.trans (Goes.same y r.rp s3);let X:=t.rp.cells .hs trivial;erw[(_,rfl,?_)];erw[bR (λe=>?_) (λe=>?_)]
 .let hl:f7 U i=true:=e;rw[hl]at k q;let j3:=oO t.rp hi hl;lk;erw[eS X (rfl,rfl,rfl) rfl ?_,j0 (L.nd i) _ _ _ _ ([]) (gT rfl j3 (tJ hl,rfl,rfl) rfl ?_)];erw[ml U L FT D2 S2 i ([]) (kR rfl rfl t.rp hi hl rfl (λD4 H4 g4=>?_))];erw[ml U L FT D4 S2 i _ (kR rfl g4.rp rfl (by let:=x.wl i;lia) hi q (λJ W N=>k J W (t.trans (g4.trans N))))]
 .let hl:f7 U i=false:=by
   cases z:f7 U i with
   |true=>erw[absurd z e]
   |false=>rfl
  rw[hl]at k q;lk;erw[eS X (rfl,rfl,rfl) rfl ?_];erw[ju rfl (j0 U L FT D2 S2 i (DK rfl t.rp rfl ok x hi (hl,hdp) q (λJ W N=>k J W (t.trans N))))]
def Uw{K:gI}{H:Hp}{a c:eF}{xs:List V}(e:fT K H a xs)(g:fT K H c []):xo K H 1 (.ref a) (.ref c) xs.isEmpty:=by
 erw[.inr (a,c,xs,[],rfl,rfl,?_)];cases xs with
 |nil=>erw[.inr (.inl (e,g),rfl,λ_=>true,λj h i z=>(by cases z),rfl)]
 |cons x r=>erw[.inl (e,g,λz=>(by cases z),rfl)]
def agN(n:Nat):seqIndex? 0 (n+1)=some 0:=by
 show(if (decide (0<=0)&&decide (0<((n+1:Nat):Int)))=true then some (0:Int).toNat else none)=some 0;rw[gy (show(0:Int)<((n+1:Nat)) by lia)]
 rfl
def toBe_enough{U:Re}{S:HS}{m i:Nat}(a:i≠m)(wd:Str)(j:Nat):toBe U m i (write U wd j (aL U m S).2)=toBe U m i S:=by
 let(l,e,_):=oV m S;rw[e];unfold toBe bK;show(decide (((up S m λd=>{d with aA:=l}).nd i).st="off")&& !Nat.testBit ((up S m λd=>{d with aA:=l}).nd m).good (gm U i))=_;rw[bu _ a,aw]
def adf(R:Rep)(TR:Hr.mq)(fx:HC)(C:eF):Sp:=λvs H Q _=>∃(T:Re) (L:Lo) (a:FS) (D:Dy) (S:HS) (m i:Nat),vs=[.ref L.x,.ref (L.nd m),.ref (L.nd i)]/\Rp R TR fx T L a D S H/\fx.cH=C/\kY T/\Wf T S/\i<T.length/\par T i=some m/\toBe T m i S=true/\(answer T m i S).book.length<sizeLine∧
   ∀D' H',Goes R TR fx T L a D H D' (answer T m i S) H'->Q .non H'
def RC(ab:jA TR)(T:Txt mg)(M:CS K fx.cL)(O:CS K fx.cM)(r:CH K fx.cH){n:Nat}(Z:4<=n)(hN:xz 3 "has_enough" (Py R TR fx) λC=>C=fx.cM)(hW:xz 1 "write" (Cv R TR fx) λC=>C=fx.cH)
  (hG:xz 3 "give_up" (jU R TR fx false (λT _ _ us=>us=[]/\T.length<=64) giveUp pF) λC=>C=fx.cM)
  (hF:xz 4 "turn_for" (Qm R TR fx (λT S m i us=>us=[.int S.clk]/\(S m).aA.length<sizeLine/\(S m).good<2^(kids T m).length/\toBe T m i S=true) fP (λ_ _ _ _=>.non)) λC=>C=fx.cM)
  (hP:xz n "put_away" (mG R TR fx (λT i _=>f7 T i=false/\b6 T 10 i) (λT i S=>aC T 9 i S)) λC=>C=fx.cH) (F:aI K "answer" "House.answer" qy dV f fd) {C:eF}:
  wS (n+1) f fd vQ (adf R TR fx C):=by
 let a:=hN.d;let jk:=hW.d;let o:=hG.d;let g:=hF.d;let c:=hP.d
 rcases GS,(aa (aO (bx (lS (pv 1) a {av (pv 0) rfl})) (aa (aE (lS (pv 0) jk {(aj),pv 1}))
   (af (aE (kU (pv 1) o)))) (aa (aE (lS (pv 0) jk {(aj),pv 2}))
   (af (aE (lS (pv 1) g {pv 2,av (pv 0) rfl})))))
   (af (aE (lS (pv 0) c {pv 1})))) with⟨U,L,FT,D,S,m,i,rfl,h,e0,ok,wf,hi,hp,htb,hb,k⟩
 let(mi,p):=ok.bB hi hp;let t:=KX mi hi;let hx:=h.cells .hs trivial;let Z:=bC h t p;let hc:=qZ M O U m;rw[jD]at hb;rw[jD]at k;let wN:=wf.br (i:=i) p;let lN:=xO (T:=U) m i S;let lP:=kf (T:=U) 9 m (br U m i S);let he:=wf.aL (m:=m);let N:=(rb (T:=U) m S).1;let fb:=wf.fl m;lk;erw[j0 (L.nd m) _ _ _ _ ([]) (gT rfl Z (fQ p,rfl,rfl) rfl ?_),bA hx r.cl r.Jk rfl ?_];erw[j0 U L FT D S m (kR rfl () h t p rfl (λX H1 A=>?_))];let x1:=A.rp.cells .hs trivial
 let G:∀u y,Goes R TR fx U L FT D H u (br U m i S) y->∀W,(∀H',Q .non H'->W .non H')->∀Y,mG R TR fx (λT i _=>f7 T i=false/\b6 T 10 i) (λT i S=>aC T 9 i S) fx.cH [.ref L.x,.ref (L.nd m)] y W Y:=λu y j W hQ Y=>
  (U,L,FT,u,_,m,rfl,j.rp,rfl,ok,wN,t,(p,dY (ok.deep m t)),hb,λv B q=>hQ _ (k v B (j.trans q)))
 unfold br at G;cases hen:(aL U m S).1 with
 |true=>
  rw[hen]at G;lk;erw[eS x1 (rfl,rfl,rfl) rfl ?_,ml U L FT X _ m ("gives up") (pE rfl A.rp rfl t (by lia) (λu y j=>?_))];let j:=A.trans j;let J:=bC j.rp t p;lk;erw[j0 (L.nd m) _ _ _ _ ([]) (gT rfl J (fQ p,rfl,rfl) rfl ?_)];erw[ml U L FT u _ m ([]) (kR rfl (rfl,ok.n64) j.rp t p rfl (λv B q=>?_))];let q:=j.trans q;let I:=q.rp.cells .hs trivial;erw[ju rfl (eS I (rfl,rfl,rfl) rfl ?_)];exact(_,rfl,G v B q _ (λ_ z=>z) E)
 |false=>
  rw[hen]at G;lk;erw[eS x1 (rfl,rfl,rfl) rfl ?_,ml U L FT X _ i ("answers") (pE rfl A.rp rfl hi (by lia) (λu y j=>?_))];let j:=A.trans j;let J:=bC j.rp t p;let x2:=j.rp.cells .hs trivial
  lk;erw[j0 (L.nd m) _ _ _ _ ([]) (gT rfl J (fQ p,rfl,rfl) rfl ?_),bA x2 r.cl r.Jk rfl ?_];let f2:=he.fl m;rw[N]at f2;erw[ex8 U L FT u _ m i _ (R6 rfl (rfl,?_,(he.write "answers" i).gd m,by rwa[toBe_enough (akC mi)]) j.rp t p hi hp ok.n64 rfl (λv B q=>?_))]
  .show ((aL U m S).2.nd m).aA.length<sizeLine
   lia
  let q:=j.trans q;let I:=q.rp.cells .hs trivial;erw[ju rfl (eS I (rfl,rfl,rfl) rfl ?_)];exact(_,rfl,G v B q _ (λ_ z=>z) E)
def Pq(M:jA TR)(T:Txt mg)(W:CS K fx.cL)(ab:CS K fx.cM)(ad:CH K fx.cH){n:Nat}(hn:4<=n)(hO:xz 2 "to_be_answered" (Qm R TR fx (λ_ _ _ _ us=>us=[]) (λ_ _ _ S=>S) (λT S m i=>.bl (toBe T m i S))) λC=>C=fx.cM)
  (hA:xz n "answer" (adf R TR fx) λC=>C=fx.cH) (F:aI K "answer_waiting" "House.answer_waiting" fN dV f fd) {C:eF}:
  wS (n+1) f fd kN (mG R TR fx (λT i _=>f7 T i=false) (λT m S=>bt T (S m).wait.length m S) C):=by
 let a:=hO.d;let g:=hA.d
 rcases jK,(af (HN yu (PW.pt (iq (ix cq (av (pv 1) rfl) aj) (eU (ix (YF (Tz hr)) (av (pv 1) rfl) (aP bQ))))) (aa (bH (i:=2) jK.nd (gg xZ amG amH Qo (av (pv 1) rfl) {(ai)}))
   (af (aO (bx (lS (pv 1) a {pv 2})) (af (aE (lS (pv 0) g {pv 1,pv 2}))) ay))))) with⟨U,L,FT,D,S,m,rfl,h,e0,ok,wf,hm,hl,hb,k⟩
 let A:=qZ W ab U m;let k:∀D' H',Goes R TR fx U L FT D H D' (bt U (S m).wait.length m S) H'->Q .non H':=k;erw[(λj σ H'=>∃p c v,Goes R TR fx U L FT D H p c H'/\Wf U c/\bt U (c.nd m).wait.length m c=bt U (S m).wait.length m S/\j=(c.nd m).wait.length/\σ=[some (.ref L.x),some (.ref (L.nd m)),v],(_,D,S,none,Goes.refl h,wf,rfl,rfl,rfl),?_)];rintro j σ H1 ⟨p,c,v,N,w1,e1,rfl,rfl⟩;let n1:=bC N.rp hm hl;lk;erw[bA n1 A.cl A.state rfl ?_,bR (λe=>?_) (λe=>?_)]
 .let e:=V.str.inj (iB e);let wa:=N.rp.cells (.wa m) (hm,hl);lk;erw[bA n1 A.cl A.waiting rfl ?_,(l8 (by simp),λq hq=>?_)];let X:=aq (o:= .lst []) hq;let G:=N.trans (Goes.same M N.rp X);erw[iG (p.wa m) q 1 _ (gT rfl rfl ∅ (Uw (fT.of (X _ _ wa)) (fT.of ae)) ?_)];generalize upd H1 q (.lst [])=H2 at X G;erw[(_,rfl,?_)];cases hw:(c.nd m).wait with
  |nil=>
   rw[vI (.inr hw)]at e1;rw[<- e1]at k;erw[k p H2 G]
  |cons i r=>
   erw[agv (λY H'=>∃j',j'<(i::r).length/\∃p c v,Goes R TR fx U L FT D H p c H'/\Wf U c/\bt U (c.nd m).wait.length m c=bt U (S m).wait.length m S/\j'=(c.nd m).wait.length/\Y=[some (.ref L.x),some (.ref (L.nd m)),v],λ_ _ z=>z,?_)];let(I,J):=Ng ok e hw;let(O,b2):=w1.cy ok hm hl hw;let(hi,hp):=w1.wt m i (by rw[hw];erw[lq]);let n2:=bC G.rp hm hl;let y:=G.rp.cells (.wa m) (hm,hl);rw[show cont fx U L p c (.wa m)=.lst ((c.nd m).wait.map λj=>V.ref (L.nd j)) from rfl,hw]at y;lk;erw[oi (L.nd m) _ _ _ _ (kR rfl n2 A.cl A.waiting rfl (.inl (rfl,_,fT.of y)) ?_),oi (p.wa m) _ 0 0 (V.ref (L.nd i)) (an8 rfl rfl y ∅ ∅ (agN _) rfl ?_)];let Z:=G.trans (G.rp.ac2 M hm hl r);let t:(cy U m i r c).book.length<sizeLine:=by
    let:=rF (T:=U) ((cy U m i r c).nd m).wait.length m (cy U m i r c);lia
   let ej:(i::r).length=(c.nd m).wait.length:=by rw[hw]
   let n3:=bC Z.rp hm hl;erw[ju rfl (j0 (L.nd m) _ _ _ _ ([]) (gT rfl n3 (fQ hl,rfl,rfl) rfl ?_))];erw[ju rfl (ex8 U L FT p _ m i ([]) (R6 rfl rfl Z.rp hm hl hi hp ok.n64 rfl (λD4 H4 B=>?_)))];let B:=Z.trans B;let x4:=B.rp.cells .hs trivial;unfold cy at I J O t;erw[(_,rfl,?_)];erw[bR (λu=>?_) (λu=>?_)]
   .rw[fR u]at I J O t;erw[ju rfl (eS x4 (rfl,rfl,rfl) rfl ?_),ml U L FT D4 _ m i (R6 rfl B.rp rfl ok b2 hi hp u t (λD5 H5 g5=>?_))];exact(_,by rwa[ej],D5,_,_,B.trans g5,O,I.symm.trans e1,rfl,rfl)
   .rw[fC u]at I J O;exact(_,by rwa[ej],D4,_,_,B,b2,I.symm.trans e1,rfl,rfl)
 .let e:=λz=>e (gy (iY V.str z));rw[vI (.inl e)]at e1;rw[<- e1]at k;erw[k p H1 N]
def Xw(R:Rep)(TR:Hr.mq)(fx:HC)(C:eF):Sp:=λvs H Q _=>∃(T:Re) (L:Lo) (a:FS) (D:Dy) (S:HS) (i:Nat) (wd:Str),vs=[.ref L.x,.ref (L.nd i),.str wd]/\Rp R TR fx T L a D S H/\fx.cH=C/\kY T/\Wf T S/\(∀m,(S m).wait.length+S.ends.length+1<=S.book.length)/\i<T.length/\isWord wd/\(mV T i wd S).book.length<sizeLine∧
 ∀D' H',Goes R TR fx T L a D H D' (mV T i wd S) H'->Q .non H'
def ZD(ac:jA TR)(T:Txt mg)(G:CS K fx.cL)(J:CS K fx.cM)(ad:CH K fx.cH){n:Nat}(hn:4<=n)(hN:xz 4 "note_end" (Xe R TR fx) λC=>C=fx.cM)
  (hP:xz n "put_away" (mG R TR fx (λT i _=>f7 T i=false/\b6 T 10 i) (λT i S=>aC T 9 i S)) λC=>C=fx.cH) (hA:xz n "answer_waiting" (mG R TR fx (λT i _=>f7 T i=false) (λT m S=>bt T (S m).wait.length m S)) λC=>C=fx.cH)
  (F:aI K "hear" "House.hear" kC dV f fd) {C:eF}:wS (n+1) f fd g9 (Xw R TR fx C):=by
 erw[F.CK sD λvs H Q E y0=>?_];let(U,L,N,D,S,i,wd,rfl,h,e0,ok,wf,W,B,hw,hb,k):=y0;erw[(rfl,λX A fM s hr=>?_)];let j:=qZ G J U i;let Y:=h.cells (.nd i) B;let g:=hN.d;let c:=hP.d;let a:=hA.d;cases hp:par U i with
 |none=>
  rw[oS hp]at k
  refine(_,(aa (bH (i:=3) sD.nd (av (pv 1) rfl))
   (aa (aO (ix ES (pv 3) fO) (af TU) ay)
   (aa (aO (fA (bx (av (pv 1) rfl))) (af (aE (lS (pv 3) g {pv 1,pv 2}))) ay)
   (aa (aO (ix uO (av (pv 3) rfl) aj) (af (aE (lS (pv 0) c {pv 3}))) ay)
   (af (aE (lS (pv 0) a {pv 3}))))))),?_)
  let mv:vt U L i=.non:=by unfold vt;rw[hp]
  lk;erw[bA Y j.cl j.Od (HD _ _) ?_];rw[mv];lk;erw[k D H (Goes.refl h)]
 |some m=>
  let mv:vt U L i=.ref (L.nd m):=by unfold vt;rw[hp]
  rw[lJ hp]at k;rw[lJ hp]at hb;let(mi,r):=ok.bB B hp;let u:=KX mi B;let hc:=qZ G J U m;let hn:=bC h u r;let lA:=rF (T:=U) ((cK U m i wd S).nd m).wait.length m (cK U m i wd S);let w1:=wf.bD (wd:=wd) B hp r (W m);let w2:=wf.cK ok (wd:=wd) B hp (W m)
  let lH:S.book.length<=(cK U m i wd S).book.length:=by
   let e:=Bl (T:=U) m i wd S;unfold cK
   split
   .rw[e];erw[gx _]
   .rw[<- e];erw[kf 9 m _]
  let t3:∃Z,nN (w9 true (gf P w) P w K mg eC CZ "House.hear" (ah kC) f X A fM s H E).je ((cZ kC).drop 3) Z/\∀(t:Dy) (v:Hp),Goes R TR fx U L N D H t (bD U m i wd S) v->Z {nx:=λ_ H'=>Q .non H',rt:=Q} [some (.ref L.x),some (.ref (L.nd i)),some (.str wd),some (.ref (L.nd m))] v:=by
   refine(_,(aa (aO (ix uO (av (pv 3) rfl) aj) (af (aE (lS (pv 0) c {pv 3}))) ay)
   (af (aE (lS (pv 0) a {pv 3})))),?_)
   intro t v q;let n1:=bC q.rp u r;let x1:=q.rp.cells .hs trivial
   let o:∀O M,Goes R TR fx U L N D H O (cK U m i wd S) M->∀Q',(∀H',Q .non H'->Q' .non H')->∀E',mG R TR fx (λT i _=>f7 T i=false) (λT m S=>bt T (S m).wait.length m S) fx.cH [.ref L.x,.ref (L.nd m)] M Q' E':=λO M p Q' hQ E'=>
    (U,L,N,O,_,m,rfl,p.rp,rfl,ok,w2,u,r,hb,λD3 H3 g3=>hQ _ (k D3 H3 (p.trans g3)))
   let lP:((bD U m i wd S).nd m).st≠"on"->(aC U 9 m (bD U m i wd S)).book.length<=(cK U m i wd S).book.length:=λz=>by
    unfold cK;rw[fC z];erw[gx _]
   unfold cK at o;lk;erw[bA n1 hc.cl hc.state rfl ?_,bR (λe=>?_) (λe=>?_)]
   .let e:((bD U m i wd S).nd m).st≠"on":=λz=>by
     simp_all
    rw[fC e]at o;lk;erw[eS x1 (rfl,rfl,rfl) rfl ?_];erw[ju rfl (j0 U L N t _ m (DK rfl q.rp rfl ok w1 u (r,dY (ok.deep m u)) (uk (jC (lP e) lA) hb) (λO M p=>?_)))];let p:=q.trans p;let x2:=p.rp.cells .hs trivial;erw[ju rfl (eS x2 (rfl,rfl,rfl) rfl ?_)];exact(_,rfl,o O M p _ (λ_ z=>z) E)
   .let e:((bD U m i wd S).nd m).st="on":=by
     simp_all
    rw[fR e]at o;erw[ju rfl (eS x1 (rfl,rfl,rfl) rfl ?_)];exact(_,rfl,o t v q _ (λ_ z=>z) E)
  let(Z,ht,I):=t3
  refine(_,(aa (bH (i:=3) sD.nd (av (pv 1) rfl))
   (aa (aO (ix ES (pv 3) fO) (af TU) ay)
   (aa (aO (fA (bx (av (pv 1) rfl))) (af (aE (lS (pv 3) g {pv 1,pv 2}))) ay)
   ht))),?_)
  unfold bD at I;lk;erw[bA Y j.cl j.Od (HD _ _) ?_];rw[mv];lk;erw[bA Y j.cl j.asked (Ic _ _) ?_];cases ha:(S i).asked with
  |true=>
   rw[ha]at I;lk;erw[I D H (Goes.refl h)]
  |false=>
   rw[ha]at I;let ab:=W m;lk;erw[j0 (L.nd m) _ _ _ _ ([]) (gT rfl hn (fQ r,rfl,rfl) rfl ?_),(wd,hw,U,L,N,D,S,m,i,_,rfl,(rfl,()),h,u,r,B,hp,ok.n64,rfl,λt v q=>?_)];erw[I t v q]
def CC(R:Rep)(TR:Hr.mq)(fx:HC)(C:eF):Sp:=λvs H Q _=>∃(T:Re) (L:Lo) (a:FS) (D:Dy) (S S':HS) (n:Nat),vs=[.ref L.x]/\Rp R TR fx T L a D S H/\fx.cH=C/\kY T/\Wf T S/\a8 T n S=some S'/\S'.book.length<sizeLine∧
 ∀D' H',Goes R TR fx T L a D H D' S' H'->Q .non H'
def SK(y:jA TR)(T:Txt mg)(ab:CS K fx.cL)(ac:CS K fx.cM)(m:CH K fx.cH){n:Nat}(hn:1<=n)(hA:xz n "hear" (Xw R TR fx) λC=>C=fx.cH)
  (F:aI K "settle" "House.settle" pJ dV f fd) {C:eF}:wS (n+1) f fd QW (CC R TR fx C):=by
 let p:=hA.d
 rcases wD,(af (HN yu (ix (YF (Tz hr)) (av (pv 0) rfl) (aP bQ)) (aa (bH (i:=1) wD.nd (gg xZ amG amH Qo (av (pv 0) rfl) {(ai)}))
   (af (aE (lS (pv 0) p {ig de (pv 1) ai,ig de (pv 1) ai})))))) with⟨U,L,FT,D,S,S',fu,rfl,h,e0,ok,wf,hs,hb,k⟩
 erw[(λj Z H'=>∃g c v,Goes R TR fx U L FT D H g c H'/\Wf U c/\a8 U j c=some S'/\Z=[some (.ref L.x),v],(fu,D,S,none,Goes.refl h,wf,hs,rfl),?_)];rintro j Z H1 ⟨g,c,v,B,w1,e1,rfl⟩;let x1:=B.rp.cells .hs trivial;let q1:=B.rp.cells .qu trivial;let I:=B.rp.qsl;lk;erw[bA x1 m.cl m.ends rfl ?_,(l8 (by simp),λq u=>?_)];let N:=aq (o:= .lst []) u;let t:=B.trans (Goes.same y B.rp N);erw[iG L.qu q 1 _ (gT rfl rfl ∅ (Uw (fT.of (N _ _ q1)) (fT.of ae)) ?_)];generalize upd H1 q (.lst [])=H2 at N t;erw[(_,rfl,?_)];cases he:c.ends with
 |nil=>
  rw[he]at I;let J:=Yw.mp I;rw[J];let e1:=by
   cases j with
   |zero=>
    unfold a8 at e1;rw[fR he]at e1;erw[iJ e1]
   |succ j=>
    unfold a8 at e1;rw[he]at e1;erw[iJ e1]
  rw[<- e1]at k;erw[k g H2 t]
 |cons e r=>
  let(i,wd):=e;cases j with
  |zero=>
   unfold a8 at e1;simp_all
  |succ j=>
   let e1:=by
    unfold a8 at e1;rw[he]at e1;erw[e1]
   let(X,w3,w4,w5):=w1.pop he;cases u:g.qs with
   |nil=>rw[u,he]at I;cases I
   |cons a qs=>
    erw[agv (λO H'=>∃Y,Y<j+1/\∃g c v,Goes R TR fx U L FT D H g c H'/\Wf U c/\a8 U Y c=some S'/\O=[some (.ref L.x),v],λ_ _ z=>z,?_)];let x2:=t.rp.cells .hs trivial;let G:=t.rp.cells .qu trivial;rw[show cont fx U L g c .qu=.lst (g.qs.map V.ref) from rfl,u]at G;let M:=t.rp.qs 0 a (i,wd) (by rw[u];rfl) (by rw[he];rfl);lk;erw[oi L.x _ _ _ _ (kR rfl x2 m.cl m.ends rfl (.inl (rfl,_,fT.of G)) ?_),oi L.qu _ 0 0 (V.ref a) (an8 rfl rfl G ∅ ∅ (agN _) rfl ?_)];let W:=t.trans (t.rp.popped y u he);let x3:=W.rp.cells .hs trivial
    let na:a≠L.qu:=λz=>by
     rw[z]at M;rw[show (Lb.qu).at L g=L.qu from rfl,M]at G;cases G
    let A:(upd H2 L.qu (.lst (qs.map V.ref))) a=some (.tup (ZM L (i,wd))):=by rwa[ag na]
    erw[ju rfl (eS x3 (rfl,rfl,rfl) rfl ?_),iG a _ _ _ (gT rfl rfl (jx.of A) rfl ?_),iG a _ _ _ (gT rfl rfl (jx.of A) rfl ?_)];let lb:=lz j _ S' e1;erw[ml U L FT _ _ i wd (R6 rfl W.rp rfl ok X w3 w4 w5 (uk lb hb) (λD4 H4 g4=>?_))];exact(j,Ji _,D4,_,_,W.trans g4,X.mV ok w4 w3,e1,rfl)
structure TrI(P:iU)(w:iP)(K:gI)(mg:Str->Option fy)(eC:h7)(TR:Hr.mq)(cT:eF):Prop where
 loc:jA TR
 ins:∀{H:Hp} {t:eF} {T:Re} {FT:FS},TR H t T FT->∃dx fs,H t=some (.ins cT dx fs)/\fs.lookup ("find":Str)=none
 find:xz 2 "find" (λC vs H Q _=>∃(t:eF) (T:Re) (FT:FS) (i:Nat),vs=[.ref t,.str (sh T i).name]/\TR H t T FT/\i<T.length/\(T.map (·.sh.name)).Nodup/\C=cT/\∀H',aH H H'->Q (.int (i:Int)) H') λC=>C=cT
def Qn(R:Rep)(TR:Hr.mq)(fx:HC)(C:eF):Sp:=λvs H Q _=>∃(T:Re) (L:Lo) (a:FS) (D:Dy) (S:HS) (i:Nat),vs=[.ref L.x,.str (sh T i).name]/\Rp R TR fx T L a D S H/\fx.cH=C/\i<T.length/\(T.map (·.sh.name)).Nodup/\∀H',aH H H'->Q (.ref (L.nd i)) H'
def Tc{n:eF}(m:TrI P w K mg eC TR n)(T:Txt mg)(a:CH K fx.cH)(F:aI K "standing_called" "House.standing_called" fE dV f fd){C:eF}:zn 3 Qa (Qn R TR fx C):=by
 let c:=m.find.d;rcases sk,(af (au (ig aB (av (pv 0) rfl) (lS (av (pv 0) rfl) c {pv 1})))) with⟨U,L,p,D,S,i,rfl,h,v,g,nd,k⟩;let e:=h.cells .hs trivial;let(r,u,t1,o):=m.ins h.tr;lk;erw[bA e a.cl a.tO rfl ?_,bA e a.cl a.tree rfl ?_,eS t1 (rfl,rfl,rfl) o ?_];erw[ju rfl (iG L.t U p i (pE rfl h.tr g nd rfl (λq j=>?_))),iG L.sa _ _ (V.ref (L.nd i)) (gT rfl rfl (fT.of (j _ _ h.sa)) (cb (by rw[i6,Jb g];rfl)) (k _ j))]
def Ny(K:gI)(R:Rep)(TR:Hr.mq)(fx:HC)(C:eF):Sp:=λvs H Q _=>∃(T:Re) (L:Lo) (a:FS) (D:Dy) (S:HS),vs=[.ref L.x]/\Rp R TR fx T L a D S H/\fx.cH=C/\∀(q:eF) (H':Hp),aH H H'->H q=none->Z1 K H' q S.book->Q (.ref q) H'
def aar(T:Txt mg)(a:CH K fx.cH)(F:aI K "rows" "House.rows" vn dV f fd){C:eF}:zn 1 QW (Ny K R TR fx C):=by
 rcases KJ,(af (au (cv CI ⋯ T.Y7 UY {av (pv 0) rfl}))) with⟨U,L,n,D,S,rfl,h,p,k⟩;let m:=h.cells .hs trivial;let c:=h.cells .en trivial;lk;erw[bA m a.cl a.entries rfl ?_,jl L.en _ (kz rfl (.inl (fT.of c)) (λq j=>?_))];let g:=aq (o:= .lst (D.bk.map V.ref)) j;erw[k q _ g j (D.bk,ae,h.bkl,λi x e e1 e2=>jx.of (g _ _ (h.bk i x e e1 e2)))]
def DtS(R:Rep)(TR:Hr.mq)(fx:HC)(C:eF)(s:Sp)(a:List V):Prop:=a=[]/\((C=fx.cL/\s=jU R TR fx true FN (λ_ _ S=>S) (λT S i=>.bl (bM T i S)) C)\/(C=fx.cM/\s=jU R TR fx false FN (λ_ _ S=>S) (λT S i=>.bl (bM T i S)) C))
def aeE(U:Re)(i:Nat):∃sp,DtS R TR fx (bI fx U i) sp []/\∀(L:Lo) (a:FS) (D:Dy) (S:HS) (H:Hp) (Q:VK) (E:XK),Rp R TR fx U L a D S H->i<U.length->(∀D' H',Goes R TR fx U L a D H D' S H'->Q (.bl (bM U i S)) H')->sp [.ref (L.nd i),.int S.clk] H Q E:=by
 cases hl:f7 U i with
 |true=>exact(_,(rfl,.inl (tJ hl,rfl)),λL a D S H Q E h c k=>(U,L,a,D,S,i,_,rfl,rfl,h,c,hl,rfl,k))
 |false=>exact(_,(rfl,.inr (fQ hl,rfl)),λL a D S H Q E h c k=>(U,L,a,D,S,i,_,rfl,rfl,h,c,hl,rfl,k))
def UM(R:Rep)(TR:Hr.mq)(fx:HC)(C:eF):Sp:=λvs H Q _=>∃(T:Re) (L:Lo) (a:FS) (D:Dy) (S S':HS) (n:Nat),vs=[.ref L.x]/\Rp R TR fx T L a D S H/\fx.cH=C/\kY T/\Wf T S/\xr T n S=some S'/\S'.book.length<sizeLine/\∀D' H',Goes R TR fx T L a D H D' S' H'->Q .non H'
def Zu(N:jA TR)(T:Txt mg)(ac:CS K fx.cL)(ad:CS K fx.cM)(j:CH K fx.cH){n:Nat}(hn:4<=n)(a:∀C s A,DtS R TR fx C s A->wT (gf P w) true 2 "steps_at" C s A)
  (hP:xz 4 "step" (jU R TR fx true (λT S i us=>us=[]/\((S i).st≠"told"->0<=(S i).steps/\((sh T i).kind≠0->(S i).steps<=(sh T i).many))) (λT i S=>(cx T i S).2) (λT S i=>.str (cx T i S).1)) λC=>C=fx.cL)
  (hE:xz 2 "end_by" (CQ R TR fx) λC=>C=fx.cH) (hS:xz n "settle" (CC R TR fx) λC=>C=fx.cH) (F:aI K "turn" "House.turn" vq dV f fd) {C:eF}:wS (n+1) f fd QW (UM R TR fx C):=by
 let m:=hP.d;let e:=hE.d;let g:=hS.d
 rcases Ay,(aa (zH (pv 0) ai Zy)
   (af (lM yu rfl (eo (av (pv 0) rfl)) (c9 (i:=1) Ay.nd rfl (by k_ne)) (af (aO (bx (lS (pv 1) a {av (pv 0) rfl})) (aa (aE (lS (pv 0) e {pv 1,kU (pv 1) m}))
   (af (aE (kU (pv 0) g)))) ay))))) with⟨U,L,FT,D,S,S',fu,rfl,h,e0,ok,wf,hs,hb,k⟩
 let hx:=h.cells .hs trivial;lk;erw[bA hx j.cl j.Jk rfl ?_,(_,_,hx,by show 5<1000;decide,?_)];let q:=h.tick N (S.clk+1);let eH:upd H L.x (.ins fx.cH L.dx (lC "clock" (V.int (S.clk+1)) (CU L S)))=upd H L.x (.ins fx.cH L.dx (CU L {S with clk:=S.clk+1})):=rfl;rw[eH];generalize upd H L.x (.ins fx.cH L.dx (CU L {S with clk:=S.clk+1}))=H1 at q;let x1:=q.rp.cells .hs trivial;let w1:Wf U {S with clk:=S.clk+1}:=wf.tick _;let hs:(hD U.length).foldlM (λS i=>dj U fu i S) {S with clk:=S.clk+1}=some S':=hs;generalize ({S with clk:=S.clk+1})=S1 at q x1 w1 hs;let M:∀(l:Lb),vl U l->L.sa≠l.at L D:=λl v z=>(h.nt l v).1 z.symm;let o:=q.rp.sa;lk;erw[bA x1 j.cl j.tO rfl ?_,((_,fT.of o),?_)];erw[p9 (n:=U.length) (λt I H'=>∃r c v,Goes R TR fx U L FT D H1 r c H'/\Wf U c/\((hD U.length).drop t).foldlM (λS i=>dj U fu i S) c=some S'/\I=[some (.ref L.x),v]) (D,S1,none,Goes.refl q.rp,w1,hs,rfl) ?_ ?_ ?_]
 .rintro t I H' ht ⟨r,c,v,g2,_⟩;exact(_,V.ref (L.nd t),fT.of (g2.kp _ _ M o),by rw[i6,Jb ht];rfl)
 .rintro t I H' y H3 ht ⟨r,c,v,g2,w2,e2,rfl⟩ ⟨rfl,B⟩;let B:=B _ (fT.of (g2.kp _ _ M o));rw[i6,Jb ht]at B;obtain rfl:V.ref (L.nd t)=y:=iJ B
  let dr:(hD U.length).drop t=t::(hD U.length).drop (t+1):=by
   rw[akB (by rwa[mK]),anl]
  rw[dr,YP]at e2;let j2:=g2.rp.cells (.nd t) ht;let x2:=g2.rp.cells .hs trivial;let(sp,hd,O):=aeE U t;lk;erw[j0 (L.nd t) _ _ _ sp ([]) (gT rfl j2 hd (PZ rfl rfl) ?_),bA x2 j.cl j.Jk rfl ?_];erw[O L FT r c _ _ _ g2.rp ht (λY H3 p=>?_)];let p:=g2.trans p;rw[tE]at e2;erw[(_,rfl,?_)];erw[bR (λst=>?_) (λst=>?_)]
  .rw[fR st]at e2;let Z:=w2.eR ht st;cases es:a8 U fu (eR U t c) with
   |none=>simp_all
   |some W=>
    rw[es]at e2;let X:=Tw _ _ _ e2;let l3:=lz _ _ _ es
    let G:=by
     unfold bM at st;rw[mu,mu]at st;erw[st.1.1]
    let ho:=by
     unfold bM at st;rw[mu,mu,Ma]at st;erw[wu st.1.2]
    let j3:=oO p.rp ht G;let x3:=p.rp.cells .hs trivial;lk;erw[eS x3 (rfl,rfl,rfl) rfl ?_,j0 (L.nd t) _ _ _ _ ([]) (gT rfl j3 (tJ G,rfl,rfl) rfl ?_)];erw[ml U L FT Y c t ([]) (kR rfl (rfl,λz=>w2.st t G ho z) p.rp ht G rfl (λD4 H4 J=>?_))];let J:=p.trans J;let se:=ano (T:=U) t c;let ab:=w2.wl t;erw[ml U L FT D4 _ t _ (kR rfl J.rp rfl (by lia) ht (uk (jC l3 X) hb) (λD5 H5 u=>?_))];let u:=J.trans u;let x5:=u.rp.cells .hs trivial;erw[ju rfl (eS x5 (rfl,rfl,rfl) rfl ?_)];erw[ml U L FT D5 _ W fu (an8 rfl u.rp rfl ok Z es (uk X hb) (λD6 H6 g6=>?_))];exact(D6,W,_,u.trans g6,(Wf.settle ok _ _ _ es Z).1,e2,rfl)
  .rw[fC st]at e2;exact(Y,c,_,p,w2,e2,rfl)
 .rintro I H' ⟨r,c,v,g2,w2,e2,rfl⟩;rw[amo (by rw[mK];erw[gx _])]at e2;let e2:=iJ e2;subst e2;erw[((_,fT.of (g2.kp _ _ M o),by simp),?_)];erw[k r H' (q.trans g2)]
def Ui(R:Rep)(TR:Hr.mq)(fx:HC)(c:eF)(C:eF):Sp:=λvs H Q E=>∃(T:Re) (L:Lo) (a:FS) (D:Dy) (S:HS),vs=[.ref L.x]/\Rp R TR fx T L a D S H/\fx.cH=C/\kY T/\Wf T S/\S.ends=[]∧
 (bK S 0=true->E (.ref c) none H)/\(bK S 0=false->∃(n:Nat) (S':HS),C3 T n S=some S'/\S'.book.length<sizeLine/\∀D' H',Goes R TR fx T L a D H D' S' H'->Q .non H')
def Yj(M:jA TR)(T:Txt mg){t:eF}(O:mg "NotOn"=some (.ref t))(Z:Ew K t)(q:CS K fx.cL)(u:CS K fx.cM)(m:CH K fx.cH){n:Nat}(hn:4<=n)(N:xz 1 "is_off" (vM R TR fx) λC=>C=fx.cL\/C=fx.cM)
  (X:xz n "tell" (mG R TR fx (λT i _=>b6 T 10 i) (λT i S=>cz T 10 i S)) λC=>C=fx.cH) (hS:xz n "settle" (CC R TR fx) λC=>C=fx.cH) (F:aI K "stop" "House.stop" vE dV f fd) {C:eF}:wS (n+1) f fd QW (Ui R TR fx t C):=by
 erw[F.ok1 AV λvs H Q E G=>?_];let(U,L,o,D,S,rfl,h,e0,ok,z,he,k1,k2):=G;let c:=N.d;let e:=X.d;let a:=hS.d
 refine(rfl,λY A fM s p=>(_,(aa (bH (i:=1) AV.nd (ig aB (av (pv 0) rfl) ai))
   (aa (aO (bx (jJ (pv 1) c (p.mono (by omega)) (passes dG))) (af (IA rfl dG Z ⋯ O {(aj)})) ay)
   (af (aO (fA (bx (av (pv 1) rfl))) (aa (aE (xF (pv 0) e (p.mono (by omega)) (passes dG) {pv 1}))
   (af (aE (jJ (pv 0) a (p.mono (by omega)) (passes dG))))) ay)))),?_))
 let x:=h.cells .hs trivial;let g:=qZ q u U 0;let y:=h.cells (.nd 0) ok.n0;lk;erw[bA x m.cl m.tO rfl ?_,iG L.sa _ _ (V.ref (L.nd 0)) (gT rfl rfl (fT.of h.sa) (cb (by rw[i6,Jb ok.n0];rfl)) ?_),j0 (L.nd 0) _ _ _ _ ([]) (gT rfl y (?_,rfl,rfl) (PZ rfl rfl) ?_)]
 .unfold bI
  split
  .exact .inl rfl
  .exact .inr rfl
 erw[j0 U L o D S 0 (gT rfl h ok.n0 rfl ?_)];cases ho:bK S 0 with
 |true=>
  lk;exact(l8 (by decide),k1 ho)
 |false=>
  let(I,S',e1,v,k):=k2 ho;unfold C3 at e1;lk;erw[bA y g.cl g.asked (Ic _ _) ?_];cases ha:(S 0).asked with
  |true=>
   rw[ha]at e1;let e1:=iJ e1;subst e1;lk;erw[k D H (Goes.refl h)]
  |false=>
   rw[ha]at e1;let l1:=lz _ _ _ e1;lk;erw[eS x (rfl,rfl,rfl) rfl ?_];erw[ju rfl (j0 U L o D S 0 (DK rfl h rfl ok z ok.n0 (dY (ok.deep 0 ok.n0)) (uk l1 v) (λB H1 r=>?_)))];let W:=r.rp.cells .hs trivial;erw[ju rfl (eS W (rfl,rfl,rfl) rfl ?_)];exact(U,L,o,B,_,S',I,rfl,r.rp,rfl,ok,Wf.cz ok 10 0 S ok.n0 z,e1,v,λD2 J g2=>k D2 J (r.trans g2))
def UP(R:Rep)(TR:Hr.mq)(fx:HC)(e c:eF)(C:eF):Sp:=λvs H Q E=>∃(T:Re) (L:Lo) (a:FS) (D:Dy) (S:HS) (i:Nat),vs=[.ref L.x,.str (sh T i).name]/\Rp R TR fx T L a D S H/\fx.cH=C/\kY T/\Wf T S/\i<T.length/\((T.map (·.sh.name)).Nodup/\(sh T i).name.length<=12)∧
 (f7 T i=false->∀H',aH H H'->E (.ref e) none H')/\(f7 T i=true->bK S i=true->∀H',aH H H'->E (.ref c) none H')/\(f7 T i=true->bK S i=false->∃(n:Nat) (S':HS),FJ T n i S=some S'/\S'.book.length<sizeLine/\∀D' H',Goes R TR fx T L a D H D' S' H'->Q .non H')
def adb{x:Str}(h:x.length<=12):(aly++x).length<=sizeLine:=by
 rw[akR];erw[l8 (by show 0+x.length<=100;lia)]
def Ud{x y:Str}(h:x.length<=12)(a:y.length<=60):(aly++x++y).length<=sizeLine:=by
 rw[akR,akR];erw[l8 (by show 0+x.length+y.length<=100;lia)]
def ZY(u:jA TR)(T:Txt mg){Cl:Nat->eF->Prop}(hS:ShI P w K mg eC R Cl){N Y:eF}(Dw:mg "NoLeaf"=some (.ref N))(Kr:Ew K N)(lZ:mg "NotOn"=some (.ref Y))(oB:Ew K Y)(O:CS K fx.cL)(W:CS K fx.cM)(ac:CH K fx.cH){n:Nat}(hn:4<=n)
  (hC:xz 3 "standing_called" (Qn R TR fx) λC=>C=fx.cH) (hO:xz 1 "is_off" (vM R TR fx) λC=>C=fx.cL\/C=fx.cM) (hE:xz 2 "end_by" (CQ R TR fx) λC=>C=fx.cH) (X:xz n "settle" (CC R TR fx) λC=>C=fx.cH)
  (F:aI K "trip" "House.trip" vb dV f fd) {C:eF}:wS (n+1) f fd Qa (UP R TR fx N Y C):=by
 erw[F.ok1 AS λvs H Q E y0=>?_];let(U,L,J,D,S,i,rfl,h,e0,ok,wf,r,(nd,v),k1,k2,k3):=y0;let a:=hC.d;let m:=hO.d;let c:=hE.d;let g:=X.d
 let p:∀C s t,Dt (xT R) (λC=>∃j,Cl j C) C s t->wT (gf P w) true 3 "leaf" C s t:=by
  rintro C s t ⟨⟨j,z⟩,rfl,rfl⟩;erw[hS.I.leaf z]
 refine(rfl,λab A fM s x=>(_,(aa (bH (i:=2) AS.nd (xF (pv 0) a (x.mono (by omega)) (passes dG) {pv 1}))
   (aa (aO (fA (bx (jJ (av (pv 2) rfl) p (x.mono (by omega)) (passes dG)))) (af (IA rfl dG Kr ⋯ Dw {Tt (Hc (ac5 (pv 1)) (Hc aj aaA))})) ay)
   (aa (aO (bx (jJ (pv 2) m (x.mono (by omega)) (passes dG))) (af (IA rfl dG oB ⋯ lZ {Tt (Hc (ac5 (pv 1)) (Hc aj aaA))})) ay)
   (aa (aE (xF (pv 0) c (x.mono (by omega)) (passes dG) {pv 2,(aj)}))
   (af (aE (jJ (pv 0) g (x.mono (by omega)) (passes dG)))))))),?_))
 let hx:=h.cells .hs trivial;let y:=qZ O W U i;lk;erw[eS hx (rfl,rfl,rfl) rfl ?_];erw[ju rfl (j0 U L J D S i (pE rfl h rfl r nd (λZ s1=>?_)))];let h1:=h.same u s1;let j1:=h1.cells (.nd i) r;let(oc,G,hR):=h1.ch i r;let(Cc,dc,fc,c1,c2,c3,c4,c5,c6,c7):=hS.I.inst (hR Z G);lk;erw[bA j1 y.cl y.child (BY _ _) ?_,eS c1 ((_,c2),rfl,rfl) c4 ?_];erw[iG (L.ch i) dc fc (sh U i) (ll rfl (hR Z G) c1 (λH2 s2=>?_))];let q:aH H H2:=λb o z=>s2 _ _ (s1 _ _ z);let M:=h.same u q;let j2:=M.cells (.nd i) r;let x2:=M.cells .hs trivial;erw[(_,rfl,?_)];erw[bR (λe=>?_) (λe=>?_)]
 .let hl:f7 U i=false:=by
   cases z:f7 U i with
   |false=>rfl
   |true=>
    rw[show decide ((sh U i).kind<3)=f7 U i from rfl,z]at e;cases e
  lk;erw[.inr (_,rfl,l8 (),_,rfl,adb v,_,rfl,Ud v ∅,Ud v ∅,l8 (by show 1<=100;decide),k1 hl _ q)]
 .let hl:f7 U i=true:=by
   cases z:f7 U i with
   |true=>rfl
   |false=>erw[absurd (show(!decide ((sh U i).kind<3))=true by rw[show decide ((sh U i).kind<3)=f7 U i from rfl,z];rfl) e]
  lk;erw[j0 (L.nd i) _ _ _ _ ([]) (gT rfl j2 (.inl (tJ hl),rfl,rfl) (PZ rfl rfl) ?_)];erw[j0 U L J D S i (gT rfl M r rfl ?_)];cases ho:bK S i with
  |true=>
   lk;erw[.inr (_,rfl,l8 (),_,rfl,adb v,_,rfl,Ud v ∅,Ud v ∅,l8 (by show 1<=100;decide),k2 hl ho _ q)]
  |false=>
   let(fu,S',e1,hb,k):=k3 hl ho;let l1:=lz _ _ _ e1;let wl:=wf.wl i;lk;erw[eS x2 (rfl,rfl,rfl) rfl ?_,ml U L J D S i ("fallen") (kR rfl M rfl () r (uk l1 hb) (λD1 H3 B=>?_))];let B:=(Goes.same u h q).trans B;let x3:=B.rp.cells .hs trivial;erw[ju rfl (eS x3 (rfl,rfl,rfl) rfl ?_)];exact(U,L,J,D1,_,S',fu,rfl,B.rp,rfl,ok,wf.aX r λ_=>.inr (.inl rfl),e1,hb,λD2 H4 g2=>k D2 H4 (B.trans g2))
end
abbrev Kt:List Str:=["child"]
def JA:ar Kt Kt (ah sV):=by kt_ors
abbrev Jl:List Str:=["tree","standings","place","child","standing","minder"]
def dZ:ar Jl acV (ah qr):=by kt_ors
section
variable{P:iU}{w:iP}{K:gI}{mg:Str->Option fy}{eC:h7}{f:eF}{fd:pG}{dV:fy}{fx:HC}{p:Pl}
def But(x:eF)(H H':Hp):Prop:=∀b o,b≠x->H b=some o->H' b=some o
theorem But.trans{x:eF}{H g i:Hp}(a:But x H g)(b:But x g i):But x H i:=λc o h e=>b c o h (a c o h e)
def fs0(ch q:eF):List (Str×V):=[("child",.ref ch),("state",.str "off"),("asked",.bl false),("minder",.non),("place",.int 0),("minded",.ref q)]
def Hh(K:gI):Sp:=λvs H Q _=>∃(x a C ch:eF),vs=[.ref x,.ref ch]/\H x=some (.ins C a [])/\CS K C/\∀(q:eF) (H':Hp),But x H H'->H q=none->H' q=some (.lst [])->H' x=some (.ins C a (fs0 ch q))->Q .non H'
def Xc(F:aI K "__init__" "Standing.__init__" iA dV f fd):zn 1 Ai (Hh K):=by
 rcases yc,(aa (aJ (pv 0) (pv 1) rfl)
   (aa (aJ (pv 0) aj rfl)
   (aa (aJ (pv 0) cP rfl)
   (aa (aJ (pv 0) fO rfl)
   (aa (aJ (pv 0) ai rfl)
   (af (aJ (pv 0) (aP bQ) rfl))))))) with⟨x,dx,C,ch,rfl,hx,hc,k⟩
 lk;erw[cw hx hc.cl hc.child (by simp) ?_,cw ae hc.cl hc.state (by show 1<1000;decide) ?_];rw[bp];lk;erw[cw ae hc.cl hc.asked (by show 2<1000;decide) ?_];rw[bp];lk;erw[cw ae hc.cl hc.Od (by show 3<1000;decide) ?_];rw[bp];lk;erw[cw ae hc.cl hc.place (by show 4<1000;decide) ?_];rw[bp];erw[(l8 ∅,λq c=>?_)];let g:q≠x:=λz=>by rw[z,ae]at c;cases c
 let a:=by rw[ag g]at c;erw[c]
 erw[ju rfl (cw (by rw[ag (Ne.symm g)];exact ae) hc.cl hc.vH (by show 5<1000;decide) ?_)];erw[k q _ (λb o h e=>?_) a (by rw[ag g];exact ae) ae];rw[ag h,ag (ao e a),ag h];erw[e]
def adV:List (Str×V):=[("begun_at",.int 0),("steps",.int 0),("needed",.int 0),("granted",.int 0)]
def Pm(K:gI):Sp:=λvs H Q _=>∃(x a C ch:eF),vs=[.ref x,.ref ch]/\H x=some (.ins C a [])/\CS K C/\∀(q:eF) (H':Hp),But x H H'->H q=none->H' q=some (.lst [])->H' x=some (.ins C a (fs0 ch q++adV))->Q .non H'
def Vi(F:aI K "__init__" "LeafStanding.__init__" eX dV f fd)(a:UO P w K mg eC true 1 "Standing" "__init__" (Hh K) []):zn 2 Ai (Pm K):=by
 rcases sF,(aa (aE (Ig a (hr.mono (by omega)) ⋯ cI {pv 0,pv 1}))
   (aa (aJ (pv 0) ai rfl)
   (aa (aJ (pv 0) ai rfl)
   (aa (aJ (pv 0) ai rfl)
   (af (aJ (pv 0) ai rfl)))))) with⟨x,dx,C,ch,rfl,hx,hc,k⟩
 lk;erw[iG x dx C ch (ll rfl hx hc (λq n m c h i=>?_))];let j:q≠x:=λz=>by simp_all
 lk;erw[cw i hc.cl hc.Jh (by show 6<1000;decide) ?_,cw ae hc.cl hc.steps (by show 7<1000;decide) ?_];rw[bp];lk;erw[cw ae hc.cl hc.OQ (by show 8<1000;decide) ?_];rw[bp];lk;erw[cw ae hc.cl hc.Hf (by show 9<1000;decide) ?_];rw[bp];erw[k q _ (λb o g e=>by rw[ag g];exact m b o g e) c (by rwa[ag j]) ae]
def acf(fa wa:eF):List (Str×V):=[("falls",.ref fa),("good",.int 0),("waiting",.ref wa),("leaving",.int 0),("coming",.int 0),("gave_up",.bl false)]
def LO(K:gI)(a:eF):Sp:=λvs H Q _=>∃(x c ch q:eF),vs=[.ref x]/\H x=some (.ins a c (fs0 ch q))/\∀(fa wa:eF) (H':Hp),But x H H'->H fa=none->H wa=none->fa≠wa->H' fa=some (.lst [])->H' wa=some (.lst [])->H' x=some (.ins a c (fs0 ch q++acf fa wa))->Q .non H'
def Sn(F:aI K "forget" "MinderStanding.forget" cY dV f fd){C:eF}(c:CS K C):zn 1 QW (LO K C):=by
 rcases i7,(aa (aJ (pv 0) (aP bQ) rfl)
   (aa (aJ (pv 0) ai rfl)
   (aa (aJ (pv 0) (aP bQ) rfl)
   (aa (aJ (pv 0) ai rfl)
   (aa (aJ (pv 0) ai rfl)
   (af (aJ (pv 0) cP rfl))))))) with⟨x,dx,ch,q,rfl,hx,k⟩
 erw[(l8 ∅,λfa g=>?_)];let h:fa≠x:=λz=>by simp_all
 erw[ju rfl (cw (by rwa[ag (Ne.symm h)]) c.cl c.aA (by show 6<1000;decide) ?_),cw ae c.cl c.good (by show 7<1000;decide) ?_];rw[bp];erw[(l8 ∅,λwa a=>?_)];let m:wa≠x:=λz=>by rw[z,ae]at a;cases a
 let j:fa≠wa:=λz=>by rw[<- z,ag h,ae]at a;cases a
 let i:=by rw[ag m,ag (Ne.symm j)]at a;erw[a]
 erw[ju rfl (cw (by rw[ag (Ne.symm m)];exact ae) c.cl c.waiting (by show 8<1000;decide) ?_),cw ae c.cl c.leaving (by show 9<1000;decide) ?_];rw[bp];lk;erw[cw ae c.cl c.aY (by show 10<1000;decide) ?_];rw[bp];lk;erw[cw ae c.cl c.G5 (by show 11<1000;decide) ?_];rw[bp];erw[k fa wa _ (λb o n e=>?_) g i j ?_ ?_ ae]
 .rwa[ag n,ag (ao e i),ag n,ag (ao e g)]
 .rw[ag h,ag j,ag h];erw[ae]
 .rw[ag m];erw[ae]
def Pt(K:gI)(a:eF):Sp:=λvs H Q _=>∃(x c ch:eF),vs=[.ref x,.ref ch]/\H x=some (.ins a c [])/\∀(q fa wa:eF) (H':Hp),But x H H'->H q=none->H fa=none->H wa=none->fa≠wa->q≠fa->q≠wa->H' q=some (.lst [])->H' fa=some (.lst [])->H' wa=some (.lst [])->H' x=some (.ins a c (fs0 ch q++acf fa wa))->Q .non H'
def W5{j:eF}(y:CS K j)(F:aI K "__init__" "MinderStanding.__init__" dM dV f fd)(c:UO P w K mg eC true 1 "Standing" "__init__" (Hh K) [])(I:xz 1 "forget" (LO K) λC=>C=j):zn 2 Ai (Pt K j):=by
 let g:=I.d
 rcases pH,(aa (aE (Ig c (hr.mono (by omega)) ⋯ cI {pv 0,pv 1}))
   (af (aE (kU (pv 0) g)))) with⟨x,dx,ch,rfl,hx,k⟩
 lk;erw[iG x dx j ch (ll rfl hx y (λq B v u n i=>?_))];let N:q≠x:=λz=>by simp_all
 lk;erw[eS i (rfl,rfl,rfl) rfl ?_];erw[iG x dx ch q (kz rfl i (λfa wa L b2 m h J D G A=>?_))]
 let fr:∀a,a≠x->B a=none->H a=none:=λa M e=>by
  cases z:H a with
  |none=>rfl
  |some o=>rw[v a o M z]at e;cases e
 let r:fa≠x:=λz=>by simp_all
 let t:wa≠x:=λz=>by simp_all
 erw[k q fa wa L (v.trans b2) u (fr fa r m) (fr wa t h) J (ao n m) (ao n h) (b2 q _ N n) D G A]
def fsX(leaf:Bool)(ch q fa wa:eF):List (Str×V):=fs0 ch q++if leaf then adV else acf fa wa
def Yh(R:Rep)(fx:HC):Sp:=λvs H Q _=>∃(ch:eF) (s:Sh),vs=[.ref ch]/\R H ch s/\∀(x a q fa wa:eF) (H':Hp),aH H H'->H x=none->H q=none->x≠q->(¬s.kind<3->H fa=none/\H wa=none/\fa≠wa/\q≠fa/\q≠wa/\x≠fa/\x≠wa/\H' fa=some (.lst [])/\H' wa=some (.lst []))->H' q=some (.lst [])→
 H' x=some (.ins (if s.kind<3 then fx.cL else fx.cM) a (fsX (decide (s.kind<3)) ch q fa wa))->Q (.ref x) H'
def abg{R:Rep}{O:Nat->eF->Prop}(Y:ShI P w K mg eC R O)(B:CS K fx.cL)(g:wr true 2 "LeafStanding" fx.cL (Pm K) [])(c:wr true 2 "MinderStanding" fx.cM (Pt K fx.cM) [])
  (F:wv "standing_of" sV):zn 4 Kt (Yh R fx):=by
 let i:∀C s r,Dt (xT R) (λC=>∃j,O j C) C s r->wT (gf P w) true 3 "leaf" C s r:=by
  rintro C s r ⟨⟨j,z⟩,rfl,rfl⟩;erw[Y.I.leaf z]
 rcases JA,(af (au (pR (bx (kU (pv 0) i)) (vy g (hr.mono (by omega)) ⋯ cI {pv 0}) (vy c (hr.mono (by omega)) ⋯ cI {pv 0})))) with⟨ch,sp,rfl,S,k⟩;let(Cc,dc,fc,W,c2,c3,c4,c5,c6,c7):=Y.I.inst S;lk;erw[eS W ((_,c2),rfl,rfl) c4 ?_];erw[iG ch dc fc sp (ll rfl S W (λA G=>?_))]
 let fr:∀a,A a=none->H a=none:=λa e=>by
  cases z:H a with
  |none=>rfl
  |some o=>rw[G _ _ z]at e;cases e
 erw[(_,rfl,?_)];erw[bR (λe=>?_) (λe=>?_)]
 .let e:=iB e;rw[fR e,gy e]at k;lk;intro x m y v n3;erw[iG x m fx.cL ch (ll rfl ae B (λq L b2 n D J=>(rfl,?_)))];let T:q≠x:=λz=>by rw[z,ae]at n;cases n
  let N:A q=none:=by
   rw[ag T]at n;by_cases z:q=m
   .rwa[z]
   .rw[ag z]at n;erw[n]
  erw[k x m q q q L (λb o M=>?_) (fr x y) (fr q N) (Ne.symm T) (λz=>absurd e z) D J];let h:=G _ _ M;let t:=ao h y;erw[b2 b o t (by rwa[ag t,ag (ao h v)])]
 .let e:=λz=>e (gy z);rw[fC e,iR e]at k;lk;intro x m y v n3;refine mI x m ch (kz rfl ae (λq fa wa L b2 n Z U d1 d2 d3 D f2 w2 J=>(rfl,?_)))
  let nx:∀a,(upd (upd A m (.own x)) x (.ins fx.cM m [])) a=none->a≠x/\A a=none:=λa u=>by
   let X:a≠x:=λz=>by rw[z,ae]at u;cases u
   erw[(X,?_)];rw[ag X]at u;by_cases z:a=m
   .rwa[z]
   .rw[ag z]at u;erw[u]
  erw[k x m q fa wa L (λb o M=>?_) (fr x y) (fr q (nx q n).2) (Ne.symm (nx q n).1) (λ_=>(fr fa (nx fa Z).2,fr wa (nx wa U).2,d1,d2,d3,Ne.symm (nx fa Z).1,Ne.symm (nx wa U).1,f2,w2)) D J];let h:=G _ _ M;let t:=ao h y;erw[b2 b o t (by rwa[ag t,ag (ao h v)])]
theorem PY(f:Str)(v:V):∀fs:List (Str×V),(lC f v fs).length<=fs.length+1
 |[]=>gx _
 |(g,x)::r=>by
  unfold lC
  split
  .exact LM _
  .exact al0 (PY f v r)
def XG(K:gI)(h:eF):Sp:=λvs H Q _=>∃(a xs q i d2 c ch:eF) (g e:List (Str×V)) (ys:List V),vs=[.ref a,.ref xs]/\H a=some (.ins h i g)/\g.lookup ("minded":Str)=some (.ref q)/\H q=some (.lst ys)/\ys.length<1000/\H xs=some (.ins c d2 e)/\e.length<900/\a≠xs/\CS K c∧
 Q .non (upd (upd H xs (.ins c d2 (lC "place" (.int (ys.length:Int)) (lC "minder" (.ref a) e)))) q (.lst (ys++[.ref xs])))
def acy{e:eF}(T:Txt mg)(a:CS K e)(F:aI K "mind" "MinderStanding.mind" fW dV f fd):zn 1 wX (XG K e):=by
 rcases uZ,(aa (aJ (pv 1) (pv 0) rfl)
   (aa (aJ (pv 1) (a9 aU ⋯ T.fH cW {av (pv 0) rfl}) rfl)
   (af (aE (gg xZ Aq B6 cX (av (pv 0) rfl) {pv 1}))))) with⟨xm,xs,q,d1,d2,C2,ch,f1,f2,ys,rfl,h1,hq,h2,hy,h3,hl,nx,hc2,k⟩
 let c:q≠xs:=λz=>by simp_all
 let pl:(lC "minder" (.ref xm) f2).length<1000:=by
  let:=PY "minder" (.ref xm) f2
  lia
 lk;erw[iG xs _ _ _ (pE rfl h3 hc2.cl hc2.Od () ?_),bA (by rwa[ag nx]) a.cl a.vH hq ?_,jl q _ (kz rfl (.inl (fT.of (by rwa[ag c]))) ?_),iG xs _ _ _ (pE rfl ae hc2.cl hc2.place pl ?_)];rw[bp];lk;erw[oi xm _ _ _ _ (kR rfl (by rwa[ag nx]) a.cl a.vH hq (.inl (rfl,_,fT.of (by rwa[ag c]))) ?_)];lk;exact(q,_,_,rfl,rfl,by rwa[ag c],aM (),k)
structure Ad where
 nd:Nat->eF
 dn:Nat->eF
 mi:Nat->eF
 fa:Nat->eF
 wa:Nat->eF
inductive Lc
 |nd (i:Nat)
 |mi (i:Nat)
 |fa (i:Nat)
 |wa (i:Nat)
def Lc.at(A:Ad):Lc->eF
 |.nd i=>A.nd i
 |.mi i=>A.mi i
 |.fa i=>A.fa i
 |.wa i=>A.wa i
def Lc.ok(T:Re)(t:Nat):Lc->Prop
 |.nd i=>i<t
 |.mi i=>i<t
 |.fa i=>i<t/\f7 T i=false
 |.wa i=>i<t/\f7 T i=false
def u9(T:Re)(A:Ad)(i:Nat):V:=match par T i with
 |none=>.non
 |some m=>.ref (A.nd m)
def Jp(T:Re)(A:Ad)(ch:Nat->eF)(i:Nat):List (Str×V):=([("child",.ref (ch i)),("state",.str "off"),("asked",.bl false),("minder",u9 T A i),("place",.int ((gm T i:Nat):Int)),("minded",.ref (A.mi i))]:List (Str×V))++(if f7 T i then adV else acf (A.fa i) (A.wa i):List (Str×V))
def adi(fx:HC)(T:Re)(ch:Nat->eF)(A:Ad)(t:Nat):Lc->HO
 |.nd i=>.ins (bI fx T i) (A.dn i) (Jp T A ch i)
 |.mi i=>.lst (((hD t).filter λj=>decide (par T j=some i)).map λj=>V.ref (A.nd j))
 |.fa _=>.lst []
 |.wa _=>.lst []
structure Made(fx:HC)(T:Re)(ch:Nat->eF)(H0:Hp)(sa:eF)(A:Ad)(t:Nat)(H:Hp):Prop where
 same:aH H0 H
 sl:H sa=some (.lst ((hD t).map λi=>V.ref (A.nd i)))
 s0:H0 sa=none
 cell:∀l:Lc,l.ok T t->H (l.at A)=some (adi fx T ch A t l)
 new:∀l:Lc,l.ok T t->H0 (l.at A)=none
 inj:∀l l':Lc,l.ok T t->l'.ok T t->l.at A=l'.at A->l=l'
 sn:∀l:Lc,l.ok T t->l.at A≠sa
def Ad.put(A:Ad)(t:Nat)(x a q fa wa:eF):Ad:=(fD A.nd t x,fD A.dn t a,fD A.mi t q,fD A.fa t fa,fD A.wa t wa)
theorem Lc.Bs{A:Ad}{T:Re}{t:Nat}{x a q fa wa:eF}:∀{l:Lc},l.ok T t->l.at (A.put t x a q fa wa)=l.at A
 |.nd i,h=>eV x (me h)
 |.mi i,h=>eV q (me h)
 |.fa i,h=>eV fa (me h.1)
 |.wa i,h=>eV wa (me h.1)
theorem Lc.split{T:Re}{t:Nat}:∀{l:Lc},l.ok T (t+1)->l.ok T t\/l=.nd t\/l=.mi t\/(l=.fa t/\f7 T t=false)\/(l=.wa t/\f7 T t=false)
 |.nd i,h=>by
  let h:i<t+1:=h;by_cases e:i=t
  .exact .inr (.inl (by rw[e]))
  .exact .inl (show i<t by lia)
 |.mi i,h=>by
  let h:i<t+1:=h;by_cases e:i=t
  .exact .inr (.inr (.inl (by rw[e])))
  .exact .inl (show i<t by lia)
 |.fa i,h=>by
  let h:i<t+1/\f7 T i=false:=h;by_cases e:i=t
  .exact .inr (.inr (.inr (.inl (by rw[e],by rw[<- e];erw[h.2]))))
  .exact .inl (by lia,h.2)
 |.wa i,h=>by
  let h:i<t+1/\f7 T i=false:=h;by_cases e:i=t
  .exact .inr (.inr (.inr (.inr (by rw[e],by rw[<- e];erw[h.2]))))
  .exact .inl (by lia,h.2)
def Made.next{T:Re}{ch:Nat->eF}{N H B:Hp}{L:eF}{A:Ad}{t:Nat}{x a q fa wa:eF}(h:Made fx T ch N L A t H)(tok:∀{j m:Nat},j<=t->par T j=some m->m<j)
  (nx:H x=none) (nq:H q=none) (u:f7 T t=false->H fa=none/\H wa=none/\fa≠wa/\q≠fa/\q≠wa/\x≠fa/\x≠wa) (X:x≠q)
  (keep:∀b o,b≠L->(∀m,par T t=some m->b≠A.mi m)->H b=some o->B b=some o)
  (O:B L=some (.lst (((hD t).map λi=>V.ref (A.nd i))++[.ref x]))) (S:∀m,par T t=some m->B (A.mi m)=some (.lst ((((hD t).filter λj=>decide (par T j=some m)).map λj=>V.ref (A.nd j))++[.ref x])))
  (Z:B x=some (.ins (bI fx T t) a (Jp T (A.put t x a q fa wa) ch t))) (hq:B q=some (.lst [])) (W:f7 T t=false->B fa=some (.lst [])/\B wa=some (.lst [])):Made fx T ch N L (A.put t x a q fa wa) (t+1) B:=by
 let I:∀l:Lc,l.ok T t->H (l.at A)≠none:=λl s z=>by rw[h.cell l s]at z;cases z
 let G:∀i,i<t->(A.put t x a q fa wa).nd i=A.nd i:=λi D=>eV x (me D);let J:(A.put t x a q fa wa).nd t=x:=bS _ _ _;let rng:∀l:List Nat,(∀j∈l,j<t)->l.map (λj=>V.ref ((A.put t x a q fa wa).nd j))=l.map λj=>V.ref (A.nd j):=λl s=>aj3 λj v=>by rw[G j (s j v)]
 let U:∀j i,j∈((hD t).filter λj=>decide (par T j=some i))->j<t:=λj i v=>qG.mp (mJ.mp v).1
 let C:∀b,H b=none->N b=none:=λb e=>by
  cases z:N b with
  |none=>rfl
  |some o=>rw[h.same _ _ z]at e;cases e
 let c:(Lc.nd t).at (A.put t x a q fa wa)=x:=bS _ _ _;let g:(Lc.mi t).at (A.put t x a q fa wa)=q:=bS _ _ _;let r:(Lc.fa t).at (A.put t x a q fa wa)=fa:=bS _ _ _;let n:(Lc.wa t).at (A.put t x a q fa wa)=wa:=bS _ _ _;let Q:H L≠none:=λz=>by rw[h.sl]at z;cases z
 let fresh:∀l:Lc,l.ok T (t+1)->¬l.ok T t->H (l.at (A.put t x a q fa wa))=none:=λl s Y=>by
  rcases Lc.split s with z|rfl|rfl|⟨rfl,z⟩|⟨rfl,z⟩
  .exact absurd z Y
  .rwa[c]
  .rwa[g]
  .rw[r];exact(u z).1
  .rw[n];exact(u z).2.1
 erw[(λb o e=>?_,?_,h.s0,λl s=>?_,λl s=>?_,λl l' s M e=>?_,λl s=>?_)]
 .refine keep b o (ao e h.s0) (λm F=>?_) (h.same _ _ e);erw[ao e (h.new (.mi m) (tok (gx _) F))]
 .rw[O,F1,kr,rng _ (λj v=>qG.mp v),ant,J]
 .rcases Lc.split s with z|rfl|rfl|⟨rfl,z⟩|⟨rfl,z⟩
  .rw[Lc.Bs z];let hs:=h.sn l z;by_cases R:∃m,par T t=some m/\l=.mi m
   .let(m,F,rfl):=R;show B (A.mi m)=some (.lst (((hD (t+1)).filter λj=>decide (par T j=some m)).map λj=>V.ref ((A.put t x a q fa wa).nd j)));rw[S m F,F1,su,nS,fR (gy F),GZ,kr,rng _ (λj v=>U j m v),ant,J]
   .let k:=keep _ _ hs (λm F y=>R (m,F,h.inj l (.mi m) z (tok (gx _) F) y)) (h.cell l z);rw[k]
    congr 1
    cases l with
    |nd i=>
     let D:=z;show HO.ins _ (A.dn i) (Jp T A ch i)=HO.ins _ ((A.put t x a q fa wa).dn i) (Jp T (A.put t x a q fa wa) ch i);let e1:(A.put t x a q fa wa).dn i=A.dn i:=eV a (me D);let e2:(A.put t x a q fa wa).mi i=A.mi i:=eV q (me D);let e3:(A.put t x a q fa wa).fa i=A.fa i:=eV fa (me D);let e4:(A.put t x a q fa wa).wa i=A.wa i:=eV wa (me D)
     let e5:u9 T (A.put t x a q fa wa) i=u9 T A i:=by
      unfold u9;cases hp:par T i with
      |none=>rfl
      |some m=>
       show V.ref _=V.ref _;rw[G m (KX (tok (vC D) hp) D)]
     unfold Jp;simp_all
    |mi i=>
     show HO.lst _=HO.lst _;rw[F1,su,nS,fC (λy=>R (i,iB y,rfl)),GZ,ov,rng _ (λj v=>U j i v)]
    |fa i=>rfl
    |wa i=>rfl
  .rw[c,Z];show some (HO.ins _ _ _)=some (HO.ins _ ((A.put t x a q fa wa).dn t) _);rw[show (A.put t x a q fa wa).dn t=a from bS _ _ _]
  .rw[g,hq];show some (HO.lst [])=some (HO.lst _)
   let:((hD (t+1)).filter λj=>decide (par T j=some t))=[]:=CN.mpr λj v y=>by
    let v:=qG.mp v;let:=tok () (iB y)
    lia
   rw[this]
   rfl
  .rw[r,(W z).1]
   rfl
  .rw[n,(W z).2]
   rfl
 .by_cases z:l.ok T t
  .rw[Lc.Bs z];erw[h.new l z]
  .exact C _ (fresh l s z)
 .by_cases z:l.ok T t
  .by_cases z':l'.ok T t
   .rw[Lc.Bs z,Lc.Bs z']at e;erw[h.inj l l' z z' e]
   .let f:=fresh l' M z';rw[<- e,Lc.Bs z]at f;erw[absurd f (I l z)]
  .by_cases z':l'.ok T t
   .let f:=fresh l s z;rw[e,Lc.Bs z']at f;erw[absurd f (I l' z')]
   .rcases Lc.split s with y|rfl|rfl|⟨rfl,y⟩|⟨rfl,y⟩<;>rcases Lc.split M with E|rfl|rfl|⟨rfl,E⟩|⟨rfl,E⟩<;>first|rfl|exact absurd y z|exact absurd E z'|skip
    .rw[c,g]at e;erw[absurd e X]
    .rw[c,r]at e;erw[absurd e (u E).2.2.2.2.2.1]
    .rw[c,n]at e;erw[absurd e (u E).2.2.2.2.2.2]
    .simp_all
    .rw[g,r]at e;erw[absurd e (u E).2.2.2.1]
    .rw[g,n]at e;erw[absurd e (u E).2.2.2.2.1]
    .rw[c,r]at e;erw[absurd e.symm (u y).2.2.2.2.2.1]
    .rw[g,r]at e;erw[absurd e.symm (u y).2.2.2.1]
    .rw[r,n]at e;erw[absurd e (u y).2.2.1]
    .rw[c,n]at e;erw[absurd e.symm (u y).2.2.2.2.2.2]
    .rw[g,n]at e;erw[absurd e.symm (u y).2.2.2.2.1]
    .rw[r,n]at e;erw[absurd e.symm (u y).2.2.1]
 .by_cases z:l.ok T t
  .rw[Lc.Bs z];erw[h.sn l z]
  .intro y;let f:=fresh l s z;rw[y]at f;erw[Q f]
theorem Made.mono{T:Re}{ch:Nat->eF}{a H H':Hp}{c:eF}{A:Ad}{t:Nat}(h:Made fx T ch a c A t H)(e:aH H H'):Made fx T ch a c A t H':=
 (λb o z=>e _ _ (h.same _ _ z),e _ _ h.sl,h.s0,λl g=>e _ _ (h.cell l g),h.new,h.inj,h.sn)
def V7{T:Re}{i m:Nat}(h:par T i=some m):bP T i=(m:Int):=by
 unfold par at h
 split at h
 .cases h
 .lia
def TV(g:eF)(p:Pl)(fx:HC):Sp:=λvs H Q _=>∃(t:eF) (T:Re) (c b a d:eF) (as:List eF),vs=[.ref t]/\zO g p H t T c b a d as/\T.length<=64/\(∀{j m:Nat},j<T.length->par T j=some m->m<j/\f7 T m=false)/\(∀j,0<j->j<T.length->∃m,par T j=some m)∧
 ∀(e:eF) (A:Ad) (H':Hp),Made fx T (λi=>as.getD i 0) H e A T.length H'->Q (.ref e) H'
def Xj{cT:eF}(T:Txt mg)(hc:CT K cT)(ad:CS K fx.cL)(ak:CS K fx.cM)(sg:wE true 4 "standing_of" (Yh p.rep fx) [])(hM:xz 1 "mind" (XG K) λC=>C=fx.cM)
  (F:wv "standings_of" qr):zn 5 acV (TV cT p fx):=by
 let J:=hM.d
 rcases dZ,(aa (bH (i:=1) dZ.nd (aP bQ))
   (aa (lM yu rfl (acn ⋯ T.FG {av (pv 0) rfl}) (RS rfl (mh (c9 (i:=2) dZ.nd rfl (by k_ne)) (mh (c9 (i:=3) dZ.nd rfl (by k_ne)) MC))) (aa (bH (i:=4) dZ.nd (cn sg {pv 3}))
   (aa (aO (ix LH (pv 2) ai) (aa (bH (i:=5) dZ.nd (ig aB (pv 1) (ig aB (av (pv 0) rfl) (pv 2))))
   (af (aE (lS (pv 5) J {pv 4})))) ay)
   (af (aE (gg xZ Aq B6 cX (pv 1) {pv 4}))))))
   (af (au (pv 1))))) with⟨tr,U,c,b,a,d,as,rfl,hT,h64,tok,top,k⟩
 let(dx,am):=hT.ob;erw[(l8 ∅,λu X=>?_)];let s1:=aq (o:= .lst []) X;let L:(upd H u (.lst [])) u=some (.lst []):=ae;lk;erw[bA (s1 _ _ am) hc.cl hc.n1 rfl ?_,((_,fT.of (s1 _ _ hT.ch)),?_)];generalize upd H u (.lst [])=H1 at s1 L
 refine p9 (n:=U.length) (λi σ H'=>∃(A:Ad) (v2 v3 v4 v5:Option V),Made fx U (λi=>as.getD i 0) H u A i H'/\σ=[some (.ref tr),some (.ref u),v2,v3,v4,v5])
  ((λ_=>0,λ_=>0,λ_=>0,λ_=>0,λ_=>0),none,none,none,none,(s1,L,X,λl r=>?_,λl r=>?_,λl l' r=>?_,λl r=>?_),rfl) ?_ ?_ ?_
 .cases l<;>first|exact absurd r (ze _)|erw[absurd r.1 (ze _)]
 .cases l<;>first|exact absurd r (ze _)|erw[absurd r.1 (ze _)]
 .cases l<;>first|exact absurd r (ze _)|erw[absurd r.1 (ze _)]
 .cases l<;>first|exact absurd r (ze _)|erw[absurd r.1 (ze _)]
 .rintro i σ H' hi ⟨A,v2,v3,v4,v5,M,_⟩;let D:i<as.length:=by rwa[hT.ln]
  exact(_,V.ref as[i],fT.of (M.same _ _ hT.ch),by rw[i6,hY D];rfl)
 .rintro i σ H' v H3 hi ⟨A,v2,v3,v4,v5,M,rfl⟩ ⟨q3,y,hq3,rfl,hy,rfl⟩;let D:i<as.length:=by rwa[hT.ln]
  let hy:=hy _ (fT.of (M.same _ _ hT.ch));rw[i6,hY D]at hy;obtain rfl:V.ref as[i]=y:=iJ hy;let S:as.getD i 0=as[i]:=by rw[ot,hY D];rfl
  let s3:=aq (o:= .tup [.int ((0+i:Nat)),V.ref as[i]]) hq3;erw[jl q3 _ (ll rfl (jx.of ae) rfl ?_)];let B:=M.mono s3;let Ta:=hT.same B.same;generalize upd H' q3 (.tup [.int ((0+i:Nat)),V.ref as[i]])=Ha at s3 B Ta;let hR:=Ta.rp i _ (hY D);lk;erw[jl (as[i]) (sh U i) (kz rfl hR (λx G q fa wa H4 s4 nx nq xq nf W R=>?_))];let N:=B.mono s4;let T4:=Ta.same s4;let t:∀b,Ha b=none->b≠u:=λb e z=>by rw[z,B.sl]at e;cases e
  let ap:(if (sh U i).kind<3 then fx.cL else fx.cM)=bI fx U i:=by
   unfold bI f7;simp
  rw[ap]at R;let g:f7 U i=false->Ha fa=none/\Ha wa=none/\fa≠wa/\q≠fa/\q≠wa/\x≠fa/\x≠wa/\H4 fa=some (.lst [])/\H4 wa=some (.lst []):=λz=>nf (wu z);let lr:((hD i).map λj=>V.ref (A.nd j)).length<sizeLine:=by rw[gQ,mK];erw[aM ()]
  let xs:=t x nx;let qs:=t q nq;by_cases i0:i=0
  .let p0:par U i=none:=by rw[i0];rfl
   lk;erw[bR (λe=>?_) (λe=>?_)]
   .lia
   lk;erw[(.inl (rfl,_,fT.of N.sl),?_),mI u _ _ (gT rfl rfl N.sl lr ?_)];erw[(A.put i x G q fa wa,_,_,_,_,B.next (λhj h=>(tok (uk hj hi) h).1) nx nq (λz=>((g z).1,(g z).2.1,(g z).2.2.1,(g z).2.2.2.1,(g z).2.2.2.2.1,(g z).2.2.2.2.2.1,(g z).2.2.2.2.2.2.1)) xq (λb o hb _ e=>by rw[ag hb];exact s4 _ _ e) ae (λm I=>by rw[p0]at I;cases I) ?_ (by rwa[ag qs]) (λz=>?_),rfl)]
   .rw[ag xs,R];unfold fsX Jp u9;rw[p0];dsimp only;rw[S,show(A.put i x G q fa wa).mi i=q from bS _ _ _,show(A.put i x G q fa wa).fa i=fa from bS _ _ _,show(A.put i x G q fa wa).wa i=wa from bS _ _ _,show gm U i=0 by rw[i0];rfl]
    rfl
   .let(z1,z2,_,_,_,_,_,z3,z4):=g z;exact(by rwa[ag (t fa z1)],by rwa[ag (t wa z2)])
  .let(m,I):=top i () hi;let(mi,r):=tok hi I;let(dt,Z):=T4.ob;let nm:=N.cell (.nd m) mi;let qm:=N.cell (.mi m) mi;let an:=ao (B.cell (.nd m) mi) nx;let al:A.mi m≠x:=ao (B.cell (.mi m) mi) nx;let ax:A.mi m≠q:=ao (B.cell (.mi m) mi) nq;let O:A.mi m≠u:=B.sn (.mi m) mi
   let yl:(((hD i).filter λj=>decide (par U j=some m)).map λj=>V.ref (A.nd j)).length=gm U i:=by
    unfold gm;rw[gQ,I]
   lk;erw[bR (λe=>?_) (λe=>?_)]
   .lk;erw[bA Z hc.cl hc.n3 rfl ?_];lk;refine iG a _ _ (V.int m) (gT rfl rfl (fT.of T4.ab) ?_ ?_)
    .rw[show ((0+i:Nat))=((i:Nat)) by lia];erw[cb ?_];unfold lI;rw[i6,Jb hi];show some (if i=0 then V.non else V.int (bP U i))=_;rw[fC i0,V7 I]
    erw[iG u _ _ (V.ref (A.nd m)) (gT rfl rfl (fT.of N.sl) (cb (by rw[i6,Jb mi];rfl)) ?_),j0 (A.nd m) _ _ _ _ ([]) (gT rfl nm (fQ r,rfl,rfl) ?_ ?_)]
    .unfold Jp;rw[r]
     rfl
    erw[ju rfl (aaP (A.nd m) x (A.mi m) _ G (bI fx U i) 0 _ _ _ (R6 rfl nm rfl qm (by rw[yl];let:=Ht U hi I;let:=tP U m;lia) R ?_ an (qZ ad ak U i) ?_))]
    .cases decide ((sh U i).kind<3) with
     |true=>show 10<900;decide
     |false=>show 12<900;decide
    rw[yl];lk;erw[(.inl (rfl,_,fT.of (by rw[ag (Ne.symm O),ag (Ne.symm xs)];exact N.sl)),?_),mI u _ _ (gT rfl rfl (by rw[ag (Ne.symm O),ag (Ne.symm xs)];exact N.sl) lr ?_)];erw[(A.put i x G q fa wa,_,_,_,_,B.next (λhj h=>(tok (uk hj hi) h).1) nx nq (λz=>((g z).1,(g z).2.1,(g z).2.2.1,(g z).2.2.2.1,(g z).2.2.2.2.1,(g z).2.2.2.2.2.1,(g z).2.2.2.2.2.2.1)) xq (λb o hb ac e=>?_) ae (λm' Y=>?_) ?_ ?_ (λz=>?_),rfl)]
    .rw[ag hb,ag (ac m I),ag (ao e nx)];erw[s4 _ _ e]
    .rw[I]at Y;cases Y;rw[ag O];erw[ae]
    .rw[ag xs,ag (Ne.symm al),ae];unfold fsX Jp u9;rw[I];dsimp only;rw[S,show(A.put i x G q fa wa).mi i=q from bS _ _ _,show(A.put i x G q fa wa).fa i=fa from bS _ _ _,show(A.put i x G q fa wa).wa i=wa from bS _ _ _];rw[show (A.put i x G q fa wa).nd m=A.nd m from eV x (me mi)];rfl
    .rwa[ag qs,ag (Ne.symm ax),ag (Ne.symm xq)]
    .let(z1,z2,_,_,_,z5,z6,z3,z4):=g z;let y1:fa≠A.mi m:=Ne.symm (ao (B.cell (.mi m) mi) z1);let y2:wa≠A.mi m:=Ne.symm (ao (B.cell (.mi m) mi) z2);exact(by rwa[ag (t fa z1),ag y1,ag (Ne.symm z5)],by rwa[ag (t wa z2),ag y2,ag (Ne.symm z6)])
   .exact absurd (gy (show(0:Int)<((0+i:Nat)) by lia)) e
 .rintro σ H' ⟨A,v2,v3,v4,v5,M,rfl⟩;erw[((_,fT.of (M.same _ _ hT.ch),by rw[gQ,hT.ln];exact gx _),?_),k u A H' M]
def S0:HS:=(0,[],[],λ_=>ti)
def Made.rp{Z:eF}{T:Re}{u c b a d:eF}{as:List eF}{N H:Hp}{x E en qu B:eF}{A:Ad}(ok:kY T)(g:zO Z p N u T c b a d as)(M:Made fx T (λi=>as.getD i 0) N B A T.length H)(Q:H x=some (.ins fx.cH E (CU (x,E,en,qu,B,u,A.nd,A.dn,A.mi,λi=>as.getD i 0) S0)))(D:H en=some (.lst []))(C:H qu=some (.lst []))(eq:en≠qu)
  (R:∀l:Lc,l.ok T T.length->l.at A≠x/\l.at A≠en/\l.at A≠qu) (ns:B≠x/\B≠en/\B≠qu) (nF:∀e,(e=u\/e=c\/e=b\/e=a\/e=d\/e∈as)->e≠x/\e≠en/\e≠qu):
  Rp p.rep (k8 Z p) fx T (x,E,en,qu,B,u,A.nd,A.dn,A.mi,λi=>as.getD i 0) (λe=>e=u\/e=c\/e=b\/e=a\/e=d\/e∈as) (A.fa,A.wa,[],[]) S0 H:=by
 let L:=g.same M.same
 let J:∀i,i<T.length->as.getD i 0∈as:=λi n=>by
  let:i<as.length:=by rwa[L.ln]
  simp_all
 let q:∀e,(e=u\/e=c\/e=b\/e=a\/e=d\/e∈as)->N e≠none:=by
  rintro e (rfl|rfl|rfl|rfl|rfl|W) z
  .let(dt,h):=g.ob;simp_all
  .rw[g.ch]at z;cases z
  .rw[g.bl]at z;cases z
  .rw[g.ab]at z;cases z
  .rw[g.pl]at z;cases z
  .let(i,n,e2):=akt.mp W;let(_,_,X,h):=g.rp i e (by rw[hY n,e2]);rw[h]at z;cases z
 let cell:∀l,vl T l->H (l.at (x,E,en,qu,B,u,A.nd,A.dn,A.mi,λi=>as.getD i 0) (A.fa,A.wa,[],[]))=some (cont fx T (x,E,en,qu,B,u,A.nd,A.dn,A.mi,λi=>as.getD i 0) (A.fa,A.wa,[],[]) S0 l):=λl v=>by
  cases l with
  |hs=>erw[Q]
  |en=>erw[D]
  |qu=>erw[C]
  |nd i=>
   show H (A.nd i)=_;rw[show H (A.nd i)=_ from M.cell (.nd i) v];rfl
  |fa i=>erw[M.cell (.fa i) v]
  |wa i=>erw[M.cell (.wa i) v]
 let F:∀l,vl T l->(l=.hs\/l=.en\/l=.qu)\/∃l':Lc,l'.ok T T.length/\l'.at A=l.at (x,E,en,qu,B,u,A.nd,A.dn,A.mi,λi=>as.getD i 0) (A.fa,A.wa,[],[])/\((∃i,l=.nd i/\l'=.nd i)\/(∃i,l=.fa i/\l'=.fa i)\/∃i,l=.wa i/\l'=.wa i):=λl v=>by
  cases l with
  |hs=>erw[.inl (.inl rfl)]
  |en=>erw[.inl (.inr (.inl rfl))]
  |qu=>erw[.inl (.inr (.inr rfl))]
  |nd i=>erw[.inr (.nd i,v,rfl,.inl (i,rfl,rfl))]
  |fa i=>erw[.inr (.fa i,v,rfl,.inr (.inl (i,rfl,rfl)))]
  |wa i=>erw[.inr (.wa i,v,rfl,.inr (.inr (i,rfl,rfl)))]
 let xe:x≠en:=λz=>by rw[<- z,Q]at D;cases D
 let xq:x≠qu:=λz=>by rw[<- z,Q]at C;cases C
 erw[(cell,λl l' v v' e=>?_,M.sl,λi n=>?_,λi n=>?_,(c,b,a,d,as,L,rfl),λe W z=>?_,rfl,λk a e h=>(by cases h),rfl,λk a e h=>(by cases h),λl v=>(?_,λi n=>(?_,?_),λz=>?_))]
 .rcases F l v with r|⟨m,s,t,U⟩<;>rcases F l' v' with Y|⟨m',G,I,O⟩
  .rcases r with rfl|rfl|rfl<;>rcases Y with rfl|rfl|rfl<;>first|rfl|exact absurd e xe|exact absurd e.symm xe|exact absurd e xq|exact absurd e.symm xq|exact absurd e eq|erw[absurd e.symm eq]
  .let(n1,n2,n3):=R m' G;rw[I]at n1 n2 n3;rcases r with rfl|rfl|rfl
   .exact absurd e.symm n1
   .exact absurd e.symm n2
   .exact absurd e.symm n3
  .let(n1,n2,n3):=R m s;rw[t]at n1 n2 n3;rcases Y with rfl|rfl|rfl
   .exact absurd e n1
   .exact absurd e n2
   .exact absurd e n3
  .let:=M.inj m m' s G (by rw[t,I,e]);lia
 .exact M.cell (.mi i) n
 .let hi':i<as.length:=by rwa[L.ln]
  let S:as.getD i 0=as[i]:=by rw[ot,hY hi'];rfl
  let(r1,r2,X,r3):=L.rp i _ (hY hi');show ∃o,H (as.getD i 0)=some o/\_;rw[S];erw[(_,r3,λH' h'=>(r1,r2,X,?_))];show H' (as.getD i 0)=_;rw[S];let h':H' (as.getD i 0)=_:=h';rw[S]at h';erw[h']
 .let:=q e W;cases y:N e with
  |none=>erw[this y]
  |some o=>rw[M.same _ _ y]at z;cases z
 .intro z;rcases F l v with r|⟨m,s,t,_⟩
  .rcases r with rfl|rfl|rfl
   .exact ns.1 z.symm
   .exact ns.2.1 z.symm
   .exact ns.2.2 z.symm
  .exact M.sn m s (t.trans z)
 .intro z;rcases F l v with r|⟨m,s,t,U⟩
  .let nm:=R (.mi i) n;rcases r with rfl|rfl|rfl
   .exact nm.1 z.symm
   .exact nm.2.1 z.symm
   .exact nm.2.2 z.symm
  .let:=M.inj m (.mi i) s n (t.trans z);lia
 .intro z;rcases F l v with r|⟨m,s,t,_⟩
  .let nm:=nF (as.getD i 0) (.inr (.inr (.inr (.inr (.inr (J i n))))));rcases r with rfl|rfl|rfl
   .exact nm.1 z.symm
   .exact nm.2.1 z.symm
   .exact nm.2.2 z.symm
  .let:=M.new m s;rw[t,z]at this;erw[q _ (.inr (.inr (.inr (.inr (.inr (J i n)))))) this]
 .rcases F l v with r|⟨m,s,t,_⟩
  .let nm:=nF _ z;rcases r with rfl|rfl|rfl
   .exact nm.1 rfl
   .exact nm.2.1 rfl
   .exact nm.2.2 rfl
  .let:=M.new m s;rw[t]at this;erw[q _ z this]
def Made.rebase{T:Re}{ch:Nat->eF}{c g j:Hp}{i x:eF}{A:Ad}{t:Nat}{o:HO}(M:Made fx T ch g i A t j)(h:∀b u,c b=some u->g b=some u/\b≠x)(m:g x≠none):Made fx T ch c i A t (upd j x o):=by
 let fr:∀b,g b=none->c b=none/\b≠x:=λb e=>by
  erw[(?_,λz=>m (by rwa[<- z]))];cases z:c b with
  |none=>rfl
  |some u=>rw[(h b u z).1]at e;cases e
 erw[(λb u e=>?_,?_,(fr _ M.s0).1,λl a=>?_,λl a=>(fr _ (M.new l a)).1,M.inj,M.sn)]
 .rw[ag (h b u e).2];erw[M.same _ _ (h b u e).1]
 .rw[ag (fr _ M.s0).2];erw[M.sl]
 .rw[ag (fr _ (M.new l a)).2];erw[M.cell l a]
structure aff(cT:eF)(p:Pl)(fx:HC)(T:Re)(H0:Hp)(L:Lo)(FT:FS)(D:Dy)(H':Hp):Prop where
 same:aH H0 H'
 rp:Rp p.rep (k8 cT p) fx T L FT D (new T) H'
 lb:∀l,vl T l->H0 (l.at L D)=none
 sa:H0 L.sa=none
 mi:∀i,i<T.length->H0 (L.mi i)=none
 ch:∀i,i<T.length->FT (L.ch i)
 bk:∀a,a∈D.bk->H0 a=none
def U5(g:eF)(p:Pl)(fx:HC):Sp:=λvs H Q _=>∃(x c e:eF) (a:Hp) (T:Re) (h:FS),vs=[.ref x,.ref e]/\a x=none/\a c=none/\c≠x/\H=upd (upd a c (.own x)) x (.ins fx.cH c [])/\k8 g p a e T h/\kY T/\(new T).book.length<sizeLine∧
 ∀(L:Lo) (D:Dy) (H':Hp),L.x=x->aff g p fx T a L h D H'->Q .non H'
def Y2{cT:eF}(T:Txt mg)(m:CH K fx.cH){n:Nat}(hn:5<=n)(pY:wE true 5 "standings_of" (TV cT p fx) [])(hB:xz n "begin" (mG p.rep (k8 cT p) fx (λT i _=>b6 T 10 i) (λT i S=>bz T 10 i S)) λC=>C=fx.cH)
  (F:aI K "__init__" "House.__init__" lL dV f fd):wS (n+1) f fd Ff (U5 cT p fx):=by
 let r:=hB.d
 rcases CJ,(aa (aJ (pv 0) (pv 1) rfl)
   (aa (aJ (pv 0) ai rfl)
   (aa (aJ (pv 0) (aP bQ) rfl)
   (aa (aJ (pv 0) (aP bQ) rfl)
   (aa (aJ (pv 0) (cn pY {pv 1}) rfl)
   (af (aE (lS (pv 0) r {ig aB (av (pv 0) rfl) ai})))))))) with⟨x,dx,tr,H0,U,FT,rfl,h0,h1,h2,eH,⟨c,b,a,d,as,hT,rfl⟩,ok,hlen,k⟩
 let hx:H x=some (.ins fx.cH dx []):=by rw[eH];erw[ae]
 let X:∀b u,H0 b=some u->H b=some u/\b≠x:=λb u e=>(by rwa[eH,ag (ao e h0),ag (ao e h1)],ao e h0)
 let f0:∀b,b≠x->H b=none->H0 b=none:=λb hb e=>by
  rw[eH,ag hb]at e;by_cases z:b=dx
  .rwa[z]
  .rw[ag z]at e;erw[e]
 lk;erw[cw hx m.cl m.tree (by simp) ?_,cw ae m.cl m.Jk (by show 1<1000;decide) ?_];rw[bp];let I:(upd H x (.ins fx.cH dx [("tree",.ref tr),("clock",.int 0)])) x=some (.ins fx.cH dx [("tree",.ref tr),("clock",.int 0)]):=ae;let s1:∀b u,H0 b=some u->(upd H x (.ins fx.cH dx [("tree",.ref tr),("clock",.int 0)])) b=some u:=λb u e=>by rw[ag (X b u e).2];exact(X b u e).1
 let f1:∀b,b≠x->(upd H x (.ins fx.cH dx [("tree",.ref tr),("clock",.int 0)])) b=none->H0 b=none:=λb hb e=>by rw[ag hb]at e;erw[f0 b hb e]
 change wM _ _ _ _ (upd H x (.ins fx.cH dx [("tree",.ref tr),("clock",.int 0)]))
 generalize upd H x (.ins fx.cH dx [("tree",.ref tr),("clock",.int 0)])=H1 at I s1 f1;erw[(l8 ∅,λen Y=>?_)];let(p1,p2,p3,p4,p5,p6):=zm I Y;erw[ju rfl (cw p6 m.cl m.entries (by show 2<1000;decide) ?_)]
 change wM _ _ _ _ (upd (upd H1 en (.lst [])) x (.ins fx.cH dx [("tree",.ref tr),("clock",.int 0),("entries",.ref en)]))
 generalize upd (upd H1 en (.lst [])) x (.ins fx.cH dx [("tree",.ref tr),("clock",.int 0),("entries",.ref en)])=H2 at p1 p2 p3 p4;erw[(l8 ∅,λqu D=>?_)];let(Z,r2,r3,r4,r5,r6):=zm p1 D;erw[ju rfl (cw r6 m.cl m.ends (by show 3<1000;decide) ?_)]
 change wM _ _ _ _ (upd (upd H2 qu (.lst [])) x (.ins fx.cH dx [("tree",.ref tr),("clock",.int 0),("entries",.ref en),("ends",.ref qu)]))
 generalize upd (upd H2 qu (.lst [])) x (.ins fx.cH dx [("tree",.ref tr),("clock",.int 0),("entries",.ref en),("ends",.ref qu)])=H3 at Z r2 r3 r4;let s3:∀b u,H0 b=some u->H3 b=some u/\b≠x:=λb u e=>(r3 b u (X b u e).2 (p3 b u (X b u e).2 (s1 b u e)),(X b u e).2);let W:=f1 en p5 Y;let L:=f1 qu r5 (p4 qu r5 D).1;let eq:=Ne.symm (p4 qu r5 D).2;let J:=r3 en _ p5 p2;let T3:=hT.same λb u e=>(s3 b u e).1;lk;erw[ml tr U c b a d as (pE rfl T3 ok.n64 ok.bB ok.up (λt A G M=>?_))];let xs:∀e,H3 e=none->e≠x/\e≠en/\e≠qu:=λe z=>(λy=>(by rw[y,Z]at z;cases z),λy=>(by rw[y,J]at z;cases z),λy=>(by rw[y,r2]at z;cases z));let x4:=M.same _ _ Z;lk;erw[cw x4 m.cl m.tO (by show 4<1000;decide) ?_];let B:=M.rebase (o:= .ins fx.cH dx (CU (x,dx,en,qu,t,tr,A.nd,A.dn,A.mi,λi=>as.getD i 0) S0)) s3 (λz=>by rw[Z]at z;cases z);let ac:upd G x (.ins fx.cH dx (lC "standings" (V.ref t) [("tree",V.ref tr),("clock",V.int 0),("entries",V.ref en),("ends",V.ref qu)]))=upd G x (.ins fx.cH dx (CU (x,dx,en,qu,t,tr,A.nd,A.dn,A.mi,λi=>as.getD i 0) S0)):=rfl;rw[ac];let x5:(upd G x (.ins fx.cH dx (CU (x,dx,en,qu,t,tr,A.nd,A.dn,A.mi,λi=>as.getD i 0) S0))) x=some (.ins fx.cH dx (CU (x,dx,en,qu,t,tr,A.nd,A.dn,A.mi,λi=>as.getD i 0) S0)):=ae;let R:(upd G x (.ins fx.cH dx (CU (x,dx,en,qu,t,tr,A.nd,A.dn,A.mi,λi=>as.getD i 0) S0))) en=some (.lst []):=by rw[ag p5];erw[M.same _ _ J]
 let N:(upd G x (.ins fx.cH dx (CU (x,dx,en,qu,t,tr,A.nd,A.dn,A.mi,λi=>as.getD i 0) S0))) qu=some (.lst []):=by rw[ag r5];erw[M.same _ _ r2]
 generalize upd G x (.ins fx.cH dx (CU (x,dx,en,qu,t,tr,A.nd,A.dn,A.mi,λi=>as.getD i 0) S0))=H5 at B x5 R N;let rp:=B.rp ok hT x5 R N eq (λl hl=>xs _ (M.new l hl)) (xs _ M.s0) (λe he=>?_)
 .let sa5:=rp.sa;lk;erw[eS x5 (rfl,rfl,rfl) rfl ?_,bA x5 m.cl m.tO rfl ?_,iG t _ _ (V.ref (A.nd 0)) (gT rfl rfl (fT.of sa5) (cb (by rw[i6,Jb ok.n0];rfl)) ?_)];refine j0 U _ _ _ S0 0 (DK rfl rp rfl ok Wf.zero ok.n0 (dY (ok.deep 0 ok.n0)) hlen (λD' H' g=>?_))
  let al:∀b,H5 b=none->H0 b=none:=λb e=>by
   cases z:H0 b with
   |none=>rfl
   |some u=>rw[B.same _ _ z]at e;cases e
  let l0:∀l,vl U l->H0 (l.at (x,dx,en,qu,t,tr,A.nd,A.dn,A.mi,λi=>as.getD i 0) (A.fa,A.wa,[],[]))=none:=λl v=>by
   cases l with
   |hs=>erw[h0]
   |en=>erw[W]
   |qu=>erw[L]
   |nd i=>erw[B.new (.nd i) v]
   |fa i=>erw[B.new (.fa i) v]
   |wa i=>erw[B.new (.wa i) v]
  erw[k _ D' H' rfl (λb u e=>g.kp b u (λl v z=>?_) (B.same _ _ e),g.rp,λl v=>?_,B.s0,λi O=>B.new (.mi i) O,λi O=>?_,λq hq=>?_)]
  .rw[z,l0 l v]at e;cases e
  .rcases g.fr l v with z|z
   .rw[z];erw[l0 l v]
   .exact al _ z
  .refine .inr (.inr (.inr (.inr (.inr ?_))));let:i<as.length:=by rwa[hT.ln]
   show as.getD i 0∈as;rw[ot,hY this];erw[uy this]
  .rcases g.fb q hq with z|z
   .cases z
   .exact al _ z
 .let hne:H0 e≠none:=by
   rcases he with rfl|rfl|rfl|rfl|rfl|he
   .let(dt,h):=hT.ob;rw[h];simp
   .rw[hT.ch];simp
   .rw[hT.bl];simp
   .rw[hT.ab];simp
   .rw[hT.pl];simp
   .let(i,O,e2):=akt.mp he;let(_,_,dz,h):=hT.rp i e (by rw[hY O,e2]);rw[h];erw[λz=>by cases z]
  exact(λz=>hne (by rwa[z]),λz=>hne (by rwa[z]),λz=>hne (by rwa[z]))
def O7(c:eF)(p:Pl)(fx:HC):Sp:=λvs H Q _=>∃(a:eF) (T:Re) (e:FS),vs=[.ref a]/\k8 c p H a T e/\kY T/\(new T).book.length<sizeLine/\∀(L:Lo) (D:Dy) (H':Hp),aff c p fx T H L e D H'->Q (.ref L.x) H'
def ZP{a:eF}{n:Nat}(r:wr true n "House" fx.cH (U5 a p fx) [])(F:wv "built" M8):wS (n+2) f fd acV (O7 a p fx):=by
 rcases Zd,(af (au (vy r (hr.mono (by omega)) ⋯ cI {pv 0}))) with⟨c,U,i,rfl,m,ok,h,k⟩;lk;intro x o j g t;erw[j0 x o c H U i (DK rfl j g t rfl m ok h (λL D H' e q=>(rfl,?_)))];rw[<- e];erw[k L D H' q]
def abG{o:eF}:jA (k8 o p):=by
 rintro H H' t T r k ⟨c,b,a,d,as,g,rfl⟩;erw[(c,b,a,d,as,(g.ob.imp λs h=>k _ _ (.inl rfl) h,k _ _ (.inr (.inl rfl)) g.ch,g.ln,λi x e=>?_,k _ _ (.inr (.inr (.inl rfl))) g.bl,k _ _ (.inr (.inr (.inr (.inl rfl)))) g.ab,k _ _ (.inr (.inr (.inr (.inr (.inl rfl))))) g.pl,g.n1,g.n2,g.n3),rfl)];let(j,q,m,n):=g.rp i x e;exact(j,q,m,k _ _ (.inr (.inr (.inr (.inr (.inr (JO e)))))) n)
theorem QC{cm:Bool}{k:Nat}{ps:List Str}{sp:Sp}(h:∀vs H Q E,¬sp vs H Q E):wP (gf P w) cm k f fd ps sp:=(λvs H Q E z=>(h vs H Q E z).elim,λ_ _ _ H _ _ vs Q E _ _ _ _ z=>(h vs H Q E z).elim)
theorem Uu{j k:Nat}{m:Str}{sp:eF->Sp}{a:eF->Prop}(h:xz j m sp a)(n:j<=k):xz k m sp a:=λC c=>by
 let(f,fd,ps,ds,i,q,e,g,o):=h C c;exact(f,fd,ps,ds,i,q,e.mono n,g,o)
def aeM{cm:Bool}{j k:Nat}{x:Str}{sp:Sp}{a:List V}(c:wE cm j x sp a)(i:j<=k):wE cm k x sp a:=by
 let(f,fd,ps,ds,h,n,e,g,m):=c;exact(f,fd,ps,ds,h.mono i,n,e,g,m)
end
section
variable{P:iU}{w:iP}{K:gI}{mg:Str->Option fy}{eC:h7}{f:eF}{fd:pG}{dV:fy}{fx:HC}{p:Pl}{R:Rep}{TR:Hr.mq}
def foot(T:Re)(L:Lo)(a:FS)(D:Dy):FS:=λb=>(∃l,vl T l/\b=l.at L D)\/b=L.sa\/(∃i,i<T.length/\(b=L.mi i\/b=L.ch i))\/a b\/b∈D.bk
def HoR{a:Type}(R:Rep)(TR:Hr.mq)(fx:HC)(Pd:a->Re->HS->Prop):HR a:=λH x s F=>∃(T:Re) (L:Lo) (c:FS) (D:Dy) (S:HS),L.x=x/\Rp R TR fx T L c D S H/\kY T/\Wf T S/\S.ends=[]/\(T.map (·.sh.name)).Nodup/\Pd s T S/\F=foot T L c D
section
variable{σ:Type}{Pd:σ->Re->HS->Prop}{H H':Hp}{T:Re}{L:Lo}{FT:FS}{D D':Dy}{S S':HS}
def Z4(h:Rp R TR fx T L FT D S H){b:eF}(a:foot T L FT D b):H b≠none:=by
 rcases a with⟨l,v,rfl⟩|rfl|⟨i,g,rfl|rfl⟩|a|a
 .rw[h.cells l v];simp
 .rw[h.sa];simp
 .rw[h.mi i g];simp
 .let(o,e,_):=h.ch i g;simp_all
 .exact h.own b a
 .let(k,hk,e):=akt.mp a;let c:k<S.book.length:=by rwa[<- h.bkl]
  rw[h.bk k b S.book[k] (by rw[hY hk,e]) (hY c)];simp
def Wr(n:jA TR)(h:Rp R TR fx T L FT D S H)(q:S.ends=[])(k:∀b o,foot T L FT D b->H b=some o->H' b=some o):Rp R TR fx T L FT D S H':=by
 erw[(λl v=>k _ _ (.inl (l,v,rfl)) (h.cells l v),h.inj,k _ _ (.inr (.inl rfl)) h.sa,λi c=>k _ _ (.inr (.inr (.inl (i,c,.inl rfl)))) (h.mi i c),λi c=>?_,n H H' _ _ _ (λb o m e=>k b o (.inr (.inr (.inr (.inl m)))) e) h.tr,λb m=>?_,h.bkl,λj a e e1 e2=>k _ _ (.inr (.inr (.inr (.inr (JO e1))))) (h.bk j a e e1 e2),h.qsl,λj a e e1 e2=>?_,h.nt)]
 .let(o,e,g):=h.ch i c;exact(o,k _ _ (.inr (.inr (.inl (i,c,.inr rfl)))) e,g)
 .cases e:H b with
  |none=>erw[absurd e (h.own b m)]
  |some o=>rw[k b o (.inr (.inr (.inr (.inl m)))) e];simp
 .rw[q]at e2;cases e2
def Wi(g:Goes R TR fx T L FT D H D' S' H'){b:eF}(a:foot T L FT D' b):foot T L FT D b\/H b=none:=by
 rcases a with⟨l,v,rfl⟩|rfl|a|a|a
 .rcases g.fr l v with z|z
  .exact .inl (.inl (l,v,z))
  .exact .inr z
 .exact .inl (.inr (.inl rfl))
 .exact .inl (.inr (.inr (.inl a)))
 .exact .inl (.inr (.inr (.inr (.inl a))))
 .rcases g.fb b a with z|z
  .exact .inl (.inr (.inr (.inr (.inr z))))
  .exact .inr z
def afj(a:jA TR):va (HoR R TR fx Pd) λC=>C=fx.cH:=by
 erw[(?_,?_,?_)]
 .rintro H x s F b ⟨T,L,FT,D,S,rfl,h,ok,wf,he,nd,pd,rfl⟩ hb;erw[Z4 h hb]
 .rintro H H' x s F k ⟨T,L,FT,D,S,rfl,h,ok,wf,he,nd,pd,rfl⟩;exact(T,L,FT,D,S,rfl,Wr a h he k,ok,wf,he,nd,pd,rfl)
 .rintro H x s F ⟨T,L,FT,D,S,rfl,h,ok,wf,he,nd,pd,rfl⟩;exact(_,_,_,h.cells .hs trivial,rfl,rfl,rfl,rfl,rfl,rfl,rfl)
theorem uH{s c:σ}(h:Rp R TR fx T L FT D S H)(ok:kY T)(nd:(T.map (·.sh.name)).Nodup)(g:Goes R TR fx T L FT D H D' S' H')(j:Wf T S')(m:S'.ends=[])(i:Pd c T S'):Moved (HoR R TR fx Pd) H (foot T L FT D) L.x c H' (foot T L FT D'):=
 (λb o a e=>g.kp b o (λl v z=>a (.inl (l,v,z))) e,λb a=>Wi g a,(T,L,FT,D',S',rfl,g.rp,ok,j,m,nd,i,rfl))
def OW(h:Rp R TR fx T L FT D S H){C a:eF}{fs:List (Str×V)}(e:H L.x=some (.ins C a fs)):fx.cH=C:=by
 let:=h.cells .hs trivial;rw[show (Lb.hs).at L D=L.x from rfl,e]at this;exact(HO.ins.inj (iJ this)).1.symm
def Yd(m:xz 1 "rows" (Ny K R TR fx) λC=>C=fx.cH){kk:Nat}(r:1<=kk)(book:σ->List Ent)(a:∀s T S,Pd s T S->S.book=book s):xz kk "rows" (Zw K (HoR R TR fx Pd) book) λC=>C=fx.cH:=by
 intro C n;let(f,fd,ps,ds,c,g,j,u,v):=m C n;erw[(f,fd,ps,ds,c,g,(j.mono r).imp ?_,u,v)];rintro vs H Q E ⟨x,s,F,A,fs,rfl,⟨T,L,FT,D,S,rfl,h,ok,z,B,nd,y,rfl⟩,i,k⟩;erw[oi T L FT D S (ll rfl h (OW h i) (λq H' t o e=>k q H' t o ?_))];rwa[<- a s T S y]
def abk{c:eF}{s:σ}{g:Hp}(n:aff c p fx T g L FT D H)(ok:kY T)(nd:(T.map (·.sh.name)).Nodup)(h:Pd s T (new T)):HoR p.rep (k8 c p) fx Pd H L.x s (foot T L FT D)/\∀b,foot T L FT D b->FT b\/g b=none:=by
 erw[((T,L,FT,D,new T,rfl,n.rp,ok,Wf.new ok,Jg 10 0 _,nd,h,rfl),?_)];rintro b (⟨l,v,rfl⟩|rfl|⟨i,e,rfl|rfl⟩|a|a)
 .exact .inr (n.lb l v)
 .exact .inr n.sa
 .exact .inr (n.mi i e)
 .exact .inl (n.ch i e)
 .exact .inl a
 .exact .inr (n.bk b a)
end
abbrev SG:=Re×HS×Nat
def PdG(s:SG)(T:Re)(S:HS):Prop:=s.1=T/\s.2.1=S/\gD T/\Jv T S/\ip T S+S.book.length<=3*T.length+s.2.2*(T.length*cost T)
def abM(R:HR SG)(C:eF):Sp:=λvs H Q _=>∃(x:eF) (T:Re) (S:HS) (c:Nat) (F:FS) (e:eF) (fs:List (Str×V)),vs=[.ref x]/\R H x (T,S,c) F/\H x=some (.ins C e fs)/\(c+1)*T.length<=2200/\∀S' H' a,(∃f,xr T f S=some S')->Moved R H F x (T,S',c+1) H' a->Q .non H'
def aaM(R:HR SG)(e:eF)(C:eF):Sp:=λvs H Q E=>∃(x:eF) (T:Re) (S:HS) (c:Nat) (F:FS) (g:eF) (fs:List (Str×V)),vs=[.ref x]/\R H x (T,S,c) F/\H x=some (.ins C g fs)/\(c+1)*T.length<=2200∧
 (bK S 0=false->∀S' H' a,(∃f,C3 T f S=some S')->Moved R H F x (T,S',c+1) H' a->Q .non H')/\(bK S 0=true->∀H' a,Moved R H F x (T,S,c) H' a->E (.ref e) none H')
def abW(R:HR SG)(e h:eF)(C:eF):Sp:=λvs H Q E=>∃(x:eF) (T:Re) (S:HS) (c:Nat) (F:FS) (g:eF) (fs:List (Str×V)) (i:Nat),vs=[.ref x,.str (sh T i).name]/\R H x (T,S,c) F/\H x=some (.ins C g fs)/\(c+1)*T.length<=2200/\i<T.length∧
 (f7 T i=false->∀H' a,Moved R H F x (T,S,c) H' a->E (.ref e) none H')/\(f7 T i=true->bK S i=true->∀H' a,Moved R H F x (T,S,c) H' a->E (.ref h) none H')∧
 (f7 T i=true->bK S i=false->∀S' H' a,(∃f,FJ T f i S=some S')->Moved R H F x (T,S',c+1) H' a->Q .non H')
structure aam(P:iU)(w:iP)(K:gI)(mg:Str->Option fy)(eC:h7)(kk:Nat)(R:HR SG)(Cl:eF->Prop)(cL cN:eF):Prop where
 I:va R Cl
 rows:xz kk "rows" (Zw K R λs=>s.2.1.book) Cl
 turn:xz kk "turn" (abM R) Cl
 stop:xz kk "stop" (aaM R cN) Cl
 DQ:xz kk "trip" (abW R cL cN) Cl
def budget{T:Re}{c b:Nat}(h:(c+1)*T.length<=2200)(a:T.length<=64)(e:b<=3*T.length+(c+1)*(T.length*cost T)):b<sizeLine:=by
 let e2:cost T<=1764:=by unfold cost wB;lia
 let e3:=aop h e2;rw[LQ]
 lia
def abO{T:Re}(h:gD T){i:Nat}(a:i<T.length):(sh T i).name.length<=12:=by
 unfold sh;rw[ot,hY a];exact(h.sh _ (uy a)).nm.2.1
def ag7{kk n:Nat}{cL Z:eF}(I:jA TR)(hk:4<=kk)(Y:n<=kk)(m1:xz 1 "rows" (Ny K R TR fx) λC=>C=fx.cH)
  (m4:xz n "turn" (UM R TR fx) λC=>C=fx.cH) (m5:xz n "stop" (Ui R TR fx Z) λC=>C=fx.cH) (m6:xz n "trip" (UP R TR fx cL Z) λC=>C=fx.cH):aam P w K mg eC kk (HoR R TR fx PdG) (λC=>C=fx.cH) cL Z:=by
 refine(afj I,Yd m1 () _ (λs T S h=>by rw[h.2.1]),
  ?_,?_,?_
  )
 .intro C hC;let(f,fd,ps,ds,B,M,O,y,J):=m4 C hC;erw[(f,fd,ps,ds,B,M,(O.mono Y).imp ?_,y,J)];rintro vs H Q E ⟨x,a,S0,c,F,dx,fs,rfl,⟨T,L,u,D,S,rfl,h,ok,q,t,nd,⟨e1,e2,e,j,o⟩,rfl⟩,U,v,k⟩;let e1:a=T:=e1;let e2:S0=S:=e2;subst e1 e2;let(r,S',t1,A,G,N,t5):=aaR e q j t;let m:ip a S'+S'.book.length<=3*a.length+(c+1)*(a.length*cost a):=by lia
  exact(a,L,u,D,S0,S',r,rfl,h,OW h U,ok,q,t1,budget v e.len (),λD' H' g=>k S' H' _ (r,t1) (uH (s:=(a,S0,c)) h ok nd g A N (rfl,rfl,e,G,m)))
 .intro C hC;let(f,fd,ps,ds,B,M,O,y,J):=m5 C hC;erw[(f,fd,ps,ds,B,M,(O.mono Y).imp ?_,y,J)];rintro vs H Q E ⟨x,a,S0,c,F,dx,fs,rfl,⟨T,L,u,D,S,rfl,h,ok,q,t,nd,⟨e1,e2,e,j,o⟩,rfl⟩,U,v,k1,k2⟩;let e1:a=T:=e1;let e2:S0=S:=e2;subst e1 e2;erw[oi a L u D S0 (an8 rfl h (OW h U) ok q t (λz=>k2 z H _ (uH (s:=(a,S0,c)) h ok nd (Goes.refl h) q t (rfl,rfl,e,j,o))) (λz=>?_))];let(r,S',t1,A,G,N,t5):=U4 e q j t z;let m:ip a S'+S'.book.length<=3*a.length+(c+1)*(a.length*cost a):=by lia
  exact(r,S',t1,budget v e.len (),λD' H' g=>k1 z S' H' _ (r,t1) (uH (s:=(a,S0,c)) h ok nd g A N (rfl,rfl,e,G,m)))
 .intro C hC;let(f,fd,ps,ds,B,M,O,y,J):=m6 C hC;erw[(f,fd,ps,ds,B,M,(O.mono Y).imp ?_,y,J)];rintro vs H Q E ⟨x,a,S0,c,F,dx,fs,i,rfl,⟨T,L,u,D,S,rfl,h,ok,q,t,nd,⟨e1,e2,e,j,o⟩,rfl⟩,U,v,hi,k1,k2,k3⟩;let e1:a=T:=e1;let e2:S0=S:=e2;subst e1 e2;let mv:∀H',aH H H'->Moved (HoR R TR fx PdG) H (foot a L u D) L.x (a,S0,c) H' (foot a L u D):=λH' W=>uH (s:=(a,S0,c)) h ok nd (Goes.same I h W) q t (rfl,rfl,e,j,o);erw[j0 a L u D S0 i (R6 rfl h (OW h U) ok q hi (nd,abO e hi) (λz H' W=>k1 z H' _ (mv H' W)) (λz X H' W=>k2 z X H' _ (mv H' W)) (λz X=>?_))];let(r,S',t1,A,G,N,t5):=Uv e q j t hi z X;let cl:cost a<=a.length*cost a:=Nat.le_mul_of_pos_left _ ok.n0;let m:ip a S'+S'.book.length<=3*a.length+(c+1)*(a.length*cost a):=by lia
  exact(r,S',t1,budget v e.len (),λD' H' g=>k3 z X S' H' _ (r,t1) (uH (s:=(a,S0,c)) h ok nd g A N (rfl,rfl,e,G,m)))
def Qy(TR:Hr.mq)(R:HR SG):Sp:=λvs H Q _=>∃(t:eF) (T:Re) (a:FS),vs=[.ref t]/\TR H t T a/\gD T/\∀(x:eF) (H':Hp) (F:FS),aH H H'->(∀b,F b->a b\/H b=none)->R H' x (T,new T,0) F->Q (.ref x) H'
def aen{e:eF}{n kk:Nat}(y:n<=kk)(c:wE true n "built" (O7 e p fx) []):wE true kk "built" (Qy (k8 e p) (HoR p.rep (k8 e p) fx PdG)) []:=by
 let(f,fd,ps,ds,u,A,h,o,z):=c;erw[(f,fd,ps,ds,(u.mono y).imp ?_,A,h,o,z)];rintro vs H Q E ⟨t,T,v,rfl,m,a,k⟩;let ok:=gD.tok a;let(j,g):=Zc a;let q:=a.len;erw[mI t T v (gT rfl m ok (by rw[LQ];lia) (λL D H' n=>?_))];let(i,r):=abk (Pd:=PdG) (s:=(T,new T,0)) n ok a.nd (rfl,rfl,a,j,by rwa[alj]);erw[k L.x H' _ n.same r i]
end
section
variable{P:iU}{w:iP}{K:gI}{mg:Str->Option fy}{eC:h7}{f:eF}{fd:pG}{dV:fy}
structure ExF(K:gI)(cE cL cN:eF):Prop where
 xL:M0 K cL
 xN:M0 K cN
 iL:IsC K cL
 iN:IsC K cN
 LL:DV K (.ref cL) (.ref cL)=some true
 LN:DV K (.ref cL) (.ref cN)=some false
 NL:DV K (.ref cN) (.ref cL)=some false
 NN:DV K (.ref cN) (.ref cN)=some true
 EL:xn K cL (.ref cE)=some true
 EN:xn K cN (.ref cE)=some true
 NM:xn K cN (.ref cN)=some true
def Tj(R:HR SG):Sp:=λvs H Q _=>∃(x:eF) (T:Re) (S:HS) (c:Nat) (F:FS) (i:Nat),vs=[.ref x,.str (sh T i).name]/\R H x (T,S,c) F/\(c+1)*T.length<=2200/\i<T.length∧
 (f7 T i=false->∀H' a,Moved R H F x (T,S,c) H' a->Q (.str "leaf") H')/\(f7 T i=true->bK S i=true->∀H' a,Moved R H F x (T,S,c) H' a->Q (.str "off") H')∧
 (f7 T i=true->bK S i=false->∀S' H' a,(∃f,FJ T f i S=some S')->Moved R H F x (T,S',c+1) H' a->Q (.str "") H')
theorem Moved.same{R:HR SG}{g:eF->Prop}(I:va R g){H H' c:Hp}{F a:FS}{x:eF}{s:SG}(m:Moved R H F x s H' a)(e:aH H' c):Moved R H F x s c a:=(λb o h z=>e _ _ (m.1 b o h z),m.2.1,I.same e m.2.2)
def Zf{kk:Nat}{R:HR SG}{N:eF->Prop}{y m j:eF}(F:wv "_law_tried" OV)(T:Txt mg)(G:aam P w K mg eC kk R N m j)(X:ExF K y m j)(O:mg "MinderError"=some (.ref y))(sQ:Ew K y)(a:mg "NoLeaf"=some (.ref m))(g:mg "NotOn"=some (.ref j)):
  wS (kk+1) f fd Ur (Tj R):=by
 erw[F.okN JR (λvs H Q E h=>?_) (λZ A fM s0 H vs Q E W h=>?_)]
 .let(x,U,S,c,F,i,rfl,_):=h
  rfl
 .let(x,U,S,c,F,i,rfl,hR,hc,hi,k1,k2,k3):=h;let p:=G.DQ.d;let(L,s,r,q,u,n1,n2,n3,n4,n5,n6):=G.I.inst hR
  refine(_,(aa (Si (rfl,rfl,rfl) (λD Y E' hT hP=>(af (bH (i:=2) JR.nd (xF (pv 0) p (W.mono (by omega)) (passes hT) {pv 1}))))
    ay
    (agG (i:=3) (rfl,rfl,rfl) JR.nd rfl rfl ⋯ O sQ (λe=>(aa (aO (PW.pt (iq (bx (a9 (zu rfl) ⋯ T.oI lY {pv 3,zv ⋯ a})) (eU (fA (bx (a9 (zu rfl) ⋯ T.oI lY {pv 3,zv ⋯ g})))))) (af (au aj)) ay)
   (aa (aO (PW.pt (iq (bx (a9 (zu rfl) ⋯ T.oI lY {pv 3,zv ⋯ g})) (eU (fA (bx (a9 (zu rfl) ⋯ T.oI lY {pv 3,zv ⋯ a})))))) (af (au aj)) ay)
   (af (au aj)))))
    OC))
   (aa (aO (ix ES (pv 2) fO) (af (au aj)) ay)
   (af (au aj)))),?_)
  lk;erw[j0 x L s r _ _ (gT rfl q (u,rfl,rfl) n6 ?_),ex8 x U S c F s r i (an8 rfl hR q hc hi (λz t J n=>?_) (λz B t J n=>?_) (λz B S' t J M n=>?_))]
  .refine jl m true (kz rfl X.EL (λe C=>?_));let v:=aq (o:=zw e m none) C;let xe:(upd t e (zw e m none)) e=some (zw e m none):=ae;let n:=Moved.same G.I n v;lk;erw[oi e m _ _ true (kR rfl xe X.xL X.iL rfl X.LL ?_),oi e m _ _ false (kR rfl xe X.xL X.iL rfl X.LN ?_),k1 z _ _ n]
  .refine jl j true (kz rfl X.EN (λe C=>?_));let v:=aq (o:=zw e j none) C;let xe:(upd t e (zw e j none)) e=some (zw e j none):=ae;let n:=Moved.same G.I n v;lk;erw[oi e j _ _ false (kR rfl xe X.xN X.iN rfl X.NL ?_),oi e j _ _ true (kR rfl xe X.xN X.iN rfl X.NN ?_),oi e j _ _ false (kR rfl xe X.xN X.iN rfl X.NL ?_),k2 z B _ _ n]
  .lk;erw[k3 z B S' _ _ M n]
def MA(R:HR SG):Sp:=λvs H Q _=>∃(x:eF) (T:Re) (S:HS) (c:Nat) (F:FS),vs=[.ref x]/\R H x (T,S,c) F/\(c+1)*T.length<=2200∧
 (bK S 0=true->∀H' a,Moved R H F x (T,S,c) H' a->Q (.str "off") H')/\(bK S 0=false->∀S' H' a,(∃f,C3 T f S=some S')->Moved R H F x (T,S',c+1) H' a->Q (.str "") H')
def Td{kk:Nat}{R:HR SG}{u:eF->Prop}{Y r j:eF}(F:wv "_law_stopped" DY)(T:Txt mg)(G:aam P w K mg eC kk R u r j)(X:ExF K Y r j)(C:mg "NotOn"=some (.ref j))(O:Ew K j):
  wS (kk+1) f fd LK (MA R):=by
 erw[F.okN HI (λvs H Q E h=>?_) (λL A fM s0 H vs Q E v h=>?_)]
 .let(x,U,S,c,F,rfl,_):=h
  rfl
 .let(x,U,S,c,F,rfl,hR,hc,k1,k2):=h;let a:=G.stop.d;let(s,p,m,g,q,n1,n2,n3,n4,J,n6):=G.I.inst hR
  refine(_,(aa (Si (rfl,rfl,rfl) (λD y E' M hP=>(af (bH (i:=1) HI.nd (jJ (pv 0) a (v.mono (by omega)) (passes M)))))
    ay
    (Yv (rfl,rfl,rfl) ⋯ C O (λe=>(af (au aj)))
    OC))
   (aa (aO (ix ES (pv 1) fO) (af (au aj)) ay)
   (af (au aj)))),?_)
  lk;erw[j0 x s p m _ _ (gT rfl g (q,rfl,rfl) J ?_),ml x U S c F p m (pE rfl hR g hc (λz S' W N t n=>?_) (λz W N n=>?_))]
  .lk;erw[k2 z S' _ _ t n]
  .refine jl j true (kz rfl X.NM (λe Z=>?_));let B:=aq (o:=zw e j none) Z;let n:=Moved.same G.I n B;erw[k1 z _ _ n]
def aaj(K:gI)(R:HR SG):Sp:=λvs H Q _=>∃(x e:eF) (T:Re) (S:HS) (c:Nat) (F:FS) (cell:Int),vs=[.ref x,.ref e,.int cell]/\R H x (T,S,c) F/\fT K H e (T.map λr=>V.str r.sh.name)/\0<T.length/\(c+2)*T.length<=2200∧
 ∀S' wd a H' g,Z8 T (QK T.length cell) S S' wd->a<=c+2->Moved R H F x (T,S',a) H' g->Q (.str wd) H'
def Moved.trans{R:HR SG}{q:eF->Prop}(I:va R q){H g i:Hp}{F j p:FS}{x:eF}{r s n:SG}(h:R H x r F)(m:Moved R H F x s g j)(c:Moved R g j x n i p):Moved R H F x n i p:=by
 erw[(λb o a e=>c.1 b o (λz=>?_) (m.1 b o a e),λb a=>?_,c.2.2)]
 .rcases m.2.1 b z with y|y
  .exact a y
  simp_all
 .rcases c.2.1 b a with y|y
  .exact m.2.1 b y
  .by_cases z:F b
   .exact .inl z
   .right
    cases w:H b with
    |none=>rfl
    |some o=>rw[m.1 b o z w]at y;cases y
def ab6{kk:Nat}{R:HR SG}{Cl:eF->Prop}{cL cN:eF}(F:wv "_law_deed" SW)(T:Txt mg)(G:aam P w K mg eC kk R Cl cL cN)(M9:wE true (kk+1) "_law_tried" (Tj R) [])(Fd:wE true (kk+1) "_law_stopped" (MA R) []):
  wS (kk+2) f fd Yl (aaj K R):=by
 erw[F.okN U0 (λvs H Q E h=>?_) (λac A fM s0 H vs Q E hr h=>?_)]
 .let(x,np,U,S,c,F,cell,rfl,_):=h
  rfl
 .let(x,np,U,S,c,F,cell,rfl,hR,hN,n0,hc,k):=h;let C:=G.turn.d;let W:(c+1)*U.length<=2200:=jC (alm _ ()) hc
  refine(_,(aa (aO (ix Eu (aG cu (pv 2) ai) (xB {(ai),(ai)})) (af (au (cn M9 {pv 0,ig aB (pv 1) (aG cu (aG eh (pv 2) ai) (a9 aU ⋯ T.fH cW {pv 1}))}))) ay)
   (aa (aO (PW.pt (iq (ix cq (aG cu (pv 2) ai) ai) (eU (ix cq (aG cu (aG eh (pv 2) ai) ai) ai)))) (af (au (cn Fd {pv 0}))) ay)
   (aa (lM yu rfl (jN ⋯ T.lX {aG gG ai (aG cu (aG eh (pv 2) ai) ai)}) (c9 (i:=3) U0.nd rfl (by k_ne)) (af (aO (ix UU (kU (pv 0) C) fO) (af (au aj)) ay)))
   (af (au aj))))),?_)
  fin2
  lk;erw[(l8 (by decide),λq hq=>?_)];let sq:=aq (o:= .tup [.int 9,.int 10]) hq;let Z:(upd H q (.tup [.int 9,.int 10])) q=some (.tup [.int 9,.int 10]):=ae;erw[jl q _ (gT rfl (.inr (jx.of Z)) rfl rfl ?_)];generalize upd H q (.tup [.int 9,.int 10])=H1 at sq Z;let N:=G.I.same sq hR;let m:Moved R H F x (U,S,c) H1 F:=(λb o _ e=>sq _ _ e,λb hb=>.inl hb,N);let X:=fT.same hN sq;lk;erw[bR (λe=>?_) (λe=>?_)]
  .let e:(decide (9=cell%12)||(decide (10=cell%12)||false))=true:=e
   let e:cell%12=9\/cell%12=10:=by
    lia
   let dk:QK U.length cell=.DQ (cell/12%(U.length)).toNat:=fR e;rw[dk]at k;let p0:0<(U.length:Int):=by lia
   let m0:=aof (cell/12) (show(U.length:Int)≠0 by lia);let m1:=alC (cell/12) p0;obtain⟨i,hi⟩:∃i:Nat,cell/12%(U.length)=i:=((cell/12%(U.length)).toNat,());let il:i<U.length:=by lia
   rw[hi]at k
   let nm:(U.map λr=>V.str r.sh.name)[i]? =some (V.str (sh U i).name):=by
    rw[i6];unfold sh;rw[ot,hY il]
    rfl
   lk;erw[jl np _ (kz rfl (.inl X) ?_)];lk;rw[gQ];erw[(p0,?_),iG np _ _ (V.str (sh U i).name) (gT rfl (iY V.int hi) X (cb nm) ?_)];erw[j0 x U S c F i (kR rfl N W il (λz H' J a=>?_) (λz z2 H' J a=>?_) (λz z2 S' H' J s a=>?_))]
   .exact k S "leaf" c H' J (.inl (z,rfl,rfl)) () (Moved.trans G.I hR m a)
   .exact k S "off" c H' J (.inr (.inl (z,z2,rfl,rfl))) () (Moved.trans G.I hR m a)
   .exact k S' "" (c+1) H' J (.inr (.inr (z,z2,s,rfl))) () (Moved.trans G.I hR m a)
  .let e:¬(decide (9=cell%12)||(decide (10=cell%12)||false))=true:=e
   let e:¬(cell%12=9\/cell%12=10):=λz=>e (by
    lia)
   let ab:(cell%12=11/\cell/12%5=3)->QK U.length cell=.stop:=λz=>by
    unfold QK;rw[fC e,fR z]
   let Y:¬(cell%12=11/\cell/12%5=3)->QK U.length cell=.turns (1+cell/12%2).toNat:=λz=>by
    unfold QK;rw[fC e,fC z]
   lk;erw[bR (λe1=>?_) (λe1=>?_)]
   .let e1:=V.int.inj (iB e1);lk;refine bR (λe2=>?_) (λe2=>?_)
    .let e2:=V.int.inj (iB e2);rw[ab (e1,e2)]at k;lk;refine oi x U S c F (gT rfl N W (λz H' J a=>?_) (λz S' H' J s a=>?_))
     .exact k S "off" c H' J (.inl (z,rfl,rfl)) () (Moved.trans G.I hR m a)
     .exact k S' "" (c+1) H' J (.inr (z,s,rfl)) () (Moved.trans G.I hR m a)
    .let e2:=λz=>e2 (gy (iY V.int z));rw[Y (λz=>e2 z.2)]at k;lk;let m2:cell/12%2=0\/cell/12%2=1:=by lia
     erw[((by lia),(by lia),?_)];erw[zl (λj O D=>∃(p:HS) (B:FS) (v:Option V),FL U j S p/\Moved R H F x (U,p,c+j) D B/\O=[some (.ref x),some (.ref np),some (.int cell),v]) (S,F,none,.zero S,m,rfl) ?_ ?_]
     .rintro j O D hj ⟨p,B,v,s,a,rfl⟩;let y:=a.2.2;let(C5,t,u,g,M,n1,n2,n3,n4,n5,n6):=G.I.inst y;lk;erw[j0 x C5 t u _ _ (gT rfl g (M,rfl,rfl) n4 ?_)];erw[ml x U p (c+j) B t u (gT rfl y g (jC (alm _ ()) hc) (λS3 H3 F3 t3 L=>?_))];lk;exact(S3,F3,_,.succ s t3,Moved.trans G.I hR a L,rfl)
     .rintro O D ⟨p,B,v,s,a,rfl⟩;erw[k p "" (c+(1+cell/12%2).toNat) D B (s,rfl) () a]
   .let e1:=λz=>e1 (gy (iY V.int z));rw[Y (λz=>e1 z.1)]at k;lk;let m2:cell/12%2=0\/cell/12%2=1:=by lia
    erw[((by lia),(by lia),?_)];erw[zl (λj O D=>∃(p:HS) (B:FS) (v:Option V),FL U j S p/\Moved R H F x (U,p,c+j) D B/\O=[some (.ref x),some (.ref np),some (.int cell),v]) (S,F,none,.zero S,m,rfl) ?_ ?_]
    .rintro j O D hj ⟨p,B,v,s,a,rfl⟩;let y:=a.2.2;let(C5,t,u,g,M,n1,n2,n3,n4,n5,n6):=G.I.inst y;lk;erw[j0 x C5 t u _ _ (gT rfl g (M,rfl,rfl) n4 ?_)];erw[ml x U p (c+j) B t u (gT rfl y g (jC (alm _ ()) hc) (λS3 H3 F3 t3 L=>?_))];lk;exact(S3,F3,_,.succ s t3,Moved.trans G.I hR a L,rfl)
    .rintro O D ⟨p,B,v,s,a,rfl⟩;erw[k p "" (c+(1+cell/12%2).toNat) D B (s,rfl) () a]
open PySem L2 Shp Nm Tr Hs Hm Hr Lw Ga PySem.NumText
theorem C8{g c:TS}{D:Ends}{e:St}{H:Hp}(M:St->Hp->Prop)(h:∀N:St->Hp->Prop,(∀a H',M a H'->N a H')->g {D with nx:=N} e H)(i:∀a H',M a H'->c D a H'):wM g c D e H:=h _ i
def R4{T:Re}{i m:Nat}(h:par T i=some m):bP T i=(m:Int):=by
 unfold par at h
 split at h
 .cases h
 .lia
def aeq{T:Re}{i m:Nat}(h:bP T i=(m:Int)):par T i=some m:=by
 unfold par;rw[h,fC (),ajo]
def abq{T:Re}{i:Nat}(h:par T i=none):bP T i<0:=by
 unfold par at h
 simp_all
def EA(l:List Nat):(l.map λk:Nat=>V.int (k:Int)).all gH=true:=by rw[ang];erw[z8.mpr λ_ _=>rfl]
def eq_nil(l:List Nat):zQ (l.map λk:Nat=>V.int (k:Int)) []=decide (l=[]):=by
 cases l with
 |nil=>rfl
 |cons a r=>rfl
def gW{a:Bool}{H:Hp}{q p:eF}{l:List Nat}{Q:VK}(c:H q=some (.lst (l.map λk:Nat=>V.int (k:Int))))(e:H p=none)(k:Q (.bl (if a then !decide (l=[]) else decide (l=[]))) (upd H p (.lst []))):ab2 K a (.ref q) (.ref p) (upd H p (.lst [])) Q:=by
 erw[(q,p,_,[],rfl,rfl,fT.of (aq e _ _ c),fT.of ae,EA l,rfl,?_)];rwa[eq_nil]
def Me{T:Re}{i:Nat}:∃a,(words (sh T i))[0]? =some a/\decide (V.str a=V.str "leaf")=f7 T i/\decide (V.str a=V.str "minder")= !f7 T i:=by
 cases hl:f7 T i with
 |true=>exact(_,(Su hl).1,rfl,rfl)
 |false=>exact(_,Ou hl,rfl,rfl)
def afB{T:Re}(h:gD T){i:Nat}(a:i<T.length):ue (sh T i):=by
 rw[Yc a];erw[h.sh _ (uy a)]
def agS{x y z:Str}:M5 (.str x) [.str y,.str z]=(decide (x=y)||decide (x=z)):=by
 rw[tL];simp only[M5,pf,aj6,aoI,Nw,xc,pD,rW];exact(λz=>z.imp Eq.symm Eq.symm,λz=>z.imp Eq.symm Eq.symm)
def tI{H:Hp}{y:eF}{Y:List Nat}{p:Nat->Bool}{j:St}{fr:List (Str×Nat)}{i:TT}{Q:VK}(g:fT K H y (jE Y))(t:Y.length<=64)(o:∀k∈Y,∀R:Bool->Hp->Prop,R (p k) H->i (inner j fr (some (.int (k:Int)))) H R)(m:∀q,H q=none->Q (.ref q) (upd H q (.lst (jE (Y.filter p))))):Fv (Itl K y) j fr i (Zm 0) H Q:=by
 let h:∀a,((Y.take a).filter p).length<=64:=λa=>jC (yS _ _) (by rw[ve];lia);erw[cO (n:=Y.length) (λa ys c=>c=H/\ys=jE ((Y.take a).filter p)) (rfl,rfl) ?_ ?_ ?_ ?_]
 .rintro a ys c ha ⟨rfl,_⟩;exact(_,V.int (Y[a]),g,by rw[i6,hY ha];rfl)
 .rintro ys c ⟨rfl,_⟩;exact(_,g,by simp)
 .rintro a ys c v H3 ha ⟨rfl,rfl⟩ ⟨rfl,e⟩;let e:=e _ g;rw[i6,hY ha]at e;obtain rfl:V.int (Y[a])=v:=iJ e;let s:Y.take a++[Y[a]]=Y.take (a+1):=by simp
  let tk:(Y.take (a+1)).filter p=(Y.take a).filter p++if p Y[a]=true then [Y[a]] else []:=by rw[<- s,su,nS,GZ]
  erw[o _ (uy ha) _ ?_];cases hp:p Y[a] with
  |true=>
   rw[hp]at tk;exact(_,rfl,by rw[gQ];exact aM (by let:=h a;lia),rfl,by rw[tk];unfold jE;rw[kr];rfl)
  |false=>
   simp_all
 .rintro ys c ⟨rfl,rfl⟩;erw[(by rw[gQ];exact vC (aM (by let:=h Y.length;lia)),λq r=>?_)];rw[zN];erw[m q r]
def HQ{H:Hp}{y:eF}{Y:List Nat}{p:Nat->Bool}{r:St}{fr:List (Str×Nat)}{o:TT}{Q:VK}(j:fT K H y (jE Y))(A:Y.length<=64)(u:∀k∈Y,∀R:Bool->Hp->Prop,R (p k) H->o (inner r fr (some (.int (k:Int)))) H R)(s:∀q,H q=none->Q (.ref q) (upd H q (.lst (jE (Y.reverse.filter p))))):Fv (Itv K y (jE Y).length) r fr o (Zm 0) H Q:=by
 let t:(jE Y).length=Y.length:=gQ _;rw[t];let m:∀a,((Y.reverse.take a).filter p).length<=64:=λa=>jC (yS _ _) (by rw[ve,ajJ];lia)
 let g:∀a (c:a<Y.length),(jE Y)[Y.length-1-a]? =some (V.int ((Y.reverse[a]'(by rwa[ajJ]):Nat))):=λa c=>by
  rw[i6,hY (),List.getElem_reverse]
  rfl
 erw[cO (n:=Y.length) (λa ys e=>e=H/\ys=jE ((Y.reverse.take a).filter p)) (rfl,rfl) ?_ ?_ ?_ ?_]
 .rintro a ys e c ⟨rfl,_⟩;exact(c,_,_,j,g a c)
 .rintro ys e ⟨rfl,_⟩
  rfl
 .rintro a ys e v H3 c ⟨rfl,rfl⟩ ⟨rfl,i⟩;let i:=i _ j;rw[g a c]at i;let h:a<Y.reverse.length:=by rwa[ajJ]
  obtain rfl:V.int ((Y.reverse[a]:Nat))=v:=iJ i;let z:Y.reverse.take a++[Y.reverse[a]]=Y.reverse.take (a+1):=by rw[AD,hY h];rfl
  let tk:(Y.reverse.take (a+1)).filter p=(Y.reverse.take a).filter p++if p Y.reverse[a]=true then [Y.reverse[a]] else []:=by rw[<- z,su,nS,GZ]
  erw[u _ (OH.mp (uy h)) _ ?_];cases hp:p Y.reverse[a] with
  |true=>
   rw[hp]at tk;exact(_,rfl,by rw[gQ];exact aM (by let:=m a;lia),rfl,by rw[tk];unfold jE;rw[kr];rfl)
  |false=>
   rw[hp,fC jT]at tk;simp_all
 .rintro ys e ⟨rfl,rfl⟩;erw[(by rw[gQ];exact vC (aM (by let:=m Y.length;lia)),λq x=>?_)];rw[show Y.reverse.take Y.length=Y.reverse by rw[<- ajJ,zN]];erw[s q x]
theorem EE{T:Re}(h:T.length<=64)(m:Nat):(kids T m).length<=64:=jC (Uy T m) ()
def Ox:Sp:=λvs H Q _=>∃(a:eF) (T:Re) (i:Nat),vs=[.ref a,.int (i:Int)]/\Bf H a T/\gD T/\∀(q:eF) (H':Hp),aH H H'->H q=none->H' q=some (.lst (jE (kids T i)))->Q (.ref q) H'
def Z9(F:wv "_law_young" M7)(T:Txt mg):zn 1 abT Ox:=by
 rcases aab,(af (au (gU (fr:=[("_law_at",1),("_law_tree_here",0)]) (by kd_p) rfl (jN ⋯ T.lX {a9 aU ⋯ T.fH cW {ig de (pv 0) ai}}) (λ_ _ _ _=>(mL (zF cq (ig (gM rfl) (ig (ab8 rfl) (pv 2) ai) (pv 0)) (pv 1) (BP _)))) (λ_ _ _ _=>(pv 0))))) with⟨D,U,i,rfl,m,ok,k⟩;let c:=ok.len;let(u,p,C,G,as,t1,y,g,t,A,B,r):=id m;lk;erw[sR (jx.of t1) rfl ?_,jl p _ (kz rfl (.inl (fT.of g)) ?_)];rw[gQ,mK];lk;erw[((),(),cO (n:=U.length) (λa ys H'=>H'=H/\ys=jE ((hD a).filter λj=>decide (par U j=some i))) (rfl,rfl) (λa ys H' e _=>e) (λys H' _=>gx _) ?_ ?_)]
 .rintro a ys H' v H2 e ⟨rfl,rfl⟩ ⟨rfl,rfl⟩;let tk:(hD (a+1)).filter (λj=>decide (par U j=some i))=(hD a).filter (λj=>decide (par U j=some i))++if decide (par U a=some i)=true then [a] else []:=by rw[F1,su,nS,GZ]
  let o:((hD a).filter λj=>decide (par U j=some i)).length<=100:=jC (yS _ _) (by rw[mK];lia);generalize (hD a).filter (λj=>decide (par U j=some i))=l0 at tk o;rw[anr];lk;erw[sR (jx.of t1) rfl ?_,gB (fT.of g) (bL e) ?_,bR (λe1=>?_) (λe1=>?_)]
  .let e1:=V.int.inj (iB e1);rw[gy (aeq e1)]at tk;lk;exact(by rw[gQ];exact aM (),rfl,by rw[tk];unfold jE;rw[kr];rfl)
  .let e1:=λz=>e1 (gy (iY V.int (R4 z)));rw[iR e1,fC jT,ov]at tk;exact(rfl,by rw[tk])
 rintro ys H' ⟨rfl,rfl⟩;erw[(by rw[gQ];exact vC (aM (by let:=EE c i;unfold kids at this;lia)),λq h=>?_)];erw[k q _ (aq h) h ae]
def In(n:Nat)(l:List Nat):Prop:=l.length<=64/\∀k∈l,k<n
def HA:Sp:=λvs H Q _=>∃(A:sN) (n:Nat) (ls:LA) (i:Nat),vs=[.ref A.s,.int (i:Int)]/\iT H n ls A/\i<n/\In n (ls.put i)/\∀(q:eF) (H':Hp),aH H H'->H q=none->H' q=some (.lst (jE (live ls i)))->Q (.ref q) H'
def acp(F:wv "_law_live" R0)(T:Txt mg):zn 1 afc HA:=by
 rcases acG,(af (au (gU (fr:=[("_law_state",0)]) (by kd_p) rfl (eo (ig aB (mX (pv 0) aj) (pv 1))) (λ_ _ _ _=>(mL (bx (ig (gM rfl) (rE (pI hr) (pv 1) aj (λ_ _=>rfl)) (pv 0))))) (λ_ _ _ _=>(pv 0))))) with⟨A,n,ls,i,rfl,hs,a,e,k⟩;let(xs,j,c):=hs.l 0 ∅;lk;erw[lR hs.gpt ?_,gB (fT.of j) (bL a) ?_,((_,fT.of (c i a).2),tI (fT.of (c i a).2) e.1 (λx h R r=>?_) (λq g=>k q _ (aq g) g ae)),lR hs.XP ?_,gB (fT.of hs.on) (bL (e.2 x h)) ?_,r]
def Rj:Sp:=λvs H Q _=>∃(A:sN) (n:Nat) (ls:LA) (i:Nat),vs=[.ref A.s,.int (i:Int)]/\iT H n ls A/\i<n/\In n (ls.anw i)/\∀(q:eF) (H':Hp),aH H H'->H q=none->H' q=some (.lst (jE (left ls i)))->Q (.ref q) H'
def abL(F:wv "_law_left" RP)(T:Txt mg):zn 1 afc Rj:=by
 rcases acJ,(af (au (gU (fr:=[("_law_state",0)]) (by kd_p) rfl (eo (ig aB (mX (pv 0) aj) (pv 1))) (λ_ _ _ _=>(mL (fA (bx (ig (gM rfl) (rE (pI hr) (pv 1) aj (λ_ _=>rfl)) (pv 0)))))) (λ_ _ _ _=>(pv 0))))) with⟨A,n,ls,i,rfl,hs,a,e,k⟩;let(xs,j,c):=hs.l 1 ∅;lk;erw[lR hs.gan ?_,gB (fT.of j) (bL a) ?_,((_,fT.of (c i a).2),tI (fT.of (c i a).2) e.1 (λx h R r=>?_) (λq g=>k q _ (aq g) g ae)),lR hs.ggd ?_,gB (fT.of hs.gd) (bL (e.2 x h)) ?_,r]
def RZ{T:Re}{i:Nat}:(words (sh T i))[1]? =some (sh T i).keep:=by
 unfold words
 split<;>rfl
def Zt:Sp:=λvs H Q _=>∃(a:eF) (T:Re) (i:Nat) (wd:Str),vs=[.ref a,.int (i:Int),.str wd]/\Bf H a T/\i<T.length/\∀H',aH H H'->Q (.bl (begun (sh T i) wd)) H'
def abp(F:wv "_law_kept" Rc):zn 1 aaf Zt:=by
 rcases TX,(aa (bH (i:=3) TX.nd (ig aB (ig aB (ig de (pv 0) ai) (pv 1)) ai))
   (af (au (YX (vV cq (pv 3) aj) (ly (pA (vV cq (pv 3) aj) (ly (vV Eu (pv 2) (xB {(aj),(aj)}))))))))) with⟨tp,U,i,wd,rfl,ht,hi,k⟩
 let(o,v,t,u,as,t1,p,n,c,r,h,m):=ht;let a:as[i]? =some (as[i]'()):=hY _;generalize as[i]'()=x at a;let g:=h i x a;lk;erw[sR (jx.of t1) rfl ?_,gB (fT.of c) (cb (by rw[i6,a];rfl)) ?_,gB (fT.of g) (Nu RZ) ?_];lk;unfold begun at k;erw[bR (λe=>?_) (λe=>?_)]
 .let e:=V.str.inj (iB e);rw[gy e]at k;erw[k _ (aH.refl _)]
 .let e:=λz=>e (gy (iY V.str z));rw[iR e]at k;lk;refine bR (λe2=>?_) (λe2=>?_)
  .let e2:=V.str.inj (iB e2);rw[gy e2,<-agS]at k;lk;erw[(l8 (by decide),λq j=>?_),jl q _ (gT rfl (.inr (jx.of ae)) rfl rfl ?_)];erw[k _ (aq j)]
  .let e2:=λz=>e2 (gy (iY V.str z));rw[iR e2]at k;erw[k _ (aH.refl _)]
def Sm(T:Re)(ls:LA):Prop:=ls.due.length<=64/\∀m,In T.length (ls.put m)/\In T.length (ls.anw m)
def spL(wd:Str)(o:Re->LA->Nat->Prop):Sp:=λvs H Q _=>∃(a:eF) (A:sN) (G:Hp) (T:Re) (ls:LA) (i:Nat) (t:Int),vs=[.ref a,.ref A.s,.int (i:Int)]/\Bf G a T/\Fz A H G/\iT H T.length ls A/\gD T/\i<T.length/\Sm T ls/\o T ls i/\∀H',cJ A H H'->iT H' T.length (qD T ls (t,wd,i)) A->Q (.bl true) H'
def aas{T:Re}(h:gD T){i:Nat}(a:i<T.length):(par T i=none/\bP T i<0)\/∃m,par T i=some m/\bP T i=(m:Int)/\m<T.length/\f7 T m=false:=by
 cases z:par T i with
 |none=>erw[.inl (rfl,abq z)]
 |some m=>erw[.inr (m,rfl,R4 z,by let:=((gD.tok h).bB a z).1;lia,((gD.tok h).bB a z).2)]
def XX(F:wv "_law_told" Rh)(T:Txt mg)(mP:wE true 1 "_law_live" HA []):zn 2 TN (spL "told" TB):=by
 rcases NT,(aa (bH (i:=3) NT.nd (ig aB (ig de (pv 0) ai) (pv 2)))
   (aa (jy cP (kI (mX (pv 1) aj) (pv 2) set_list))
   (aa (aO (ix cq (ig aB (ig aB (ig de (pv 0) ai) (pv 2)) ai) aj) (af (jy cP (kI (mX (pv 1) aj) (pv 2) set_list))) ay)
   (aa (aO (PW.pt (nR (ix nI (pv 3) ai) (qp (bx (ig aB (mX (pv 1) aj) (pv 3)))))) (af (au cP)) ay)
   (aa (bH (i:=4) NT.nd (cn mP {pv 1,pv 3}))
   (af (au (pA (vV (vR (iM hr)) (pv 4) (aP bQ)) (ly (vV cq (ig aB (pv 4) ai) (pv 2))))))))))) with⟨tp,A,G,U,ls,i,t,rfl,ht,fz,hs,ok,hi,sm,o1,k⟩
 let ab:=ok.len;let I:=ht.same fz.sub;let(gp,ep,wp,np,as,t1,t0,t2,Y,t4,t5,t6):=id I;let y:∀(g:Nat->V),xE ((hD U.length).map g).length i=some i:=λg=>IP (by rwa[gQ,mK]);let nx:qD U ls (t,"told",i)={ls with told:=aW ls.told i true,down:=if f7 U i then ls.down else aW ls.down i true}:=rfl;obtain⟨n,e2⟩:∃n,n=qD U ls ⟨t,"told",i⟩:=(_,rfl);let v:∀m,live n m=live ls m:=λm=>by rw[e2];rfl
 let S:∀m,ls.down m=true->n.down m=true:=λm z=>by
  rw[e2];show(if f7 U i then ls.down else aW ls.down i true) m=true
  split
  .exact z
  .by_cases e:m=i
   .rw[e,bG]
   .rwa[cG e]
 let B:n.put=ls.put:=by rw[e2];rfl
 erw[Kd (M:=λW H'=>cJ A H H'/\iT H' U.length n A/\W=[some (.ref tp),some (.ref A.s),some (.int i),some (.int (bP U i)),none]) (λN hN=>?_) ?_]
 .lk;erw[sR (jx.of t1) rfl ?_,gB (fT.of t2) (bL hi) ?_,lR hs.gtl ?_,EW hs.tl (y _) ?_];let h:=hs.setB (j:=1) ∅ i true;let u:cJ A H (upd H (A.c 1) (.lst (((hD U.length).map λk=>V.bl (ls.told k)).set i (.bl true)))):=cJ.upd (IE ∅);let(gp,ep,wp,np,as,t1,t0,t2,Y,t4,t5,t6):=id (ht.same (fz.but u).sub);let(hd,J,_,L):=Me (T:=U) (i:=i);let R:as[i]? =some (as[i]'()):=hY _;generalize as[i]'()=x at R;let tx:=t5 i x R;lk;erw[sR (jx.of t1) rfl ?_,gB (fT.of Y) (cb (by rw[i6,R];rfl)) ?_,gB (fT.of tx) (Nu J) ?_];lk;rw[L];cases hl:f7 U i with
  |true=>
   erw[hN _ _ (u,?_,rfl)];rwa[e2,nx,fR hl]
  |false=>
   lk;erw[lR h.gdn ?_,EW h.dn (y _) ?_];erw[hN _ _ (u.trans (cJ.upd (IE ∅)),?_,rfl)];rw[e2,nx,fC (by simp_all)];erw[h.setB ∅ i true]
 rintro ac H1 ⟨u,h,rfl⟩;rw[<- e2]at k;rcases aas ok hi with⟨pe,X⟩|⟨m,pe,X,hm,_⟩
 .lk;rw[gy X];erw[k _ u h]
 .rw[X];lk;erw[lR h.gdn ?_,gB (fT.of h.dn) (bL hm) ?_];cases hd:n.down m with
  |true=>
   lk;erw[k _ u h]
  |false=>
   let C:(live n m).head? =some i:=by
    rcases o1 m pe with z|z
    .rw[S m z]at hd;cases hd
    .rwa[v]
   lk;erw[iG A U.length n m (gT rfl h hm (by rw[B];exact(sm.2 m).1) (λq H2 s2 hq O=>?_))]
   obtain⟨r,er⟩:∃r,live n m=i::r:=by
    cases z:live n m with
    |nil=>rw[z]at C;cases C
    |cons a r=>rw[z]at C;exact(r,by rw[iJ C])
   rw[er]at O;lk;erw[(l8 ∅,λp Z=>?_)];erw[gW O Z ?_];let D:=aq (o:= .lst []) Z;let q3:=D _ _ O;lk;erw[gB (fT.of q3) (cb rfl) ?_];lk;rw[gy rfl];erw[k _ (u.trans (cJ.of_same (s2.trans D))) (h.same (s2.trans D))]
def Wk{T:Re}{m:Nat}(c:f7 T m=false)(ok:(sh T m).kind<=5):∃a:Str,(words (sh T m))[2]? =some a/\decide (V.str a=V.str "all")=decide ((sh T m).kind=4)/\decide (V.str a=V.str "rest")=decide ((sh T m).kind=5):=by
 let e:=wu c;let:(sh T m).kind=3\/(sh T m).kind=4\/(sh T m).kind=5:=by lia
 unfold words;rcases this with z|z|z<;>rw[z]<;>exact(_,rfl,∅,∅)
def LJ{T:Re}(c:T.length<=64){m i:Nat}(e:i<T.length):In T.length (cA T m i):=by
 let k1:=EE c m;unfold cA
 split
 .exact (k1,λk a=>(aZ a).1)
 .split
  .exact (jC (yS _ _) k1,λk a=>(aZ (mJ.mp a).1).1)
  .exact (by show 1<=64;decide,λk a=>by rwa[l9.mp a])
def P0(F:wv "_law_answers" EK)(T:Txt mg)(mP:wE true 1 "_law_live" HA [])(EM:wE true 1 "_law_left" Rj [])(zt:wE true 1 "_law_young" Ox []):zn 2 TN (spL "answers" UL):=by
 rcases jq,(aa (bH (i:=3) jq.nd (ig aB (ig de (pv 0) ai) (pv 2)))
   (aa (aO (PW.pt (nR (ix nI (pv 3) ai) (nR (bx (ig aB (mX (pv 1) aj) (pv 3))) (nR (ix (vR (iM hr)) (cn mP {pv 1,pv 3}) (aP bQ)) (qp (ix (vR (iM hr)) (cn EM {pv 1,pv 3}) (aP bQ))))))) (af (au cP)) ay)
   (aa (bH (i:=4) jq.nd (cn zt {pv 0,pv 3}))
   (aa (bH (i:=5) jq.nd (ig aB (ig aB (ig de (pv 0) ai) (pv 3)) ai))
   (aa (bH (i:=6) jq.nd (aP {pv 2}))
   (aa (aO (ix cq (pv 5) aj) (af (bH (i:=6) jq.nd (pv 4))) ay)
   (aa (aO (ix cq (pv 5) aj) (af (lT (j:=6) jq.nd rfl (by k_ne) (fr:=[("_law_at",2)]) (by kd_p) rfl (eo (pv 4)) (λ_ _ _ _=>(mL (zF Ym (pv 0) (pv 1) (BP _)))) (λ_ _ _ _=>(pv 0)))) ay)
   (aa (jy (cv CI ⋯ T.Y7 UY {pv 6}) (kI (mX (pv 1) aj) (pv 3) set_list))
   (aa (jy (gU (fr:=[("_law_state",1)]) (by kd_p) rfl (YY ⋯ T.JB {pv 6}) (λ_ _ _ _=>(mL (bx (ig (gM rfl) (rE (pI hr) (pv 1) aj (λ_ _=>rfl)) (pv 0))))) (λ_ _ _ _=>(pv 0))) (kI (mX (pv 1) aj) (pv 3) set_list))
   (af (au (pA (Jx (ig aB (mX (pv 1) aj) (pv 2))) (ly (Jx (ig aB (mX (pv 1) aj) (pv 2)))))))))))))))) with⟨tp,A,G,U,ls,i,t,rfl,ht,fz,hs,ok,hi,sm,⟨m,pe,o1,o2,o3,o4,o5⟩,k⟩
 let Z:=ok.len;let tok:=gD.tok ok;let ee:=R4 pe;let(pl,hl):=tok.bB hi pe;let hm:m<U.length:=by lia
 let Y:=ht.same fz.sub;let aA:=afB ok hm;rw[X5 pe]at k;let(gp,ep,wp,np,as,t1,t0,t2,t3,t4,t5,t6):=id Y;erw[Jc (M:=λa H'=>aH H H'/\a=[some (.ref tp),some (.ref A.s),some (.int i),some (.int m),none,none,none]) (λN I=>?_) ?_]
 .lk;erw[sR (jx.of t1) rfl ?_,gB (fT.of t2) (bL hi) ?_];rw[ee];lk;erw[lR hs.gdn ?_,gB (fT.of hs.dn) (bL hm) ?_];rw[o1];lk;erw[iG A U.length ls m (gT rfl hs hm (sm.2 m).1 (λq H2 c hq n=>?_))];rw[o2]at n;erw[(l8 ∅,λp hp=>?_)];erw[gW n hp ?_];generalize e_s3:upd H2 p _=H3;let s3:=c.trans (gS e_s3 hp);lk;erw[iG A U.length ls m (gT rfl (hs.same s3) hm (sm.2 m).2 (λq O s4 hq C=>?_))];rw[o3]at C;erw[(l8 ∅,λp hp=>?_)];erw[gW C hp ?_];generalize e_s5:upd O p _=H5;let s5:=(s3.trans s4).trans (gS e_s5 hp);lk;erw[I _ _ (s5,rfl)]
 rintro a0 h ⟨s1,rfl⟩;let am:=hs.same s1;let ad:=Y.same s1;let(wy,aK,aF,ab):=Wk hl aA.kd;erw[Kd (M:=λa H'=>∃q v,aH h H'/\h q=none/\H' q=some (.lst (jE (kids U m)))/\H' v=some (.lst (jE [i]))/\h v=none/\a=[some (.ref tp),some (.ref A.s),some (.int i),some (.int m),some (.ref q),some (.str wy),some (.ref v)]) (λN I=>?_) ?_]
 .lk;erw[mI tp U m (ll rfl ad ok (λq H2 c hq n=>?_))];let(gp,ep,wp,np,as,t1,t0,t2,t3,t4,t5,t6):=id (ad.same c);let L:as[m]? =some (as[m]'()):=hY _;generalize as[m]'()=x at L;let tx:=t5 m x L;lk;erw[sR (jx.of t1) rfl ?_,gB (fT.of t3) (cb (by rw[i6,L];rfl)) ?_,gB (fT.of tx) (Nu aK) ?_];lk;refine(l8 (by show 1<=100;decide),λv J=>?_)
  let an:h v=none:=by
   cases z:h v with
   |none=>rfl
   |some o=>rw[c _ _ z]at J;cases J
  erw[I _ _ (q,v,c.trans (aq J),hq,aq J _ _ n,ae,an,rfl)]
 rintro aN H2 ⟨q,v,c,hq,n,v2,J,rfl⟩;let ax:=am.same c;erw[Jc (M:=λa H'=>∃y,aH H2 H'/\h y=none/\H' y=some (.lst (jE (cA U m i)))/\a=[some (.ref tp),some (.ref A.s),some (.int i),some (.int m),some (.ref q),some (.str wy),some (.ref y)]) (λN I=>?_) ?_]
 .lk;rw[aF];by_cases X:(sh U m).kind=4
  .rw[gy X];lk;rw[iR ()];erw[I _ _ (q,aH.refl _,hq,?_,rfl)];unfold cA;rwa[fR X]
  .rw[iR X];lk;rw[ab];by_cases z5:(sh U m).kind=5
   .rw[gy z5];lk;refine((_,fT.of n),tI (p:=λx=>decide (i<=x)) (fT.of n) (EE Z m) (λx L R r=>?_) (λy S=>?_))
    .lk;simp_all
    .let hy1:h y=none:=by
      cases z:h y with
      |none=>rfl
      |some o=>rw[c _ _ z]at S;cases S
     erw[I _ _ (y,aq S,hy1,?_,rfl)];unfold cA;rw[fC X,fR z5];erw[ae]
   .rw[iR z5];erw[I _ _ (v,aH.refl _,J,?_,rfl)];unfold cA;rwa[fC X,fC z5]
 rintro a1 H3 ⟨y,s3,S,y3,rfl⟩;let az:=c.trans s3;let ac:=ax.same s3;let yf:=am.CD S;let ci:=LJ Z (m:=m) hi;let al:∀(g:Nat->V),xE ((hD U.length).map g).length m=some m:=λg=>IP (by rwa[gQ,mK]);lk;erw[jl y _ (kz rfl (.inl (fT.of y3)) (λC W=>?_))];let nq:=ac.CD W;generalize e_s4:upd H3 C _=O;let s4:=gS e_s4 W;let q5:=gA e_s4;let B:=ac.same s4;let y4:=s4 _ _ y3;let(xs,l1,l2):=B.l 1 ∅;lk;erw[lR B.gan ?_,EW l1 (al _) ?_];let D:=B.Eh ∅ l1 l2 m q5 nq;let b5:cJ A O (upd O (A.e 1) (.lst (((hD U.length).map λk=>V.ref (xs k)).set m (.ref C)))):=cJ.upd (Kp ∅);let y5:=b5 _ _ yf.1 y4;generalize upd O (A.e 1) (.lst (((hD U.length).map λk=>V.ref (xs k)).set m (.ref C)))=H5 at D b5 y5;lk;erw[(y,_,rfl,fT.of y5,HQ (p:=ls.on) (fT.of y5) ci.1 (λx L R r=>?_) (λq6 ak=>?_))]
 .lk;erw[lR D.XP ?_,gB (fT.of D.on) (bL (ci.2 x L)) ?_,r]
 let ap:=D.CD ak;generalize e_s6:upd H5 q6 _=H6;let s6:=gS e_s6 ak;let q7:=gA e_s6;let h6:=D.same s6;let(xs,l1,l2):=h6.l 0 ∅;lk;erw[lR h6.gpt ?_,EW l1 (al _) ?_];let u:=h6.Eh ∅ l1 l2 m q7 ap;let b7:cJ A H6 (upd H6 (A.e 0) (.lst (((hD U.length).map λk=>V.ref (xs k)).set m (.ref q6)))):=cJ.upd (Kp ∅);let u:iT (upd H6 (A.e 0) (.lst (((hD U.length).map λk=>V.ref (xs k)).set m (.ref q6)))) U.length {ls with anw:=aW ls.anw m (cA U m i),put:=aW ls.put m ((cA U m i).reverse.filter ls.on)} A:=u;let bb:=(((cJ.of_same ((s1.trans az).trans s4)).trans b5).trans (cJ.of_same s6)).trans b7;lk;erw[lR u.XP ?_,gB (fT.of u.on) (bL hi) ?_];rw[show ({ls with anw:=aW ls.anw m (cA U m i),put:=aW ls.put m ((cA U m i).reverse.filter ls.on)}:LA).on i=false from o4];lk;erw[lR u.ggd ?_,gB (fT.of u.gd) (bL hi) ?_];rw[show ({ls with anw:=aW ls.anw m (cA U m i),put:=aW ls.put m ((cA U m i).reverse.filter ls.on)}:LA).good i=false from o5];lk;erw[k _ bb u]
def afm(T:Re)(ls:LA)(i:Nat):(less T ls i).on=ls.on/\(less T ls i).told=ls.told/\(less T ls i).good=ls.good/\(less T ls i).down=ls.down:=by
 unfold less
 split
 .split<;>exact(rfl,rfl,rfl,rfl)
 .exact (rfl,rfl,rfl,rfl)
theorem WR{c:TT}{a:St}{H:Hp}{R:Bool->Hp->Prop}(b:Bool)(g:∀N:Bool->Hp->Prop,N b H->c a H N)(e:R b H):c a H R:=g R e
def YK(l:LA)(i:Nat):Nat->LA
 |0=>l
 |j+1=>(YK l i j).setB (j+1) (aW ((YK l i j).b (j+1)) i false)
def Xb(F:wv "_law_begun" Nr)(T:Txt mg)(mP:wE true 1 "_law_live" HA [])(EM:wE true 1 "_law_left" Rj []):zn 2 TN (spL "begun" QZ):=by
 rcases uC,(aa (bH (i:=3) uC.nd (ig aB (ig de (pv 0) ai) (pv 2)))
   (aa (aO (PW.pt (iq (ix (vR (iM hr)) (mX (pv 1) aj) (aP bQ)) (eU (ix uO (ig aB (mX (pv 1) aj) ai) (pv 2))))) (af (au cP)) ay)
   (aa (aO (ix (A1 (iM hr)) (mX (pv 1) aj) (aP bQ)) (aa (bH (i:=4) uC.nd (pv 2))
   (aa (HN yu (PW.pt (iq (ix nI (pv 4) (a9 aU ⋯ T.fH cW {ig de (pv 0) ai})) (eU (PW.pt (nR (ix cq (pv 4) (pv 2)) (qp (ix LH (ig aB (ig de (pv 0) ai) (pv 4)) (ig aB (ig de (pv 0) ai) (pv 2))))))))) (aa (G8 (pI hr) (pv 1) aj (aG JX (mX (pv 1) aj) (aP {pv 4})) rfl)
   (af (bH (i:=4) uC.nd (aG gG (pv 4) ai)))))
   (af (aO (ix Ym (pv 3) ai) (aa (bH (i:=5) uC.nd (cn EM {pv 1,pv 3}))
   (aa (aO (PW.pt (nR (bx (ig aB (mX (pv 1) aj) (pv 3))) (nR (ix (vR (iM hr)) (cn mP {pv 1,pv 3}) (aP bQ)) (nR (ix (A1 (iM hr)) (pv 5) (aP bQ)) (qp (ix uO (ig aB (pv 5) ai) (pv 2))))))) (af (au cP)) ay)
   (aa (jy (pO uT (pv 5) (oG ai) C6) (kI (mX (pv 1) aj) (pv 3) set_list))
   (af (jy (aP bQ) (kI (mX (pv 1) aj) (pv 3) set_list)))))) ay)))) ay)
   (aa (G8 (pI hr) (pv 1) aj (pO uT (mX (pv 1) aj) (oG ai) C6) rfl)
   (aa (lM yu rfl (eo (aP {(aj),(aj),(aj)})) (c9 (i:=6) uC.nd rfl (by k_ne)) (af (jy cP (kI (mX (pv 1) (pv 6)) (pv 2) set_list))))
   (aa (jy cP (kI (mX (pv 1) aj) (pv 2) set_list))
   (aa (jy (aP bQ) (kI (mX (pv 1) aj) (pv 2) set_list))
   (aa (jy (aP bQ) (kI (mX (pv 1) aj) (pv 2) set_list))
   (af (au cP)))))))))) with⟨tp,A,G,U,ls,i,t,rfl,ht,fz,hs,ok,hi,sm,⟨o1,o2⟩,k⟩
 let bo:=ok.len;let(f1,f2,f3,f4):=eO hi;let bd:=ht.same fz.sub;let(gp,ep,wp,np,as,t1,t0,t2,t3,t4,t5,t6):=id bd;let ak:∀(g:Nat->V),xE ((hD U.length).map g).length i=some i:=λg=>IP (by rwa[gQ,mK]);erw[Jc (M:=λR H'=>aH H H'/\R=[some (.ref tp),some (.ref A.s),some (.int i),some (.int (bP U i)),none,none,none]) (λN S=>?_) ?_]
 .let(q,d1,d2):=hs.gdu;lk;erw[sR (jx.of t1) rfl ?_,gB (fT.of t2) (bL hi) ?_,lR d1 ?_,(l8 ∅,λp W=>?_)];erw[gW d2 W ?_];generalize e_s2:upd H p _=H2;let s2:=gS e_s2 W;let az:=S [some (.ref tp),some (.ref A.s),some (.int i),some (.int (bP U i)),none,none,none] H2 (s2,rfl);by_cases z:ls.due=[]
  .rw[z];lk;erw[az]
  .let hh:=o1 z
   obtain⟨r,z⟩:∃r,ls.due=i::r:=by
    cases y:ls.due with
    |nil=>lia
    |cons a r=>rw[y]at hh;exact(r,by rw[iJ hh])
   let(q2,d3,d4):=(hs.same s2).gdu;rw[z]at d4 ⊢;lk;erw[lR d3 ?_,gB (fT.of d4) (cb rfl) ?_,bR (λe=>?_) (λ_=>az)];simp_all
 rintro bm H1 ⟨s1,rfl⟩;let bg:=hs.same s1;obtain⟨D,eD⟩:∃D,D=if ls.due=[] then jj i (en U i-i) else ls.due:=(_,rfl)
 let bE:D.length<=64:=by
  rw[eD]
  split
  .rw[akH];lia
  .exact sm.1
 erw[C8 (M:=λR H'=>cJ A H H'/\iT H' U.length {less U ls i with due:=D} A/\∃v4 v5,R=[some (.ref tp),some (.ref A.s),some (.int i),some (.int (bP U i)),v4,v5,none]) (λN S=>?_) ?_]
 .let(q,d1,d2):=bg.gdu;lk;erw[lR d1 ?_,(l8 ∅,λp W=>?_)];erw[gW d2 W ?_];generalize e_s2:upd H1 p _=H2;let s2:=s1.trans (gS e_s2 W);let L:=hs.same s2;by_cases z:ls.due=[]
  .rw[z];rw[fR z]at eD
   let e0:iT H2 U.length ([],ls.put,ls.anw,ls.on,ls.told,ls.good,ls.down) A:=by
    rw[show (([],ls.put,ls.anw,ls.on,ls.told,ls.good,ls.down))=ls by rw[<- z]];erw[L]
   lk;erw[(λj σ H'=>∃a,i<=a/\a<=en U i/\j=en U i-a/\cJ A H H'/\iT H' U.length {ls with due:=jj i (a-i)} A/\σ=[some (.ref tp),some (.ref A.s),some (.int i),some (.int (bP U i)),some (.int a),none,none],(en U i-i,i,gx _,(),rfl,cJ.of_same s2,by rwa[Bn],rfl),?_)];rintro j σ H3 ⟨a,a1,a2,rfl,b3,J,rfl⟩;let(be,bn,bO,bv,bJ,u1,u0,u2,u3,u4,u5,u6):=ht.same (fz.but b3).sub;let(q3,e3,c3):=J.gdu;erw[WR (decide (a<en U i)) (λN S=>?_) ?_]
   .lk;erw[sR (jx.of u1) rfl ?_,jl be _ (kz rfl (.inl (fT.of u0)) ?_)];rw[gQ,mK];lk;refine bR (λy1=>?_) (λy1=>?_)
    .let y1:a<U.length:=by lia
     lk;erw[bR (λy2=>?_) (λy2=>?_)]
     .rw[gy (show a<en U i by lia)]at S;erw[S]
     .let y2:a≠i:=λy=>y2 (gy (iY V.int ()));lk;erw[sR (jx.of u1) rfl ?_,gB (fT.of u0) (bL y1) ?_,sR (jx.of u1) rfl ?_,gB (fT.of u0) (bL hi) ?_];lk
      let e:decide (((dp U i:Nat))<((dp U a):Int))=decide (a<en U i):=by
       erw[ajL.mpr (λy=>?_,λy=>?_)]
       .by_cases c:a<en U i
        .exact c
        .rcases f4 with f4|f4
         .lia
         .rw[show en U i=a by lia]at f4
          lia
       .let:=f3 a () y
        lia
      rwa[e]
    .rw[iR (show ¬a<en U i by lia)]at S;erw[S]
   by_cases y:a<en U i
   .rw[gy y];refine(λR H'=>cJ A H H'/\iT H' U.length {ls with due:=jj i (a+1-i)} A/\R=[some (.ref tp),some (.ref A.s),some (.int i),some (.int (bP U i)),some (.int ((a+1:Nat))),none,none],?_,?_)
    .rintro R H' ⟨b4,I,rfl⟩;exact(en U i-(a+1),(),a+1,(),(),rfl,b4,I,rfl)
    lk;erw[lR e3 ?_,(l8 (by show 1<=100;decide),λp6 al=>?_)];let s6:=aq (o:= .lst [V.int a]) al;let c6:(upd H3 p6 (.lst [V.int a])) p6=some (.lst [V.int a]):=ae;generalize upd H3 p6 (.lst [V.int a])=H6 at s6 c6;erw[(q3,p6,_,_,rfl,rfl,s6 _ _ c3,c6,by rw[gQ,akH];exact fq (by show _+1<=1000;lia),λp7 a7=>?_)];let aN:=J.same s6;let nq:=aN.CD a7
    let el:jE (jj i (a-i))++[V.int a]=jE (jj i (a+1-i)):=by
     unfold jE;rw[show a+1-i=a-i+1 by lia,anm,kr,akd,show i+(a-i)=a by lia]
     rfl
    rw[el];generalize e_s7:upd H6 p7 _=H7;let s7:=gS e_s7 a7;let c7:=gA e_s7;let(H8,g8,b8,ab):=(aN.same s7).adu c7 nq;lk;erw[(A.s,H8,rfl,g8,?_)];lk;exact((b3.trans (cJ.of_same (s6.trans s7))).trans b8,ab,rfl)
   .rw[iR y];rw[show a=en U i by lia,<-eD]at J;rcases aas ok hi with⟨pe,ee⟩|⟨m,pe,ee,hm,bB⟩
    .lk;rw[iR (show ¬0<=bP U i by lia)];erw[S _ _ (b3,?_,_,_,rfl)];unfold less;rwa[fR z,pe]
    .let(x1,x2,x3):=o2 z m pe
     obtain⟨r,er⟩:∃r,left ls m=i::r:=by
      cases y:left ls m with
      |nil=>rw[y]at x3;cases x3
      |cons a r=>rw[y]at x3;exact(r,by rw[iJ x3])
     rw[ee]at S ⊢;let a5:∀(g:Nat->V),xE ((hD U.length).map g).length m=some m:=λg=>IP (by rwa[gQ,mK]);lk;erw[iG A U.length _ m (gT rfl J hm (sm.2 m).2 (λq4 H4 s4 bi O=>?_))];let O:H4 q4=some (.lst (jE (left ls m))):=O;rw[er]at O;let I:=J.same s4;lk;erw[lR I.gdn ?_,gB (fT.of I.dn) (bL hm) ?_];rw[show ({ls with due:=D}:LA).down m=false from x1];lk;erw[iG A U.length _ m (gT rfl I hm (sm.2 m).1 (λq5 H5 s5 bF ac=>?_))];let ac:H5 q5=some (.lst (jE (live ls m))):=ac;rw[x2]at ac;erw[(l8 ∅,λp W=>?_)];erw[gW ac W ?_];generalize e_s6:upd H5 p _=H6;let s6:=s5.trans (gS e_s6 W);lk;erw[(l8 ∅,λp W=>?_)];erw[gW (s6 _ _ O) W ?_];generalize e_s7:upd H6 p _=H7;let s7:=s6.trans (gS e_s7 W);lk;erw[gB (fT.of (s7 _ _ O)) (cb rfl) ?_,bR (λe=>absurd e (by simp)) (λ_=>?_),(q4,_,rfl,fT.of (s7 _ _ O),λp8 aF=>?_)]
     let e8:Bo (jE (i::r)) (some 1) none=jE r:=by
      rw[show (some 1)=some ((1:Nat):Int) from rfl,DT]
      rfl
     rw[e8];let h:=I.same s7;let nq:=h.CD aF;generalize e_s8:upd H7 p8 _=H8;let s8:=gS e_s8 aF;let c8:=gA e_s8;let ab:=h.same s8;let(xs,X,l2):=ab.l 1 ∅;lk;erw[lR ab.gan ?_,EW X (a5 _) ?_];let h9:=ab.Eh ∅ X l2 m c8 nq;let b9:cJ A H8 (upd H8 (A.e 1) (.lst (((hD U.length).map λk=>V.ref (xs k)).set m (.ref p8)))):=cJ.upd (Kp ∅);generalize upd H8 (A.e 1) (.lst (((hD U.length).map λk=>V.ref (xs k)).set m (.ref p8)))=H9 at h9 b9;erw[(l8 ∅,λu x=>?_)];let Z:=h9.CD x;let sS:=aq (o:= .lst []) x;let Y:(upd H9 u (.lst [])) u=some (.lst (jE [])):=ae;let B:=h9.same sS;let(xs,X,l2):=B.l 0 ∅;lk;erw[lR B.gpt ?_,EW X (a5 _) ?_];let C:=B.Eh ∅ X l2 m Y Z;erw[S _ _ ((((b3.trans (cJ.of_same ((s4.trans s7).trans s8))).trans b9).trans (cJ.of_same sS)).trans (cJ.upd (Kp ∅)),?_,_,_,rfl)];unfold less;rw[fR z,pe];show iT _ _ {ls with due:=D,anw:=aW ls.anw m (left ls m).tail,put:=aW ls.put m []} A;rwa[er]
  .rw[iR z];rw[fC z]at eD;lk;erw[S _ _ (cJ.of_same s2,?_,_,_,rfl)];rw[eD];unfold less;rwa[fC z]
 rintro bq H2 ⟨b2,L,v4,v5,rfl⟩;let(q3,e3,c3):=L.gdu;lk;erw[lR e3 ?_,(q3,_,rfl,fT.of c3,λp4 a3=>?_)]
 let e4:Bo (jE D) (some 1) none=jE D.tail:=by
  rw[show (some 1)=some ((1:Nat):Int) from rfl,DT,<-amS,List.drop_one]
 rw[e4];let nq:=L.CD a3;generalize e_s4:upd H2 p4 _=H4;let s4:=gS e_s4 a3;let c4:=gA e_s4;let(H5,g5,b5,ad):=(L.same s4).adu c4 nq;let b5:=(b2.trans (cJ.of_same s4)).trans b5;obtain⟨l5,a0⟩:∃l5:LA,l5={less U ls i with due:=D.tail}:=(_,rfl);let ad:iT H5 U.length l5 A:=by rwa[a0]
 lk;erw[(A.s,H5,rfl,g5,?_),(l8 (by decide),λp6 al=>?_)];let n6:=ad.CD al;generalize e_s6:upd H5 p6 _=H6;let s6:=gS e_s6 al;let c6:=gA e_s6;erw[(p6,rfl,(_,fT.of c6),?_)];erw[p9 (n:=3) (λj σ H'=>cJ A H H'/\H' p6=some (.lst [V.str "told",V.str "good",V.str "down"])/\iT H' U.length (YK l5 i j) A/\∃v6,σ=[some (.ref tp),some (.ref A.s),some (.int i),some (.int (bP U i)),v4,v5,v6]) (b5.trans (cJ.of_same s6),c6,ad.same s6,_,rfl) ?_ ?_ ?_]
 .rintro j σ H' hj ⟨_,c7,_⟩;let:j=0\/j=1\/j=2:=by lia
  rcases this with rfl|rfl|rfl
  .exact (_,V.str "told",fT.of c7,rfl)
  .exact (_,V.str "good",fT.of c7,rfl)
  .exact (_,V.str "down",fT.of c7,rfl)
 .rintro j σ H' v H7 hj ⟨b7,c7,h,v6,rfl⟩ ⟨rfl,hv⟩;let hv:=hv _ (fT.of c7)
  let ev:V.str (WM (j+1))=v:=by
   let:j=0\/j=1\/j=2:=by lia
   rcases this with rfl|rfl|rfl<;>erw[iJ hv]
  subst ev;lk;erw[lR (h.gb ()) ?_,EW (h.b (j+1) ()) (ak _) ?_];exact(b7.trans (cJ.upd (IE ())),by rw[ag (λz=>n6.1 (by rw[z];erw[IE ()]))];exact c7,h.setB () i false,_,rfl)
 rintro σ H7 ⟨b7,c7,h,v6,rfl⟩;erw[((_,fT.of c7,gx _),?_)];obtain⟨l7,bb⟩:∃l7:LA,l7={l5 with told:=aW l5.told i false,good:=aW l5.good i false,down:=aW l5.down i false}:=(_,rfl);let h:iT H7 U.length l7 A:=by rwa[bb]
 lk;erw[lR h.XP ?_,EW h.on (ak _) ?_];let h8:=h.setB (j:=0) ∅ i true;let b8:cJ A H7 (upd H7 (A.c 0) (.lst (((hD U.length).map λk=>V.bl (l7.on k)).set i (.bl true)))):=cJ.upd (IE ∅);let h8:iT (upd H7 (A.c 0) (.lst (((hD U.length).map λk=>V.bl (l7.on k)).set i (.bl true)))) U.length {l7 with on:=aW l7.on i true} A:=h8;generalize upd H7 (A.c 0) (.lst (((hD U.length).map λk=>V.bl (l7.on k)).set i (.bl true)))=H8 at h8 b8;erw[(l8 ∅,λu x=>?_)];let Z:=h8.CD x;let sS:=aq (o:= .lst []) x;let Y:(upd H8 u (.lst [])) u=some (.lst (jE [])):=ae;generalize upd H8 u (.lst [])=H10 at sS Y;let B:=h8.same sS;let(xs,X,l2):=B.l 0 ∅;lk;erw[lR B.gpt ?_,EW X (ak _) ?_];let C:=B.Eh ∅ X l2 i Y Z;let aK:cJ A H10 (upd H10 (A.e 0) (.lst (((hD U.length).map λk=>V.ref (xs k)).set i (.ref u)))):=cJ.upd (Kp ∅);generalize upd H10 (A.e 0) (.lst (((hD U.length).map λk=>V.ref (xs k)).set i (.ref u)))=H11 at C aK;erw[(l8 ∅,λan am=>?_)];let aA:=C.CD am;let ax:=aq (o:= .lst []) am;let a4:(upd H11 an (.lst [])) an=some (.lst (jE [])):=ae;let ap:=C.same ax;let(xs,X,l2):=ap.l 1 ∅;lk;erw[lR ap.gan ?_,EW X (ak _) ?_];let a6:=ap.Eh ∅ X l2 i a4 aA;erw[k _ (((((b7.trans b8).trans (cJ.of_same sS)).trans aK).trans (cJ.of_same ax)).trans (cJ.upd (Kp ∅))) ?_];let(g1,g2,g3,g4):=afm U ls i;show iT _ _ (nxB U ls i) A;unfold nxB;rw[<- eD,<-g1,<-g2,<-g3,<-g4];rw[bb,a0]at a6;erw[a6]
def aaZ{T:Re}(h:gD T){i:Nat}(a:i<T.length):(T.map λr=>r.sh.name)[i]? =some (sh T i).name/\∀m,m<i->(T.map λr=>r.sh.name)[m]? ≠some (sh T i).name:=by
 let e:(T.map λr=>r.sh.name)[i]? =some (sh T i).name:=by rw[i6,hY a,Yc a];rfl
 erw[(e,λm g z=>?_)];let c:(T.map λr=>r.sh.name).length=T.length:=gQ _;let:=(anJ (by lia) h.nd).mp (z.trans e.symm)
 lia
def QU(K:gI):Sp:=λvs H Q _=>∃(a e:eF) (A:sN) (G:Hp) (T:Re) (ls:LA) (i:Nat) (t:Int) (wd:Str),vs=[.ref a,.ref A.s,.ref e]/\Bf G a T/\jx K G e [.int t,.str wd,.str (sh T i).name]/\Fz A H G/\iT H T.length ls A/\gD T/\i<T.length/\Sm T ls/\okA T ls (t,wd,i)∧
 ∀H',cJ A H H'->iT H' T.length (qD T ls (t,wd,i)) A->Q (.bl true) H'
def WS(F:wv "_law_entry" NY)(T:Txt mg)(C:wE true 2 "_law_begun" (spL "begun" QZ) [])(M:wE true 2 "_law_told" (spL "told" TB) [])(L:wE true 2 "_law_answers" (spL "answers" UL) [])(I:wE true 1 "_law_kept" Zt []):zn 3 Ti (QU K):=by
 rcases Pa,(aa (bH (i:=3) Pa.nd (gg xZ PySem.F.slot_list_index PySem.F.type_list_index aaF (ig de (pv 0) ai) {ig de (pv 2) ai}))
   (aa (aO (ix cq (ig de (pv 2) ai) aj) (af (au (cn C {pv 0,pv 1,pv 3}))) ay)
   (aa (aO (ix cq (ig de (pv 2) ai) aj) (af (au (cn M {pv 0,pv 1,pv 3}))) ay)
   (aa (aO (ix cq (ig de (pv 2) ai) aj) (af (au (cn L {pv 0,pv 1,pv 3}))) ay)
   (aa (aO (ix cq (ig de (pv 2) ai) aj) (aa (jy cP (kI (mX (pv 1) aj) (pv 3) set_list))
   (af (au cP))) ay)
   (aa (jy cP (kI (mX (pv 1) aj) (pv 3) set_list))
   (aa (aO (PW.pt (iq (fA (bx (ig aB (mX (pv 1) aj) (pv 3)))) (eU (fA (bx (cn I {pv 0,pv 3,ig de (pv 2) ai})))))) (af (jy cP (kI (mX (pv 1) aj) (pv 3) set_list))) ay)
   (af (au cP))))))))) with⟨tp,e,A,G,U,ls,i,t,wd,rfl,ht,he,fz,hs,ok,hi,sm,ho,k⟩
 let q:=ht.same fz.sub;let a:=jx.same fz.sub he;let(O,W,S,y,as,t1,Z,X,N,R,t5,o):=id q;let(J,B):=aaZ ok hi;let m:∀(g:Nat->V),xE ((hD U.length).map g).length i=some i:=λg=>IP (by rwa[gQ,mK]);let o:H y=some (.lst ((U.map λr=>r.sh.name).map V.str)):=by rwa[akl]
 lk;erw[sR (jx.of t1) rfl ?_];erw[(.inl (rfl,_,fT.of o),?_),sR a rfl ?_,iG y _ _ i (pE rfl rfl (fT.of o) J B ?_),sR a rfl ?_,bR (λe1=>?_) (λe1=>?_)]
 .let e1:=V.str.inj (iB e1);subst e1;lk;erw[ml tp A G U ls i t (DK rfl ht fz hs ok hi sm ho k)]
 let e1:wd≠"begun":=λz=>e1 (gy (iY V.str z));lk;erw[sR a rfl ?_,bR (λe2=>?_) (λe2=>?_)]
 .let e2:=V.str.inj (iB e2);subst e2;lk;erw[ml tp A G U ls i t (DK rfl ht fz hs ok hi sm ho k)]
 lk;erw[sR a rfl ?_,bR (λe3=>?_) (λe3=>?_)]
 .let e3:=V.str.inj (iB e3);subst e3;lk;erw[ml tp A G U ls i t (DK rfl ht fz hs ok hi sm ho k)]
 lk;erw[sR a rfl ?_,bR (λe4=>?_) (λe4=>?_)]
 .let e4:=V.str.inj (iB e4);subst e4;lk;erw[lR hs.gdn ?_,EW hs.dn (m _) ?_,k _ (cJ.upd (IE ∅)) (hs.setB ∅ i true)]
 let e4:wd≠"gives up":=λz=>e4 (gy (iY V.str z))
 let D:isWord wd:=by
  unfold okA at ho;simp_all
 rw[ZO D]at k;lk;erw[lR hs.XP ?_,EW hs.on (m _) ?_];let h:=hs.setB (j:=0) ∅ i false;let n:cJ A H (upd H (A.c 0) (.lst (((hD U.length).map λk=>V.bl (ls.on k)).set i (.bl false)))):=cJ.upd (IE ∅);let h:iT (upd H (A.c 0) (.lst (((hD U.length).map λk=>V.bl (ls.on k)).set i (.bl false)))) U.length {ls with on:=aW ls.on i false} A:=h;let x:=ht.same (fz.but n).sub;let v:=jx.same (fz.but n).sub he;lk;erw[lR h.gtl ?_,gB (fT.of h.tl) (bL hi) ?_];cases td:ls.told i with
 |true=>
  rw[fC (λz=>by simp_all)]at k;lk;erw[k _ n h]
 |false=>
  lk;erw[sR v rfl ?_,iG tp U i wd (ll rfl x hi (λY u=>?_))];let p:=h.same u;cases bg:begun (sh U i) wd with
  |true=>
   rw[fC (λz=>by simp_all)]at k;lk;erw[k _ (n.trans (cJ.of_same u)) p]
  |false=>
   rw[fR (td,bg)]at k;lk;erw[lR p.ggd ?_,EW p.gd (m _) ?_,k _ ((n.trans (cJ.of_same u)).trans (cJ.upd (IE ∅))) (p.setB ∅ i true)]
theorem Qv:∀(a b:List Nat),zQ (jE a) (jE b)=decide (a=b)
 |[],[]=>rfl
 |[],_::_=>rfl
 |_::_,[]=>rfl
 |a::r,b::q=>by
  show(pf (.int a) (.int b)&&zQ (jE r) (jE q))=_;rw[Qv r q];rw[tL];simp[pf];intro _;exact(λz=>(),λz=>())
def abm{c:Bool}{H:Hp}{q p:eF}{a b:List Nat}{Q:VK}(e:H q=some (.lst (jE a)))(g:H p=some (.lst (jE b)))(k:Q (.bl (if c then !decide (a=b) else decide (a=b))) H):ab2 K c (.ref q) (.ref p) H Q:=by
 erw[(q,p,_,_,rfl,rfl,fT.of e,fT.of g,EA a,EA b,?_)];rwa[Qv]
def UZ:Sp:=λvs H Q _=>∃(a:eF) (A:sN) (T:Re) (ls:LA),vs=[.ref a,.ref A.s]/\Bf H a T/\iT H T.length ls A/\gD T/\Sm T ls/\ls.due=[]/\(∀m,m<T.length->f7 T m=false->ls.on m=true->quiet T ls m)/\∀H',aH H H'->Q (.bl true) H'
def adT{T:Re}(a:T.length<=64){ls:LA}(e:Sm T ls)(m:Nat):In T.length (tG T ls m):=by
 unfold tG
 split
 .exact (jC (yS _ _) (by rw[ajJ];erw[EE a m]),λk c=>(aZ (OH.mp (mJ.mp c).1)).1)
 .exact (jC (yS _ _) (e.2 m).1.1,λk c=>(e.2 m).1.2 k (mJ.mp c).1)
def VS(F:wv "_law_quiet" MD)(T:Txt mg)(zt:wE true 1 "_law_young" Ox [])(mP:wE true 1 "_law_live" HA []):zn 2 Tg UZ:=by
 rcases qv,(aa (aO (ix (vR (iM hr)) (mX (pv 1) aj) (aP bQ)) (af (au cP)) ay)
   (aa (lM yu rfl (jN ⋯ T.lX {a9 aU ⋯ T.fH cW {ig de (pv 0) ai}}) (c9 (i:=2) qv.nd rfl (by k_ne)) (af (aO (PW.pt (iq (ix cq (ig aB (ig aB (ig de (pv 0) ai) (pv 2)) ai) aj) (eU (bx (ig aB (mX (pv 1) aj) (pv 2)))))) (aa (bH (i:=3) qv.nd (cn zt {pv 0,pv 2}))
   (aa (bH (i:=4) qv.nd (cn mP {pv 1,pv 2}))
   (aa (aO (bx (ig aB (mX (pv 1) aj) (pv 2))) (af (lT (j:=4) qv.nd rfl (by k_ne) (fr:=[("_law_state",1)]) (by kd_p) rfl (YY ⋯ T.JB {pv 3}) (λ_ _ _ _=>(mL (bx (ig (gM rfl) (rE (pI hr) (pv 1) aj (λ_ _=>rfl)) (pv 0))))) (λ_ _ _ _=>(pv 0)))) ay)
   (aa (lT (j:=5) qv.nd rfl (by k_ne) (fr:=[("_law_state",1)]) (by kd_p) rfl (eo (pv 4)) (λ_ _ _ _=>(mL (bx (ig (gM rfl) (rE (pI hr) (pv 1) aj (λ_ _=>rfl)) (pv 0))))) (λ_ _ _ _=>(pv 0)))
   (aa (aO (PW.pt (nR (PW.pt (iq (ix (vR (iM hr)) (pv 4) (aP bQ)) (eU (ix (vR (iM hr)) (pv 5) (pO uT (pv 4) C6 (oG ai)))))) (qp (PW.pt (iq (ix (A1 (iM hr)) (pv 4) (aP bQ)) (eU (bx (ig aB (mX (pv 1) aj) (pv 2))))))))) (af (au cP)) ay)
   (aa (lT (j:=6) qv.nd rfl (by k_ne) (fr:=[("_law_state",1)]) (by kd_p) rfl (eo (pv 3)) (λ_ _ _ _=>(mL (PW.pt (iq (fA (bx (ig (gM rfl) (rE (pI hr) (pv 1) aj (λ_ _=>rfl)) (pv 0)))) (eU (fA (bx (ig (gM rfl) (rE (pI hr) (pv 1) aj (λ_ _=>rfl)) (pv 0))))))))) (λ_ _ _ _=>(pv 0)))
   (af (aO (PW.pt (iq (ix (A1 (iM hr)) (pv 4) (aP bQ)) (eU (ix (vR (iM hr)) (pv 6) (aP bQ))))) (af (au cP)) ay)))))))) ay)))
   (af (au cP)))) with⟨tp,A,U,ls,rfl,ht,hs,ok,sm,hd,hq,k⟩
 let C:=ok.len;let(q0,d1,d2):=hs.gdu;lk;erw[lR d1 ?_,(l8 ∅,λp L=>?_)];erw[gW d2 L ?_];rw[hd];generalize e_s1:upd H p _=H1;let s1:=gS e_s1 L;let ap:=ht.same s1;let(gp,ep,wp,np,as,t1,t0,t2,t3,t4,t5,t6):=id ap;lk;erw[sR (jx.of t1) rfl ?_,jl ep _ (kz rfl (.inl (fT.of t2)) ?_)];rw[gQ,mK];lk;erw[((),(),?_)];erw[zl (λj σ H'=>aH H1 H'/\∃v2 v3 v4 v5 v6,σ=[some (.ref tp),some (.ref A.s),v2,v3,v4,v5,v6]) (aH.refl _,_,_,_,_,_,rfl) ?_ ?_]
 .rintro j σ H2 hj ⟨s2,v2,v3,v4,v5,v6,rfl⟩;rw[anr];let hk:j<U.length:=by lia
  let Y:=s1.trans s2;let D:=hs.same Y;let J:=ht.same Y;let(gp,ep,wp,np,as,t1,t0,t2,t3,t4,t5,t6):=id J;let(hd,al,_,ac):=Me;let h:as[j]? =some (as[j]'()):=hY _;generalize as[j]'()=x at h;let tx:=t5 j x h;lk;erw[sR (jx.of t1) rfl ?_,gB (fT.of t3) (cb (by rw[i6,h];rfl)) ?_,gB (fT.of tx) (Nu al) ?_];lk;rw[ac];cases hl:f7 U j with
  |true=>
   exact(s2,_,_,_,_,_,rfl)
  |false=>
   lk;erw[lR D.XP ?_,gB (fT.of D.on) (bL hk) ?_];cases on:ls.on j with
   |false=>
    lk;exact(s2,_,_,_,_,_,rfl)
   |true=>
    let(q1,q2):=hq j hk hl on;let W:=adT C sm j;lk;erw[mI tp U j (ll rfl J ok (λy H3 s3 hy y3=>?_))];let O:=D.same s3;lk;erw[iG A U.length ls j (gT rfl O hk (sm.2 j).1 (λz H4 s4 hz z4=>?_))];let c:=O.same s4;let y4:=s4 _ _ y3;dsimp only[AI];erw[C8 (M:=λG H'=>∃u,aH H4 H'/\H' u=some (.lst (jE (tG U ls j)))/\G=[some (.ref tp),some (.ref A.s),some (.int j),some (.ref y),some (.ref u),v5,v6]) (λN hN=>?_) ?_]
    .lk;erw[lR c.gdn ?_,gB (fT.of c.dn) (bL hk) ?_];cases dn:ls.down j with
     |false=>
      lk;erw[hN _ _ (z,aH.refl _,?_,rfl)];unfold tG;rwa[dn]
     |true=>
      lk;erw[(y,_,rfl,fT.of y4,HQ (p:=ls.on) (fT.of y4) (EE C j) (λx h R r=>?_) (λu hu=>?_))]
      .lk;erw[lR c.XP ?_,gB (fT.of c.on) (bL (aZ h).1) ?_,r]
      .refine hN _ _ (u,aq hu,?_,rfl);unfold tG;rw[dn];erw[ae]
    rintro ax H5 ⟨u,s5,u5,rfl⟩;let t:=c.same s5;let y5:=s5 _ _ y4;lk;erw[((_,fT.of u5),tI (p:=ls.told) (fT.of u5) W.1 (λx h R r=>?_) (λv hv=>?_))]
    .lk;erw[lR t.gtl ?_,gB (fT.of t.tl) (bL (W.2 x h)) ?_,r]
    generalize e_s6:upd H5 v _=H6;let s6:=gS e_s6 hv;let an:=gA e_s6;let B:=t.same s6;let y6:=s6 _ _ y5;let S:=s6 _ _ u5;let am:=((s2.trans s3).trans (s4.trans s5)).trans s6;dsimp only[AI];erw[C8 (M:=λG H'=>aH H6 H'/\G=[some (.ref tp),some (.ref A.s),some (.int j),some (.ref y),some (.ref u),some (.ref v),v6]) (λN hN=>?_) ?_]
    .lk;erw[(l8 ∅,λp L=>?_)];erw[gW S L ?_];generalize e_s7:upd H6 p _=I;let q:=gS e_s7 L;by_cases e:tG U ls j=[]
     .rw[gy e];lk;erw[(l8 ∅,λp2 a=>?_)];erw[gW (q _ _ S) a ?_];generalize e_s8:upd I p2 _=H8;let g:=q.trans (gS e_s8 a);rw[gy e];lk;erw[lR (B.same g).gdn ?_,gB (fT.of (B.same g).dn) (bL hk) ?_];rw[(q2 e).1];lk;erw[hN _ _ (g,rfl)]
     .rw[iR e];lk;refine(u,_,rfl,fT.of (q _ _ S),λp8 ad=>?_)
      let e8:Bo (jE (tG U ls j)) none (some 1)=jE ((tG U ls j).take 1):=by
       rw[show (some 1)=some ((1:Nat):Int) from rfl,UN,<-ak0]
      rw[e8];generalize e_s8:upd I p8 _=H8;let g:=q.trans (gS e_s8 ad);let c8:=gA e_s8;erw[abm (g _ _ an) c8 ?_];rw[q1 e,gy rfl];lk;erw[(l8 ∅,λp2 a=>?_)];erw[gW (g _ _ S) a ?_];generalize e_s9:upd H8 p2 _=H9;let s9:=g.trans (gS e_s9 a);rw[iR e];lk;erw[hN _ _ (s9,rfl)]
    rintro az I ⟨q,rfl⟩;let m:=B.same q;let y7:=q _ _ y6;let u7:=q _ _ S;lk;erw[((_,fT.of y7),tI (p:=λx=> !ls.on x&& !ls.good x) (fT.of y7) (EE C j) (λx h R r=>?_) (λl ak=>?_))]
    .lk;erw[lR m.XP ?_,gB (fT.of m.on) (bL (aZ h).1) ?_];cases ox:ls.on x with
     |true=>
      rw[ox]at r;lk;erw[r]
     |false=>
      rw[ox]at r;lk;erw[lR m.ggd ?_,gB (fT.of m.gd) (bL (aZ h).1) ?_,r]
    let g:=aq (o:= .lst (jE ((kids U j).filter λx=> !ls.on x&& !ls.good x))) ak;let ab:(upd I l (.lst (jE ((kids U j).filter λx=> !ls.on x&& !ls.good x)))) l=_:=ae;generalize upd I l (.lst (jE ((kids U j).filter λx=> !ls.on x&& !ls.good x)))=H8 at g ab;let Z:=(am.trans q).trans g;lk;erw[(l8 ∅,λp2 a=>?_)];erw[gW (g _ _ u7) a ?_];generalize e_s9:upd H8 p2 _=H9;let s9:=gS e_s9 a;by_cases e:tG U ls j=[]
    .rw[gy e];lk;erw[(l8 ∅,λp3 X=>?_)];erw[gW (s9 _ _ ab) X ?_];generalize e_s10:upd H9 p3 _=H10;let sS:=s9.trans (gS e_s10 X);rw[(q2 e).2];lk;exact(Z.trans sS,_,_,_,_,_,rfl)
    .rw[iR e];lk;exact(Z.trans s9,_,_,_,_,_,rfl)
 .rintro σ H2 ⟨s2,v2,v3,v4,v5,v6,rfl⟩;erw[k _ (s1.trans s2)]
def UW(K:gI):Sp:=λvs H Q _=>∃(a:eF) (ns:List Int),vs=[.ref a]/\fT K H a (ns.map V.int)/\∀H',Q (.bl true) H'
def comp_const{n:Nat}{v:V}{a:St}{fr:List (Str×Nat)}{c:TE}{H:Hp}{Q:VK}(g:n<=1000)(h:∀u H' R,R v H'->c (inner a fr u) H' R)(k:∀p,H p=none->Q (.ref p) (upd H p (.lst ((hD n).map λ_=>v)))):Fv (MR 0 n) a fr aew c H Q:=by
 erw[cO (λi ys H'=>H'=H/\ys=(hD i).map λ_=>v) (rfl,rfl) (λi ys H' e _=>e) (λys H' _=>gx _) ?_ ?_]
 .rintro i ys H' u H2 e ⟨rfl,rfl⟩ ⟨rfl,rfl⟩;erw[h _ _ _ (by rw[gQ,mK];exact aM (),rfl,?_)];rw[F1,kr]
  rfl
 .rintro ys H' ⟨rfl,rfl⟩;exact(vC (by rw[gQ,mK];erw[aM g]),k)
def HP{n:Nat}{t:St}{fr:List (Str×Nat)}{H:Hp}{Q:VK}(m:n<=1000)(k:∀(p:eF) (xs:Nat->eF) (H':Hp),aH H H'->H' p=none->(∀k,k<n->H (xs k)=none/\H' (xs k)=some (.lst []))->Q (.ref p) (upd H' p (.lst ((hD n).map λk=>V.ref (xs k))))):Fv (MR 0 n) t fr aew (agQ Vg) H Q:=by
 erw[cO (λi ys H'=>aH H H'/\∃xs:Nat->eF,ys=(hD i).map (λk=>V.ref (xs k))/\∀k,k<i->H (xs k)=none/\H' (xs k)=some (.lst [])) (aH.refl _,λ_=>0,rfl,λk v=>absurd v (ze k)) (λi ys H' e _=>e) (λys H' _=>gx _) ?_ ?_]
 .rintro i ys H' u H2 e ⟨s,xs,rfl,hx⟩ ⟨rfl,rfl⟩;refine(l8 ∅,λq a=>(by rw[gQ,mK];exact aM (),s.trans (aq a),aW xs i q,?_,λj c=>?_))
  .rw[F1,kr]
   congr 1
   .refine aj3 λj c=>?_;rw[cG (by let:=qG.mp c;lia)]
   .show [V.ref q]=[V.ref (aW xs i q i)];rw[bG]
  .by_cases z:j=i
   .subst z;rw[bG];erw[(?_,ae)];cases y:H q with
    |none=>rfl
    |some o=>rw[s _ _ y]at a;cases a
   .rw[cG z];let(g,h):=hx j ();exact(g,aq a _ _ h)
 .rintro ys H' ⟨s,xs,rfl,hx⟩;exact(vC (by rw[gQ,mK];erw[aM m]),λp r=>k p xs H' s r hx)
theorem ac7{T:Re}:∀{es:List En} {ls:LA},(Ga.rd T).Ok ls es->∀{j:Nat} (a:j<es.length),okA T ((Ga.rd T).run ls (es.take j)) es[j]
 |e::es,ls,h,0,_=>h.1
 |e::es,ls,h,j+1,a=>ac7 (ls:=qD T ls e) h.2 (Nat.lt_of_succ_lt_succ a)
def XC{T:Re}{ls:LA}{es:List En}{j:Nat}(h:j<es.length):(Ga.rd T).run ls (es.take (j+1))=qD T ((Ga.rd T).run ls (es.take j)) es[j]:=by
 rw[AD,hY h,Gr.oZ]
 rfl
theorem anu{n:Nat}:In n []:=(qj _,λ_ z=>by cases z)
theorem In.sub{n:Nat}{l l':List Nat}(h:In n l)(s:l'.Sublist l):In n l':=(jC s.length_le h.1,λk a=>h.2 k (s.subset a))
theorem Sm.set{T:Re}{ls:LA}(h:Sm T ls){d:List Nat}{p a:Nat->List Nat}(hd:d.length<=64)(e:∀m,In T.length (p m))(c:∀m,In T.length (a m)){l':LA}(e1:l'.due=d)(e2:l'.put=p)(e3:l'.anw=a):Sm T l':=(by rwa[e1],λm=>by rw[e2,e3];exact(e m,c m))
def sZ{n:Nat}{g:Nat->List Nat}{i:Nat}{v:List Nat}(h:∀m,In n (g m))(a:In n v)(m:Nat):In n (aW g i v m):=by
 by_cases e:m=i
 .rwa[e,bG]
 .rw[cG e];erw[h m]
def afO{T:Re}(j:T.length<=64){ls:LA}(h:Sm T ls){e:En}(n:e.i<T.length):Sm T (qD T ls e):=by
 let g:=λm=>(h.2 m).1;let a:=λm=>(h.2 m).2;unfold qD
 split
 .let le:(∀m,In T.length ((less T ls e.i).put m))/\∀m,In T.length ((less T ls e.i).anw m):=by
   unfold less
   split
   .split
    .rename_i m _
     exact(sZ g anu,sZ a ((a m).sub ((List.tail_sublist _).trans (List.filter_sublist ..))))
    .exact (g,a)
   .exact (g,a)
  erw[h.set (d:=(if ls.due=[] then jj e.i (en T e.i-e.i) else ls.due).tail) ?_ (sZ le.1 anu) (sZ le.2 anu) rfl rfl rfl];let:=(eO n).2.1;rw[List.length_tail]
  split
  .rw[akH];lia
  .let:=h.1;lia
 .split
  .exact h.set h.1 g a rfl rfl rfl
  .split
   .split
    .rename_i m _
     let c:=LJ j (m:=m) n;erw[h.set h.1 (sZ g (jC (yS _ _) (by rw[ajJ];exact c.1),λk o=>c.2 k (OH.mp (mJ.mp o).1))) (sZ a c) rfl rfl rfl]
    .exact h
   .split
    .exact h.set h.1 g a rfl rfl rfl
    .exact h.set h.1 g a rfl rfl rfl
theorem ZU{T:Re}(a:T.length<=64):∀(es:List En) (ls:LA),(∀e∈es,e.i<T.length)->Sm T ls->Sm T ((Ga.rd T).run ls es)
 |[],_,_,h=>h
 |e::es,ls,hi,h=>ZU a es (qD T ls e) (λx c=>hi x (mf _ c)) (afO a h (hi e (lq ..)))
structure N3(R:HR SG)(H:Hp)(tp x q:eF)(A:sN)(cs:List V)(T:Re)(S:HS)(n:Nat)(ls:LA)(met:Nat):Prop where
 ex:∃(F:FS) (B G:Hp),R H x (T,S,n) F/\Ck F H B/\Fz A B G/\Bf G tp T/\G q=some (.lst cs)/\iT B T.length ls A
 az:∀y,¬A.z y
 wf:Wf T S
 jv:Jv T S
 en:S.ends=[]
 sd:ja T S No
 rd:∃es:List En,S.book.drop met=es.map (WH T)/\met<=S.book.length/\(∀e∈es,e.i<T.length)/\(Ga.rd T).Ok ls es/\uc T S ((Ga.rd T).run ls es)
 sm:Sm T ls
section
variable{R:HR SG}{Cl:eF->Prop}{H H':Hp}{tp x q:eF}{A:sN}{cs:List V}{U:Re}{S:HS}{n met:Nat}{ls:LA}
def N3.get(h:N3 R H tp x q A cs U S n ls met):H q=some (.lst cs):=by
 let(F,B,G,g,e,a,j,c,i):=h.ex;erw[e.1 _ _ (a.sub _ _ c)]
def N3.same(I:va R Cl)(h:N3 R H tp x q A cs U S n ls met)(s:aH H H'):N3 R H' tp x q A cs U S n ls met:=by
 let(F,B,G,a,i,c,j,g,e):=h.ex;exact((F,B,G,I.same s a,i.same s,c,j,g,e),h.az,h.wf,h.jv,h.en,h.sd,h.rd,h.sm)
end
def aaB{T:Re}(h:gD T):(new T).ends=[]:=by rw[Ei h];rfl
def Lv(d a e1:eF)(c:Nat->eF)(j:Nat):List (Key×V):=[(.inr "due",.ref d),(.inr "put",.ref a),(.inr "anew",.ref e1)]++(hD j).map λx=>(.inr (WM x),.ref (c x))
def aaz{d e e1 a:eF}{c:Nat->eF}{j:Nat}(h:j<4):putK (Lv d e e1 c j) (.inr (WM j)) (.ref a)=Lv d e e1 (aW c j a) (j+1):=by
 rcases b4 h with rfl|rfl|rfl|rfl<;>rfl
def aft{kk:Nat}{R:HR SG}{Cl:eF->Prop}{cL cN:eF}{TR:Hr.mq}(dU:kk<=50)(F:wv "law" P2)(T:Txt mg)(G:aam P w K mg eC kk R Cl cL cN)
  (fU:wE true 1 "_law_cell_at" (SM K) []) (RM:wE true 3 "_law_tree" (XB K) []) (Rx:wE true 1 "_law_text" (aav K) []) (Sw:wE true kk "read" (Xt TR) []) (am:wE true kk "built" (Qy TR R) [])
  (NJ:wE true 3 "_law_entry" (QU K) []) (MW:wE true 2 "_law_quiet" UZ []) (RB:wE true (kk+2) "_law_deed" (aaj K R) []):zn 63 adg (UW K):=by
 erw[F.CK pz λvs H Q E y0=>?_];let(sa,ns,rfl,hS,k):=y0;erw[(rfl,λda Ar fM s0 hr=>?_)];let a2:=G.rows.d
 let t8:∃t,nN (w9 true (gf P w) P w K mg eC adA "law" (ah P2) f da Ar fM s0 H E).je ((cZ P2).drop 5) t/\∀(H1:Hp) (X x:eF) (A:sN) (U:Re) (F:FS) (B G0:Hp) (v5:Option V),fT K H1 sa (ns.map V.int)->gD U->U.length<=11->R H1 x (U,new U,0) F->Ck F H1 B->Fz A B G0->Bf G0 X U->iT B U.length Ga.ls0 A->(∀y,¬A.z y)→
   t {nx:=λ_ H'=>Q .non H',rt:=Q} [some (.ref sa),some (.int (U.length)),some (.ref X),some (.ref x),some (.ref A.s),v5,none,none,none,none] H1:=by
  refine(_,(aa (bH (i:=6) pz.nd ai)
   (aa (lM yu rfl (eo (aG JX (aP {(ai)}) (pO uT (pv 0) (oG (aG gG ai (pv 1))) (oG (aG gG ai (pv 1)))))) (c9 (i:=7) pz.nd rfl (by k_ne)) (aa (aO (ix LH (pv 6) ai) (af (aE (cn RB {pv 3,ig de (pv 2) ai,pv 7}))) ay)
   (aa (bH (i:=8) pz.nd (kU (pv 3) a2))
   (aa (lM yu rfl (eo (pO uT (pv 8) (oG (pv 6)) C6)) (c9 (i:=9) pz.nd rfl (by k_ne)) (af (aO (fA (bx (cn NJ {pv 2,pv 4,pv 9}))) (af (au cP)) ay)))
   (aa (bH (i:=6) pz.nd (a9 aU ⋯ T.fH cW {pv 8}))
   (af (aO (fA (bx (cn MW {pv 2,pv 4}))) (af (au cP)) ay)))))))
   (af (au cP)))),?_)
  fin2
  intro H0 X x A U F B G0 v5 ds ok bm dt b3 bg cR b7 az;let n0:=akz.mpr ok.ne;erw[(l8 (by decide),λq0 dz=>?_)];generalize e_h1:upd H0 q0 _=Ha;let ha:=gS e_h1 dz;let cT:=gA e_h1;lk;erw[jl sa _ (kz rfl (fT.same ds ha) (λq1 b0=>?_))];let(r,ec,lc):=Vc ns (3+U.length) (45+U.length) ();let ec:Bo (ns.map V.int) (some (3+(U.length))) (some (45+(U.length)))=r.map V.int:=ec;rw[ec];let lc:r.length<=42:=by lia
  generalize e_h2:upd Ha q1 _=H1;let b5:=ha.trans (gS e_h2 b0);erw[iG q0 q1 _ _ (pE rfl rfl (gS e_h2 b0 _ _ cT) (gA e_h2) (fq (by rw[gQ];show 1+r.length<=1000;lia)) λq hq=>?_)];let hR:=G.I.same b5 dt;let b8:=b3.same b5;rw[show [V.int 9]++r.map V.int=(9::r).map V.int from rfl];let lc:(9::r).length<=43:=by show r.length+1<=43;lia
  generalize (9::r)=r at lc;let nb:∀{y o},B y=some o->y≠q:=λz=>ao (b8.1 _ _ z) hq
  let bq:B q=none:=by
   cases z:B q with
   |none=>rfl
   |some o=>erw[absurd rfl (nb z)]
  let gq:G0 q=none:=by
   cases z:G0 q with
   |none=>rfl
   |some o=>rw[bg.sub _ _ z]at bq;cases bq
  let nq:¬F q:=λz=>G.I.own hR z hq;let qa:=(b7.CD bq).1;let sH:aH H1 (upd H1 q (.lst (r.map V.int))):=aq hq;let(dh,g1,g2,g3,g4,g5):=Ga.ad3 ok
  let bE:N3 R (upd H1 q (.lst (r.map V.int))) X x q A (r.map V.int) U (new U) 0 Ga.ls0 0:=by
   erw[((F,upd B q (.lst (r.map V.int)),upd G0 q (.lst (r.map V.int)),G.I.same sH hR,b8.upd nq,(λy o z=>?_,λy z=>?_),cR.same (aq gq),ae,b7.same (aq bq)),az,Wf.new (gD.tok ok),(Zc ok).1,aaB ok,abu ok,(dh,by rwa[amB],qj _,λe he=>(g3 e he).1,g4,g5),(qj _,λ_=>(anu,anu)))]
   .by_cases v:y=q
    .rw[v,ae]at z ⊢;erw[z]
    .rw[ag v]at z ⊢;erw[bg.sub _ _ z]
   .rw[ag (λv=>qa (by rwa[<- v]))];erw[bg.no y z]
  let q1:(upd H1 q (.lst (r.map V.int))) q=some (.lst (r.map V.int)):=ae;generalize upd H1 q (.lst (r.map V.int))=H2 at bE q1;erw[(q,rfl,(_,fT.of q1),?_)]
  refine p9 (n:=r.length) (λj σ H'=>∃(S:HS) (n met:Nat) (ls:LA) (v7 v8 v9:Option V),σ=[some (.ref sa),some (.int (U.length)),some (.ref X),some (.ref x),some (.ref A.s),v5,some (.int met),v7,v8,v9]/\N3 R H' X x q A (r.map V.int) U S n ls met/\n<=2*j)
   (new U,0,0,Ga.ls0,_,_,_,rfl,bE,gx _) ?_ ?_ ?_
  .rintro j σ H' D ⟨S,n,met,ls,v7,v8,v9,rfl,iv,_⟩;exact(_,V.int r[j],fT.of iv.get,by rw[i6,hY D];rfl)
  .rintro j σ H' v H3 D ⟨S,n,met,ls,v7,v8,v9,rfl,iv,hn⟩ ⟨rfl,hv⟩;let hv:=hv _ (fT.of iv.get);rw[i6,hY D]at hv;obtain rfl:V.int r[j]=v:=iJ hv;generalize r[j]=cell;dsimp only[AI];refine C8 (M:=λc6 H'=>(∃S' n',N3 R H' X x q A (r.map V.int) U S' n' ls met/\n'<=n+2)/\c6=[some (.ref sa),some (.int (U.length)),some (.ref X),some (.ref x),some (.ref A.s),v5,some (.int met),some (.int cell),v8,v9]) (λN hN=>?_) ?_
   .lk;refine bR (λem=>?_) (λem=>?_)
    .let(F4,B4,G4,r1,r2,r3,r4,r5,r6):=iv.ex;let(gp,ep,wp,np,as,t1,t0,t2,t3,t4,t5,t6):=(r4.same r3.sub).same r2.1;let cQ:(n+2)*U.length<=2200:=jC (aop (show n+2<=88 by lia) bm) ∅;lk;erw[sR (jx.of t1) rfl ?_,ml x np U S n F4 cell (pE rfl r1 (fT.of t6) n0 cQ (λS' dT n' H5 F5 dr bF mv=>?_))];let p0:0<(U.length:Int):=by lia
     let m1:=alC (cell/12) p0
     let hi:∀i,QK U.length cell=.DQ i->i<U.length:=λi hi=>by
      unfold QK at hi
      split at hi
      .lia
      .split at hi<;>cases hi
     let(dv,De,go,w',j',e'):=Gr.abB (Ga.reads ok) ok iv.wf iv.jv iv.en hi dr;let(es,i1,i2,i3,i4,i5):=iv.rd;let(wk,dc):=go _ i5;erw[hN _ _ ((S',n',((F5,B4,G4,mv.2.2,r2.moved mv,r3,r4,r5,r6),iv.az,w',j',e',ZZ ok iv.wf iv.jv iv.en hi iv.sd dr,(es++dv,?_,?_,λe z=>?_,Gr.uh i4 wk,?_),iv.sm),bF),rfl)]
     .rw[De.bk,List.drop_append_of_le_length i2,i1,kr]
     .rw[De.bk,jm];lia
     .rcases ro.mp z with y|y
      .exact i3 e y
      .exact (De.lt e y).1
     .rwa[Gr.oZ]
    .exact hN _ _ ((S,n,iv,()),rfl)
   rintro dS H5 ⟨⟨S',n',O,bF⟩,rfl⟩;let(F5,B4,G4,r1,r2,r3,r4,r5,r6):=O.ex;let(Es,ci,i2,iE,cE,a7):=O.rd;let(C,dx,fs,ca,hC,n1,_):=G.I.inst r1;lk;erw[eS ca (hC,rfl,rfl) n1 ?_];erw[oi x _ F5 dx fs (ll rfl r1 ca (λq7 H7 s7 cD ra=>?_))];let(rs,bZ,bo,c7):=ra;let bB:=aej r2 r6 (λy f=>G.I.own r1 f);let dk:=bB.CD cD;let r2:=r2.same s7;let r1:=G.I.same s7 r1;let cf:=bB.same s7;lk;erw[jl q7 _ (kz rfl (fT.of bZ) (λq8 cc=>?_))];rw[DT,<-amS];let a4:=cf.CD cc;generalize e_s8:upd H7 q8 _=H8;let s8:=gS e_s8 cc;let a0:=gA e_s8;let r2:=r2.same s8;let r1:=G.I.same s8 r1;let bW:=cf.same s8;let cj:Fz {A with z:=F5} H8 G4:=(λy o z=>r2.1 _ _ (r3.sub _ _ z),r3.no)
   let dO:met+Es.length=S'.book.length:=by
    let:=iY List.length ci;rw[ajK,gQ]at this
    lia
   let dl:(rs.drop met).length=Es.length:=by rw[ajK];lia
   let sm:∀a,Sm U ((Ga.rd U).run ls (Es.take a)):=λa=>ZU ok.len _ _ (λe he=>iE e (alh he)) O.sm;let cr:∀{H9:Hp},cJ A H8 H9->Bf H9 X U:=λb9=>r4.same (cj.but b9).sub;erw[(q8,rfl,(_,fT.of a0),?_)];erw[p9 (n:=Es.length) (λa σ H'=>∃(v9:Option V),σ=[some (.ref sa),some (.int (U.length)),some (.ref X),some (.ref x),some (.ref A.s),v5,some (.int met),some (.int cell),some (.ref q7),v9]/\cJ A H8 H'/\iT H' U.length ((Ga.rd U).run ls (Es.take a)) {A with z:=F5}) (_,rfl,λ_ _ _ z=>z,bW) ?_ ?_ ?_]
   .rintro a σ H' ha ⟨v9,rfl,b9,_⟩;exact(_,V.ref ((rs.drop met)[a]'()),fT.of (b9 _ _ a4.1 a0),by rw[i6,hY ()];rfl)
   .rintro a σ H' v H9 ha ⟨v9,rfl,b9,hl9⟩ ⟨rfl,hv⟩;let hv:=hv _ (fT.of (b9 _ _ a4.1 a0));let bO:a<(rs.drop met).length:=by lia
    rw[i6,hY bO]at hv;obtain rfl:V.ref (rs.drop met)[a]=v:=iJ hv
    let he:=c7 (met+a) (rs.drop met)[a] (WH U Es[a]) (by rw[<- alD];erw[hY bO]) (by
     rw[<- alD,ci,i6,hY ha];rfl)
    lk;erw[ex9 X (rs.drop met)[a] {A with z:=F5} (Qw {A with z:=F5} H8) U _ Es[a].i Es[a].t Es[a].wd (R6 rfl (r4.same (acB cj)) (bW.ag6 (jx.same s8 he)) ((aaI _ H8).but b9) hl9 ok (iE _ (uy ha)) (sm a) (ac7 cE ha) (λZ dd dm=>?_))];lk;exact(b9.trans dd,by rwa[XC ha])
   .rintro σ H9 ⟨v9,rfl,b9,hl9⟩;rw[zN]at hl9;let c5:=b9 _ _ dk.1 (s8 _ _ bZ);erw[((_,fT.of (b9 _ _ a4.1 a0),by rw[gQ];lia),?_)];let(B9,p1,p2,p3,p4):=afn r2 r3 r6 O.az b9 hl9;let r9:=G.I.mono (λy o f z=>b9 y o (p4 y f) z) r1;let bn:=sm Es.length;rw[zN]at bn;let cH:N3 R H9 X x q A (r.map V.int) U S' n' ((Ga.rd U).run ls Es) S'.book.length:=((F5,B9,G4,r9,p1,p2,r4,r5,p3),O.az,O.wf,O.jv,O.en,O.sd,([],by rw[anZ];rfl,gx _,λe z=>(by cases z),trivial,a7),bn);lk;erw[jl q7 _ (kz rfl (.inl (fT.of c5)) ?_)];rw[gQ,bo];lk;erw[iG X {A with z:=F5} U _ (an8 rfl (cr b9) hl9 ok bn a7.du (λm a b c=>YU O.jv a7 O.en O.sd a b c) (λZ sS=>?_))];lk;exact(S',n',S'.book.length,_,_,_,_,rfl,cH.same G.I sS,())
  .rintro σ H' ⟨S,n,met,ls,v7,v8,v9,rfl,iv,_⟩;erw[((_,fT.of iv.get,by rw[gQ];exact gx _),?_),k _]
 let(tt,ht,hn):=t8
 refine(_,(aa (bH (i:=1) pz.nd (aG gG ai (aG cu (cn fU {pv 0,(ai)}) ai)))
   (aa (bH (i:=2) pz.nd (cn RM {pv 0,(ai),pv 1,cn fU {pv 0,(ai)}}))
   (aa (bH (i:=3) pz.nd (cn am {cn Sw {cn Rx {pv 2}}}))
   (aa (bH (i:=4) pz.nd (ack (IK aj (aP bQ) (IK aj (gU (fr:=[]) (by kd_p) rfl (jN ⋯ T.lX {pv 1}) (λ_ _ _ _=>Br) (λ_ _ _ _=>(aP bQ))) (IK aj (gU (fr:=[]) (by kd_p) rfl (jN ⋯ T.lX {pv 1}) (λ_ _ _ _=>Br) (λ_ _ _ _=>(aP bQ))) abX))) rfl rfl (WB _ _) ∅))
   (aa (lM yu rfl (eo (aP {(aj),(aj),(aj),(aj)})) (c9 (i:=5) pz.nd rfl (by k_ne)) (af (G8 (pI hr) (pv 4) (pv 5) (gU (fr:=[]) (by kd_p) rfl (jN ⋯ T.lX {pv 1}) (λ_ _ _ _=>Br) (λ_ _ _ _=>cP)) rfl)))
   ht))))),?_)
 fin2
 lk;erw[mI sa _ ns (ll rfl hS ∅ ?_)];let c0:=dq (ns.getD (anj 0) 0) (n:=11) ∅;obtain⟨ct,c2⟩:∃ct:Nat,1+ns.getD (anj 0) 0%11=ct:=((1+ns.getD (anj 0) 0%11).toNat,());lk;dsimp only;rw[c2];erw[mI sa _ ns (ll rfl hS ∅ ?_),oi sa ns 2 _ ct (pE rfl hS ∅ () () (λX dp ep wp np H1 U s1 u1 u2 u3 u4=>?_))];let ok:=u3.ok;subst u4;let bm:U.length<=11:=by lia
 lk;erw[j0 X dp ep wp np U (gT rfl u1 u2 ok (λH2 s2=>?_))];let cm:=(Bf.of u1 u2).same s2;let c8:=fT.same (fT.same hS s1) s2;erw[jl _ U (gT rfl (by exact Qr ok,trivial) (by exact KP ok) ok (λt H3 FT s3 f3 hT=>?_)),mI t U FT (ll rfl hT ok (λx H4 F s4 f4 hR=>?_))];let be:=s3.trans s4
 let nf:∀b,F b->H2 b=none:=λb f=>by
  rcases f4 b f with z|z
  .exact f3 b z
  .cases y:H2 b with
   |none=>rfl
   |some o=>rw[s3 _ _ y]at z;cases z
 let dB:=fT.same c8 be;intro p hp
 let ac:∀{Hn:Hp} {y:eF},aH H4 Hn->Hn y=none->H4 y=none:=λ{Hn y} s z=>by
  cases v:H4 y with
  |none=>rfl
  |some o=>rw[s _ _ v]at z;cases z
 generalize e_s5:upd H4 p _=H5;let s5:=gS e_s5 hp;let p5:=gA e_s5;erw[(l8 ∅,λd hd=>?_)];generalize e_s6:upd H5 d _=H6;let s6:=gS e_s6 hd;let d6:=gA e_s6;lk;erw[((),(),HP (n:=U.length) () (λW xs H7 s7 an aN=>?_))];generalize e_s8:upd H7 W _=H8;let s8:=gS e_s8 an;let e8:=gA e_s8;lk;erw[((),(),HP (n:=U.length) () (λe1 ys H9 s9 ab al=>?_))];generalize e_s10:upd H9 e1 _=Z;let sS:=gS e_s10 ab;let e10:=gA e_s10;let db:=sS _ _ (s9 _ _ (s8 _ _ (s7 _ _ (s6 _ _ p5))));erw[(db,[(.inr "due",.ref d),(.inr "put",.ref W),(.inr "anew",.ref e1)],rfl,by show 3<=15;decide,?_)];let c3:=((((s5.trans s6).trans s7).trans s8).trans s9).trans sS;rw[show DR [] [((.inr "due"),V.ref d),(.inr "put",.ref W),(.inr "anew",.ref e1)]=Lv d W e1 (λ_=>0) 0 from rfl];let bd:aH H4 (upd Z p (.dK (Lv d W e1 (λ_=>0) 0))):=uA c3 hp;let bv:(upd Z p (.dK (Lv d W e1 (λ_=>0) 0))) p=_:=ae;let aK:∀{y o},y≠p->Z y=some o->(upd Z p (.dK (Lv d W e1 (λ_=>0) 0))) y=some o:=λn z=>by rwa[ag n]
 let ep:∀{y} {Hn:Hp},aH H5 Hn->Hn y=none->y≠p:=λs z=>Ne.symm (ao (s _ _ p5) z);let cd:=((s6.trans s7).trans s8).trans s9;let bb:=Ne.symm (ao p5 hd);let ck:=ep (s6.trans s7) an;let ch:=ep cd ab;let xp:=λk g=>ep s6 (aN k g).1;let yp:=λk g=>ep ((s6.trans s7).trans s8) (al k g).1;let d11:=aK bb (sS _ _ (s9 _ _ (s8 _ _ (s7 _ _ d6))));let ax:=aK ck (sS _ _ (s9 _ _ e8));let aF:=aK ch e10;let bi:=λk g=>aK (xp k g) (sS _ _ (s9 _ _ (s8 _ _ (aN k g).2)));let a6:=λk g=>aK (yp k g) (sS _ _ (al k g).2);let x4:=λk g=>ac (s5.trans s6) (aN k g).1;let y4:=λk g=>ac (((s5.trans s6).trans s7).trans s8) (al k g).1;let d4:=ac s5 hd;let ce:=ac ((s5.trans s6).trans s7) an;let bU:=ac (s5.trans cd) ab;let dL:=ao (s7 _ _ d6) an;let dy:=ao (s9 _ _ (s8 _ _ (s7 _ _ d6))) ab;let ee:=ao (s9 _ _ e8) ab;let co:=λk g=>ao (aN k g).2 an;let cC:=λk g=>ao (s9 _ _ (s8 _ _ (aN k g).2)) ab;let dw:=λk g=>Ne.symm (ao e8 (al k g).1);let cM:=λk g=>ao (al k g).2 ab;generalize upd Z p (.dK (Lv d W e1 (λ_=>0) 0))=H11 at bd bv d11 ax aF bi a6;erw[(l8 (by decide),λlk bX=>?_)];let ad:=aq (o:= .lst [V.str "on",V.str "told",V.str "good",V.str "down"]) bX;let aA:(upd H11 lk (.lst [V.str "on",V.str "told",V.str "good",V.str "down"])) lk=_:=ae;let lp:=Ne.symm (ao bv bX);generalize upd H11 lk (.lst [V.str "on",V.str "told",V.str "good",V.str "down"])=H12 at ad aA;erw[(lk,rfl,(_,fT.of aA),?_)]
 refine p9 (n:=4) (λj σ H'=>∃(c:Nat->eF) (v5:Option V),σ=[some (.ref sa),some (.int (U.length)),some (.ref X),some (.ref x),some (.ref p),v5,none,none,none,none]/\(∀y o,y≠p->H12 y=some o->H' y=some o)/\H' p=some (.dK (Lv d W e1 c j))/\∀z,z<j->H' (c z)=some (.lst ((hD U.length).map λ_=>V.bl false))/\H12 (c z)=none/\∀u,u<z->c u≠c z)
  (λ_=>0,none,rfl,λ_ _ _ z=>z,ad _ _ bv,λz hz=>absurd hz (ze z)) ?_ ?_ ?_
 .rintro j σ H' D ⟨c,v5,rfl,b1,_⟩;let a3:=b1 _ _ lp aA;rcases b4 D with rfl|rfl|rfl|rfl
  .exact (_,V.str "on",fT.of a3,rfl)
  .exact (_,V.str "told",fT.of a3,rfl)
  .exact (_,V.str "good",fT.of a3,rfl)
  .exact (_,V.str "down",fT.of a3,rfl)
 .rintro j σ H' v J D ⟨c,v5,rfl,b1,ak,r⟩ ⟨rfl,hv⟩;let hv:=hv _ (fT.of (b1 _ _ lp aA));let ev:V.str (WM j)=v:=by rcases b4 D with rfl|rfl|rfl|rfl<;>exact iJ hv
  subst ev;lk;erw[((),(),comp_const (n:=U.length) () (λ_ _ _ h=>h) (λa ha=>?_))];let a1:=aq (o:= .lst ((hD U.length).map λ_=>V.bl false)) ha;let bJ:(upd J a (.lst ((hD U.length).map λ_=>V.bl false))) a=_:=ae;let ap:=Ne.symm (ao ak ha)
  let cS:H12 a=none:=by
   cases z:H12 a with
   |none=>rfl
   |some o=>rw[b1 _ _ ap z]at ha;cases ha
  generalize upd J a (.lst ((hD U.length).map λ_=>V.bl false))=H14 at a1 bJ;lk;erw[jl p _ (kz rfl (Qt.k (k:= .inr (WM j)) (a1 _ _ ak) (aM (by unfold Lv;rw[jm,gQ,mK];show 3+j<=1000;lia))) ?_)];rw[aaz D];erw[(aW c j a,_,rfl,λy o n z=>by rw[ag n];exact a1 _ _ (b1 y o n z),ae,λz hz=>?_)];by_cases e:z=j
  .subst e;rw[bG];erw[(by rwa[ag ap],cS,λu hu=>?_)];rw[cG ()];erw[ao (r u hu).1 ha]
  .let(z1,z2,z3):=r z ();let zp:=Qh z1 ak (λy=>by cases y);rw[cG e];erw[(by rw[ag zp];exact a1 _ _ z1,z2,λu hu=>?_)];rw[cG ()];erw[z3 u hu]
 rintro σ J ⟨c,v5,rfl,b1,ak,r⟩;erw[((_,fT.of (b1 _ _ lp aA),gx _),?_)];let a5:=λy o z=>b1 y o (ao z hp) (ad _ _ (bd _ _ z));let Y:∀{y o},y≠p->H11 y=some o->J y=some o:=λn z=>b1 _ _ n (ad _ _ z);let c4:=λz hz=>ac (bd.trans ad) (r z hz).2.1;let nc:∀{y o} z,z<4->H11 y=some o->y≠c z:=λz hz w=>ao (ad _ _ w) (r z hz).2.1;obtain⟨A,eA⟩:∃A:sN,A=⟨c,λj=>match j with|0=>W|_=>e1,p,λ_=>False⟩:=(_,rfl)
 let nt:∀{y},y≠p->(∀z,z<4->y≠c z)->y≠W->y≠e1->A.nt y:=λ{y} n1 n2 n3 n4=>by
  subst eA;erw[(λh=>?_,λh=>h)];rcases h with h|⟨j,D,h⟩|⟨j,D,h⟩
  .exact n1 h
  .exact n2 j D h
  .rcases b2 D with rfl|rfl
   .exact n3 h
   .exact n4 h
 let fr:∀{y},H4 y=none->¬F y:=λh f=>G.I.own hR f h
 let n2:∀{y},H4 y=none->H2 y=none:=λ{y} h=>by
  cases z:H2 y with
  |none=>rfl
  |some o=>rw[be _ _ z]at h;cases h
 classical
 let get:∀{y o},J y=some o->H4 y=none->(if F y then none else J y)=some o:=λ{y o} z h=>by rwa[fC (fr h)]
 let L:iT (λy=>if F y then none else J y) U.length Ga.ls0 A:=by
  erw[((d,by subst eA;exact get ak hp,get (Y bb d11) d4,nt bb (λz hz=>nc z hz d11) dL dy),λj D=>?_,λj D=>?_,λi j hi D ij=>?_,λi j hi D=>?_,?_,λ_ z=>by subst eA;exact absurd z id)]
  .subst eA;let:=get (r j D).1 (c4 j D);rcases b4 D with rfl|rfl|rfl|rfl<;>erw[this]
  .rcases b2 D with rfl|rfl
   .exact (xs,by subst eA;exact get (Y ck ax) ce,λk g=>(nt (xp k g) (λz hz=>nc z hz (bi k g)) (co k g) (cC k g),get (Y (xp k g) (bi k g)) (x4 k g)))
   .exact (ys,by subst eA;exact get (Y ch aF) bU,λk g=>(nt (yp k g) (λz hz=>nc z hz (a6 k g)) (dw k g) (cM k g),get (Y (yp k g) (a6 k g)) (y4 k g)))
  .subst eA;by_cases c1:i<j
   .exact (r j D).2.2 i c1
   .exact ((r i hi).2.2 j ()).symm
  .subst eA;rcases b2 D with rfl|rfl
   .exact (nc i hi ax).symm
   .exact (nc i hi aF).symm
  .subst eA;erw[ee]
 let hz:=hn J X x A U F (λy=>if F y then none else J y) H2 v5 (fT.same dB a5) ok bm (G.I.same a5 hR) (λy o z=>?_,λy f=>fR f) (λy o z=>?_,λy z=>?_) cm L (λ_ z=>by subst eA;erw[z])
 .subst eA;erw[hz]
 .let z:(if F y then none else J y)=some o:=z;by_cases f:F y
  .rw[fR f]at z;cases z
  .rw[fC f]at z;erw[z]
 .rw[fC (λf=>by rw[nf y f]at z;cases z)];erw[a5 _ _ (be _ _ z)]
 .subst eA;rcases z with z|⟨j,D,z⟩|⟨j,D,z⟩
  .rw[show y=p from z];erw[n2 hp]
  .rw[show y=c j from z];erw[n2 (c4 j D)]
  .rcases b2 D with rfl|rfl
   .rw[show y=W from z];erw[n2 ce]
   .rw[show y=e1 from z];erw[n2 bU]
end
open PySem L2 Shp Nm Tr Hs Hm Hr Lw Ga PySem.NumText
def all_mk{l:ame}{w:iP}{K:gI}{h:h7}{mg:Str->Option fy}{fa:eF}(X:K.In h)(G:h.Ns mainGlobals mg)(bU:mg "law"=some (.ref fa))
  {aF U3 Md Pw HG ou j8 jG mj n9 jI jM nG hJ jB lj ke hZ jc i8 kZ jf gO ik gh ia gz gN eQ As zg uQ Dv Dr B0 Cq jL Av AF Dm ya xS B2 ku zi tY nJ U7 Lz yv FA Ml uw bZ mY rn oM rf AU kj iK nD wq nE we gr ma jV Dh wF wo pj uq nT L4 Fy wI Kn wm Cu FW FU nU Aw Ib xQ AG JU ZS MB YV yh Di ap Xz UE Mi Yt UH Yy ZT YN Uq XS Ly Ue TJ az jd Jq gK ky HY fg dw zG To A J M D L N r Nl Ov BX uL pL ph:eF}
  {N1 EU BA Bp:fy}
  {ZF ZV Ot Eb A7 AW:Option eF}
  {Zp Xk M3 EH BV A2:Array (Option fy)}
  {Tb Q9 F9 Rv SY GR OO JY R3 S8 S5 RW Rf yJ A0 BW zk zj xv yg:Tok}
  {c8 b0 Qi Gy CB Dx:Nat}
  (Z:Nos K ["ValueError","all","enumerate","int","isinstance","len","list","min","range","reversed","str","sum"])
  (W7:FE K mainGlobals "FIGURES"=some (some (.str "0123456789" Tb)))
  (RK:FE K mainGlobals "GREATEST"=some (some (.int 1000000 Q9)))
  (Ka:FE K mainGlobals "MOST_FIGURES"=some (some (.int 7 F9)))
  (Vq:FE K mainGlobals "LETTERS"=some (some (.str "abcdefghijklmnopqrstuvwxyz" Rv)))
  (VC:FE K mainGlobals "LONGEST"=some (some (.int 12 SY)))
  (JV:FE K mainGlobals "FEWEST_WORDS"=some (some (.int 6 GR)))
  (Pu:FE K mainGlobals "MOST_ROWS"=some (some (.int 64 OO)))
  (Lj:FE K mainGlobals "MOST_BLANKS"=some (some (.int 16 JY)))
  (bb:Gls K [("bit",aF),("below",U3),("without",Md),("recent",Pw),("too_many",HG),("standing_of",As),("standings_of",zg),("built",U7),("made_of",Lz),("told_plainly",yv),("number_in",FA),("is_name",Ml),("leaf_in",L4),("minder_in",Fy),("by_first_word",wI),("child_in",Kn),("passed_over",Aw),("words_in",Ib),("blanks_ahead",xQ),("stands_well",AG),("take_row",JU),("read",ZS),("_law_cell_at",MB),("_law_name",YV),("_law_minder_words",yh),("_law_leaf_words",Di),("_law_tree",ap),("_law_text",Xz),("_law_tried",UE),("_law_stopped",Mi),("_law_deed",Yt),("_law_young",UH),("_law_live",Yy),("_law_left",ZT),("_law_kept",YN),("_law_begun",Uq),("_law_told",XS),("_law_answers",Ly),("_law_entry",Ue),("_law_quiet",TJ)])
  (b3:Gls K [("law",az),("MinderError",jd),("NoNumber",Jq),("NoLeaf",gK),("NotOn",ky),("Standing",HY),("LeafStanding",fg),("MinderStanding",dw),("House",zG),("Child",To),("Leaf",A),("Steady",J),("Faller",M),("Minder",D),("AllMinder",L),("RestMinder",N),("Tree",r),("FALLS",Nl),("KEEPS",Ov)])
  (Xg:K.lookup Nl=some (.type "tuple",ZF,.seq #[.str "fallen" R3,.str "gave up" S8] c8,Zp))
  (Z5:K.lookup Ov=some (.type "tuple",ZV,.seq #[.str "always" S5,.str "fallen" RW,.str "never" Rf] b0,Xk))
  (GL:GF K fg [("begin",mj),("is_off",j8),("step",nG),("steps_at",jI),("tell",n9),("told_end",jM),("__init__",jG)])
  (Ct:GF K dw [("begin",ke),("forget",jB),("give_up",jf),("go_down",i8),("has_enough",gh),("is_off",j8),("last_left",gz),("last_word",gO),("mind",lj),("not_off",jc),("note_end",ik),("steps_at",hZ),("tell",kZ),("to_be_answered",eQ),("turn_back",gN),("turn_for",ia),("__init__",hJ)])
  (Ya:GF K zG [("answer",zi),("answer_waiting",ku),("begin",AF),("end_by",ya),("end_turning",nJ),("hear",B2),("put_away",tY),("rows",Cq),("settle",xS),("standing_called",jL),("stop",B0),("tell",Dm),("trip",Dr),("turn",Dv),("write",Av),("__init__",uQ)])
  (dV:GF K A [("begun_again",bZ),("end_at",AU),("leaf",rn),("words",oM),("work_words",rf),("__init__",mY)])
  (Wb:GF K J [("begun_again",bZ),("end_at",wq),("leaf",rn),("words",oM),("work_words",nD),("worked_out",iK),("__init__",kj)])
  (WY:GF K M [("begun_again",bZ),("end_at",we),("leaf",rn),("words",oM),("work_words",nE),("worked_out",iK),("__init__",kj)])
  (Wo:GF K D [("begun_again",bZ),("chosen",wF),("leaf",ma),("way",Dh),("words",jV),("__init__",gr)])
  (MJ:GF K L [("begun_again",bZ),("chosen",pj),("leaf",ma),("way",wo),("words",jV),("__init__",gr)])
  (Lq:GF K N [("begun_again",bZ),("chosen",nT),("leaf",ma),("way",uq),("words",jV),("__init__",gr)])
  (dK:GF K r [("find",FW),("minder_above",nU),("names",Cu),("take",FU),("__init__",wm)])
  (yY:ByV K HY "__init__" ou)
  (Dn:ByV K To "__init__" uw)
  (Fo:ByV K A "__init__" mY)
  (V0:aQ K aF "bit" "bit" Yi .none/\aQ K U3 "below" "below" MN .none/\aQ K Md "without" "without" Ez .none/\aQ K Pw "recent" "recent" Iz .none/\aQ K HG "too_many" "too_many" BQ .none/\aQ K ou "__init__" "Standing.__init__" iA .none/\aQ K j8 "is_off" "Standing.is_off" kh .none/\aQ K jG "__init__" "LeafStanding.__init__" eX .none/\aQ K mj "begin" "LeafStanding.begin" gC .none/\aQ K n9 "tell" "LeafStanding.tell" iC .none/\aQ K jI "steps_at" "LeafStanding.steps_at" fj .none/\aQ K jM "told_end" "LeafStanding.told_end" fF .none/\aQ K nG "step" "LeafStanding.step" ir .none/\aQ K hJ "__init__" "MinderStanding.__init__" dM .none/\aQ K jB "forget" "MinderStanding.forget" cY .none/\aQ K lj "mind" "MinderStanding.mind" fW .none/\aQ K ke "begin" "MinderStanding.begin" fK .none/\aQ K hZ "steps_at" "MinderStanding.steps_at" dR .none/\aQ K jc "not_off" "MinderStanding.not_off" eI .none/\aQ K i8 "go_down" "MinderStanding.go_down" eK .none/\True)
  (V1:aQ K kZ "tell" "MinderStanding.tell" fY .none/\aQ K jf "give_up" "MinderStanding.give_up" eG .none/\aQ K gO "last_word" "MinderStanding.last_word" dE .none/\aQ K ik "note_end" "MinderStanding.note_end" dP .none/\aQ K gh "has_enough" "MinderStanding.has_enough" di .none/\aQ K ia "turn_for" "MinderStanding.turn_for" dQ .none/\aQ K gz "last_left" "MinderStanding.last_left" dF .none/\aQ K gN "turn_back" "MinderStanding.turn_back" dD .none/\aQ K eQ "to_be_answered" "MinderStanding.to_be_answered" cF .none/\aQ K As "standing_of" "standing_of" sV .none/\aQ K zg "standings_of" "standings_of" qr .none/\aQ K uQ "__init__" "House.__init__" lL .none/\aQ K Dv "turn" "House.turn" vq .none/\aQ K Dr "trip" "House.trip" vb .none/\aQ K B0 "stop" "House.stop" vE .none/\aQ K Cq "rows" "House.rows" vn .none/\aQ K jL "standing_called" "House.standing_called" fE .none/\aQ K Av "write" "House.write" rT .none/\aQ K AF "begin" "House.begin" rK .none/\aQ K Dm "tell" "House.tell" vd .none/\True)
  (V2:aQ K ya "end_by" "House.end_by" qh .none/\aQ K xS "settle" "House.settle" pJ .none/\aQ K B2 "hear" "House.hear" kC .none/\aQ K ku "answer_waiting" "House.answer_waiting" fN .none/\aQ K zi "answer" "House.answer" qy .none/\aQ K tY "put_away" "House.put_away" lO .none/\aQ K nJ "end_turning" "House.end_turning" iI .none/\aQ K U7 "built" "built" M8 .none/\aQ K Lz "made_of" "made_of" Ed .none/\aQ K yv "told_plainly" "told_plainly" pU .none/\aQ K FA "number_in" "number_in" xM (.ref BX)/\aQ K Ml "is_name" "is_name" D8 .none/\aQ K uw "__init__" "Child.__init__" lG .none/\aQ K bZ "begun_again" "Child.begun_again" iH .none/\aQ K mY "__init__" "Leaf.__init__" nv (.ref uL)/\aQ K rn "leaf" "Leaf.leaf" xV .none/\aQ K oM "words" "Leaf.words" vS .none/\aQ K rf "work_words" "Leaf.work_words" jW .none/\aQ K AU "end_at" "Leaf.end_at" sM .none/\aQ K kj "__init__" "Worker.__init__" j9 (.ref pL)/\True)
  (V3:aQ K iK "worked_out" "Worker.worked_out" iO .none/\aQ K nD "work_words" "Steady.work_words" iy .none/\aQ K wq "end_at" "Steady.end_at" mR .none/\aQ K nE "work_words" "Faller.work_words" iW .none/\aQ K we "end_at" "Faller.end_at" mQ .none/\aQ K gr "__init__" "Minder.__init__" kD (.ref ph)/\aQ K ma "leaf" "Minder.leaf" sW .none/\aQ K jV "words" "Minder.words" qw .none/\aQ K Dh "way" "Minder.way" vi .none/\aQ K wF "chosen" "Minder.chosen" m9 .none/\aQ K wo "way" "AllMinder.way" mU .none/\aQ K pj "chosen" "AllMinder.chosen" jz .none/\aQ K uq "way" "RestMinder.way" lF .none/\aQ K nT "chosen" "RestMinder.chosen" iu .none/\aQ K L4 "leaf_in" "leaf_in" Et .none/\aQ K Fy "minder_in" "minder_in" yN .none/\aQ K wI "by_first_word" "by_first_word" ni .none/\aQ K Kn "child_in" "child_in" BS .none/\aQ K wm "__init__" "Tree.__init__" nj .none/\aQ K Cu "names" "Tree.names" vf .none/\True)
  (V4:aQ K FW "find" "Tree.find" yo .none/\aQ K FU "take" "Tree.take" zf .none/\aQ K nU "minder_above" "Tree.minder_above" iQ .none/\aQ K Aw "passed_over" "passed_over" rV .none/\aQ K Ib "words_in" "words_in" BO .none/\aQ K xQ "blanks_ahead" "blanks_ahead" qb .none/\aQ K AG "stands_well" "stands_well" rO .none/\aQ K JU "take_row" "take_row" pP .none/\aQ K ZS "read" "read" SO .none/\aQ K MB "_law_cell_at" "_law_cell_at" DS .none/\aQ K YV "_law_name" "_law_name" JN .none/\aQ K yh "_law_minder_words" "_law_minder_words" qe .none/\aQ K Di "_law_leaf_words" "_law_leaf_words" kH .none/\aQ K ap "_law_tree" "_law_tree" BK .none/\aQ K Xz "_law_text" "_law_text" Rl .none/\aQ K UE "_law_tried" "_law_tried" OV .none/\aQ K Mi "_law_stopped" "_law_stopped" DY .none/\aQ K Yt "_law_deed" "_law_deed" SW .none/\aQ K UH "_law_young" "_law_young" M7 .none/\aQ K Yy "_law_live" "_law_live" R0 .none/\True)
  (V5:aQ K ZT "_law_left" "_law_left" RP .none/\aQ K YN "_law_kept" "_law_kept" Rc .none/\aQ K Uq "_law_begun" "_law_begun" Nr .none/\aQ K XS "_law_told" "_law_told" Rh .none/\aQ K Ly "_law_answers" "_law_answers" EK .none/\aQ K Ue "_law_entry" "_law_entry" NY .none/\aQ K TJ "_law_quiet" "_law_quiet" MD .none/\aQ K az "law" "law" P2 .none/\True)
  (QP:K.lookup BX=some (N1,Ot,.seq #[.int 1000000 yJ] Qi,M3))
  (Gm:K.lookup uL=some (EU,Eb,.seq #[.int 0 A0,.int 0 BW] Gy,EH))
  (Cr:K.lookup pL=some (BA,A7,.seq #[.int 0 zk,.int 0 zj] CB,BV))
  (Cz:K.lookup ph=some (Bp,AW,.seq #[.int 1 xv,.int 1 yg] Dx,A2))
  (Gx:GU K fg)
  (B5:GU K dw)
  (Zr:GU K zG)
  (cs:GU K A)
  (Wh:GU K J)
  (VP:GU K M)
  (Vj:GU K D)
  (Oj:GU K L)
  (KZ:GU K N)
  (bB:GU K r)
  (GO:F6 K fg ["asked","begun_at","child","coming","falls","gave_up","good","granted","leaving","minded","minder","needed","place","state","steps","waiting"])
  (Dl:F6 K dw ["asked","begun_at","child","coming","falls","gave_up","good","granted","leaving","minded","minder","needed","place","state","steps","waiting"])
  (Yb:F6 K zG ["clock","ends","entries","standings","tree"])
  (cc:F6 K A ["grace","keep","many","most","name","slow","span"])
  (Vy:F6 K J ["grace","keep","many","most","name","slow","span"])
  (Vd:F6 K M ["grace","keep","many","most","name","slow","span"])
  (WK:F6 K D ["grace","keep","many","most","name","slow","span"])
  (Oy:F6 K L ["grace","keep","many","most","name","slow","span"])
  (K2:F6 K N ["grace","keep","many","most","name","slow","span"])
  (eW:F6 K r ["above","blanks","children","places"])
  (GJ:IJ K fg)
  (CO:IJ K dw)
  (Xm:IJ K zG)
  (ep:IJ K A)
  (Wx:IJ K J)
  (VI:IJ K M)
  (Vn:IJ K D)
  (NH:IJ K L)
  (Kz:IJ K N)
  (er:IJ K r)
  (wR:xn K gK (.ref jd)=some true)
  (DW:xn K gK (.ref gK)=some true)
  (GP:xn K gK (.ref ky)=some false)
  (yx:xn K ky (.ref jd)=some true)
  (Gb:xn K ky (.ref gK)=some false)
  (yj:xn K ky (.ref ky)=some true)
  (sQ:aku K jd bmV "ValueError.__new__"=true)
  (A4:aku K Jq bmV "ValueError.__new__"=true)
  (Kr:aku K gK bmV "ValueError.__new__"=true)
  (oB:aku K ky bmV "ValueError.__new__"=true)
  (VT:abS K gK)
  (Fh:IsC K gK)
  (Zh:abS K ky)
  (II:IsC K ky)
  (yO:A≠J)
  (yt:A≠M)
  (yP:A≠D)
  (qV:A≠L)
  (pZ:A≠N)
  (uo:J≠M)
  (uK:J≠D)
  (nH:J≠L)
  (mm:J≠N)
  (ub:M≠D)
  (nM:M≠L)
  (mw:M≠N)
  (nQ:D≠L)
  (md:D≠N)
  (jQ:L≠N)
  (vX:gK≠ky):
  ∃fd:pG,(∀(s:fX) (u:fy),alW s fd ([u],[]) [("_law_script",u)])/\∀eC:h7,K.In eC->eC.Ns mainGlobals mg->aD l.prog w K mg eC (gf l.prog w) true 63 fa fd ["_law_script"] (UW K):=by
 let(MK,ef,PD,ej,MS,eE,fl,em,fu,RL,dm,fi,_):=Z;let T:Txt mg:=(F2 X G MK,F2 X G ef,F2 X G PD,F2 X G ej,F2 X G MS,F2 X G eE,F2 X G fl,F2 X G em,F2 X G fu,F2 X G RL,F2 X G dm,F2 X G fi);let oU:=nh X G W7;let Bh:=nh X G RK;let pV:=nh X G Ka;let Eo:=nh X G Vq;let EG:=nh X G VC;let fB:=nh X G JV;let xu:=nh X G Pu;let rS:=nh X G Lj;let(fn,dr,VU,Ye,RQ,Lh,J0,bE,Wa,Kq,O1,Wg,Wy,O8,Gq,Ro,Ls,S7,JP,Kx,RF,dk,Wu,ei,J8,ML,es,el,bo,WN,ev,c3,cp,ch,fp,cC,cf,W3,ek,dd,_):=bb;let(ci,Ku,SF,dc,fk,Rk,Jn,EJ,fb,cE,ec,Y5,b5,Yx,Ph,OE,ck,fm,bg,_):=b3;let Q0:=nh X G O1;let sJ:=nh X G Ku;let BN:=nh X G SF;let Dw:=nh X G dc;let lZ:=nh X G fk;let R1:=nh X G Rk;let J9:=nh X G Jn;let Fj:=nh X G EJ;let dt:=nh X G fb;let da:=nh X G cE;let Xn:=nh X G ec;let bd:=nh X G Y5;let Zn:=nh X G b5;let Xy:=nh X G Yx;let Q1:=nh X G Ph;let Ow:=nh X G OE;let aN:=nh X G ck;let qW:=nh X G fm;let N4:=nh X G bg;let rB:∀H,jx K H Nl [V.str "fallen",V.str "gave up"]:=λH=>.inr (_,_,_,Xg,rfl,rfl,vC (aM (show 2<=1000 by decide)),(.cons (_,rfl) (.cons (_,rfl) .nil)));let NU:∀H,jx K H Ov [V.str "always",V.str "fallen",V.str "never"]:=λH=>.inr (_,_,_,Z5,rfl,rfl,vC (aM (show 3<=1000 by decide)),(.cons (_,rfl) (.cons (_,rfl) (.cons (_,rfl) .nil))));let(wY,vm,yM,sG,xH,sy,sr,_):=GL;let(tq,iZ,qP,qS,mS,sv,oA,oE,uV,qQ,qc,pQ,vF,kM,ow,qz,pK,_):=Ct;let(Gj,tH,Js,Gz,yb,Lk,DC,Lp,GH,sO,K7,KH,K3,KI,IU,CP,_):=Ya;let(zM,Kl,ME,Ld,Bj,Ek,_):=dV;let(wW,E1,Ki,GA,yB,xR,A3,_):=Wb;let(wU,Fb,HF,Gd,xJ,yd,BR,_):=WY;let(wQ,Fm,JT,KY,GW,BU,_):=Wo;let(rL,zV,CL,D7,BM,wZ,_):=MJ;let(qM,xG,Ba,DL,zJ,vA,_):=Lq;let(OL,za,Ky,MY,DU,_):=dK;let(ca,bF,VE,X8,Sg,oq,kF,jR,mF,om,jO,uP,nP,hU,jH,w6,kO,ie,sL,sE,_):=V0;let(kW,rJ,pT,qL,oC,qH,pS,pX,kQ,KL,IW,tm,NP,OJ,MO,OB,uu,Ll,AH,Cj,_):=V1;let(JL,Jo,OF,vU,J5,uj,nZ,b1,Vw,Ij,Pr,Wm,um,bW,mO,rG,oH,qX,AK,kq,_):=V2;let(iz,og,wJ,oh,wG,gn,lV,kK,C4,wC,vZ,o8,uF,nY,VR,QN,Ge,SN,vY,NA,_):=V3;let(Ql,O0,Ah,KS,So,HV,Li,Ra,fr,Ww,dU,Hv,Oo,cT,ad,c1,VM,ey,dO,a0,_):=V4;let(b8,be,c5,c2,WU,co,dy,dz,_):=V5;let(_,nA):=oq.d;let Aj:=nA.binds (ps:=Ai) λ_ _ _ _ _ _=>ln2 λ_ _=>rfl;let(_,kB):=kF.d;let rC:=kB.binds (ps:=QW) λ_ _ _ _ _ _=>wh λ_=>rfl;let(_,jP):=jR.d;let uB:=jP.binds (ps:=Ai) λ_ _ _ _ _ _=>ln2 λ_ _=>rfl;let(_,my):=mF.d;let xw:=my.binds (ps:=zb) λ_ _ _ _ _ _=>ln2 λ_ _=>rfl;let(_,oo):=om.d;let z7:=oo.binds (ps:=QW) λ_ _ _ _ _ _=>wh λ_=>rfl;let(_,jF):=jO.d;let tZ:=jF.binds (ps:=zb) λ_ _ _ _ _ _=>ln2 λ_ _=>rfl;let(_,nO):=nP.d;let zY:=nO.binds (ps:=QW) λ_ _ _ _ _ _=>wh λ_=>rfl;let(_,ib):=hU.d;let qF:=ib.binds (ps:=Ai) λ_ _ _ _ _ _=>ln2 λ_ _=>rfl;let(_,kn):=kO.d;let vG:=kn.binds (ps:=zb) λ_ _ _ _ _ _=>ln2 λ_ _=>rfl;let(_,hX):=ie.d;let qN:=hX.binds (ps:=zb) λ_ _ _ _ _ _=>ln2 λ_ _=>rfl;let(_,kX):=kW.d;let xa:=kX.binds (ps:=QW) λ_ _ _ _ _ _=>wh λ_=>rfl;let(_,tQ):=tm.d;let Ex:=tQ.binds (ps:=Ff) λ_ _ _ _ _ _=>ln2 λ_ _=>rfl;let(_,AQ):=AH.d;let AB:=AQ.binds (ps:=wX) λ_ _ _ _ _ _=>ln2 λ_ _=>rfl;let(_,DJ):=Cj.d;let Cm:=DJ.binds (ps:=wX) λ_ _ _ _ _ _=>ln2 λ_ _=>rfl;let(_,tj):=uj.d;let DX:=tj.binds (ps:=kN) λ_ _ _ _ _ _=>ln2 λ_ _=>rfl;let(_,n8):=nZ.d;let zX:=n8.binds (ps:=kN) λ_ _ _ _ _ _=>ln2 λ_ _=>rfl;let(_,yL):=Pr.d;let KO:=yL.Nh (ps:=xW) (ds:=[.int 1000000 yJ]) QP rfl λ_ _ _ _ _ _=>lnD rfl (wh λ_=>(_,rfl,rfl));let(_,uM):=um.d;let EF:=uM.binds (ps:=Ey) λ_ _ _ _ _ _=>ln3 λ_ _ _=>rfl;let(_,bX):=bW.d;let cD:=bX.binds (ps:=zR) λ_ _ _ _ _ _=>ln2 λ_ _=>rfl;let(_,m7):=mO.d;let rj:=m7.Nh (ps:=GQ) (ds:=[]) Gm rfl λ_ _ _ _ _ _=>lnD rfl (ln5 λ_ _ _ _ _=>(_,rfl,rfl));let(_,qY):=rG.d;let zc:=qY.binds (ps:=QW) λ_ _ _ _ _ _=>wh λ_=>rfl;let(_,oP):=oH.d;let uX:=oP.binds (ps:=QW) λ_ _ _ _ _ _=>wh λ_=>rfl;let(_,rh):=qX.d;let Ca:=rh.binds (ps:=QW) λ_ _ _ _ _ _=>wh λ_=>rfl;let(_,AE):=AK.d;let Kv:=AE.binds (ps:=KA) λ_ _ _ _ _ _=>ln2 λ_ _=>rfl;let(_,kg):=kq.d;let nK:=kg.Nh (ps:=Dd) (ds:=[]) Cr rfl λ_ _ _ _ _ _=>lnD rfl (ln6 λ_ _ _ _ _ _=>(_,rfl,rfl));let(_,iV):=iz.d;let oj:=iV.binds (ps:=KA) λ_ _ _ _ _ _=>ln2 λ_ _=>rfl;let(_,nV):=og.d;let Ag:=nV.binds (ps:=QW) λ_ _ _ _ _ _=>wh λ_=>rfl;let(_,wz):=wJ.d;let Gi:=wz.binds (ps:=KA) λ_ _ _ _ _ _=>ln2 λ_ _=>rfl;let(_,nX):=oh.d;let z9:=nX.binds (ps:=QW) λ_ _ _ _ _ _=>wh λ_=>rfl;let(_,wx):=wG.d;let F8:=wx.binds (ps:=KA) λ_ _ _ _ _ _=>ln2 λ_ _=>rfl;let(_,f9):=gn.d;let iD:=f9.Nh (ps:=CG) (ds:=[]) Cz rfl λ_ _ _ _ _ _=>lnD rfl (ln5 λ_ _ _ _ _=>(_,rfl,rfl));let(_,lU):=lV.d;let rR:=lU.binds (ps:=QW) λ_ _ _ _ _ _=>wh λ_=>rfl;let(_,kJ):=kK.d;let pW:=kJ.binds (ps:=QW) λ_ _ _ _ _ _=>wh λ_=>rfl;let(_,CV):=C4.d;let OP:=CV.binds (ps:=QW) λ_ _ _ _ _ _=>wh λ_=>rfl;let(_,wK):=wC.d;let Gu:=wK.binds (ps:=GX) λ_ _ _ _ _ _=>ln5 λ_ _ _ _ _=>rfl;let(_,wj):=vZ.d;let GD:=wj.binds (ps:=QW) λ_ _ _ _ _ _=>wh λ_=>rfl;let(_,qk):=o8.d;let AX:=qk.binds (ps:=GX) λ_ _ _ _ _ _=>ln5 λ_ _ _ _ _=>rfl;let(_,ux):=uF.d;let Ej:=ux.binds (ps:=QW) λ_ _ _ _ _ _=>wh λ_=>rfl;let(_,nW):=nY.d;let Ab:=nW.binds (ps:=GX) λ_ _ _ _ _ _=>ln5 λ_ _ _ _ _=>rfl;let(_,wc):=vY.d;let GB:=wc.binds (ps:=QW) λ_ _ _ _ _ _=>wh λ_=>rfl;let(_,aA):=dz.d;let Jt:=Gx.d;let EI:=B5.d;let bv:=Zr.d;let ft:=cs.d;let c0:=Wh.d;let Z3:=VP.d;let XY:=Vj.d;let PK:=Oj.d;let M1:=KZ.d;let b9:=bB.d;let(xj,rZ,xh,vB,wO,uI,xX,tX,sY,vK,uR,vJ,xb,wL,xg,ui,_):=GO;let(uz,pC,uN,rY,t7,qB,uU,qC,qE,sU,sP,sf,tu,uG,tD,qR,_):=Dl;let(Jj,KG,E0,BD,KC,_):=Yb;let(Ks,N0,Nj,Oi,OD,M6,NX,_):=cc;let(Gs,IZ,JF,Jd,HJ,Kf,HL,_):=Vy;let(Gp,Hw,Kk,JH,Ih,Hl,JG,_):=Vd;let(GC,Iq,Hu,J4,Ik,HK,HZ,_):=WK;let(A5,Cb,DI,Dz,Dg,Dj,DG,_):=Oy;let(zP,Bx,Be,Bt,Bg,A8,Bb,_):=K2;let(Kw,JM,E6,Km,_):=eW;let yG:=mF.mt wY;let wV:=kF.mt vm;let Ak:=nP.mt yM;let ur:=jO.mt sG;let An:=om.mt xH;let vj:=kO.mt tq;let ug:=kF.mt sv;let qO:=ie.mt pQ;let xk:=kW.mt vF;let Ax:=AH.mt Js;let Ao:=nZ.mt yb;let Fc:=uj.mt DC;let Df:=Cj.mt KH;let AZ:=bW.mt zM;let Lf:=AK.mt Kl;let Q2:=rG.mt ME;let NV:=oH.mt Ld;let BZ:=qX.mt Bj;let yr:=bW.mt wW;let GN:=wJ.mt E1;let K8:=rG.mt Ki;let Ie:=oH.mt GA;let zZ:=og.mt yB;let Aa:=iz.mt xR;let yQ:=bW.mt wU;let Gg:=wG.mt Fb;let K6:=rG.mt HF;let J6:=oH.mt Gd;let Af:=oh.mt xJ;let zS:=iz.mt yd;let yZ:=bW.mt wQ;let GY:=wC.mt Fm;let Lm:=lV.mt JT;let N5:=C4.mt KY;let Je:=kK.mt GW;let sX:=bW.mt rL;let Bz:=o8.mt zV;let Fe:=lV.mt CL;let Gf:=vZ.mt D7;let Dp:=kK.mt BM;let rQ:=bW.mt qM;let zT:=nY.mt xG;let DH:=lV.mt Ba;let Eg:=uF.mt DL;let BB:=kK.mt zJ;let HB:=jR.mk sr GJ;let Em:=hU.mk pK CO;let eB:=tm.mk CP Xm;let bq:=mO.mk Ek ep;let Y1:=kq.mk A3 Wx;let db:=kq.mk BR VI;let XF:=gn.mk BU Vn;let O4:=gn.mk wZ NH;let NO:=gn.mk vA Kz;let d1:=vY.mk DU er;let yq:=oq.bc yY;let DB:=um.bc Dn;let Ee:=mO.bc Fo;let e:=bU.symm.trans (nh X G ci);cases e;erw[(_,aA.bl (p:=λfd=>∀(s:fX) (u:fy),alW s fd ([u],[]) [("_law_script",u)]) λ_ _ _ _ _ _ s v=>BindsTo.of_eq rfl,λeC _ _=>?_)];let oF:CF K A:=(ft,OD,N0,Ks,M6,Nj,Oi,NX);let dW:CF K J:=(c0,HJ,IZ,Gs,Kf,JF,Jd,HL);let dX:CF K M:=(Z3,Ih,Hw,Gp,Hl,Kk,JH,JG);let gY:CF K D:=(XY,Ik,Iq,GC,HK,Hu,J4,HZ);let dh:CF K L:=(PK,Dg,Cb,A5,Dj,DI,Dz,DG);let cQ:CF K N:=(M1,Bg,Bx,zP,A8,Be,Bt,Bb)
 let inj:∀i j,(i=0\/i=1\/i=2\/i=3\/i=4\/i=5)->(j=0\/j=1\/j=2\/j=3\/j=4\/j=5)->(λj=>match j with|0=>A|1=>J|2=>M|3=>D|4=>L|_=>N) i=(λj=>match j with|0=>A|1=>J|2=>M|3=>D|4=>L|_=>N) j->i=j:=by
  rintro i j (rfl|rfl|rfl|rfl|rfl|rfl) (rfl|rfl|rfl|rfl|rfl|rfl) h
  .rfl
  .exact absurd h yO
  .exact absurd h yt
  .exact absurd h yP
  .exact absurd h qV
  .exact absurd h pZ
  .exact absurd h.symm yO
  .rfl
  .exact absurd h uo
  .exact absurd h uK
  .exact absurd h nH
  .exact absurd h mm
  .exact absurd h.symm yt
  .exact absurd h.symm uo
  .rfl
  .exact absurd h ub
  .exact absurd h nM
  .exact absurd h mw
  .exact absurd h.symm yP
  .exact absurd h.symm uK
  .exact absurd h.symm ub
  .rfl
  .exact absurd h nQ
  .exact absurd h md
  .exact absurd h.symm qV
  .exact absurd h.symm nH
  .exact absurd h.symm nM
  .exact absurd h.symm nQ
  .rfl
  .exact absurd h jQ
  .exact absurd h.symm pZ
  .exact absurd h.symm mm
  .exact absurd h.symm mw
  .exact absurd h.symm md
  .exact absurd h.symm jQ
  .rfl
 obtain⟨p,e0,e1,e2,e3,e4,e5,O,B,y,ab,P,W,Y⟩:∃p:Pl,p.c 0=A/\p.c 1=J/\p.c 2=M/\p.c 3=D/\p.c 4=L/\p.c 5=N/\p.pr 0/\p.pr 1/\p.pr 2/\p.pr 3/\p.pr 4/\p.pr 5/\(∀j,p.pr j->(j=0\/j=1\/j=2\/j=3\/j=4\/j=5)):=((_,λj=>(j=0\/j=1\/j=2\/j=3\/j=4\/j=5),inj),rfl,rfl,rfl,rfl,rfl,rfl,(.inl rfl),(.inr (.inl rfl)),(.inr (.inr (.inl rfl))),(.inr (.inr (.inr (.inl rfl)))),(.inr (.inr (.inr (.inr (.inl rfl))))),(.inr (.inr (.inr (.inr (.inr (rfl)))))),λ_ h=>h);subst e0 e1 e2 e3 e4 e5;let k0:UO l.prog w K mg eC true 1 "Child" "__init__" (He K) []:=(_,_,_,_,_,DB,aaw uM,da,EF,.nil);let kL:UO l.prog w K mg eC true 2 "Leaf" "__init__" (Hg K) []:=(_,_,_,_,_,Ee,P5 m7 k0,Xn,rj,.nil);let iL:=abF oF O (P5 m7 k0);let iS:=Vh dW B (QQ kg kL);let iF:=Xa dX y (QQ kg kL);let i3:=Fl ∅ gY ab (IB f9 k0);let i4:=Fl ∅ dh P (IB f9 k0);let i5:=Fl ∅ cQ W (IB f9 k0);let eg:bh l.prog w K mg eC 1 "work_words" (Bu p.rep) λC=>C=p.c 0:=λC e=>by subst e;exact(_,_,_,_,oF.cl,BZ,aay rh O,Ca,.nil)
 let fe:bh l.prog w K mg eC 1 "work_words" (Bu p.rep) λC=>C=p.c 1:=λC e=>by subst e;exact(_,_,_,_,dW.cl,zZ,XJ nV T B dW,Ag,.nil)
 let b7:bh l.prog w K mg eC 1 "work_words" (Bu p.rep) λC=>C=p.c 2:=λC e=>by subst e;exact(_,_,_,_,dX.cl,Af,Zk nX T y dX,z9,.nil)
 let dv:bh l.prog w K mg eC 1 "worked_out" (Q5 p.rep) λC=>C=p.c 1:=λC e=>by subst e;exact(_,_,_,_,dW.cl,Aa,Xs iV B (.inl rfl) dW,oj,.nil)
 let cd:bh l.prog w K mg eC 1 "worked_out" (Q5 p.rep) λC=>C=p.c 2:=λC e=>by subst e;exact(_,_,_,_,dX.cl,zS,Xs iV y (.inr rfl) dX,oj,.nil)
 let c6:bh l.prog w K mg eC 1 "way" (JZ p.rep) λC=>C=p.c 3:=λC e=>by subst e;exact(_,_,_,_,gY.cl,N5,abH CV ab,OP,.nil)
 let cS:bh l.prog w K mg eC 1 "way" (JZ p.rep) λC=>C=p.c 4:=λC e=>by subst e;exact(_,_,_,_,dh.cl,Gf,acR wj P,GD,.nil)
 let cN:bh l.prog w K mg eC 1 "way" (JZ p.rep) λC=>C=p.c 5:=λC e=>by subst e;exact(_,_,_,_,cQ.cl,Eg,abY ux W,Ej,.nil)
 let IF:If l.prog w K mg eC 3 p.rep p.cl:=by
  erw[(λe h=>Pl.mono e h,λh=>h.1,?_,?_,?_)]
  .rintro H a s ⟨ok,pr,dx,e⟩;erw[(_,dx,_,e,(pr,rfl),?_)];unfold vz
   split<;>exact(rfl,rfl,rfl,rfl,rfl)
  .rintro C j ⟨z,rfl⟩;rcases Y _ z with rfl|rfl|rfl|rfl|rfl|rfl
   .exact (_,_,_,_,oF.cl,NV,(DN oP T O ∅ oF eg).mono ∅,uX,.nil)
   .exact (_,_,_,_,dW.cl,Ie,(DN oP T B ∅ dW fe).mono ∅,uX,.nil)
   .exact (_,_,_,_,dX.cl,J6,(DN oP T y ∅ dX b7).mono ∅,uX,.nil)
   .exact (_,_,_,_,gY.cl,Je,(E9 kJ T ab ∅ gY c6).mono ∅,pW,.nil)
   .exact (_,_,_,_,dh.cl,Dp,(E9 kJ T P ∅ dh cS).mono ∅,pW,.nil)
   .exact (_,_,_,_,cQ.cl,BB,(E9 kJ T W ∅ cQ cN).mono ∅,pW,.nil)
  .rintro C j ⟨z,rfl⟩;rcases Y _ z with rfl|rfl|rfl|rfl|rfl|rfl
   .exact (_,_,_,_,oF.cl,Q2,(IQ qY O ∅).mono ∅,zc,.nil)
   .exact (_,_,_,_,dW.cl,K8,(IQ qY B ∅).mono ∅,zc,.nil)
   .exact (_,_,_,_,dX.cl,K6,(IQ qY y ∅).mono ∅,zc,.nil)
   .exact (_,_,_,_,gY.cl,Lm,(Kc lU ab ∅).mono ∅,rR,.nil)
   .exact (_,_,_,_,dh.cl,Fe,(Kc lU P ∅).mono ∅,rR,.nil)
   .exact (_,_,_,_,cQ.cl,DH,(Kc lU W ∅).mono ∅,rR,.nil)
 let e:Wd l.prog w K mg eC:=trivial
 let ac:∀j,p.pr j->CF K (p.c j):=by
  intro j z;rcases Y _ z with rfl|rfl|rfl|rfl|rfl|rfl
  .exact oF
  .exact dW
  .exact dX
  .exact gY
  .exact dh
  .exact cQ
 let pN:=fL X G e fn ca λ_ F=>afy F;let kA:=fL X G e dr bF λ_ F=>Ze F;let fG:=fL X G e VU VE λ_ F=>Ru F
 let hB:bh l.prog w K mg eC 3 "begun_again" (NF p.rep) λC=>∃j,p.cl j C:=by
  rintro C ⟨j,z,rfl⟩;rcases Y _ z with rfl|rfl|rfl|rfl|rfl|rfl
  .exact (_,_,_,_,oF.cl,AZ,(ud bX O oF qW rB).mono ∅,cD,.nil)
  .exact (_,_,_,_,dW.cl,yr,(ud bX B dW qW rB).mono ∅,cD,.nil)
  .exact (_,_,_,_,dX.cl,yQ,(ud bX y dX qW rB).mono ∅,cD,.nil)
  .exact (_,_,_,_,gY.cl,yZ,(ud bX ab gY qW rB).mono ∅,cD,.nil)
  .exact (_,_,_,_,dh.cl,sX,(ud bX P dh qW rB).mono ∅,cD,.nil)
  .exact (_,_,_,_,cQ.cl,rQ,(ud bX W cQ qW rB).mono ∅,cD,.nil)
 let hE:bh l.prog w K mg eC 3 "end_at" (L9 p.rep) λC=>∃j,j<3/\p.cl j C:=by
  rintro C ⟨j,hj,z,rfl⟩;rcases Y _ z with rfl|rfl|rfl|rfl|rfl|rfl
  .exact (_,_,_,_,oF.cl,Lf,(aaG AE O).mono ∅,Kv,.nil)
  .exact (_,_,_,_,dW.cl,GN,(abC wz B dv).mono ∅,Gi,.nil)
  .exact (_,_,_,_,dX.cl,Gg,(aaJ wx y cd).mono ∅,F8,.nil)
  .exact absurd hj ∅
  .exact absurd hj ∅
  .exact absurd hj ∅
 let ex:bh l.prog w K mg eC 3 "chosen" (yy p.rep) λC=>∃j,3<=j/\p.cl j C:=by
  rintro C ⟨j,hj,z,rfl⟩;rcases Y _ z with rfl|rfl|rfl|rfl|rfl|rfl
  .exact absurd hj ∅
  .exact absurd hj ∅
  .exact absurd hj ∅
  .exact (_,_,_,_,gY.cl,GY,(S6 wK ab pN).mono ∅,Gu,.nil)
  .exact (_,_,_,_,dh.cl,Bz,(RH qk P kA fG).mono ∅,AX,.nil)
  .exact (_,_,_,_,cQ.cl,zT,(RY nW W kA fG).mono ∅,Ab,.nil)
 let SI:ShI l.prog w K mg eC p.rep p.cl:=by
  erw[(IF,?_,hB,hE,ex)];rintro H a s ⟨ok,pr,dx,e⟩;erw[(_,dx,_,e,ac _ pr,G1 s,λh3=>(Qq h3,Te h3),λh3=>?_)];unfold vz;let k5:=ok.kd;let:s.kind=3\/s.kind=4\/s.kind=5:=by lia
  rcases this with z|z|z<;>rw[z]<;>exact(rfl,rfl)
 let MT:MkT l.prog w K mg eC p 3:=((_,_,_,_,bq,iL.mono ∅,Xn,rj,.nil),(_,_,_,_,Y1,iS.mono ∅,bd,nK,.nil),(_,_,_,_,db,iF.mono ∅,Zn,nK,.nil),
  (_,_,_,_,XF,i3.mono ∅,Xy,iD,.nil),(_,_,_,_,O4,i4.mono ∅,Q1,iD,.nil),(_,_,_,_,NO,i5.mono ∅,Ow,iD,.nil))
 let oQ:=fL X G e Wa Vw λ_ F=>Vp F T;let EY:=fL X G e Wg Wm λ_ F=>VB F T Eo EG oU oQ;let qi:=fL X G e Kq Ij λ_ F=>acP F T pV oU oQ;let cR:iX l.prog w K mg eC true 3 "number_in" Ul [.int 1000000]:=(_,_,_,_,aeZ yL T Bh qi,Q0,yL.kp,KO,.cons (_,rfl) .nil);let Ef:=fL X G e Wy VR λ_ F=>Vf F T MT cR;let yD:=fL X G e O8 QN λ_ F=>VZ F T fB MT cR;let mM:=fL X G e Gq Ge λ_ F=>Sa F T Ef yD;let Bk:=fL X G e Ro SN λ_ F=>Ss F T fB N4 NU BN A4 EY mM;let ct:CT K r:=(b9,E6,JM,Kw,Km);let tN:=kc e ct.cl Ky NA λ_ F=>Zo F ct ac;let tK:=kc e ct.cl MY O0 λ_ F=>acw F T ct ac;let tA:=kc e ct.cl za Ah λ_ F=>YW F T ct IF;let tF:=kc e ct.cl OL Ql λ_ F=>abt (p:=p) F ct;let SA:=mkM e aN d1 GB (PV (p:=p) wc ct);let rP:=fL X G e Ls KS λ_ F=>WV F T;let BH:=fL X G e S7 So λ_ F=>RX F T;let oW:=fL X G e JP HV λ_ F=>Vk F T;let sT:=fL X G e Kx Li λ_ F=>acL F T ct ac IF rS tN;let Bv:=fL X G e RF Ra λ_ F=>Rr F T ct xu tN tA tK Bk BH oW sT;let Sw:=fL X G e dk fr λ_ F=>aaO F T ct SA tN rP Bv;let q:jA (k8 r p):=abG
 let TI:TrI l.prog w K mg eC (k8 r p) r:=by
  erw[(q,?_,?_)]
  .rintro H t U FT ⟨c,b,a,d,as,hT,rfl⟩;let(dx,h):=hT.ob;exact(dx,_,h,rfl)
  .rintro C rfl;let(f,fd,ps,ds,h1,h2,h3,h4,h5):=tF _ rfl;erw[(f,fd,ps,ds,h1,h2,(h3.mono ∅).imp ?_,h4,h5)];rintro vs H Q E ⟨t,U,FT,i,rfl,⟨c,b,a,d,as,hT,rfl⟩,hi,nd,_,k⟩;exact(t,U,c,b,a,d,as,i,rfl,hT,hi,nd,k)
 obtain⟨fx,eH,eL,eM⟩:∃fx:HC,fx.cH=zG/\fx.cL=fg/\fx.cM=dw:=((_,_,_),rfl,rfl,rfl);subst eH eL eM;let m:CH K fx.cH:=(bv,KC,Jj,E0,KG,BD);let o:CS K fx.cL:=(Jt,xh,wL,xj,uR,xb,vK,rZ,xg,vJ,tX,wO,xX,ui,sY,vB,uI);let g:CS K fx.cM:=(EI,uN,uG,uz,sP,tu,sU,pC,tD,sf,qC,t7,uU,qR,qE,rY,qB)
 let ZN:bh l.prog w K mg eC 1 "is_off" (vM p.rep (k8 r p) fx) λC=>C=fx.cL\/C=fx.cM:=by
  rintro C (rfl|rfl)
  .exact (_,_,_,_,o.cl,wV,Pp kB o,rC,.nil)
  .exact (_,_,_,_,g.cl,ug,Pp kB g,rC,.nil)
 let et:=kc e g.cl iZ jH λ_ F=>Vr (R:=p.rep) (fx:=fx) q F g;let ZL:=kc e g.cl iZ jH λ_ F=>Sn F g;let am:=kc e o.cl sy uP λ_ F=>RD (R:=p.rep) (TR:=k8 r p) (fx:=fx) F o
 let eD:bh l.prog w K mg eC 4 "step" (jU p.rep (k8 r p) fx true (λT S i us=>us=[]/\((S i).st≠"told"->0<=(S i).steps/\((sh T i).kind≠0->(S i).steps<=(sh T i).many))) (λT i S=>(cx T i S).2) (λT S i=>.str (cx T i S).1)) λC=>C=fx.cL:=λC e=>by
  subst e;exact(_,_,_,_,o.cl,Ak,aal q (λh=>(by let(C,dx,fs,a1,a2,a3,a4,a5,a6,a7):=SI.I.inst h;exact(C,dx,fs,a1,λz=>(_,z,a2),a6))) SI.en am nO rfl o,zY,.nil)
 let ak:=kc e g.cl qS sE λ_ F=>W6 (R:=p.rep) (fx:=fx) q T kA F g;let bm:=kc e g.cl qP rJ λ_ F=>U8 q ak F rfl g;let an:=kc e g.cl qQ sL λ_ F=>WJ q T ZN o g pN F rfl;let eb:=kc e g.cl oA pS λ_ F=>Qj q T an g F rfl;let fh:=kc e g.cl oE pT λ_ F=>Qs (R:=p.rep) (TR:=k8 r p) (fx:=fx) F g;let ed:=kc e g.cl qc qL λ_ F=>aa8 q T SI o g pN F rfl;let ua:=fL X G e Ye X8 λ_ F=>Wt F T;let A6:=fL X G e RQ Sg λ_ F=>Sv F T ua;let dl:=kc e g.cl mS oC λ_ F=>V6 q T SI g ua A6 F rfl;let c7:=kc e g.cl qz qH λ_ F=>RN q T SI an o g F rfl;let fc:=kc e g.cl ow pX λ_ F=>QD (R:=p.rep) q T o g pN fG F rfl;let c4:=kc e g.cl kM kQ λ_ F=>ab1 q T ZN o g pN F rfl
 let dB:∀n,2<=n->∀C s x,DtB p.rep (k8 r p) fx C s x->MethAt l.prog w K mg eC (gf l.prog w) true n "begin" C s x:=by
  rintro n hn C s x ⟨rfl,⟨rfl,rfl⟩|⟨rfl,rfl⟩⟩
  .exact (_,_,_,_,o.cl,yG,(Va q my o).mono (),xw,.nil)
  .exact (_,_,_,_,g.cl,vj,(VQ q et kn rfl g).mono (),vG,.nil)
 let dT:∀n,3<=n->∀C s x,DtT p.rep (k8 r p) fx C s x->MethAt l.prog w K mg eC (gf l.prog w) true n "tell" C s x:=by
  rintro n hn C s x ⟨rfl,⟨rfl,rfl⟩|⟨rfl,rfl⟩⟩
  .exact (_,_,_,_,o.cl,An,(XQ q (λh=>(by let(C,dx,fs,a1,a2,a3,a4,a5):=SI.fld h;exact(C,dx,fs,a1,a2,a4))) oo o).mono (),z7,.nil)
  .exact (_,_,_,_,g.cl,xk,(aak q ak kX rfl g).mono (),xa,.nil)
 let dS:∀C s x,DtS p.rep (k8 r p) fx C s x->MethAt l.prog w K mg eC (gf l.prog w) true 2 "steps_at" C s x:=by
  rintro C s x ⟨rfl,⟨rfl,rfl⟩|⟨rfl,rfl⟩⟩
  .exact (_,_,_,_,o.cl,ur,VD ZN jF rfl o q,tZ,.nil)
  .exact (_,_,_,_,g.cl,qO,Vt hX,qN,.nil)
 let Nk:=kc e m.cl IU Ll λ_ F=>Y0 q SI o g m F
 let Zx:∀d,bh l.prog w K mg eC (d+2) "begin" (mG p.rep (k8 r p) fx (λT i _=>b6 T d i) (λT i S=>bz T d i S)) λC=>C=fx.cH:=by
  intro d
  induction d with
  |zero=>
   rintro C rfl;exact(_,_,_,_,m.cl,Ax,QC λvs H Q E (_,_,_,_,_,_,_,_,_,_,_,_,h,_)=>h,AB,.nil)
  |succ d ih=>
   rintro C rfl;exact(_,_,_,_,m.cl,Ax,WE q T o g m d () (dB _ ()) Nk ih AQ,AB,.nil)
 let N6:=kc e m.cl Gz JL λ_ F=>Wj q o g m Nk F;let bn:∀n,12<=n->bh l.prog w K mg eC n "end_turning" (mG p.rep (k8 r p) fx (λT i _=>f7 T i=false) aV) λC=>C=fx.cH:=λn hn C e=>by subst e;exact(_,_,_,_,m.cl,Ao,(Ke q T o g m ∅ fh N6 fc (Zx 9) n8).mono (),zX,.nil)
 let ax:∀d,bh l.prog w K mg eC (2*d+20) "tell" (mG p.rep (k8 r p) fx (λT i _=>b6 T d i) (λT i S=>cz T d i S)) (λC=>C=fx.cH)->bh l.prog w K mg eC (2*d+21) "put_away" (mG p.rep (k8 r p) fx (λT i _=>f7 T i=false/\b6 T (d+1) i) (λT i S=>aC T d i S)) λC=>C=fx.cH:=λd ht C e=>by
  subst e;exact(_,_,_,_,m.cl,Fc,QR q T o g m d () eb (bn _ ()) ht tj,DX,.nil)
 let al:∀d,bh l.prog w K mg eC (2*d+20) "tell" (mG p.rep (k8 r p) fx (λT i _=>b6 T d i) (λT i S=>cz T d i S)) λC=>C=fx.cH:=by
  intro d
  induction d with
  |zero=>
   rintro C rfl;exact(_,_,_,_,m.cl,Df,QC λvs H Q E (_,_,_,_,_,_,_,_,_,_,_,_,h,_)=>h,Cm,.nil)
  |succ d ih=>
   rintro C rfl;exact(_,_,_,_,m.cl,Df,ZG q T SI o g m d () (dT _ ()) Nk N6 am (ax d ih) DJ,Cm,.nil)
 let aK:bh l.prog w K mg eC 39 "put_away" (mG p.rep (k8 r p) fx (λT i _=>f7 T i=false/\b6 T 10 i) (λT i S=>aC T 9 i S)) λC=>C=fx.cH:=ax 9 (al 9);let cr:=kc e m.cl Gj J5 λ_ F=>RC q T o g m ∅ dl Nk bm c7 aK F;let fo:=kc e m.cl tH vU λ_ F=>Pq (n:=40) q T o g m ∅ c4 cr F;let bi:bh l.prog w K mg eC 41 "put_away" (mG p.rep (k8 r p) fx (λT i _=>f7 T i=false/\b6 T 10 i) (λT i S=>aC T 9 i S)) λC=>C=fx.cH:=Uu aK ∅;let ee:=kc e m.cl Lk OF λ_ F=>ZD q T o g m ∅ ed bi fo F;let MH:=kc e m.cl GH Jo λ_ F=>SK (n:=42) q T o g m ∅ ee F;let ea:=kc e m.cl KI NP λ_ F=>Zu (n:=43) q T o g m ∅ dS eD N6 MH F;let ez:bh l.prog w K mg eC 43 "tell" (mG p.rep (k8 r p) fx (λT i _=>b6 T 10 i) (λT i S=>cz T 10 i S)) λC=>C=fx.cH:=Uu (al 10) ∅;let eA:=kc e m.cl K7 MO λ_ F=>Yj q T lZ oB o g m ∅ ZN ez MH F;let dL:=kc e m.cl sO uu λ_ F=>Tc (R:=p.rep) TI T m F;let eq:=kc e m.cl K3 OJ λ_ F=>ZY (n:=43) q T SI Dw Kr lZ oB o g m ∅ dL ZN N6 MH F;let ff:=kc e m.cl Lp OB λ_ F=>aar (R:=p.rep) (TR:=k8 r p) T m F;let kS:UO l.prog w K mg eC true 1 "Standing" "__init__" (Hh K) []:=(_,_,_,_,_,yq,Xc nA,R1,Aj,.nil);let eP:=mkM e J9 HB uB (Vi jP kS);let ew:=mkM e Fj Em qF (W5 g ib kS ZL);let ce:=kc e g.cl uV w6 λ_ F=>acy T g F;let sg:=fL X G e Lh KL λ_ F=>abg SI o eP ew F;let pY:=fL X G e J0 IW λ_ F=>Xj T ct o g sg ce F;let NS:=mkM e dt eB Ex (Y2 (n:=12) T m ∅ pY (Zx 10) tQ);let du:=fL X G e bE b1 λ_ F=>ZP NS F;let fU:=fL X G e Wu Ww λ_ F=>ab0 (cm:=true) F T;let S9:=fL X G e ei dU λ_ F=>acj F T;let jX:=fL X G e J8 Hv λ_ F=>Ws F T;let vO:=fL X G e ML Oo λ_ F=>Vu F T;let RM:=fL X G e es cT λ_ F=>aaW F T fU S9 jX vO;let Rx:=fL X G e el ad λ_ F=>abv F T;let GG:=ag7 (kk:=44) q ∅ (gx _) ff ea eA eq;let EX:ExF K jd gK ky:=(VT.xi,Zh.xi,Fh,II,G7 Fh DW (λ_=>rfl),G7 II GP (λz=>absurd z vX),G7 Fh Gb (λz=>absurd z.symm vX),G7 II yj (λ_=>rfl),wR,yx,yj);let M9:=fL X G e bo c1 λ_ F=>Zf F T GG EX sJ sQ Dw lZ;let Fd:=fL X G e WN VM λ_ F=>Td F T GG EX lZ oB;let RB:=fL X G e ev ey λ_ F=>ab6 F T GG M9 Fd;let zt:=fL X G e c3 dO λ_ F=>Z9 F T;let mP:=fL X G e cp a0 λ_ F=>acp F T;let EM:=fL X G e ch b8 λ_ F=>abL F T;let SS:=fL X G e fp be λ_ F=>abp F;let Ob:=fL X G e cC c5 λ_ F=>Xb F T mP EM;let RV:=fL X G e cf c2 λ_ F=>XX F T mP;let ET:=fL X G e W3 WU λ_ F=>P0 F T mP EM zt;let NJ:=fL X G e ek co λ_ F=>WS F T Ob RV ET SS;let MW:=fL X G e dd dy λ_ F=>VS F T zt mP;let X6:=aeM (k:=44) Sw ∅;erw[aft ∅ aA T GG fU RM Rx X6 (aen ∅ du) NJ MW RB]
theorem walk{l:ame}{q:iU}{c:List Str}{j:(Str->Option fy)->h7->Prop}{i:iP->h7->Prop}{d:DefRec}{K:Params->gI}(o:l.most=some 63)(g:d.params.defaults=[])
  (m:∀(w:iP) (h:h7),i w h->(K w.params).In h)
  (F:∀(w:iP) (mg:Str->Option fy) (fa:eF) (h:h7),(K w.params).In h->h.Ns mainGlobals mg->mg d.name=some (.ref fa)→
   ∃fd:pG,(∀(s:fX) (u:fy),alW s fd ([u],[]) [("_law_script",u)])/\∀eC:h7,(K w.params).In eC->eC.Ns mainGlobals mg->aD l.prog w (K w.params) mg eC (gf l.prog w) true 63 fa fd ["_law_script"] (UW (K w.params))):
  aow q c j i l.row.toRowW d [] (λf vs=>PySem.call f vs):=
 L2.aaY (n:=63) (k:=63) (cm:=true) (x:="_law_script") (CX:=λw=>gf l.prog w) (sp:=λw=>UW (K w.params)) o ∅ g (λ_=>rfl,∅,∅) m F (λ_ _ a ns r _ p=>(a,ns,rfl,p,λ_=>rfl))
  λw H s e t z=>by let(_,_,_,_,_,_,_,_,_,_,_,_,_,q):=z;erw[q]
end K11
end Internal
end
open PySem PySem.W PyProof.Rows
set_option maxRecDepth 100000 in
set_option maxHeartbeats 0 in
theorem PySem.Challenge.cw_minders_k11_whole_answered_as_its_way_sa_holds : PySem.Challenge.rw_minders_k11_whole_answered_as_its_way_sa.Holds := by
 refine hd ?_
 k_fill
 refine Internal.K11.walk (l := PySem.Challenge.rw_minders_k11_whole_answered_as_its_way_sa) rfl rfl (fun w h Y => PySem.W.kIn_of Y) ?F
 case F =>
   intro w mg fa h KX G hmg
   refine' Internal.K11.all_mk KX G hmg ?k0 ?k1 ?k2 ?k3 ?k4 ?k5 ?k6 ?k7 ?k8 ?k9 ?k10 ?k11 ?k12 ?k13 ?k14 ?k15 ?k16 ?k17 ?k18 ?k19 ?k20 ?k21 ?k22 ?k23 ?k24 ?k25 ?k26 ?k27 ?k28 ?k29 ?k30 ?k31 ?k32 ?k33 ?k34 ?k35 ?k36 ?k37 ?k38 ?k39 ?k40 ?k41 ?k42 ?k43 ?k44 ?k45 ?k46 ?k47 ?k48 ?k49 ?k50 ?k51 ?k52 ?k53 ?k54 ?k55 ?k56 ?k57 ?k58 ?k59 ?k60 ?k61 ?k62 ?k63 ?k64 ?k65 ?k66 ?k67 ?k68 ?k69 ?k70 ?k71 ?x72 ?x73 ?x74 ?x75 ?k76 ?k77 ?k78 ?k79 ?n80 ?n81 ?n82 ?n83 ?n84 ?n85 ?n86 ?n87 ?n88 ?n89 ?n90 ?n91 ?n92 ?n93 ?n94 ?n95
   case k0 | k1 | k2 | k3 | k4 | k5 | k6 | k7 | k8 | k9 | k10 | k11 | k12 | k13 | k14 | k15 | k16 | k17 | k18 | k19 | k20 | k21 | k22 | k23 | k24 | k25 | k26 | k27 | k28 | k29 | k30 | k31 | k32 | k33 | k34 | k35 | k36 | k37 | k38 | k39 | k40 | k41 | k42 | k43 | k44 | k45 | k46 | k47 | k48 | k49 | k50 | k51 | k52 | k53 | k54 | k55 | k56 | k57 | k58 | k59 | k60 | k61 | k62 | k63 | k64 | k65 | k66 | k67 | k68 | k69 | k70 | k71 | k76 | k77 | k78 | k79 => (repeat' (first | exact True.intro | apply And.intro | apply Exists.intro | fail)) <;> k_is
   case x72 | x73 | x74 | x75 => k_exc
   case n80 | n81 | n82 | n83 | n84 | n85 | n86 | n87 | n88 | n89 | n90 | n91 | n92 | n93 | n94 | n95 => decide
