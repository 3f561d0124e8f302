import PyProof.Rows.All
import Wide.All
import OpenK.AllK
import Wide.FinOn
import Lean
import PyProof.EqAt
import PyProof.EqKinds
import PyProof.TupleCall
import PySem.Challenge.RW_lodge_k81_whole_rooms
set_option Elab.async false
set_option linter.all false
set_option maxRecDepth 100000
set_option genSizeOf false
set_option compiler.extract_closed false
set_option bootstrap.genMatcherCode false
def A4:=@List.length_map
def A5:=@PySem.Heap.get?_push_of_some
def A6:=@List.length_append
def A7:=@List.getElem?_eq_some_iff
def A8:=@PySem.wpAny_bind
def A9:=@Nat.le_refl
def B1:=@List.getElem?_eq_getElem
def B2:=@PySem.Heap.lt_size
def B3:=@List.getElem?_map
def B4:=@List.getD_eq_getElem?_getD
def B5:=@Bool.false_ne_true
def B6:=@List.map_cons
def B7:=@List.length_cons
def B8:=@List.mem_append_right
def B9:=@List.map_append
def C1:=@List.size_toArray
def C5:=@List.mem_cons
def C6:=@Bool.and_eq_true
def C7:=@List.getElem?_append_left
def C8:=@List.map_congr_left
def C9:=@Nat.lt_of_lt_of_le
def D0:=@PySem.Heap.get?_push_size
def D1:=@List.map_map
def D2:=@Nat.le_trans
def D3:=@List.mem_map
def D4:=@List.getElem?_set_ne
def D5:=@List.mem_cons_of_mem
def D6:=@Nat.ne_of_lt
def D7:=@List.getElem?_append_right
def D8:=@PySem.boot_len
def D9:=@PySem.sizeLine_eq
def E7:=@List.mem_singleton
def E8:=@of_decide_eq_true
def E9:=@PySem.wpAny_pure
def F0:=@Option.map_eq_some_iff
def F1:=@List.mem_append
def F3:=@Nat.lt_irrefl
def F4:=@decide_eq_true
def F5:=@PySem.wpAny_mono
def F6:=@Bool.false_eq_true
def F7:=@List.length_set
def F8:=@List.length_singleton
def F9:=@List.all_eq_true
def G6:=@List.append_nil
def J6:=@List.getElem?_replicate
def J7:=@List.append_assoc
def J8:=@Option.map_some
def J9:=@List.mem_range
def K0:=@List.getElem?_cons_zero
def K1:=@List.nodup_cons
def K2:=@List.getElem?_set_self
def K3:=@PySem.Heap.get?_update_other
def K4:=@PyProof.Rows.boot_list
def K5:=@congrArg
def K6:=@Int.toNat_natCast
def K7:=@List.mem_cons_self
def K8:=@List.getElem?_eq_none
def K9:=@List.lookup_cons
def L1:=@Nat.zero_le
def L4:=@PyProof.Rows.callWith_type1
def L5:=@if_false
def L6:=@PySem.mem_of_lookup
def L7:=@List.replicate_succ
def L8:=@decide_eq_false
def L9:=@Option.some.inj
def M0:=@List.mem_of_getElem?
def M3:=@PySem.Calls.spliced_cons
def M4:=@Array.length_toList
def M5:=@List.length_reverse
def M6:=@List.length_replicate
def M7:=@List.length_range
def M8:=@decide_false
def M9:=@Option.bind_eq_some_iff
def N0:=@List.mem_append_left
def N1:=@PySem.wpAny_Call_Name_kw
def N2:=@List.mem_filter
def N3:=@PySem.W.mg_none_of
def N4:=@beq_iff_eq
def N5:=@List.getElem?_range
def N6:=@PyProof.Rows.boot_str
def N7:=@PySem.Heap.size_push
def N8:=@List.map_nil
def N9:=@List.find?_cons
def O0:=@List.filter_cons
def O4:=@List.getElem?_cons_succ
def O5:=@decide_true
def O6:=@List.flatten_cons
def O7:=@PySem.wpAny_loadPart_at
def O8:=@List.drop_eq_nil_of_le
def O9:=@Nat.zero_add
def P1:=@List.find?_cons_of_pos
def P2:=@List.find?_cons_of_neg
def P3:=@beq_eq_false_iff_ne
def P4:=@Nat.le_succ
def P5:=@List.pairwise_iff_getElem
def P6:=@beq_self_eq_true
def P7:=@List.pairwise_cons
def P8:=@Nat.le_of_lt
def P9:=@PySem.Calls.spliced_nil
def Q0:=@Option.isSome_map
def Q1:=@List.filter_cons_of_neg
def Q2:=@List.filter_cons_of_pos
def Q3:=@List.take_add_one
def Q4:=@List.length_nil
def Q5:=@PySem.Calls.callWith_builtin
def Q6:=@List.all_cons
def Q7:=@Bool.and_self
def Q8:=@Nat.lt_succ_self
def Q9:=@List.length_take
def R0:=@Array.getElem?_eq_some_iff
def R1:=@List.contains_cons
def R3:=@List.set_cons_zero
def R4:=@Int.emod_lt_of_pos
def R5:=@PySem.Heap.get?_update_self
def R6:=@PySem.wpAny_passesOwn
def R7:=@Int.emod_nonneg
def R8:=@PySem.Heap.get?_none_of_le
def R9:=@PySem.wpAny_truthy_bool
def S3:=@List.ext_getElem?
def S4:=@List.nodup_append
def S5:=@List.pairwise_map
def S6:=@PySem.wpAny_holding
def S7:=@PySem.wpAny_standAt
def S8:=@Option.isSome_iff_exists
def S9:=@List.any_cons
def T3:=@List.sum_cons
def T4:=@PySem.Heap.SameBut.update
def T5:=@List.any_eq_true
def T6:=@PySem.F.plainAttrs_list
def T7:=@PySem.wpAny_getItem_str_slice
def T8:=@List.take_length
def T9:=@Option.bind_some
def U1:=@List.getElem_map
def U2:=@Option.getD_some
def U3:=@List.eq_nil_of_length_eq_zero
def U4:=@PySem.codeAny_mono
def U5:=@PySem.tupleKind_room_in1
def U6:=@Bool.eq_iff_iff
def U7:=@List.nil_append
def U8:=@Bool.or_eq_true
def U9:=@List.cons.injEq
def V0:=@PySem.Paired.length
def V1:=@Array.getElem?_toList
def V2:=@Nat.lt_trichotomy
def V3:=@PySem.Calls.evalArgs_plain
def V4:=@Array.getElem_toList
def V5:=@Int.mul_nonneg
def V6:=@List.nodup_nil
def V7:=@Nat.le_of_eq
def V8:=@List.cons_append
def V9:=@List.getElem_mem
def W0:=@Int.zero_add
def W1:=@Decidable.byContradiction
def W2:=@List.getElem_of_mem
def W3:=@List.filter_eq_self
def W4:=@PySem.wpAny_execs_nil
def W5:=@PySem.W.KasT.kasWp_bind
def W6:=@List.Perm.of_eq
def W7:=@PySem.W.callWith_K
def W8:=@PySem.Code.quiet_builtin
def W9:=@PySem.F.plainAttrs_dict
def X0:=@PySem.wpAny_pyIter_enum
def X1:=@Nat.lt_succ_of_lt
def X2:=@Int.lt_trans
def X3:=@Int.mul_le_mul
def X4:=@List.filter_congr
def X5:=@PySem.F.plainAttrs_str
def X6:=@PySem.plainObj_wpAny_Assign_Attribute
def X7:=@PySem.Obj.isFreed_of_fields
def X8:=@List.contains_iff_mem
def X9:=@List.length_filter_le
def Y0:=@PySem.F.slot_dict_pop
def Y1:=@PySem.F.slot_dict_get
def Y2:=@PyProof.Rows.boot_int
def Y3:=@PyProof.Rows.callWith_builtin1
def Y4:=@PySem.wpAny_call
def Y5:=@List.perm_middle
def Y6:=@List.mem_reverse
def Y7:=@Int.mul_le_mul_of_nonneg_right
def Y8:=@PySem.Around.frames_deeper
def Y9:=@List.mem_of_mem_take
def Z0:=@List.foldl_cons
def Z1:=@PySem.post_val_or_str
def Z2:=@PySem.F.slot_dict_setdefault
def Z3:=@List.filterMap_cons
def Z4:=@PySem.wpAny_isSubtype_exc
def Z5:=@Nat.ne_of_gt
def Z6:=@PySem.call_meetsIn
def Z7:=@Nat.sub_self
def Z8:=@Array.getD_eq_getD_getElem?
def Z9:=@List.all_map
def EN:=@List.map_id'
def ZA1:=@PySem.Calls.Name_function_global
def Ta:=@PySem.Obj.data_mapFields
def ZA3:=@PySem.wpAny_letOwnedTupleGo_enum
def ZA4:=@PySem.F.excBase_ValueError
def SY:=@List.set_cons_succ
def ZA6:=@Array.perm_iff_toList_perm
def ZA7:=@PySem.codeAny_call_builtin_code
def ZA8:=@PySem.wpAny_check_type_call_sub
def SX:=@List.reverse_cons
def SW:=@PySem.wpAny_newObj_type
def SV:=@PySem.wpAny_Call_method
def SU:=@PySem.wpAny_pyIter_list
def SS:=@PySem.W.methodCall_KW
def ZB4:=@PySem.F.slot_list_append
def ZB5:=@PySem.F.type_list_append
def ZB6:=@PySem.wpAny_comprehension_free
def ZB7:=@PySem.F.slot_list_extend
def PY:=@PyProof.Rows.listUpdate_at
def ZB9:=@PyProof.Rows.boot_sorted
def ZC0:=@List.Pairwise.imp_of_mem
def ZC1:=@List.Nodup.mem_erase_iff
def SR:=@PySem.wpAny_eqBool_int
def ZC3:=@PySem.codeAny_call_builtin_at
def ZC4:=@PySem.F.args_dict_pop_3
def ZC5:=@PySem.F.args_dict_get_3
def ZC6:=@PySem.wpAny_pyNext_enum_itemD
def SQ:=@List.range'_succ
def ZC8:=@PySem.F.plain_list_iadd
def SO:=@List.nodup_range
def SN:=@List.not_mem_nil
def ZD1:=@List.filter_append_perm
def ZD2:=@PyProof.Rows.subscriptTail_builtinR
def EL:=@PySem.call_meets
def PX:=@Bool.or_true
def PV:=@Bool.true_or
def ZD6:=@PySem.F.entry_dict_pop
def ZD7:=@PySem.F.entry_dict_get
def PU:=@PySem.Txt.slice_le
def ZD9:=@PySem.wpAny_pyNext_enum_endD
def ZE0:=@List.take_of_length_le
def EK:=@Nat.not_lt
def ZE2:=@List.filter_eq_nil_iff
def SM:=@List.of_mem_zip
def ZE4:=@PySem.wpAny_loadPart'
def SK:=@PyProof.Rows.boot_isinstance
def SJ:=@List.length_zip
def SI:=@List.filter_map
def ZE8:=@PySem.W.cellsFrom_some
def SH:=@PySem.W.looks_clsIn
def SG:=@PySem.W.plainGet_of
def SA:=@PySem.wpAny_setField
def PR:=@PySem.wpAny_field
def Sz:=@List.drop_zero
def Sy:=@List.foldl_nil
def Sx:=@Bool.not_false
def PQ:=@PySem.W.Looks.here
def ZF7:=@PySem.W.looks_findIn
def Sw:=@PySem.seqIndex_neg
def Sv:=@Nat.min_self
def Su:=@Int.le_total
def Ss:=@List.map_set
local macro_rules|`(tactic|trivial)=>`(tactic|first|exact Or.inl rfl|exact Or.inr rfl|exact Or.inr (Or.inl rfl)|exact Or.inr (Or.inr rfl))
namespace PySem.W.Fast
def tw3524161015273221110:=0
def tw4506734178645372640:=0
def tw14114322153619651415:=0
def tw9020904822496812987:=0
def tw12441834700255431393:=0
def tw6092994560046866436:=0
def tw6121891825983472888:=0
def tw10434832150535206667:=0
def tw1657962846620122322:=0
def tw12531680000103928134:=0
def tw18196946781417332634:=0
def tw11579666322873264582:=0
def tw4945771428029666599:=0
def tw1554911684156824444:=0
def tw7723937319530881476:=0
def tw711239458833783740:=0
def tw5742837702306052213:=0
def tw4469296567688517171:=0
def tw14224368262022683115:=0
def tw468200549127064969:=0
def tw2325917130085387735:=0
def tw3825808023782222760:=0
def tw3806006493515415190:=0
def tw3450243970196667685:=0
def tw14240640499555260524:=0
def tw3685004560015204321:=0
def tw5583240445913750313:=0
def tw5128327318539152270:=0
def tw9972773959310422805:=0
def tw10039901283483654036:=0
def tw6764978008492576954:=0
def tw759723538895872719:=0
def tw5886718441635266308:=0
def tw2200101122563520030:=0
def tw11059181709273008011:=0
def tw7260281434906402352:=0
def tw2104776142952161312:=0
def tw1258243476674246755:=0
def tw15398116705071117452:=0
def tw5739995123815963137:=0
def tw9204258498248529908:=0
def tw1491874635018308845:=0
def tw11257417078433462404:=0
def tw9564245144816139933:=0
def tw12297184625021134224:=0
def tw4843209368415119200:=0
def tw1894047643893086116:=0
def tw12832974695349544002:=0
def tw14174492055381172096:=0
def tw5483311180529516613:=0
def tw7689860835094982342:=0
def tw9503501018374938511:=0
def tw8666392511649545161:=0
def tw4441054881249240628:=0
def tw9930618141291063416:=0
def tw18343782526047295706:=0
def tw14139859746285376999:=0
def tw16616973190840249031:=0
def tw12232305052042535897:=0
def tw6510525486229840037:=0
def tw6235232534986555206:=0
def tw14774944124703003283:=0
def tw5214997252872370925:=0
def tw4523274599374700916:=0
def tw120394889106707746:=0
def tw4068512542791287508:=0
def tw1972448722351150684:=0
def tw7079858493819294188:=0
def tw13335919565570355265:=0
def tw16656817647312292841:=0
def tw10082722637031201410:=0
def tw9718024449221844395:=0
def tw3531742772563552416:=0
def tw1785145375766349777:=0
def tw3595638872004460515:=0
def tw9508735255784742279:=0
def tw5766677392446241240:=0
def tw1568258222794636016:=0
def tw2036170699527526416:=0
def tw13632666189714970686:=0
def tw12289500270834485578:=0
def tw13425833341820083286:=0
def tw13037899200606083778:=0
def tw3895118342609129219:=0
def tw1876059822529559331:=0
def tw18315008426221069958:=0
def tw4491304260768403381:=0
def tw6783766605562117598:=0
def tw9954552961440248546:=0
def tw14871511043091285042:=0
def tw15971598079490121634:=0
def tw5516230346263808362:=0
def tw5841479334568971517:=0
def tw9711910200772594615:=0
def tw8395063796849668706:=0
def tw16397059900652551760:=0
def tw3505561395741441095:=0
def tw5529167711382583754:=0
def tw9152320955735318482:=0
def tw14106948182457281387:=0
def tw3589288922565949774:=0
def tw7064736928954455827:=0
def tw10386776411446862415:=0
def tw6728948711562353193:=0
def tw758025007713793634:=0
def tw3590326451765392539:=0
def tw7475569821142244481:=0
def tw7192350939659539138:=0
def tw13665861001039153962:=0
def tw6958654358639810413:=0
def tw7103714399685765185:=0
def tw12839223511549610548:=0
def tw4087965972531866103:=0
def tw1359130854916164042:=0
def tw13327812397749367583:=0
def tw13473413499517878372:=0
def tw2299073702637317021:=0
def tw3315889805904576839:=0
def tw13619563392567518758:=0
def tw16993861208473850705:=0
def tw3217339420919897558:=0
def tw10581280519549431217:=0
def tw10020760105831179227:=0
def tw5173990479947777310:=0
def tw6129098867737624939:=0
def tw8653247131981607315:=0
def tw8554190692428607285:=0
def tw3492702123464420217:=0
def tw2823320518390623546:=0
def tw5673652568642582977:=0
def tw9540589907029267244:=0
def tw2457928663533665079:=0
def tw4869480224156145675:=0
def tw15356330319326788608:=0
def tw2306062290197468066:=0
def tw15845155359256173916:=0
def tw5165085336654792712:=0
def tw17657941493139942275:=0
def tw2110142053776404315:=0
def tw14166989953979803801:=0
def tw1751476586714496970:=0
def tw4049429306366402775:=0
def tw17436692443487069541:=0
def tw2120562717975771204:=0
def tw1307658051898638451:=0
def tw10518184011762912514:=0
def tw5320508041278919153:=0
def tw12601529972345057922:=0
def tw9474741562964803296:=0
def tw2695858612124342168:=0
def tw3405546582705382392:=0
def tw9510037493710456384:=0
def tw6623386470434339362:=0
def tw14560995983635607250:=0
def tw12660997844630415701:=0
def tw16774755076891161107:=0
def tw12210306537237531616:=0
def tw5074904473150783515:=0
def tw13402594634076193524:=0
def tw6834831535794860111:=0
def tw14248192153989785373:=0
def tw15805548871993639372:=0
def tw17554084941428736541:=0
def tw14995522655136581271:=0
def tw1950538824920928960:=0
def tw7187823230888652075:=0
def tw14973724876535351646:=0
def tw4956397428168453165:=0
def tw16280531905209199424:=0
def tw14451934110249014804:=0
def tw2337888244978342603:=0
def tw9266358588641497300:=0
def tw4619000332999818865:=0
def tw7294064032882363574:=0
def tw12088945056519448220:=0
def tw9403950982455803428:=0
def tw858636850179732332:=0
def tw3714404558759260694:=0
def tw5031617515327225615:=0
def tw1933716288368533195:=0
def tw9726224705891477993:=0
def tw15152367952233058481:=0
def tw3447667872747477482:=0
def tw11818447803141477901:=0
def tw2496382252041077511:=0
def tw16907434444181534876:=0
def tw15081382368367845868:=0
def tw7288878811412965267:=0
def tw18268349125396656496:=0
def tw4557576041436361604:=0
def tw4582334781769097528:=0
def tw16227342615269878284:=0
def tw7258835050786730691:=0
def tw12699153083268529019:=0
def tw15396419140918258915:=0
def tw2148726515020327626:=0
def tw8347358115483199177:=0
def tw8438641688187337643:=0
def tw17002140378281311683:=0
def tw11828409484626015842:=0
def tw5480185875534570685:=0
def tw3571370428866307221:=0
def tw13443518217601911114:=0
def tw3396169115639019655:=0
def tw5474534694794363230:=0
def tw270343933356593998:=0
def tw18101817415069323162:=0
def tw14186117330623894139:=0
def tw5859512867751235862:=0
def tw10119381911321266290:=0
def tw17688905902954091222:=0
def tw5272955423902579806:=0
def tw1555948405872679073:=0
def tw8538643317864849708:=0
def tw2603800605544690289:=0
def tw16555207615329576390:=0
def tw15389468891486598247:=0
def tw16020560056962303196:=0
def tw3787383956043753109:=0
def tw7320095651523373041:=0
def tw9327344887927997566:=0
def tw7871775559256725184:=0
def tw17566283542374605853:=0
def tw7467610831476935177:=0
def tw13442866285485115714:=0
def tw182538589942841335:=0
def tw5418193108823535977:=0
def tw3524219617005110011:=0
def tw2153968602422336231:=0
def tw7777245081122633439:=0
def tw9585033470052655653:=0
def tw3406388189631663176:=0
def tw17653447187443885388:=0
def tw2121821374524872678:=0
def tw234217783860376383:=0
def tw4503138151398886291:=0
def tw12378138612459205895:=0
def tw3904031061269571571:=0
def tw1294631165079411766:=0
def tw9669961943008506346:=0
def tw989409846646551018:=0
def tw8436189250636050946:=0
def tw2901943873996852677:=0
def tw2698724419419988939:=0
def tw16408018211042209105:=0
def tw16369709231183835994:=0
def tw4542497966726060463:=0
def tw3152313238352401692:=0
def tw16892507721350780206:=0
def tw11232820430895608829:=0
def tw2089805024130696375:=0
def tw9090172084174043643:=0
def tw12604720844965844274:=0
def tw6275712073527485014:=0
def tw127964489673319872:=0
def tw6965042084174939018:=0
def tw10606445870809022044:=0
def tw13812294701775112393:=0
def tw712589576258558913:=0
def tw18071259673119112277:=0
def tw5897745536287641855:=0
def tw17025402114544238530:=0
def tw10477929880198134929:=0
def tw11994935545150300978:=0
def tw515691647200647701:=0
def tw17159049670387647742:=0
def tw237090317231181081:=0
def tw7925301668423356012:=0
def tw17586513416376042900:=0
def tw350872997018222601:=0
def tw12820261089434326668:=0
def tw6315036496329359051:=0
def tw6090571896993339535:=0
def tw2763546991657107947:=0
def tw953900633744654450:=0
def tw13964473099022102691:=0
def tw8768799029515308411:=0
def tw2349575194415047468:=0
def tw2269278869233061433:=0
def tw12068870573696289729:=0
def tw11245043666306557685:=0
def tw11704649965240927451:=0
def tw6593258606794187089:=0
def tw17356323219175895395:=0
def tw9693874211357056715:=0
def tw17998267581228630851:=0
def tw1327516976284572789:=0
def tw17625310747897084846:=0
def tw12755479362087587088:=0
def tw440949665658101105:=0
def tw11448623262984439478:=0
def tw6747276616973273705:=0
def tw15399856284470882065:=0
def tw8317786596468674234:=0
def tw15647189104406974070:=0
def tw16133279396546739595:=0
def tw16845010045500940872:=0
def tw10181678694648783763:=0
def tw11901145259890512979:=0
def tw3138032178369324666:=0
def tw17895984620412747197:=0
def tw6425375142595027362:=0
def tw6668356575006927827:=0
def tw5338221332078346848:=0
def tw14650970142401228512:=0
def tw4431051358860534895:=0
def tw5567742682685472027:=0
def tw8974841392583469875:=0
def tw4699195306323700535:=0
def tw10835067796019670376:=0
def tw229225734445799126:=0
def tw10462395518126422745:=0
def tw13743620066053153858:=0
def tw5154051928521639008:=0
def tw1532339052190182520:=0
def tw11344650579578228669:=0
def tw5855571106945107447:=0
def tw12082215215247573142:=0
def tw12560835102003429202:=0
def tw13447202482646013586:=0
def tw13525170205568653374:=0
def tw6092439598135680900:=0
def tw2971810425837687350:=0
def tw7020485627108505972:=0
def tw2932645162676705558:=0
def tw9305743271923398344:=0
def tw11395529841154994013:=0
def tw1202756116158830452:=0
def tw14707166802575917583:=0
def tw18409443068751803301:=0
def tw1612104723783585759:=0
def tw6570150022378385097:=0
def tw4238548930916599345:=0
def tw15797609598945480861:=0
def tw4389273069519427165:=0
def tw5259456047287789964:=0
def tw15271535488593345377:=0
def tw17075044333825765504:=0
def tw15540851229955081481:=0
def tw15977891873938855483:=0
def tw17161760795595803586:=0
def tw2809574874496994787:=0
def tw10641065528415013844:=0
def tw17108460281549481813:=0
def tw13644777809113035904:=0
def tw10468491937979546966:=0
def tw5965537901956776631:=0
def tw1126027558061729569:=0
def tw5947593516462874332:=0
def tw1211583028994148651:=0
def tw17632438703294067541:=0
def tw14293792063718452595:=0
def tw5917177174358737933:=0
def tw16688215839291875243:=0
def tw1651403609067743550:=0
def tw4458989351264508489:=0
def tw2834008531415382174:=0
def tw12541284213049081598:=0
def tw9511411317929093274:=0
def tw7916524472590668229:=0
def tw7396484965330521365:=0
def tw11221350437326287834:=0
def tw14066223913328201436:=0
def tw11266168903223469248:=0
def tw2515607832778970302:=0
def tw531004077092320477:=0
def tw3842516437831794498:=0
def tw14517921034344515202:=0
def tw2592134821375144812:=0
def tw13845284273640710749:=0
def tw10545613670049586502:=0
def tw12032976849303784251:=0
def tw212947314982887663:=0
def tw8102143830507183111:=0
def tw12546440310432687327:=0
def tw1178509897821973445:=0
def tw12981807531054399122:=0
def tw16104742987367683231:=0
def tw9364125269838631454:=0
def tw14193466834331203907:=0
def tw12082081264594588567:=0
def tw16962373882287795704:=0
def tw10004139589853391807:=0
def tw7852138024739215379:=0
def tw6068043408204621677:=0
def tw2688250477911325695:=0
def tw183064305014795316:=0
def tw16527553083026160897:=0
def tw3650646808918871138:=0
def tw17355231606389212448:=0
def tw16973688413803909550:=0
def tw1351337915676141318:=0
def tw18355998615131785741:=0
def tw10910409376005239755:=0
def tw3305298183741415513:=0
def tw13958906052571271336:=0
def tw6873299926288325683:=0
def tw15020298389495861307:=0
def tw4466292782898010503:=0
def tw16828217980749409596:=0
def tw619142671227290014:=0
def tw4444002731967375320:=0
def tw10589948874413422277:=0
def tw2707108344096036762:=0
def tw5073063261565522994:=0
def tw905608245884977878:=0
def tw5917449112549610500:=0
def tw8158341287370923630:=0
def tw5954560970837483176:=0
def tw1857321423622564592:=0
def tw10227689010348457434:=0
def tw5271097812291218903:=0
def tw4468240011547660483:=0
def tw11934384566681263004:=0
def tw11660608140320308043:=0
def tw8924047831997066233:=0
def tw3974514084153765827:=0
def tw1717740660399015877:=0
def tw5696437591249021038:=0
def tw1545237150170418725:=0
def tw14194805961105668188:=0
def tw12786182677143024983:=0
def tw7765798630754149:=0
def tw11981228269186056525:=0
def tw10158558072442558491:=0
def tw3122323331326308106:=0
def tw9571522228317277637:=0
def tw14655426560298714776:=0
def tw4446439399623067991:=0
def tw839967131836986827:=0
def tw2529428173625165127:=0
def tw15449506794773747110:=0
def tw104174368538147391:=0
def tw4326607369310609266:=0
def tw9439329539267188860:=0
def tw11495084762064991707:=0
def tw9836158968323217079:=0
def tw3393478661738590071:=0
def tw507416926813920940:=0
def tw7795272442751646192:=0
def tw16514219424636969292:=0
def tw3145774082093204031:=0
def tw15142543020681422068:=0
def tw16989688592823716651:=0
def tw5037193083438668345:=0
def tw12691405416394828548:=0
def tw7897390957434520694:=0
def tw16134181932914144993:=0
def tw6758627584781005978:=0
def tw12069996675332178906:=0
def tw5968266435242310951:=0
def tw8308538340833378691:=0
def tw6177793896120795612:=0
def tw10772112062942258480:=0
def tw16297321544398334495:=0
def tw16743336501223249021:=0
def tw12622309493776209509:=0
def tw8158489906632521926:=0
def tw16242261331347357074:=0
def tw14056984530704865906:=0
def tw11923920992956169745:=0
def tw2866816004933957781:=0
def tw12058064562061523347:=0
def tw7256833337669257536:=0
def tw2983187364015013033:=0
def tw15189583004585813569:=0
def tw11678424142286729930:=0
def tw10981455945659054899:=0
def tw6674488280358580393:=0
def tw1001618171327002327:=0
end PySem.W.Fast
noncomputable section
open PySem.W (Frag InitBack InstAt Looks any_some bind_fn callWith_K callWith_K0 cellsFrom_some check_slot clsIn cls_value codeIn codeRec_of emptyDict eq_bytes exmOne exm_one findCls findIn findObj_own fnOf get_value handedIn hasDictIn hideAll hideAll_get hideAll_none hideAll_size instObj isFn kdl_call kdl_dict keepIn ki_setAt ki_setBack kia_one kitOne kitx_bool kitx_int kitx_list kitx_none kitx_own kitx_str kitx_tuple kun_itemsOf lookIn looks_clsIn looks_findIn looks_mroIn make_core makesIn makes_of methodCall_KW methodObj method_cls method_fn mg_none_of mg_of mroIn ne_bytes of_hideAll osa_eq osa_open plainGet plainGet_of plainOver readsIn set_plain specialIn takerIn takesIn truthy_bytes typeIn)
local macro_rules
 | `(tactic| rfl') => `(tactic| kernel_rfl)
local macro_rules
 | `(tactic| simp![$xs,*] $[$l:location]?) => `(tactic| simp only[Nat.reduceAdd, Nat.reduceSub, Nat.reduceLeDiff, ↓reduceIte, reduceCtorEq, $xs,*] $[$l:location]?)
local macro_rules|`(())=>`(by lia)
local macro_rules|`(⋯)=>`(by decide)|`(nofun)=>`(by decide +kernel)|`(∅)=>`(by rfl')
abbrev AG(x:PySem.Str):Prop:=(x==("__debug__" :PySem.Str))=false
abbrev AE:=List (PySem.Addr×PySem.Obj)
abbrev AB:=PySem.Str->Option PySem.Value
abbrev AA:=PySem.Value->PySem.Shared->Prop
namespace L2
open PySem PySem.Spec PyProof.Rows
abbrev Am:=Sum Int Str
def lP:Am->Value->Bool|.inl k,v=>Value.isInt k v|.inr x,v=>Value.isStrOf x v
noncomputable def Uq(w:World):Am->Int|.inl k=>hashInt k|.inr x=>hashStr w x
def pY:∀{k:Am}{v:Value},lP k v=true->(∃i t,k=Sum.inl i/\v=Value.int i t)\/(∃x t,k=Sum.inr x/\v=Value.str x t)|.inl i,v,h=>by obtain⟨t,e⟩:=Value.isInt_shape (k:=i) (v:=v) h;exact .inl ⟨i,t,rfl,e⟩|.inr x,v,h=>by obtain⟨t,e⟩:=Value.isStrOf_shape (x:=x) (v:=v) h;exact .inr ⟨x,t,rfl,e⟩
def acq(i:Int)(t:Tok):lP (.inl i) (.int i t)=true:=by simp[lP,Value.isInt]
def acp(x:Str)(t:Tok):lP (.inr x) (.str x t)=true:=by simp[lP,Value.isStrOf]
def Xp(a b:Int):decide ((Sum.inl a:Am)=Sum.inl b)=(a ==b):=by by_cases e:a=b;subst e;simp;have h:¬(Sum.inl a:Am)=Sum.inl b:=λq=>e (Sum.inl.inj q);rw[L8 h];exact(P3.mpr e).symm
def Xo(a b:Str):decide ((Sum.inr a:Am)=Sum.inr b)=decide (a=b):=by by_cases e:a=b;subst e;simp;have h:¬(Sum.inr a:Am)=Sum.inr b:=λq=>e (Sum.inr.inj q);rw[L8 h,L8 e]
def Xm(a:Int)(b:Str):decide ((Sum.inl a:Am)=Sum.inr b)=false:=L8 (λq=>nomatch q)
def Xl(a:Str)(b:Int):decide ((Sum.inr a:Am)=Sum.inl b)=false:=L8 (λq=>nomatch q)
def Gm(prog:Program)(w:World):PySem.KeyKind prog w Am where
 is:=lP
 hash:=Uq w
 inj:=λv a b ha J=>by
  rcases pY ha with⟨i,t,rfl,rfl⟩|⟨x,t,rfl,rfl⟩;rcases pY J with⟨j,u,rfl,e⟩|⟨y,u,rfl,e⟩;injection e with S _;rw[S];exact nomatch e
  rcases pY J with⟨j,u,rfl,e⟩|⟨y,u,rfl,e⟩;exact nomatch e
  injection e with S _;rw[S]
 byValue:=λk v h=>by rcases pY h with⟨i,t,rfl,rfl⟩|⟨x,t,rfl,rfl⟩<;>rfl
 pyHash:=λhv h=>by rcases pY hv with⟨i,t,rfl,rfl⟩|⟨x,t,rfl,rfl⟩;exact wpAny_pyHash_int h;exact wpAny_pyHash_str h
 eqBool:=λhu hv h=>by rcases pY hu with⟨i,t,rfl,rfl⟩|⟨x,t,rfl,rfl⟩;rcases pY hv with⟨j,u,rfl,rfl⟩|⟨y,u,rfl,rfl⟩;rw[Xp]at h;exact SR h;rw[Xm]at h;exact SeqAt.EqAt.int_str i t y u _ _ _ _ h;rcases pY hv with⟨j,u,rfl,rfl⟩|⟨y,u,rfl,rfl⟩;rw[Xl]at h;exact SeqAt.EqAt.str_int x t j u _ _ _ _ h;rw[Xo]at h;exact wpAny_eqBool_str h
 «strs»:=λk x t v h=>by
  rcases pY h with⟨i,u,rfl,e⟩|⟨y,u,rfl,e⟩;exact nomatch e
  injection e with S _;subst S;cases v<;>rfl
def adP(prog:Program)(w:World)(i:Int)(t:Tok):(Gm prog w).is (.inl i) (.int i t)=true:=acq i t
def adO(prog:Program)(w:World)(x:Str)(t:Tok):(Gm prog w).is (.inr x) (.str x t)=true:=acp x t
inductive V where
 |aK|bl (b:Bool)|int (i:Int)|str (x:Str)|iW (b:Array UInt8)|nj (b:UInt64)|ref (a:Addr)|ty (n:String)
 deriving DecidableEq
def RelV:V->Value->Prop|.aK,u=>u=Value.none|.bl b,u=>u=Value.bool b|.int i,u=>∃t,u=Value.int i t|.str x,u=>∃t,u=Value.str x t|.iW b,u=>∃t,u=Value.bytes b t|.nj b,u=>∃t,u=Value.float b t|.ref a,u=>u=Value.ref a|.ty n,u=>u=Value.type n
abbrev Vals:List V->List Value->Prop:=Paired RelV
theorem Vals.length{xs:List V}{us:List Value}(r:Vals xs us):xs.length=us.length:=V0 r
theorem Vals.get:∀{xs:List V}{us:List Value}{i:Nat}{x:V},Vals xs us->xs[i]?=some x->∃u,us[i]?=some u/\RelV x u|_,_,_,_,.nil,e=>by simp at e|_,_,0,_,.cons r _,e=>by simp at e;subst e;exact⟨_,rfl,r⟩|_,_,i+1,x,.cons _ t,e=>by obtain⟨u,h1,h2⟩:=Vals.get (i:=i) (x:=x) t (by simpa using e);exact⟨u,by simpa using h1,h2⟩
theorem Vals.set{x:V}{u:Value}(r:RelV x u):∀{xs:List V}{us:List Value}(i:Nat),Vals xs us->Vals (xs.set i x) (us.set i u)|_,_,_,.nil=>.nil|_,_,0,.cons _ t=>.cons r t|_,_,i+1,.cons q t=>.cons q (Vals.set r i t)
theorem Vals.append:∀{xs ys:List V}{us ws:List Value},Vals xs us->Vals ys ws->Vals (xs++ys) (us++ws)|_,_,_,_,.nil,s=>s|_,_,_,_,.cons r t,s=>.cons r (Vals.append t s)
theorem Vals.take:∀{xs:List V}{us:List Value}(n:Nat),Vals xs us->Vals (xs.take n) (us.take n)|_,_,0,_=>.nil|_,_,_+1,.nil=>.nil|_,_,n+1,.cons r t=>.cons r (Vals.take n t)
theorem Vals.drop:∀{xs:List V}{us:List Value}(n:Nat),Vals xs us->Vals (xs.drop n) (us.drop n)|_,_,0,r=>r|_,_,_+1,.nil=>.nil|_,_,n+1,.cons _ t=>Vals.drop n t
def bN:Option V->Option Value->Prop|some v,some u=>RelV v u|none,none=>True|_,_=>False
def KV{κ:Type}:List (κ×V)->List (κ×Value)->Prop:=Paired λ(p:κ×V) (q:κ×Value)=>p.1=q.1/\RelV p.2 q.2
def kV:Am->V|.inl i=>.int i|.inr x=>.str x
inductive HO where
  |lst (xs:List V)
  |tup (xs:List V)
  |dK (kvs:List (Am×V))|dT (kvs:List (List Am×V))
  |set (e1:Int->Bool) (n:Nat)
  |ins (C dx:Addr) (fs:List (Str×V))
  |own (x:Addr)
  |xd (fs:List (Str×V))
  |met (f x:Addr)
  |Qp (lo hi:Int)
  |cY (o:Obj) (u:HO)
  |kj (ps:Array Value)
  |ext (φ:Heap->Prop)
abbrev Hp:=Addr->Option HO
noncomputable def upd(H:Hp)(a:Addr)(o:HO):Hp:=λb=>if b=a then some o else H b
def Bo{H:Hp}{a:Addr}{o:HO}:upd H a o a=some o:=by unfold upd;rw[if_pos rfl]
def Ax{H:Hp}{a b:Addr}{o:HO}(h:b≠a):upd H a o b=H b:=by unfold upd;rw[if_neg h]
def VL{H:Hp}{a b:Addr}{o u:HO}(h:H a=some o)(h':H b=some u)(d:o≠u):a≠b:=by intro e;subst e;rw[h]at h';exact d (L9 h')
def Eu{H:Hp}{a b:Addr}{o:HO}(h:H a=some o)(h':H b=none):a≠b:=by intro e;subst e;rw[h]at h';cases h'
section
variable(P:Program)(w:World)
def aW(H:Hp)(h:Heap)(a:Addr):HO->Prop|.lst xs=>xs.length<=sizeLine/\∃(its:List Value) (n:Nat),Vals xs its/\h.get? a=some {cls:=.type "list",data:=.seq its.toArray n}|.tup xs=>xs.length<=sizeLine/\∃its:List Value,Vals xs its/\IsTup h a its.toArray|.dK kvs=>kvs.length<=sizeLine/\(a ==sysModules)=false/\∃vs,KV kvs vs/\h.DictOf (Gm P w) a vs|.dT kvs=>kvs.length<=sizeLine/\(a ==sysModules)=false/\∃xs:List (List Am×Addr×Value),Paired (λ(p:List Am×V) (q:List Am×Addr×Value)=>p.1=q.1/\H q.2.1=some (.tup (p.1.map kV))/\RelV p.2 q.2.2) kvs xs/\∃o es ep,h.get? a=some o/\o.ExactDict/\o.data=.dict es ep/\es.toList=xs.map (entryOfKey (tupleKind (Gm P w)))/\(xs.map (·.1)).Nodup|.set e1 n=>h.SetOf (intKind P w) a e1 n|.ins C dx fs=>H dx=some (.own a)/\fs.length<=1000/\dx≠a/\h.get? a=some (instObj C dx)/\∃mA,h.Ns1 dx mA/\(∀f,bN (fs.lookup f) (mA f))/\PySem.Within mA (fs.map (·.1))|.own _=>∃o,h.get? a=some o|.xd fs=>∃mA,h.Ns1 a mA/\∀f,bN (fs.lookup f) (mA f)|.Qp lo hi=>∃t u v,h.get? a=some {cls:=.type "range",data:=.fields #[.int lo t,.int hi u,.int 1 v]}|.cY o u=>h.get? a=some o/\aW H h a u|.kj _=>∃vs:Array Value,h.get? a=some {cls:=.none,data:=.fields vs}/\TriplesOk vs.toList/\∀pos cv,codeAmong pos vs.toList=some cv->∃c o us t,cv=.ref c/\H c=some (.cY o (.own a))/\o.data=.fields us/\us[1]?=some (.str "numbers_by_bucket.<locals>.<lambda>" t)|.met f x=>h.get? a=some (methodObj (.ref f) (.ref x))|.ext φ=>φ h/\(∃o,h.get? a=some o)/\∀h1 h2:Heap,φ h1->(∀o,h1.get? a=some o->h2.get? a=some o)->φ h2
def cF(H:Hp)(h:Heap):Prop:=∀a o,H a=some o->aW P w H h a o
end
section
variable{P:Program}{w:World}{H O:Hp}{h h':Heap}{a:Addr}{o:HO}
theorem aW.lt(x:aW P w H h a o):a<h.objs.size:=by cases o with|lst xs=>obtain⟨_,_,_,_,e⟩:=x;exact B2 e|tup xs=>obtain⟨_,_,_,p⟩:=x;exact p.lt|dK kvs=>obtain⟨_,_,_,_,o,_,_,e,_⟩:=x;exact B2 e|dT kvs=>obtain⟨_,_,_,_,o,_,_,e,_⟩:=x;exact B2 e|set e1 n=>obtain⟨o,_,_,_,e,_⟩:=x;exact B2 e|ins C dx fs=>obtain⟨_,_,_,e,_⟩:=x;exact B2 e|own y=>obtain⟨_,e⟩:=x;exact B2 e|xd fs=>obtain⟨_,⟨_,_,_,e,_⟩,_⟩:=x;exact B2 e|Qp lo hi=>obtain⟨_,_,_,e⟩:=x;exact B2 e|cY ob u=>obtain⟨e,_⟩:=x;exact B2 e|kj ps=>obtain⟨_,e,_⟩:=x;exact B2 e|met f y=>exact B2 (show h.get? a=some _ from x)|ext φ=>obtain⟨_,⟨_,e⟩,_⟩:=x;exact B2 e
theorem Paired.vR{α β:Type}{F G:α->β->Prop}:∀{l₁:List α}{l₂:List β},Paired F l₁ l₂->(∀a b,F a b->G a b)->Paired G l₁ l₂|_,_,.nil,_=>.nil|_,_,.cons r t,f=>.cons (f _ _ r) (Paired.vR t f)
def aW.cU(x:aW P w H h a o)(k:∀b u,(b=a\/H b=some (.own a))->h.get? b=some u->h'.get? b=some u)(ho:∀b,H b=some (.own a)->O b=some (.own a)) (ht:∀b xs,H b=some (.tup xs)->O b=some (.tup xs)) (hf:∀b o,H b=some (.cY o (.own a))->O b=some (.cY o (.own a)):=by exact λ_ _ q=>q):aW P w O h' a o:=by induction o with|lst xs=>obtain⟨z,its,n,r,e⟩:=x;exact⟨z,its,n,r,k _ _ (.inl rfl) e⟩|tup xs=>obtain⟨z,its,r,ob,e,c⟩:=x;exact⟨z,its,r,ob,k _ _ (.inl rfl) e,c⟩|dK kvs=>obtain⟨z,y,vs,r,ob,es,ep,e,c⟩:=x;exact⟨z,y,vs,r,ob,es,ep,k _ _ (.inl rfl) e,c⟩|dT kvs=>obtain⟨z,y,xs,r,ob,es,ep,e,c⟩:=x;exact⟨z,y,xs,Paired.vR r λp q z=>⟨z.1,ht _ _ z.2.1,z.2.2⟩,ob,es,ep,k _ _ (.inl rfl) e,c⟩|set e1 n=>obtain⟨ob,es,ep,t,e,c⟩:=x;exact⟨ob,es,ep,t,k _ _ (.inl rfl) e,c⟩|ins C dx fs=>obtain⟨d,z,ne,e,mA,⟨od,es,ep,e2,c⟩,r⟩:=x;exact⟨ho _ d,z,ne,k _ _ (.inl rfl) e,mA,⟨od,es,ep,k _ _ (.inr d) e2,c⟩,r⟩|own y=>obtain⟨ob,e⟩:=x;exact⟨ob,k _ _ (.inl rfl) e⟩|xd fs=>obtain⟨mA,⟨od,es,ep,e,c⟩,r⟩:=x;exact⟨mA,⟨od,es,ep,k _ _ (.inl rfl) e,c⟩,r⟩|Qp lo hi=>obtain⟨t,u,v,e⟩:=x;exact⟨t,u,v,k _ _ (.inl rfl) e⟩|cY ob u ih=>obtain⟨e,q⟩:=x;exact⟨k _ _ (.inl rfl) e,ih q⟩|kj ps=>obtain⟨vs,e,t,c⟩:=x;exact⟨vs,k _ _ (.inl rfl) e,t,λpos cv q=>let⟨c,o,us,t,S,e2,r⟩:=c pos cv q;⟨c,o,us,t,S,hf c o e2,r⟩⟩|met f y=>have e:h.get? a=some (methodObj (.ref f) (.ref y)):=x;show h'.get? a=some (methodObj (.ref f) (.ref y));exact k a _ (.inl rfl) e|ext φ=>obtain⟨p,⟨o,e⟩,st⟩:=x;exact⟨st _ _ p λo q=>k _ _ (.inl rfl) q,⟨o,k _ _ (.inl rfl) e⟩,st⟩
theorem cF.lt(x:cF P w H h)(e:H a=some o):a<h.objs.size:=(x a o e).lt
def cF.fresh(x:cF P w H h)(e:h.objs.size<=a):H a=none:=by cases q:H a with|none=>rfl|some u=>exact absurd (C9 (x.lt q) e) (F3 _)
def cF.kept(x:cF P w H h)(k:∀b u,h.get? b=some u->h'.get? b=some u):cF P w H h':=λa o e=>(x a o e).cU (λb u _ q=>k b u q) (λ_ q=>q) λ_ _ q=>q
def cF.laid(x:cF P w H h)(k:∀b u,h.get? b=some u->h'.get? b=some u)(hp:h.objs.size<=a)(new:aW P w (upd H a o) h' a o):cF P w (upd H a o) h':=λb u e=>by have hn:=x.fresh hp;by_cases J:b=a;subst J;rw[Bo]at e;cases e;exact new;rw[Ax J]at e;exact(x b u e).cU (λc v _ q=>k c v q) (λc q=>by rw[Ax (Eu q hn)];exact q) (λc xs q=>by rw[Ax (Eu q hn)];exact q) λc o q=>by rw[Ax (Eu q hn)];exact q
end
def Rd(H:Hp)(a:Addr)(u:HO):Prop:=H a=some u\/∃o,H a=some (.cY o u)
def Rd.ok{P:Program}{w:World}{H:Hp}{h:Heap}{a:Addr}{u:HO}(r:Rd H a u)(x:cF P w H h):aW P w H h a u:=by rcases r with r|⟨o,r⟩;exact x a u r;obtain⟨_,q⟩:=x a _ r;exact q
def ER:Option HO->Prop|some (.lst _)=>True|some (.dK _)=>True|some (.dT _)=>True|some (.set _ _)=>True|some (.ins _ _ _)=>True|some (.ext _)=>True|_=>False
section
variable{P:Program}{w:World}{H:Hp}{h h':Heap}{x e:Addr}{o':HO}
def cF.write(ok:cF P w H h)(mu:ER (H x))(he:e=x\/H e=some (.own x))(k:∀b u,b≠e->h.get? b=some u->h'.get? b=some u)(zW:∃u,h'.get? e=some u)(new:aW P w (upd H x o') h' x o'):cF P w (upd H x o') h':=λb u q=>by
 have eh:∀c y,H c=some (.own y)->c≠x:=λc y r z=>by subst z;rw[r]at mu;exact mu
 have ja:∀c xs,H c=some (.tup xs)->c≠x:=λc xs r z=>by subst z;rw[r]at mu;exact mu
 by_cases J:b=x;subst J;rw[Bo]at q;cases q;exact new;rw[Ax J]at q;by_cases vC:b=e;have q':H b=some (.own x):=by rcases he with z|z;exact absurd (vC.trans z) J;rw[vC];exact z
 rw[q]at q';cases q';obtain⟨v,hv⟩:=zW;exact⟨v,by rw[vC];exact hv⟩;refine(ok b u q).cU (λc v hc r=>k c v ?_ r) (λc r=>by rw[Ax (eh c b r)];exact r) (λc xs r=>by rw[Ax (ja c xs r)];exact r) λc o r=>by rw[Ax λz=>by subst z;rw[r]at mu;exact mu];exact r
 rcases hc with rfl|hc;exact vC;rintro rfl;rcases he with z|z;exact eh c b hc z;rw[hc]at z;cases z;exact J rfl
end
structure Un(fs ex:List Addr)(H O:Hp)(h h':Heap):Prop where
 keep:∀b o,h.get? b=some o->H b=none->b∉fs->b∉ex->h'.get? b=some o
 slot:∀b o,h.get? b=some o->H b=none->b∈fs->b∉ex->∃sl,h'.get? b=some {o with slots:=sl}
 free:∀b o,h.get? b=some o->H b=none->b∉ex->O b=none
 there:∀b o,h.get? b=some o->b∉ex->∃o',h'.get? b=some o'
 cS:∀b xs,H b=some (.tup xs)->O b=some (.tup xs)
 cH:∀b o u,H b=some (.cY o u)->O b=some (.cY o u)
 cA:∀b ps,H b=some (.kj ps)->∃more,O b=some (.kj (ps++more))
section
variable{fs fs' ex ex':List Addr}{H H1 H2:Hp}{h h1 h2 h':Heap}{a x e:Addr}{o:HO}
def Un.any(u:Un fs ex H H1 h h1){b:Addr}{ob:Obj}(q:h.get? b=some ob)(n:H b=none)(hx:b∉ex):∃sl,h1.get? b=some {ob with slots:=sl}:=by by_cases J:b∈fs;exact u.slot b ob q n J hx;exact⟨ob.slots,u.keep b ob q n J hx⟩
def Un.kept(k:∀b u,h.get? b=some u->h'.get? b=some u):Un fs ex H H h h':=⟨λb ob q _ _ _=>k b ob q,λb ob q _ _ _=>⟨ob.slots,k b ob q⟩,λ_ _ _ n _=>n,λb ob q _=>⟨ob,k b ob q⟩,λ_ _ q=>q,λ_ _ _ q=>q,λ_ ps q=>⟨#[],by rw[q];simp⟩⟩
def Un.refl:Un fs ex H H h h:=Un.kept λ_ _ q=>q
def Un.laid(k:∀b u,h.get? b=some u->h'.get? b=some u)(hp:h.objs.size<=a)(hn:H a=none):Un fs ex H (upd H a o) h h' where
 keep:=λb u q _ _ _=>k b u q
 slot:=λb u q _ _ _=>⟨u.slots,k b u q⟩
 free:=λb u q n _=>by rw[Ax (D6 (C9 (B2 q) hp))];exact n
 there:=λb u q _=>⟨u,k b u q⟩
 cS:=λb xs q=>by rw[Ax (Eu q hn)];exact q
 cH:=λb u xs q=>by rw[Ax (Eu q hn)];exact q
 cA:=λb ps q=>⟨#[],by rw[Ax (Eu q hn),q];simp⟩
def Un.write(mu:ER (H x))(he:e=x\/H e=some (.own x))(k:∀b u,b≠e->h.get? b=some u->h'.get? b=some u)(zW:∃u,h'.get? e=some u):Un fs ex H (upd H x o) h h':=by
 have hx:∀b,H b=none->b≠x:=λb n z=>by subst z;rw[n]at mu;exact mu
 have J:∀b,H b=none->b≠e:=λb n z=>by subst z;rcases he with r|r;exact hx b n r;rw[n]at r;cases r
 have hm:∀b u,H b=some u->¬ER (some u)->b≠x:=λb u q nm z=>by subst z;rw[q]at mu;exact nm mu
 refine⟨λb u q n _ _=>k b u (J b n) q,λb u q n _ _=>⟨u.slots,k b u (J b n) q⟩,λb u q n _=>by rw[Ax (hx b n)];exact n,λb u q _=>?_,λb xs q=>by rw[Ax (hm b _ q λz=>z)];exact q,λb u xs q=>by rw[Ax (hm b _ q λz=>z)];exact q,λb ps q=>⟨#[],by rw[Ax (hm b _ q λz=>z),q];simp⟩⟩;by_cases vC:b=e;subst vC;exact zW;exact⟨u,k b u vC q⟩
end
noncomputable def qj(h:Heap)(H:Hp):List Addr:=(List.range h.objs.size).filter λa=>(H a).isSome
def eV(h:Heap)(H:Hp):Heap:=hideAll h (qj h H)
def aco(h:Heap)(H:Hp):(eV h H).objs.size=h.objs.size:=hideAll_size _ _
def aaY{h:Heap}{H:Hp}{b:Addr}{o:Obj}(e:h.get? b=some o)(n:H b=none):(eV h H).get? b=some o:=hideAll_get _ e λhm=>by have q:(H b).isSome=true:=(N2.mp hm).2;rw[n]at q;simp at q
def Zy{h:Heap}{H:Hp}{b:Addr}{o:Obj}(e:(eV h H).get? b=some o):h.get? b=some o/\H b=none:=by have e':h.get? b=some o:=of_hideAll (qj h H) e;refine⟨e',?_⟩;cases q:H b with|none=>rfl|some x=>have hm:b∈qj h H:=N2.mpr ⟨J9.mpr (B2 e'),by simp[q]⟩;have z:(eV h H).get? b=none:=hideAll_none (qj h H) hm;rw[z]at e;cases e
structure Mod(K:Frag)(mg:AB)(base:Heap):Prop where
 kC:K.In base
 glob:base.Ns mainGlobals mg
 blt:∃mb,base.Ns builtinsNs mb/\∀x:Str,x≠"__name__" ->mb x=bootBuiltins x
 nolimit:base.NoLimit
 bm:∃bm o,mg "__builtins__"=some (.ref bm)/\bm≠builtinsNs/\base.get? bm=some o/\o.cls=.type "module" /\o.dict=some builtinsNs/\o.data=.plain
def pq(K:Frag)(H:Hp):Prop:=∀c P,PySem.W.tabIn K "numbers_by_bucket"=some (c,P)->∃ps,H P=some (.kj ps)
structure Cx where
 prog:Program
 w:World
 K:Frag
 mg:Str->Option Value
 base:Heap
 A:Around
 N:List Str
 s₀:Shared
 H₀:Hp
 env:Env
 outer:List Env
 stack:List Env
 ex:List Addr
 fn:Str->Bool
 calm:Bool
 pn:AE
 xe:Value->Shared->Prop
noncomputable def fV(l:List Env):List Addr:=l.filterMap (·.frame)
abbrev Cx.fs(X:Cx):List Addr:=fV X.outer
def Ff(sc:Scope)(x:Str):Prop:=sc.names.lookup x=some .local\/sc.names.lookup x=some .cell\/sc.names.lookup x=some .free
def Loc(sc:Scope)(x:Str):Prop:=sc.names.lookup x=some .local\/sc.names.lookup x=some .cell
def Look(env:Env)(h:Heap)(m:AB)(x:Str)(u:Value):Prop:=(env.kindOf x=some .local/\m x=some u)\/((env.kindOf x=some .cell\/env.kindOf x=some .free)/\∃c,env.cells.lookup x=some c/\h.IsCell c (some u))
structure Cx.Ok(X:Cx):Prop where
 mod:Mod X.K X.mg X.base
 kind:X.env.scope.kind=.function
 glob:X.env.globals=mainGlobals
 blt:X.env.builtins=builtinsNs
 above:X.s₀.heap.objs.size<=X.env.locals
 inj:∀x y c,X.env.cells.lookup x=some c->X.env.cells.lookup y=some c->x=y
 has:∀x,(X.env.kindOf x=some .cell\/X.env.kindOf x=some .free)->∃c,X.env.cells.lookup x=some c
 qO:∀x c,X.fn x=true->X.env.cells.lookup x=some c->X.s₀.heap.objs.size<=c
 hd:X.calm=true->X.A.handled=none
 frames:X.A.frames=some X.stack
 tV:X.stack=X.outer\/(X.stack=X.env::X.outer/\X.env.frame=some X.env.locals)
 AL:∀b∈X.ex,b≠X.env.locals/\∀x c,X.env.cells.lookup x=some c->c≠b
 bs:∀b o,X.base.get? b=some o->X.s₀.heap.get? b=some o/\X.H₀ b=none
 iX:X.base.objs.size<=X.s₀.heap.objs.size
 eU:∀b o,X.base.get? b=some o->b∉X.ex
 gQ:∀b∈X.ex,b∉X.fs
 bV:X.s₀.heap.FunFrames X.base X.outer
 lr:∀b∈X.fs,X.H₀ b=none
 tb:pq X.K X.H₀
structure Inv(X:Cx)(Z:AE)(Y:List (Option V))(H:Hp)(s:Shared):Prop where
 ok:X.Ok
 os:s.os=X.s₀.os
 bare:AllBare s.gens
 base:Un X.fs X.ex X.H₀ H X.s₀.heap s.heap
 loc:∃m,s.heap.Ns X.env.locals m/\∀(i:Nat) (x:Str) (v:V),X.N[i]?=some x->Y[i]?=some (some v)->Ff X.env.scope x->∃u,RelV v u/\Look X.env s.heap m x u
 cell:∀x c,X.env.cells.lookup x=some c->∃v,s.heap.IsCell c v
 free:H X.env.locals=none
 bD:∀x c,X.env.cells.lookup x=some c->H c=none
 pin:∀p∈X.pn++Z,s.heap.get? p.1=some p.2/\H p.1=none/\p.1≠X.env.locals/\p.1∉X.fs/\∀v,p.2.data≠.cell v
 aJ:cF X.prog X.w H s.heap
 len:Y.length=X.N.length
section
variable{X:Cx}{Z:AE}{Y:List (Option V)}{H O:Hp}{s:Shared}{h':Heap}
def Cx.Ok.Up(ok:X.Ok){b:Addr}{o:Obj}(e:X.base.get? b=some o):b∉X.fs:=λJ=>by have:=(ok.bV.mem J).1;rw[e]at this;cases this
theorem Inv.bs(I:Inv X Z Y H s):∀b o,X.base.get? b=some o->s.heap.get? b=some o/\H b=none:=λb o e=>⟨I.base.keep b o (I.ok.bs b o e).1 (I.ok.bs b o e).2 (I.ok.Up e) (I.ok.eU b o e),I.base.free b o (I.ok.bs b o e).1 (I.ok.bs b o e).2 (I.ok.eU b o e)⟩
def Inv.bk(I:Inv X Z Y H s):∀b o,X.base.get? b=some o->s.heap.get? b=some o:=λb o e=>(I.bs b o e).1
theorem Inv.mod(I:Inv X Z Y H s):Mod X.K X.mg X.base:=I.ok.mod
def Inv.bU(I:Inv X Z Y H s):X.K.In s.heap:=I.ok.mod.kC.keeps I.bk
theorem Inv.nolimit(I:Inv X Z Y H s):s.heap.NoLimit:=I.ok.mod.nolimit.keeps I.bk
def Inv.fr(I:Inv X Z Y H s):∃m,Fr X.base X.env.locals s.heap m:=
 let⟨m,hn,_⟩:=I.loc
 ⟨m,hn,I.bk,D2 I.ok.iX I.ok.above⟩
theorem Inv.lt(I:Inv X Z Y H s):X.env.locals<s.heap.objs.size:=let⟨_,hn,_⟩:=I.loc;hn.lt
def Inv.sz(I:Inv X Z Y H s):X.s₀.heap.objs.size<=s.heap.objs.size:=D2 I.ok.above (P8 I.lt)
def Inv.rh(I:Inv X Z Y H s){a:Addr}(h:s.heap.objs.size<=a):a∉X.fs:=λJ=>by obtain⟨_,o,ho,_⟩:=I.ok.bV.mem J;exact absurd (C9 (B2 ho) (D2 I.sz h)) (F3 _)
def Inv.nt(I:Inv X Z Y H s):∀x c,X.env.cells.lookup x=some c->c≠X.env.locals:=λx c e z=>by obtain⟨v,o,ho,hd⟩:=I.cell x c e;obtain⟨m,⟨o',es,ep,gE,zX,_⟩,_⟩:=I.loc;rw[z,gE]at ho;cases ho;rw[zX]at hd;cases hd
theorem Inv.bV(I:Inv X Z Y H s):s.heap.FunFrames X.base X.outer:=by
 have all:∀(l:List Env),(∀b∈fV l,b∈X.fs)->X.s₀.heap.FunFrames X.base l->s.heap.FunFrames X.base l:=by intro l;induction l with|nil=>intro _ _;trivial|cons env r ih=>intro hs hl;obtain⟨hk,⟨ks,o,hf,hn,ho,hd⟩,hr⟩:=hl;have hL:ks∈X.fs:=hs ks (by unfold fV;rw[Z3,hf];exact K7);obtain⟨sl,e⟩:=I.base.slot ks o ho (I.ok.lr ks hL) hL λz=>I.ok.gQ ks z hL;exact⟨hk,⟨ks,_,hf,hn,e,hd⟩,ih (λb J=>hs b (by unfold fV;rw[Z3,hf];exact D5 _ J)) hr⟩
 exact all X.outer (λ_ J=>J) I.ok.bV
theorem Inv.stack(I:Inv X Z Y H s):s.heap.FunFrames X.base X.stack:=by rcases I.ok.tV with e|⟨e,hf⟩;rw[e];exact I.bV;rw[e];obtain⟨m,hn,_⟩:=I.loc;refine .cons (by rw[I.ok.kind];decide) hf hn ?_ I.bV;exact R8 (D2 I.ok.iX I.ok.above)
def Inv.cN(I:Inv X Z Y H s):∀b∈fV X.stack,b∈X.env.locals::X.fs:=λb J=>by rcases I.ok.tV with e|⟨e,hf⟩;rw[e]at J;exact D5 _ J;rw[e]at J;unfold fV at J;rw[Z3,hf]at J;exact J
def Inv.dF(I:Inv X Z Y H s):∀b∈fV X.stack,H b=none:=λb J=>by rcases C5.mp (I.cN b J)with e|J;rw[e];exact I.free;obtain⟨_,o,ho,_⟩:=I.ok.bV.mem J;exact I.base.free b o ho (I.ok.lr b J) λz=>I.ok.gQ b z J
def Inv.step{g':Array GenState}{t':Nat}{d':Drawn}{ch:List Addr}(I:Inv X Z Y H s)(pW:∀b∈ch,(b∈X.ex\/X.s₀.heap.objs.size<=b)/\b≠X.env.locals/\(∀x c,X.env.cells.lookup x=some c->c≠b)/\∀p∈X.pn++Z,p.1≠b)(keep:∀b o,b≠X.env.locals->b∉X.fs->b∉ch->s.heap.get? b=some o->H b=none->h'.get? b=some o)(slot:∀b o,b≠X.env.locals->b∈X.fs->b∉ch->s.heap.get? b=some o->H b=none->∃sl,h'.get? b=some {o with slots:=sl}) (free:∀b o,b∉ch->s.heap.get? b=some o->H b=none->O b=none)(there:∀b o,b∉ch->s.heap.get? b=some o->∃o',h'.get? b=some o')(cS:∀b xs,H b=some (.tup xs)->O b=some (.tup xs)) (cH:∀b o u,H b=some (.cY o u)->O b=some (.cY o u)) (cA:∀b ps,H b=some (.kj ps)->∃more,O b=some (.kj (ps++more)))(ns:∀m,s.heap.Ns X.env.locals m->h'.Ns X.env.locals m) (aJ:cF X.prog X.w O h') (hg:AllBare g'):Inv X Z Y O {s with heap:=h',gens:=g',drawn:=d',toks:=t'}:=by
 have neL:∀b o,X.s₀.heap.get? b=some o->b≠X.env.locals:=λb o e=>D6 (C9 (B2 e) I.ok.above);have OM:∀b o,X.s₀.heap.get? b=some o->b∉X.ex->b∉ch:=λb o e hx J=>by rcases(pW b J).1 with z|z;exact hx z;exact absurd (C9 (B2 e) z) (F3 _)
 have cellK:∀x c,X.env.cells.lookup x=some c->∀v,s.heap.IsCell c v->h'.IsCell c v:=λx c e v ⟨o,ho,hd⟩=>by have pQ:c∉ch:=λz=>(pW c z).2.2.1 x c e rfl;by_cases hc:c∈X.fs;obtain⟨sl,q⟩:=slot c o (I.nt x c e) hc pQ ho (I.bD x c e);exact⟨_,q,hd⟩;exact⟨o,keep c o (I.nt x c e) hc pQ ho (I.bD x c e),hd⟩
 refine⟨I.ok,I.os,hg,⟨λb o e n J hx=>?_,λb o e n J hx=>?_,λb o e n hx=>?_,λb o e hx=>?_,λb xs e=>cS b xs (I.base.cS b xs e),λb o xs e=>cH b o xs (I.base.cH b o xs e),λb ps e=>?_⟩,?_,λx c e=>?_,?_,λx c e=>?_,λp hp=>?_,aJ,I.len⟩;exact keep b o (neL b o e) J (OM b o e hx) (I.base.keep b o e n J hx) (I.base.free b o e n hx);obtain⟨sl,S⟩:=I.base.slot b o e n J hx;obtain⟨Qo,e2⟩:=slot b _ (neL b o e) J (OM b o e hx) S (I.base.free b o e n hx);exact⟨Qo,e2⟩;obtain⟨o',S⟩:=I.base.there b o e hx;exact free b o' (OM b o e hx) S (I.base.free b o e n hx);obtain⟨o',S⟩:=I.base.there b o e hx;exact there b o' (OM b o e hx) S;obtain⟨m1,S⟩:=I.base.cA b ps e;obtain⟨m2,e2⟩:=cA b _ S;exact⟨m1++m2,by rw[e2,Array.append_assoc]⟩;obtain⟨m,hn,hl⟩:=I.loc;refine⟨m,ns m hn,λi x v S e2 e3=>?_⟩;obtain⟨u,r,l⟩:=hl i x v S e2 e3;refine⟨u,r,?_⟩;rcases l with l|⟨k,c,e,z⟩;exact .inl l;exact .inr ⟨k,c,e,cellK x c e _ z⟩;obtain⟨v,z⟩:=I.cell x c e;exact⟨v,cellK x c e v z⟩;obtain⟨m,⟨o,_,_,ho,_⟩,_⟩:=I.loc;exact free _ o (λz=>(pW _ z).2.1 rfl) ho I.free;obtain⟨v,o,ho,hd⟩:=I.cell x c e;exact free c o (λz=>(pW c z).2.2.1 x c e rfl) ho (I.bD x c e);obtain⟨e,n,ne,nf,d⟩:=I.pin p hp;have pQ:p.1∉ch:=λz=>(pW p.1 z).2.2.2 p hp rfl;exact⟨keep p.1 p.2 ne nf pQ e n,free p.1 p.2 pQ e n,ne,nf,d⟩
def Inv.un{t':Nat}(I:Inv X Z Y H s)(u:Un X.fs [] H O s.heap h')(aJ:cF X.prog X.w O h'):Inv X Z Y O {s with heap:=h',toks:=t'}:=by obtain⟨m,⟨o,es,ep,ho,r⟩,_⟩:=id I.loc;obtain⟨sl,hL⟩:=u.any ho I.free (by simp);exact I.step (g':=s.gens) (d':=s.drawn) (ch:=[]) (λ_ z=>nomatch z) (λb o _ J _ e n=>u.keep b o e n J (by simp)) (λb o _ J _ e n=>u.slot b o e n J (by simp)) (λb o _ e n=>u.free b o e n (by simp)) (λb o _ e=>u.there b o e (by simp)) u.cS u.cH u.cA (λm' hm=>by obtain⟨o',RC,RG,gE,r'⟩:=hm;rw[ho]at gE;cases gE;exact⟨_,RC,RG,hL,r'⟩) aJ I.bare
def Inv.call{g':Array GenState}{t':Nat}{d':Drawn}{ch:List Addr}(I:Inv X Z Y H s)(u:Un (fV X.stack) ch H O s.heap h')(aJ:cF X.prog X.w O h')(hg:AllBare g')(pW:∀b∈ch,(b∈X.ex\/X.s₀.heap.objs.size<=b)/\b≠X.env.locals/\(∀x c,X.env.cells.lookup x=some c->c≠b)/\∀p∈X.pn++Z,p.1≠b):Inv X Z Y O {s with heap:=h',gens:=g',drawn:=d',toks:=t'}:=by obtain⟨m,⟨o,es,ep,ho,r⟩,_⟩:=id I.loc;obtain⟨sl,hL⟩:=u.any ho I.free λz=>(pW _ z).2.1 rfl;exact I.step (ch:=ch) pW (λb o hL J hc e n=>u.keep b o e n (λz=>(C5.mp (I.cN b z)).elim hL J) hc) (λb o _ _ hc e n=>u.any e n hc) (λb o hc e n=>u.free b o e n hc) (λb o hc e=>u.there b o e hc) u.cS u.cH u.cA (λm' hm=>by obtain⟨o',RC,RG,gE,r'⟩:=hm;rw[ho]at gE;cases gE;exact⟨_,RC,RG,hL,r'⟩) aJ hg
def Inv.turned{t':Nat}{it:Addr}(I:Inv X Z Y H s)(k:∀b o,b≠it->s.heap.get? b=some o->h'.get? b=some o)(hn:H it=none)(hL:it≠X.env.locals)(h1:it∈X.ex\/X.s₀.heap.objs.size<=it) (h2:∀x c,X.env.cells.lookup x=some c->c≠it) (h3:∀p∈X.pn++Z,p.1≠it):Inv X Z Y H {s with heap:=h',toks:=t'}:=by
 have nit:∀b u,H b=some u->b≠it:=λb u e z=>by rw[z,hn]at e;cases e
 refine I.step (g':=s.gens) (d':=s.drawn) (ch:=[it]) (λb J=>?_) (λb o _ _ hc e _=>k b o (λz=>hc (by simp[z])) e) (λb o _ _ hc e _=>⟨o.slots,k b o (λz=>hc (by simp[z])) e⟩) (λ_ _ _ _ n=>n) (λb o hc e=>⟨o,k b o (λz=>hc (by simp[z])) e⟩) (λ_ _ e=>e) (λ_ _ _ e=>e) (λb ps e=>⟨#[],by rw[e];simp⟩) (λm hm=>?_) (λb u e=>?_) I.bare;have e:b=it:=by simpa using J
 subst e;exact⟨h1,hL,h2,h3⟩;obtain⟨o,es,ep,ho,r⟩:=hm;exact⟨o,es,ep,k _ o (Ne.symm hL) ho,r⟩;refine(I.aJ b u e).cU (λc v hc q=>k c v ?_ q) (λ_ q=>q) λ_ _ q=>q;rcases hc with z|z;rw[z];exact nit b u e;exact nit c _ z
def Inv.tok(I:Inv X Z Y H s)(t:Nat):Inv X Z Y H {s with toks:=t}:=I.un (h':=s.heap) (t':=t) Un.refl I.aJ
theorem Inv.kept{t':Nat}(I:Inv X Z Y H s)(k:∀b u,s.heap.get? b=some u->h'.get? b=some u):Inv X Z Y H {s with heap:=h',toks:=t'}:=I.un (Un.kept k) (I.aJ.kept k)
theorem Inv.laid{a:Addr}{o:HO}{t':Nat}(I:Inv X Z Y H s)(k:∀b u,s.heap.get? b=some u->h'.get? b=some u)(hp:s.heap.objs.size<=a)(new:aW X.prog X.w (upd H a o) h' a o):Inv X Z Y (upd H a o) {s with heap:=h',toks:=t'}:=I.un (Un.laid k hp (I.aJ.fresh hp)) (I.aJ.laid k hp new)
theorem Inv.write{x e:Addr}{o:HO}{t':Nat}(I:Inv X Z Y H s)(mu:ER (H x))(he:e=x\/H e=some (.own x))(k:∀b u,b≠e->s.heap.get? b=some u->h'.get? b=some u)(zW:∃u,h'.get? e=some u)(new:aW X.prog X.w (upd H x o) h' x o):Inv X Z Y (upd H x o) {s with heap:=h',toks:=t'}:=I.un (Un.write mu he k zW) (I.aJ.write mu he k zW new)
def Inv.bX{ao:AE}(I:Inv X Z Y H s)(h:∀p∈ao,s.heap.get? p.1=some p.2/\H p.1=none/\p.1≠X.env.locals/\p.1∉X.fs/\∀v,p.2.data≠.cell v):Inv X ao Y H s:=⟨I.ok,I.os,I.bare,I.base,I.loc,I.cell,I.free,I.bD,λp hp=>(F1.mp hp).elim (λz=>I.pin p (N0 _ z)) (h p),I.aJ,I.len⟩
def yk{N:List Str}(hN:N.Nodup){i j:Nat}{x:Str}(a:N[i]?=some x)(b:N[j]?=some x):i=j:=by obtain⟨h1,S⟩:=A7.mp a;obtain⟨h2,e2⟩:=A7.mp b;exact(List.getElem_inj hN).mp (S.trans e2.symm)
def LY{ds:Model}{A:Around}{E:AA}{i:Nat}{x:Str}{v:V}{u:Value}{Q:Unit->Shared->Prop}(I:Inv X Z Y H s)(hN:X.N.Nodup)(hi:X.N[i]?=some x)(hx:Loc X.env.scope x)(r:RelV v u)(h:∀s',Inv X Z (Y.set i (some v)) H s'->(∃a,Heap.SameBut a s.heap s'.heap/\(a=X.env.locals\/X.env.cells.lookup x=some a))->Q .unit s') (hf:X.fn x=true\/X.env.scope.names.lookup x=some .local:=by trivial):wpAny ds A (storeName X.env x u) Q E s:=by
 obtain⟨m,hn,hl⟩:=id I.loc;have dq:(X.env.scope.kind ==.class||(X.env.scope.kind ==.module&&X.env.locals !=X.env.globals))=false:=by rw[I.ok.kind];rfl
 have hiσ:i<Y.length:=by rw[I.len];exact(A7.mp hi).1
 have nt:=I.nt;have tracked:∀{a:Addr}{h':Heap},(∃o,s.heap.get? a=some o/\H a=none)->Heap.SameBut a s.heap h'->cF X.prog X.w H h':=λ{a h'} ha hs b ob e=>by obtain⟨_,_,ar⟩:=ha;refine(I.aJ b ob e).cU (λc w' hc q=>(hs.2 c ?_).trans q) (λ_ q=>q) λ_ _ q=>q;rintro rfl;rcases hc with rfl|hc;rw[ar]at e;cases e;rw[ar]at hc;cases hc
 rcases hx with hk|hk;refine wpAny_storeName_local hk hn (λh' QS hs=>?_) dq;obtain⟨oL,_,_,QR,_⟩:=id hn;refine h _ ⟨I.ok,I.os,I.bare,⟨λb o e n J hx=>?_,λb o e n J hx=>?_,I.base.free,λb o e hx=>?_,I.base.cS,I.base.cH,I.base.cA⟩,⟨_,QS,λj y v' S e2 e3=>?_⟩,λy c e=>?_,I.free,I.bD,λp hp=>?_,tracked ⟨oL,QR,I.free⟩ hs,by simpa using I.len⟩ ⟨_,hs,.inl rfl⟩;exact(hs.2 b (D6 (C9 (B2 e) I.ok.above))).trans (I.base.keep b o e n J hx);obtain⟨sl,S⟩:=I.base.slot b o e n J hx;exact⟨sl,(hs.2 b (D6 (C9 (B2 e) I.ok.above))).trans S⟩;obtain⟨o',S⟩:=I.base.there b o e hx;exact⟨o',(hs.2 b (D6 (C9 (B2 e) I.ok.above))).trans S⟩;by_cases hj:j=i;subst hj;rw[hi]at S;cases S;rw[K2 hiσ]at e2;cases e2;exact⟨u,r,.inl ⟨hk,by simp⟩⟩;rw[D4 (Ne.symm hj)]at e2;obtain⟨u',r',q⟩:=hl j y v' S e2 e3;refine⟨u',r',?_⟩;rcases q with⟨k,e⟩|⟨k,c,e,z⟩;refine .inl ⟨k,?_⟩;have:y≠x:=λe=>hj (yk hN S (e▸hi));simp[this,e];exact .inr ⟨k,c,e,z.sameBut hs (nt y c e)⟩;obtain⟨w',z⟩:=I.cell y c e;exact⟨w',z.sameBut hs (nt y c e)⟩;obtain⟨e,n,ne,nf,d⟩:=I.pin p hp;exact⟨(hs.2 p.1 ne).trans e,n,ne,nf,d⟩;have Rc:X.fn x=true:=by rcases hf with z|z;exact z;rw[z]at hk;cases hk
 obtain⟨c,hc⟩:=I.ok.has x (.inl hk);obtain⟨w',z⟩:=I.cell x c hc;refine wpAny_storeName_cell I.ok.kind hk hc z (λh' la hs=>?_);obtain⟨oc,CP,fz⟩:=id z;refine h {s with heap:=h'} ⟨I.ok,I.os,I.bare,⟨λb o e n J hx=>?_,λb o e n J hx=>?_,I.base.free,λb o e hx=>?_,I.base.cS,I.base.cH,I.base.cA⟩,⟨m,hn.sameBut hs (Ne.symm (nt x c hc)),λj y v' S e2 e3=>?_⟩,λy c' e=>?_,I.free,I.bD,λp hp=>?_,tracked ⟨oc,CP,I.bD x c hc⟩ hs,by simpa using I.len⟩ ⟨c,hs,.inr hc⟩;exact(hs.2 b (D6 (C9 (B2 e) (I.ok.qO x c Rc hc)))).trans (I.base.keep b o e n J hx);obtain⟨sl,S⟩:=I.base.slot b o e n J hx;exact⟨sl,(hs.2 b (D6 (C9 (B2 e) (I.ok.qO x c Rc hc)))).trans S⟩;obtain⟨o',S⟩:=I.base.there b o e hx;exact⟨o',(hs.2 b (D6 (C9 (B2 e) (I.ok.qO x c Rc hc)))).trans S⟩;by_cases hj:j=i;subst hj;rw[hi]at S;cases S;rw[K2 hiσ]at e2;cases e2;exact⟨u,r,.inr ⟨.inl hk,c,hc,la⟩⟩;rw[D4 (Ne.symm hj)]at e2;obtain⟨u',r',q⟩:=hl j y v' S e2 e3;refine⟨u',r',?_⟩;rcases q with q|⟨k,c',e,z'⟩;exact .inl q;refine .inr ⟨k,c',e,z'.sameBut hs ?_⟩;rintro rfl;exact hj (yk hN S (I.ok.inj _ _ _ e hc▸hi));by_cases qH:c'=c;subst qH;exact⟨_,la⟩;obtain⟨w2,z2⟩:=I.cell y c' e;exact⟨w2,z2.sameBut hs qH⟩;obtain⟨e,n,ne,nf,d⟩:=I.pin p hp;refine⟨(hs.2 p.1 ?_).trans e,n,ne,nf,d⟩;intro q;rw[q,CP]at e;have q':oc=p.2:=L9 e;exact d w' (by rw[<-q'];exact fz)
def yj{ds:Model}{A:Around}{E:AA}{i:Nat}{x:Str}{v:V}{u:Value}{Q:Unit->Shared->Prop}(I:Inv X Z Y H s)(hN:X.N.Nodup)(hi:X.N[i]?=some x)(hx:Loc X.env.scope x)(r:RelV v u)(h:∀s',Inv X Z (Y.set i (some v)) H s'->Q .unit s') (hf:X.fn x=true\/X.env.scope.names.lookup x=some .local:=by trivial):wpAny ds A (storeName X.env x u) Q E s:=LY I hN hi hx r (λs' I' _=>h s' I') hf
def Inv.uO{s':Shared}{ch:List Addr}(I:Inv X Z Y H s)(ho:s'.os=s.os)(u:Un (fV X.stack) ch H O s.heap s'.heap)(aJ:cF X.prog X.w O s'.heap)(hg:AllBare s'.gens)(pW:∀b∈ch,(b∈X.ex\/X.s₀.heap.objs.size<=b)/\b≠X.env.locals/\(∀x c,X.env.cells.lookup x=some c->c≠b)/\∀p∈X.pn++Z,p.1≠b):Inv X Z Y O s':=by obtain⟨h',g',d',t',o'⟩:=s';have e:o'=s.os:=ho;subst e;exact I.call (g':=g') (t':=t') (d':=d') u aJ hg pW
end
abbrev XK:=Value->Option Addr->Hp->Prop
abbrev St:=List (Option V)
abbrev VK:=V->Hp->Prop
abbrev TE:=St->Hp->VK->Prop
abbrev TT:=St->Hp->(Bool->Hp->Prop)->Prop
abbrev TA:=St->Hp->(List V->Hp->Prop)->Prop
structure Ends where
 nx:St->Hp->Prop
 rt:VK
 bk:St->Hp->Prop:=λ_ _=>False
 ct:St->Hp->Prop:=λ_ _=>False
abbrev TS:=Ends->St->Hp->Prop
def EP(X:Cx)(Z:AE)(Y:St)(Q:VK)(u:Value)(s':Shared):Prop:=∃v O,Inv X Z Y O s'/\RelV v u/\Q v O
def TP(X:Cx)(Z:AE)(Y:St)(Q:Bool->Hp->Prop)(b:Bool)(s':Shared):Prop:=∃O,Inv X Z Y O s'/\Q b O
def AP(X:Cx)(Z:AE)(Y:St)(Q:List V->Hp->Prop)(us:List Value)(s':Shared):Prop:=∃vs O,Inv X Z Y O s'/\Vals vs us/\Q vs O
def SP(X:Cx)(Z:AE)(D:Ends)(f:Flow)(s':Shared):Prop:=match f with|.next=>∃σ' O,Inv X Z σ' O s'/\D.nx σ' O|.brk=>∃σ' O,Inv X Z σ' O s'/\D.bk σ' O|.cont=>∃σ' O,Inv X Z σ' O s'/\D.ct σ' O|.ret u=>∃v σ' O,Inv X Z σ' O s'/\RelV v u/\D.rt v O
def PE(X:Cx)(e:Expr)(t:TE):Prop:=∀(Z:AE) (s:Shared) (Y:St) (H:Hp) (Q:VK),Inv X Z Y H s->t Y H Q->wpAny (model X.prog X.w) X.A (eval e X.env) (EP X Z Y Q) X.xe s
def PT(X:Cx)(e:Expr)(t:TT):Prop:=∀(Z:AE) (s:Shared) (Y:St) (H:Hp) (Q:Bool->Hp->Prop),Inv X Z Y H s->t Y H Q->wpAny (model X.prog X.w) X.A (isTrue e X.env (eval e X.env)) (TP X Z Y Q) X.xe s
def PW(X:Cx)(e:Expr)(t:TT):Prop:=∀(whole:Sem Value) (Z:AE) (s:Shared) (Y:St) (H:Hp) (Q:Bool->Hp->Prop),Inv X Z Y H s->t Y H Q->wpAny (model X.prog X.w) X.A (isTrue e X.env whole) (TP X Z Y Q) X.xe s
def PW.pt{X:Cx}{e:Expr}{t:TT}(h:PW X e t):PT X e t:=h _
def PA(X:Cx)(es:List Expr)(t:TA):Prop:=∀(pos:Pos) (Z:AE) (s:Shared) (Y:St) (H:Hp) (Q:List V->Hp->Prop),Inv X Z Y H s->t Y H Q->wpAny (model X.prog X.w) X.A (spliced (backTo pos (starEach es X.env))) (AP X Z Y Q) X.xe s
def PS(X:Cx)(st:Stmt)(t:TS):Prop:=∀(Z:AE) (s:Shared) (Y:St) (H:Hp) (D:Ends),Inv X Z Y H s->t D Y H->wpAny (model X.prog X.w) X.A (exec st X.env) (SP X Z D) X.xe s
def gI(X:Cx)(st:List Stmt)(t:TS):Prop:=∀(Z:AE) (s:Shared) (Y:St) (H:Hp) (D:Ends),Inv X Z Y H s->t D Y H->wpAny (model X.prog X.w) X.A (execs st X.env) (SP X Z D) X.xe s
def Bb{α:Type}{t:Sem α}{Q Q':α->Shared->Prop}{ds:Model}{A:Around}{E:AA}{s:Shared}(h:wpAny ds A t Q E s)(hQ:∀a s,Q a s->Q' a s):wpAny ds A t Q' E s:=F5 h hQ λ_ _ x=>x
section
variable{X:Cx}
def vM(i:Nat):TE:=λ Y H Q=>∃v,Y[i]?=some (some v)/\Q v H
def tC(v:V):TE:=λ_ H Q=>Q v H
def Fp{i:Nat}{x:Str}{pos:Pos}(hN:X.N[i]?=some x)(hv:Ff X.env.scope x)(hd:AG x:=by decide)(bI:(x ==("__classdict__" :Str))=false:=by decide):PE X (.Name x pos) (vM i):=by intro Z s Y H Q I h;obtain⟨v,e,h⟩:=h;obtain⟨m,hn,hl⟩:=I.loc;obtain⟨u,r,l⟩:=hl i x v hN e hv;have fin:EP X Z Y Q u s:=⟨v,H,I,r,h⟩;rcases l with⟨hk,hm⟩|⟨hk,c,hc,uL⟩;exact wpAny_Name (wpAny_loadName_local I.ok.kind hk hn hm fin) hd;rcases hk with hk|hk;exact wpAny_Name (wpAny_loadName_cell I.ok.kind hk hc uL fin) hd;exact wpAny_Name (wpAny_loadName_free I.ok.kind hk hc uL fin bI) hd
def Xk{i j pos}:PE X (.Constant (.int i) j pos) (tC (.int i)):=λ_ _ _ H _ I h=>wpAny_Constant_int ⟨.int i,H,I.tok _,⟨_,rfl⟩,h⟩
def VJ{b j pos}:PE X (.Constant (.bool b) j pos) (tC (.bl b)):=λ_ _ _ H _ I h=>Constant_bool ⟨.bl b,H,I,rfl,h⟩
def HV{j pos}:PE X (.Constant .none j pos) (tC .aK):=λ_ _ _ H _ I h=>Constant_none ⟨.aK,H,I,rfl,h⟩
def Xj{x j pos}:PE X (.Constant (.str x) j pos) (tC (.str x)):=λ_ _ _ H _ I h=>Calls.Constant_str ⟨.str x,H,I.tok _,⟨_,rfl⟩,h⟩
def Gl(X:Cx)(x:Str):Prop:=X.env.kindOf x=some .globalImplicit
def pJ{E:AA}{Z:AE}{s:Shared}{Y:St}{H:Hp}{x:Str}{u:Value}{pos:Pos}{Q:AA}(I:Inv X Z Y H s)(hg:Gl X x)(hm:X.mg x=some u)(h:Q u s)(hd:AG x:=by decide):wpAny (model X.prog X.w) X.A (eval (.Name x pos) X.env) Q E s:=ZA1 I.ok.kind hg (Calls.loadGlobal_global (by rw[I.ok.glob];exact I.mod.glob.keeps I.bk) hm h) hd
def mR{E:AA}{Z:AE}{s:Shared}{Y:St}{H:Hp}{x:Str}{u:Value}{pos:Pos}{Q:AA}(I:Inv X Z Y H s)(hg:Gl X x)(hm:X.mg x=none)(hv:bootBuiltins x=some u)(h:Q u s)(hn:x≠"__name__" :=by decide) (hd:AG x:=by decide):wpAny (model X.prog X.w) X.A (eval (.Name x pos) X.env) Q E s:=by obtain⟨mb,h1,h2⟩:=I.mod.blt;exact ZA1 I.ok.kind hg (Calls.loadGlobal_builtin (by rw[I.ok.glob];exact I.mod.glob.keeps I.bk) hm (by rw[I.ok.blt];exact h1.keeps I.bk) ((h2 x hn).trans hv) h) hd
def xQ{x:Str}{v:V}{u:Value}{pos:Pos}(hg:Gl X x)(hm:X.mg x=some u)(r:RelV v u)(hd:AG x:=by decide):PE X (.Name x pos) (tC v):=λ_ _ _ H _ I h=>pJ I hg hm ⟨v,H,I,r,h⟩ hd
def Jo{x:Str}{v:V}{u:Value}{pos:Pos}(hg:Gl X x)(hm:X.mg x=none)(hv:bootBuiltins x=some u)(r:RelV v u)(hn:x≠"__name__" :=by decide)(hd:AG x:=by decide):PE X (.Name x pos) (tC v):=λ_ _ _ H _ I h=>mR I hg hm hv ⟨v,H,I,r,h⟩ hn hd
variable{a b:Expr}{ta tb:TE}{pos:Pos}
variable{tA Ou:TT}{Ep:List Expr}
def TY(t u:TT):TT:=λ Y H Q=>t Y H λc H1=>if c=true then u Y H1 Q else Q false H1
def tOr(t u:TT):TT:=λ Y H Q=>t Y H λc H1=>if c=true then Q true H1 else u Y H1 Q
def TN(t:TT):TT:=λ Y H Q=>t Y H λc H1=>Q (!c) H1
def Zx(ha:PT X a tA):PW X (.BoolOp .And [a] pos) tA:=by intro wh Z s Y H Q I h;refine isTrue_and (Bb (ha Z s Y H Q I h) λc s1 e=>?_);cases c with|true=>exact isTrue_and_nil e|false=>exact e
def Xi(ha:PT X a tA):PW X (.BoolOp .Or [a] pos) tA:=by intro wh Z s Y H Q I h;refine isTrue_or (Bb (ha Z s Y H Q I h) λc s1 e=>?_);cases c with|false=>exact isTrue_or_nil e|true=>exact e
def Xh(ha:PT X a tA)(J:PW X (.BoolOp .And (b::Ep) pos) Ou):PW X (.BoolOp .And (a::b::Ep) pos) (TY tA Ou):=by intro wh Z s Y H Q I h;refine isTrue_and (Bb (ha Z s Y H _ I h) λc s1 ⟨H1,I1,q1⟩=>?_);cases c with|true=>exact J wh Z s1 Y H1 Q I1 q1|false=>exact⟨H1,I1,q1⟩
def VI(ha:PT X a tA)(J:PW X (.BoolOp .Or (b::Ep) pos) Ou):PW X (.BoolOp .Or (a::b::Ep) pos) (tOr tA Ou):=by intro wh Z s Y H Q I h;refine isTrue_or (Bb (ha Z s Y H _ I h) λc s1 ⟨H1,I1,q1⟩=>?_);cases c with|true=>exact⟨H1,I1,q1⟩|false=>exact J wh Z s1 Y H1 Q I1 q1
def Xg(ha:PT X a tA):PT X (.UnaryOp .Not a pos) (TN tA):=by intro Z s Y H Q I h;exact isTrue_not (ha Z s Y H (λc H1=>Q (!c) H1) I h)
def VH(ta tb:TE):TE:=λ Y H Q=>ta Y H λx H1=>∃c,x=.bl c/\if c=true then tb Y H1 Q else Q (.bl false) H1
def VG(ta:TE):TE:=λ Y H Q=>ta Y H λx H1=>∃c,x=.bl c/\Q (.bl (!c)) H1
def Xf{op}{t:TE}(h:PE X a t):PE X (.BoolOp op [a] pos) t:=λZ s Y H Q I hw=>BoolOp_one (h Z s Y H Q I hw)
def Xe(ha:PE X a ta)(J:PE X (.BoolOp .And (b::Ep) pos) tb):PE X (.BoolOp .And (a::b::Ep) pos) (VH ta tb):=by intro Z s Y H Q I h;refine BoolOp_and (Bb (ha Z s Y H _ I h) λv s1 ⟨x,H1,I1,r1,q1⟩=>?_);obtain⟨c,rfl,q1⟩:=q1;cases r1;refine R9 ?_;cases c with|true=>exact J Z s1 Y H1 Q I1 q1|false=>exact⟨.bl false,H1,I1,rfl,q1⟩
def Xd(ha:PE X a ta):PE X (.UnaryOp .Not a pos) (VG ta):=by intro Z s Y H Q I h;refine UnaryOp_ (Bb (ha Z s Y H _ I h) λv s1 ⟨x,H1,I1,r1,q1⟩=>?_);obtain⟨c,rfl,q1⟩:=q1;cases r1;exact not_of (R9 ⟨.bl (!c),H1,I1,rfl,q1⟩)
def tIf(t:TT)(ta tb:TE):TE:=λ Y H Q=>t Y H λc H1=>if c=true then ta Y H1 Q else tb Y H1 Q
def aaX{c:Expr}(hc:PT X c tA)(ha:PE X a ta)(J:PE X b tb):PE X (.IfExp c a b pos) (tIf tA ta tb):=by intro Z s Y H Q I h;refine wpAny_IfExp (Bb (hc Z s Y H _ I h) λd s1 ⟨H1,I1,q1⟩=>?_);cases d with|true=>exact ha Z s1 Y H1 Q I1 q1|false=>exact J Z s1 Y H1 Q I1 q1
end
def bQ(K:Frag)(H:Hp)(a:Addr)(xs:List V):Prop:=Rd H a (.lst xs)\/∃(o:Obj) (its:Array Value) (n:Nat),K.lookup a=some o/\o.cls=.type "list" /\o.dict=none/\o.data=.seq its n/\its.size<=sizeLine/\Vals xs its.toList
def cQ(K:Frag)(H:Hp)(a:Addr)(xs:List V):Prop:=Rd H a (.tup xs)\/∃(o:Obj) (its:Array Value) (n:Nat),K.lookup a=some o/\o.cls=.type "tuple" /\o.data=.seq its n/\its.size<=sizeLine/\Vals xs its.toList
noncomputable def afR:Value->Option V|.none=>some .aK|.bool b=>some (.bl b)|.int i _=>some (.int i)|.str x _=>some (.str x)|.bytes b _=>some (.iW b)|.float b _=>some (.nj b)|.ref a=>some (.ref a)|.type n=>some (.ty n)|_=>none
def RelV.abs{x:V}{u:Value}(r:RelV x u):afR u=some x:=by cases x with|aK=>cases r;rfl|bl _=>cases r;rfl|int _=>obtain⟨t,rfl⟩:=r;rfl|str _=>obtain⟨t,rfl⟩:=r;rfl|iW _=>obtain⟨t,rfl⟩:=r;rfl|nj _=>obtain⟨t,rfl⟩:=r;rfl|ref _=>cases r;rfl|ty _=>cases r;rfl
theorem RelV.inj{x y:V}{u:Value}(r:RelV x u)(q:RelV y u):x=y:=L9 (r.abs.symm.trans q.abs)
theorem Vals.inj:∀{xs ys:List V}{us:List Value},Vals xs us->Vals ys us->xs=ys|_,_,_,.nil,.nil=>rfl|_,_,_,.cons r t,.cons r' t'=>by rw[r.inj r',Vals.inj t t']
section
variable{X:Cx}{Z:AE}{Y:St}{H:Hp}{s:Shared}{a:Addr}{xs ys:List V}
def bQ.of{K:Frag}(h:H a=some (.lst xs)):bQ K H a xs:=.inl (.inl h)
def cQ.of{K:Frag}(h:H a=some (.tup xs)):cQ K H a xs:=.inl (.inl h)
def Inv.list(I:Inv X Z Y H s)(h:bQ X.K H a xs):∃its:List Value,Vals xs its/\PlainL s.heap a its.toArray/\xs.length<=sizeLine:=by rcases h with h|⟨o,its,n,hk,hc,hd,hs,hz,r⟩;obtain⟨z,its,n,r,e⟩:=h.ok I.aJ;exact⟨its,r,⟨_,n,e,rfl,rfl,rfl⟩,z⟩;refine⟨its.toList,r,⟨o,n,I.bU a o hk,hc,hd,by simpa using hs⟩,?_⟩;have e:=r.length;simp only[M4]at e;lia
def Inv.tuple(I:Inv X Z Y H s)(h:cQ X.K H a xs):∃its:List Value,Vals xs its/\IsTup s.heap a its.toArray/\xs.length<=sizeLine:=by rcases h with h|⟨o,its,n,hk,hc,hs,hz,r⟩;obtain⟨z,its,r,p⟩:=h.ok I.aJ;exact⟨its,r,p,z⟩;refine⟨its.toList,r,⟨o,I.bU a o hk,hc,n,by simpa using hs⟩,?_⟩;have e:=r.length;simp only[M4]at e;lia
def Inv.iI(I:Inv X Z Y H s)(h:bQ X.K H a xs)(h':bQ X.K H a ys):xs=ys:=by
 obtain⟨its,r,⟨o,n,e,_,_,d⟩,_⟩:=I.list h;obtain⟨its',r',⟨o',n',e',_,_,d'⟩,_⟩:=I.list h';rw[e]at e';cases e';rw[d]at d';injection d' with d1 _;have:its=its':=by simpa using K5 Array.toList d1
 subst this;exact r.inj r'
def Inv.my(I:Inv X Z Y H s)(h:cQ X.K H a xs)(h':cQ X.K H a ys):xs=ys:=by
 obtain⟨its,r,⟨o,e,_,n,d⟩,_⟩:=I.tuple h;obtain⟨its',r',⟨o',e',_,n',d'⟩,_⟩:=I.tuple h';rw[e]at e';cases e';rw[d]at d';injection d' with d1 _;have:its=its':=by simpa using K5 Array.toList d1
 subst this;exact r.inj r'
end
noncomputable abbrev Cx.dG(X:Cx)(E:AA):Cx:={X with xe:=E}
abbrev Cx.mV(X:Cx):Cx:=X.dG λ_ _=>False
theorem Cx.Ok.dG{X:Cx}(ok:X.Ok)(E:AA):(X.dG E).Ok:=⟨ok.mod,ok.kind,ok.glob,ok.blt,ok.above,ok.inj,ok.has,ok.qO,ok.hd,ok.frames,ok.tV,ok.AL,ok.bs,ok.iX,ok.eU,ok.gQ,ok.bV,ok.lr,ok.tb⟩
def Cx.Ok.bW{X:Cx}{E:AA}(ok:(X.dG E).Ok):X.Ok:=⟨ok.mod,ok.kind,ok.glob,ok.blt,ok.above,ok.inj,ok.has,ok.qO,ok.hd,ok.frames,ok.tV,ok.AL,ok.bs,ok.iX,ok.eU,ok.gQ,ok.bV,ok.lr,ok.tb⟩
section
variable{X:Cx}{Z:AE}{Y:St}{H:Hp}{s:Shared}{E:AA}
theorem Inv.dG(I:Inv X Z Y H s)(E:AA):Inv (X.dG E) Z Y H s:=⟨I.ok.dG E,I.os,I.bare,I.base,I.loc,I.cell,I.free,I.bD,I.pin,I.aJ,I.len⟩
theorem Inv.bW(I:Inv (X.dG E) Z Y H s):Inv X Z Y H s:=⟨I.ok.bW,I.os,I.bare,I.base,I.loc,I.cell,I.free,I.bD,I.pin,I.aJ,I.len⟩
theorem SP.bW{D:Ends}{f:Flow}{s':Shared}(h:SP (X.dG E) Z D f s'):SP X Z D f s':=by cases f with|next=>obtain⟨σ',O,I,q⟩:=h;exact⟨σ',O,I.bW,q⟩|brk=>obtain⟨σ',O,I,q⟩:=h;exact⟨σ',O,I.bW,q⟩|cont=>obtain⟨σ',O,I,q⟩:=h;exact⟨σ',O,I.bW,q⟩|ret u=>obtain⟨v,σ',O,I,r,q⟩:=h;exact⟨v,σ',O,I.bW,r,q⟩
theorem PE.mV{e:Expr}{t:TE}(h:PE X.mV e t):PE X e t:=λZ s Y H Q I hw=>F5 (h Z s Y H Q (I.dG _) hw) (λ_ _ ⟨v,O,I',r,q⟩=>⟨v,O,I'.bW,r,q⟩) λ_ _ z=>False.elim z
end
section
variable{X:Cx}{st:Stmt}{Ep:List Stmt}{t u:TS}{e:Expr}{te:TE}{pos:Pos}
def VF:TS:=λD Y H=>D.nx Y H
def TL(t u:TS):TS:=λD Y H=>t {D with nx:=u D} Y H
def Zw:gI X [] VF:=λ_ _ Y H _ I h=>W4 ⟨Y,H,I,h⟩
def aaW(h1:PS X st t)(h2:gI X Ep u):gI X (st::Ep) (TL t u):=by intro Z s Y H D I h;refine wpAny_execs_cons (Bb (h1 Z s Y H {D with nx:=u D} I h) λf s1 q=>?_);cases f with|next=>obtain⟨σ',O,I',q⟩:=q;exact h2 Z s1 σ' O D I' q|ret v=>exact q|brk=>exact q|cont=>exact q
def sH(h1:PS X st t):gI X [st] t:=by intro Z s Y H D I h;refine wpAny_execs_cons (Bb (h1 Z s Y H D I h) λf s1 q=>?_);cases f with|next=>exact W4 q|ret v=>exact q|brk=>exact q|cont=>exact q
def Inv.quiet{Z:AE}{Y:St}{H:Hp}{s:Shared}(I:Inv X Z Y H s):interactive X.env=false:=by simp[interactive,I.ok.kind]
def VE(te:TE):TS:=λD Y H=>te Y H λ_ H1=>D.nx Y H1
def jW(he:PE X e te)(hs:swapsWith e none pos.line X.env=pure false:=by rfl):PS X (.Expr e pos) (VE te):=by intro Z s Y H D I h;exact wpAny_Expr_any (Bb (he Z s Y H _ I h) λv s1 ⟨x,H1,I1,r1,q1⟩=>⟨Y,H1,I1,q1⟩) I.quiet hs
def TM(te:TE):TS:=λD Y H=>te Y H D.rt
def wX(he:PE X e te):PS X (.Return (some e) pos) (TM te):=by intro Z s Y H D I h;exact wpAny_Return_some (Bb (he Z s Y H _ I h) λv s1 ⟨x,H1,I1,r1,q1⟩=>⟨x,Y,H1,I1,r1,q1⟩)
def TR(c:TT)(t u:TS):TS:=λD Y H=>c Y H λb H1=>if b=true then t D Y H1 else u D Y H1
def VD{c:Expr}{a b:List Stmt}{tc:TT}(hc:PT X c tc)(ha:gI X a t)(J:gI X b u):PS X (.If c a b pos) (TR tc t u):=by intro Z s Y H D I h;refine wpAny_If (Bb (hc Z s Y H _ I h) λd s1 ⟨H1,I1,q1⟩=>?_);cases d with|true=>exact ha Z s1 Y H1 D I1 q1|false=>exact J Z s1 Y H1 D I1 q1
end
abbrev TG:=V->St->Hp->(St->Hp->Prop)->Prop
abbrev qQ:=List V->St->Hp->(St->Hp->Prop)->Prop
def PG(X:Cx)(target:Expr)(t:TG):Prop:=∀(Z:AE) (s:Shared) (Y:St) (H:Hp) (v:V) (u:Value) (Q:St->Hp->Prop),Inv X Z Y H s->RelV v u->t v Y H Q->wpAny (model X.prog X.w) X.A (assign target X.env u) (λ_ s'=>∃σ' O,Inv X Z σ' O s'/\Q σ' O) X.xe s
def EO(X:Cx)(ts:List Expr)(t:qQ):Prop:=∀(Z:AE) (s:Shared) (Y:St) (H:Hp) (vs:List V) (us:List Value) (Q:St->Hp->Prop),Inv X Z Y H s->Vals vs us->t vs Y H Q->wpAny (model X.prog X.w) X.A (assignInOrder ((assignEach ts X.env).map (·.2)) us) (λ_ s'=>∃σ' O,Inv X Z σ' O s'/\Q σ' O) X.xe s
abbrev yX:=V->V->V->Hp->(Hp->Prop)->Prop
def NT(X:Cx)(t:yX):Prop:=∀(Z:AE) (s:Shared) (Y:St) (H:Hp) (o i v:V) (ov iv u:Value) (Q:Hp->Prop),Inv X Z Y H s->RelV o ov->RelV i iv->RelV v u->t o i v H Q->wpAny (model X.prog X.w) X.A (setItem ov iv u) (λ_ s'=>∃O,Inv X Z Y O s'/\Q O) X.xe s
section
variable{X:Cx}{pos:Pos}
def nZ(i:Nat):TG:=λv Y H Q=>Q (Y.set i (some v)) H
def mi{i:Nat}{x:Str}(hN:X.N.Nodup)(hi:X.N[i]?=some x)(hx:Loc X.env.scope x)(hf:X.fn x=true\/X.env.scope.names.lookup x=some .local:=by trivial):PG X (.Name x pos) (nZ i):=by intro Z s Y H v u Q I r h;exact wpAny_assign_Name (yj I hN hi hx r (λs' I'=>⟨_,H,I',h⟩) hf)
def Uy:qQ:=λvs Y H Q=>vs=[]/\Q Y H
def VC(t:TG)(u:qQ):qQ:=λvs Y H Q=>∃v r,vs=v::r/\t v Y H λ σ' O=>u r σ' O Q
def Jn:EO X [] Uy:=by intro Z s Y H vs us Q I r h;obtain⟨e,h⟩:=h;subst e;cases r;exact assignInOrder_nil ⟨Y,H,I,h⟩
def sT{e:Expr}{es:List Expr}{t:TG}{u:qQ}(h1:PG X e t)(h2:EO X es u)(hs:(assignEach (e::es) X.env).map (·.2)=assign e X.env::(assignEach es X.env).map (·.2):=by rfl):EO X (e::es) (VC t u):=by intro Z s Y H vs us Q I r h;obtain⟨v,vr,S,h⟩:=h;subst S;cases r with|cons r rr=>rw[hs];refine assignInOrder_cons (Bb (h1 Z s Y H _ _ _ I r h) λ_ s1 ⟨σ1,H1,I1,q1⟩=>?_);exact h2 Z s1 σ1 H1 _ _ Q I1 rr q1
def Uv(K:Frag)(n:Nat)(t:qQ):TG:=λv Y H Q=>∃a xs,v=.ref a/\cQ K H a xs/\xs.length=n/\t xs Y H Q
def HU{es:List Expr}{k:Nat}{t:qQ}{n:Nat}(hc:X.calm=true)(h:EO X es t)(hn:(assignEach es X.env).length=n:=by rfl) (dA:(assignEach es X.env).findIdx? (·.1)=none:=by rfl):PG X (.Tuple es k pos) (Uv X.K n t):=by intro Z s Y H v u Q I r hw;obtain⟨a,xs,S,hq,hl,hw⟩:=hw;subst S;cases r;obtain⟨its,rv,ht,hz⟩:=I.tuple hq;refine assign_Tuple_tuple (I.ok.hd hc) ht (by simp[hn,<-hl,rv.length]) dA λh' hx=>?_;have I1:Inv X Z Y H {s with heap:=h'}:=I.kept (t':=s.toks) λb o e=>hx b o (D6 (B2 e)) e;exact h Z _ Y H xs _ Q I1 (by simpa using rv) hw
def Uw(to ti:TE)(t:yX):TG:=λv Y H Q=>to Y H λo H1=>ti Y H1 λi H2=>t o i v H2 λH3=>Q Y H3
def HS{o i:Expr}{to ti:TE}{t:yX}(ho:PE X o to)(hi:PE X i ti)(hs:NT X t)(ha:∀v,assign (.Subscript o i pos) X.env v=(do
   let ov<-holding [v] (eval o X.env)
   let iv<-holding [v,ov] (eval i X.env)
   standAt pos
   holding [v,ov,iv] (setItem ov iv v)
   release [v,ov,iv] []):=by intro _;rfl):PG X (.Subscript o i pos) (Uw to ti t):=by
 intro Z s Y H v u Q I r h;rw[ha];refine A8 (S6 (Bb (ho Z s Y H _ I h) λov s1 ⟨x,H1,I1,r1,q1⟩=>?_));refine A8 (S6 (Bb (hi Z s1 Y H1 _ I1 q1) λiv s2 ⟨y,H2,I2,r2,q2⟩=>?_));refine A8 (S7 (A8 (S6 (Bb (hs Z s2 Y H2 x y v ov iv u _ I2 r1 r2 r q2) λ_ s3 ⟨H3,I3,q3⟩=>?_))));exact wpAny_release ⟨Y,H3,I3,q3⟩
def nA(te:TE)(g:TG):TS:=λD Y H=>te Y H λx H1=>g x Y H1 D.nx
def HR{tg e:Expr}{te:TE}{g:TG}(he:PE X e te)(hg:PG X tg g)(hs:swapsWithSole [tg] e pos.line X.env=pure false:=by rfl)(hw:swappedStores [tg] e X.env=pure none:=by rfl)(h1:(assignEach [tg] X.env).map (·.2)=[assign tg X.env]:=by rfl):PS X (.Assign [tg] e pos) (nA te g):=by intro Z s Y H D I h;refine wpAny_Assign_stores (Bb (he Z s Y H _ I h) λv s1 ⟨x,H1,I1,r1,q1⟩=>?_) hs hw;rw[h1];exact Bb (hg Z s1 Y H1 x v _ I1 r1 q1) λ_ s2 q=>q
def oB{i:Nat}{x:Str}{e:Expr}{te:TE}{pos':Pos}(hN:X.N.Nodup)(hi:X.N[i]?=some x)(hx:Loc X.env.scope x)(he:PE X e te)(hs:swapsWith e (some (.Name x pos')) pos.line X.env=pure false:=by rfl)(hf:X.fn x=true\/X.env.scope.names.lookup x=some .local:=by trivial):PS X (.Assign [.Name x pos'] e pos) (nA te (nZ i)):=by intro Z s Y H D I h;refine wpAny_Assign_Name (Bb (he Z s Y H _ I h) λv s1 ⟨y,H1,I1,r1,q1⟩=>?_) hs;exact yj I1 hN hi hx r1 (λs2 I2=>⟨_,H1,I2,q1⟩) hf
end
section
variable{X:Cx}{pos:Pos}
def Xc(c:TT)(tb:TS):TS:=λD Y H=>∃W:Nat->St->Hp->Prop,(∃m,W m Y H)/\∀m Y H,W m Y H->c Y H λb H1=>if b=true then∃N:St->Hp->Prop,(∀σ' O,N σ' O->∃m',m'<m/\W m' σ' O)/\tb {D with nx:=N,ct:=N,bk:=D.nx} Y H1 else D.nx Y H1
def aaV{c:Expr}{body:List Stmt}{tc:TT}{tb:TS}(hp:PassesOwn (model X.prog X.w) X.A X.env X.xe)(hc:PT X c tc)(J:gI X body tb):PS X (.While c body [] pos) (Xc tc tb):=by
 intro Z s Y H D I h;obtain⟨W,⟨m0,w0⟩,turn⟩:=h;refine wpAny_While (codeAny_whileLoop (λn s'=>∃σ' O,Inv X Z σ' O s'/\W n σ' O) ?_ m0 ⟨Y,H,I,w0⟩);rintro n s1 ⟨σ1,H1,I1,w1⟩;refine R6 hp (Bb (hc Z s1 σ1 H1 _ I1 (turn n σ1 H1 w1)) λb s2 ⟨H2,I2,q2⟩=>?_);cases b with
 |true=>obtain⟨N,hN,q2⟩:=q2;rw[if_pos rfl];refine R6 hp (Bb (J Z s2 σ1 H2 _ I2 q2) λf s3 q3=>?_);cases f with|next=>obtain⟨σ3,H3,I3,n3⟩:=q3;obtain⟨m',hm,w3⟩:=hN σ3 H3 n3;exact⟨m',hm,σ3,H3,I3,w3⟩|cont=>obtain⟨σ3,H3,I3,n3⟩:=q3;obtain⟨m',hm,w3⟩:=hN σ3 H3 n3;exact⟨m',hm,σ3,H3,I3,w3⟩|brk=>exact q3|ret v=>exact q3
 |false=>rw[if_neg B5];exact W4 ⟨σ1,H2,I2,q2⟩
end
structure It where
 go:Nat->Hp->Prop
 zG:Nat->Hp->V->Hp->Prop
 stop:Nat->Hp->Prop
def Cm(X:Cx)(Z:AE)(H:Hp)(b:Addr):Prop:=H b=none/\b≠X.env.locals/\b∉X.fs/\(b∈X.ex\/X.s₀.heap.objs.size<=b)/\(∀x c,X.env.cells.lookup x=some c->c≠b)/\∀p∈X.pn++Z,p.1≠b
def Inv.gP{X:Cx}{Z:AE}{Y:St}{H O:Hp}{s:Shared}{b:Addr}(I:Inv X Z Y H s)(J:s.heap.objs.size<=b)(hn:O b=none):Cm X Z O b:=by refine⟨hn,Z5 (C9 I.lt J),I.rh J,.inr (D2 I.sz J),λx c e z=>?_,λp hp z=>?_⟩;obtain⟨v,q⟩:=I.cell x c e;exact absurd (C9 q.lt (by rw[z];exact J)) (F3 _);exact absurd (C9 (B2 (I.pin p hp).1) (by rw[z];exact J)) (F3 _)
structure Turn(P:Program)(w:World)(K:Frag)(tg:Expr)(hb:It)(fp:List Addr)(it:Addr)(tn:Nat->Heap->Prop):Prop where
 mem:it∈fp
 obj:∀i h,tn i h->∀b∈fp,∃o,h.get? b=some o/\∀v,o.data≠.cell v
 keep:∀i h h',tn i h->(∀b∈fp,∀o,h.get? b=some o->h'.get? b=some o)->tn i h'
 item:∀(X:Cx),X.prog=P->X.w=w->X.K=K->X.calm=true->∀(i:Nat) (Z:AE) (s:Shared) (Y:St) (H:Hp) (E:AA),Inv X Z Y H s->(∀b∈fp,Cm X Z H b)->tn i s.heap->hb.go i H->wpAny (model P w) X.A (pyNext (.ref it)) (λr s1=>∃u,r=some u/\wpAny (model P w) X.A (letOwnedTupleGo tg (.ref it) u) (λ_ s2=>∃x O,Inv X Z Y O s2/\RelV x u/\hb.zG i H x O/\tn (i+1) s2.heap/\∀b∈fp,O b=none) E s1) E s
 done:∀(X:Cx),X.prog=P->X.w=w->X.K=K->X.calm=true->∀(i:Nat) (Z:AE) (s:Shared) (Y:St) (H:Hp) (E:AA),Inv X Z Y H s->(∀b∈fp,Cm X Z H b)->tn i s.heap->hb.stop i H->wpAny (model P w) X.A (pyNext (.ref it)) (λr s1=>r=none/\Inv X Z Y H s1) E s
 self:∀(A:Around) (i:Nat) (s:Shared) (Q:AA) (E:AA),tn i s.heap->Q (.ref it) s->wpAny (model P w) A (pyIter (.ref it)) Q E s
abbrev TI:=St->Hp->(It->Hp->Prop)->Prop
def Tf(X:Cx)(Z:AE)(Y:St)(tg:Expr)(R:It->Hp->Prop)(mX:Value)(s2:Shared):Prop:=∃(it:Addr) (fp:List Addr) (tn:Nat->Heap->Prop) (hb:It) (O:Hp),mX=.ref it/\Inv X Z Y O s2/\Turn X.prog X.w X.K tg hb fp it tn/\tn 0 s2.heap/\(∀b∈fp,Cm X Z O b)/\R hb O
def PI(X:Cx)(tg iter:Expr)(wi:TI):Prop:=∀(Z:AE) (s:Shared) (Y:St) (H:Hp) (R:It->Hp->Prop),Inv X Z Y H s->wi Y H R->wpAny (model X.prog X.w) X.A (eval iter X.env) (λv s1=>wpAny (model X.prog X.w) X.A (pyIter v) (Tf X Z Y tg R) X.xe s1) X.xe s
def nY{ds:Model}{A:Around}{E:AA}{s:Shared}{tg:Expr}{it:Addr}{u:Value}{o:Obj}{n:String}{vs:Array Value}{Q:Unit->Shared->Prop}(ho:s.heap.get? it=some o)(hc:o.cls=.type n)(hd:o.data=.fields vs)(hn: ["enumerate","zip","dict_itemiterator","dict_reverseitemiterator","odict_iterator","itertools.zip_longest","itertools.pairwise"].contains n=false) (hQ:Q .unit s):wpAny ds A (letOwnedTupleGo tg (.ref it) u) Q E s:=by
 unfold letOwnedTupleGo;cases tg<;>first
  |exact E9 hQ
  | (cases u<;>first
    |exact E9 hQ
    | (refine A8 (wpAny_load ho ?_)
       rw[hc,hd];show wpAny ds A (if(["enumerate","zip","dict_itemiterator","dict_reverseitemiterator","odict_iterator","itertools.zip_longest","itertools.pairwise"].contains n&&vs[0]?==some (rawInt _))=true then _ else _) Q E s;rw[if_neg (by intro h;rw[hn,Bool.false_and]at h;cases h)];exact E9 hQ))
def Tw(K:Frag)(a:Addr):It:=⟨λi H=>∃xs x,bQ K H a xs/\xs[i]?=some x,λi H x O=>O=H/\∀xs,bQ K H a xs->xs[i]?=some x,λi H=>∃xs,bQ K H a xs/\xs.length<=i⟩
def Tv(K:Frag)(a:Addr):It:=⟨λi H=>∃xs x,cQ K H a xs/\xs[i]?=some x,λi H x O=>O=H/\∀xs,cQ K H a xs->xs[i]?=some x,λi H=>∃xs,cQ K H a xs/\xs.length<=i⟩
def Qd(lo:Int)(n:Nat):It:=⟨λi _=>i<n,λi H x O=>O=H/\x=.int (lo+i),λi _=>n<=i⟩
def acn{P:Program}{w:World}{K:Frag}{tg:Expr}(a it:Addr):Turn P w K tg (Tw K a) [it] it (λi h=>h.IsListIter it a i) where
 mem:=by simp
 obj:=λi h st b J=>by
  have e:b=it:=by simpa using J
  subst e;obtain⟨o,e,c,d⟩:=st;exact⟨o,e,λv z=>by rw[d]at z;cases z⟩
 keep:=λi h h' st k=>st.at λo e=>k it (by simp) o e
 item:=by intro X hP hw hK hc i Z s Y H E I hf st hg;subst hP hw hK;obtain⟨xs,x,hq,hx⟩:=hg;obtain⟨its,rv,p,hz⟩:=I.list hq;obtain⟨u,hu,ru⟩:=rv.get hx;obtain⟨f0,f1,f2,f3,f4,f5⟩:=hf it (by simp);refine wpAny_pyNext_list_item st p.isList (x:=u) (by simpa using hu) λh' bJ sb=>?_;have I1:Inv X Z Y H {s with heap:=h'}:=I.turned (t':=s.toks) (λb o J e=>(sb.2 b J).trans e) f0 f1 f3 f4 f5;obtain⟨o,e,c,d⟩:=id bJ;exact⟨u,rfl,nY (s:={s with heap:=h'}) e c d ⋯ ⟨x,H,I1,ru,⟨rfl,λys hy=>by rw[I.iI hy hq];exact hx⟩,bJ,λb J=>(hf b J).1⟩⟩
 done:=by intro X hP hw hK hc i Z s Y H E I hf st hg;subst hP hw hK;obtain⟨xs,hq,hx⟩:=hg;obtain⟨its,rv,p,hz⟩:=I.list hq;obtain⟨f0,f1,f2,f3,f4,f5⟩:=hf it (by simp);have hl:=rv.length;exact wpAny_pyNext_list_end (I.ok.hd hc) st p.isList (by simp;lia) λh' eb=>⟨rfl,I.turned (t':=s.toks) (λb o J e=>eb b o J e) f0 f1 f3 f4 f5⟩
 self:=λ_ _ _ _ _ st h=>wpAny_pyIter_listiter st h
def adj{P:Program}{w:World}{K:Frag}{tg:Expr}(a it:Addr):Turn P w K tg (Tv K a) [it] it (λi h=>h.IsTupleIter it a i) where
 mem:=by simp
 obj:=λi h st b J=>by
  have e:b=it:=by simpa using J
  subst e;obtain⟨o,e,c,d⟩:=st;exact⟨o,e,λv z=>by rw[d]at z;cases z⟩
 keep:=λi h h' st k=>st.at λo e=>k it (by simp) o e
 item:=by intro X hP hw hK hc i Z s Y H E I hf st hg;subst hP hw hK;obtain⟨xs,x,hq,hx⟩:=hg;obtain⟨its,rv,p,hz⟩:=I.tuple hq;obtain⟨u,hu,ru⟩:=rv.get hx;obtain⟨f0,f1,f2,f3,f4,f5⟩:=hf it (by simp);refine wpAny_pyNext_tuple_item st (show s.heap.IsTuple a its.toArray from p) (x:=u) (by simpa using hu) λh' bJ sb=>?_;have I1:Inv X Z Y H {s with heap:=h'}:=I.turned (t':=s.toks) (λb o J e=>(sb.2 b J).trans e) f0 f1 f3 f4 f5;obtain⟨o,e,c,d⟩:=id bJ;exact⟨u,rfl,nY (s:={s with heap:=h'}) e c d ⋯ ⟨x,H,I1,ru,⟨rfl,λys hy=>by rw[I.my hy hq];exact hx⟩,bJ,λb J=>(hf b J).1⟩⟩
 done:=by intro X hP hw hK hc i Z s Y H E I hf st hg;subst hP hw hK;obtain⟨xs,hq,hx⟩:=hg;obtain⟨its,rv,p,hz⟩:=I.tuple hq;obtain⟨f0,f1,f2,f3,f4,f5⟩:=hf it (by simp);have hl:=rv.length;exact wpAny_pyNext_tuple_end (I.ok.hd hc) st (show s.heap.IsTuple a its.toArray from p) (by simp;lia) λh' eb=>⟨rfl,I.turned (t':=s.toks) (λb o J e=>eb b o J e) f0 f1 f3 f4 f5⟩
 self:=λ_ _ _ _ _ st h=>wpAny_pyIter_tupleiter st h
def adi{P:Program}{w:World}{K:Frag}{tg:Expr}(it:Addr)(lo:Int)(n:Nat):Turn P w K tg (Qd lo n) [it] it (λi h=>IsRangeIter h it (lo+(i:Nat)*1) ((n:Int)-(i:Nat)) 1) where
 mem:=by simp
 obj:=λi h st b J=>by
  have e:b=it:=by simpa using J
  subst e;exact⟨_,st,λv z=>by have z':Data.fields _=Data.cell v:=z;cases z'⟩
 keep:=λi h h' st k=>k it (by simp) _ st
 item:=by intro X hP hw hK hc i Z s Y H E I hf st hg;subst hP hw hK;obtain⟨f0,f1,f2,f3,f4,f5⟩:=hf it (by simp);have W:=Walks.range (prog:=X.prog) (w:=X.w) (I.ok.hd hc) it lo 1 n;refine W.item i s _ _ hg st λv h' tk hv bJ kk=>?_;obtain⟨t,rfl⟩:=hv;have I1:Inv X Z Y H {s with heap:=h',toks:=tk}:=I.turned (λb o J e=>kk b o (by simpa using J) e) f0 f1 f3 f4 f5;refine⟨_,rfl,nY (s:={s with heap:=h',toks:=tk}) (n:="range_iterator") bJ rfl rfl ⋯ ⟨.int (lo+i),H,I1,⟨t,?_⟩,⟨rfl,rfl⟩,bJ,λb J=>(hf b J).1⟩⟩;rw[Int.mul_one]
 done:=by intro X hP hw hK hc i Z s Y H E I hf st hg;subst hP hw hK;obtain⟨f0,f1,f2,f3,f4,f5⟩:=hf it (by simp);exact wpAny_pyNext_range_end (I.ok.hd hc) st (by have:n<=i:=hg;lia) λh' eb=>⟨rfl,I.turned (t':=s.toks) (λb o J e=>eb b o J e) f0 f1 f3 f4 f5⟩
 self:=λ_ _ _ _ _ st h=>wpAny_pyIter_rangeiter st h
section
variable{X:Cx}{tg:Expr}
def aaU{Z:AE}{Y:St}{H:Hp}{s:Shared}{R:It->Hp->Prop}{E:AA}{lo hi:Int}{t u v:Tok}{tk:Nat}(I:Inv X Z Y H s)(h1:-(2^62)<=lo)(h2:lo<2^62)(h3:-(2^62)<=hi)(h4:hi<2^62)(q:R (Qd lo (hi-lo).toNat) H):wpAny (model X.prog X.w) X.A (pyIter (.ref s.heap.objs.size)) (Tf X Z Y tg R) E {s with heap:=s.heap.push {cls:=.type "range",data:=.fields #[.int lo t,.int hi u,.int 1 v]},toks:=tk}:=by
 refine wpAny_pyIter_range (IsRange.new ..) (small_one h1 h2 h3 h4) ?_;have I1:Inv X Z Y H {s with heap:=s.heap.push {cls:=.type "range",data:=.fields #[.int lo t,.int hi u,.int 1 v]},toks:=tk}:=I.kept λb o e=>A5 _ e;refine⟨(s.heap.push {cls:=.type "range",data:=.fields #[.int lo t,.int hi u,.int 1 v]}).objs.size,[(s.heap.push {cls:=.type "range",data:=.fields #[.int lo t,.int hi u,.int 1 v]}).objs.size],_,_,H,rfl,I1.kept (t':=tk) λb o e=>A5 _ e,adi _ lo (hi-lo).toNat,?_,λb J=>?_,q⟩;have S:lo+((0:Nat):Int)*1=lo:=by simp
 have e2:(((hi-lo).toNat:Nat):Int)-((0:Nat):Int)=Builtin.Range.rangeSize lo hi 1:=by rw[rangeSize_one];split<;>lia
 show IsRangeIter _ _ (lo+((0:Nat):Int)*1) ((((hi-lo).toNat:Nat):Int)-((0:Nat):Int)) 1;rw[S,e2];exact D0 _ rfl;have e:b=(s.heap.push {cls:=.type "range",data:=.fields #[.int lo t,.int hi u,.int 1 v]}).objs.size:=by simpa using J
 subst e;exact I1.gP (A9 _) (I1.aJ.fresh (A9 _))
def VB(ta:TA):TI:=λ Y H R=>ta Y H λvs H1=>∃j:Int,vs=[.int j]/\ -(2^62)<=j/\j<2^62/\R (Qd 0 j.toNat) H1
def acm{a:Expr}{ta:TA}{p pos:Pos}(hg:Gl X "range")(hm:X.mg "range"=none)(ha:PA X [a] ta)(hs:starEach [a] X.env=[(false,eval a X.env)]:=by rfl):PI X tg (.Call (.Name "range" p) [a] [] pos) (VB ta):=by intro Z s Y H R I h;refine Call_ (mR I hg hm boot_range (L4 (Bb (ha pos Z s Y H _ I h) λus s1 ⟨vs,H1,I1,r1,q1⟩=>?_) hs rfl));obtain⟨j,e,q1,q2,q⟩:=q1;subst e;cases r1 with|cons r rr=>cases rr;obtain⟨t,rfl⟩:=r;exact call_range_1 (aaU I1 () () q1 q2 (by simpa using q))
def TU(wi:TI)(g:TG)(tb:TS):TS:=λD Y H=>wi Y H λhb H1=>∃W:Nat->Nat->St->Hp->Prop,(∃m,W 0 m Y H1)/\∀i m Y H,W i m Y H->(hb.stop i H/\D.nx Y H)\/(hb.go i H/\∃N:St->Hp->Prop,(∀σ' O,N σ' O->∃m',m'<m/\W (i+1) m' σ' O)/\∀x O,hb.zG i H x O->g x Y O λ σ2 H2=>tb {D with nx:=N,ct:=N,bk:=D.nx} σ2 H2)
def oA(fp:List Addr)(h:Heap):AE:=fp.filterMap λb=>(h.get? b).map λo=>(b,o)
def tj{fp:List Addr}{h:Heap}{b:Addr}{o:Obj}(J:b∈fp)(e:h.get? b=some o):(b,o)∈oA fp h:=List.mem_filterMap.mpr ⟨b,J,by rw[e];rfl⟩
def ack{fp:List Addr}{h:Heap}{p:Addr×Obj}(hp:p∈oA fp h):p.1∈fp/\h.get? p.1=some p.2:=by obtain⟨b,J,e⟩:=List.mem_filterMap.mp hp;cases q:h.get? b with|none=>rw[q]at e;cases e|some o=>rw[q]at e;have e':(b,o)=p:=L9 e;subst e';exact⟨J,q⟩
def Inv.pinned{Z:AE}{Y:St}{H:Hp}{s:Shared}{fp:List Addr}(I:Inv X Z Y H s)(hf:∀b∈fp,Cm X Z H b)(ho:∀b∈fp,∃o,s.heap.get? b=some o/\∀v,o.data≠.cell v):Inv X (Z++oA fp s.heap) Y H s:=I.bX λp hp=>(F1.mp hp).elim (λz=>I.pin p (B8 _ z)) λz=>by obtain⟨J,e⟩:=ack z;obtain⟨f0,f1,f2,_⟩:=hf p.1 J;obtain⟨o,e',d⟩:=ho p.1 J;rw[e]at e';cases e';exact⟨e,f0,f1,f2,d⟩
def Inv.cE{Z pl:AE}{Y:St}{H:Hp}{s:Shared}(I:Inv X (Z++pl) Y H s):Inv X Z Y H s:=I.bX λp hp=>I.pin p (B8 _ (N0 _ hp))
def Xb{iter:Expr}{body:List Stmt}{wi:TI}{g:TG}{tb:TS}{pos:Pos}(hp:PassesOwn (model X.prog X.w) X.A X.env X.xe)(hc:X.calm=true)(hi:PI X tg iter wi)(hg:PG X tg g)(J:gI X body tb)
  (hs:∀x,foldedSetIterable iter X.env x=pure x:=by intro _;rfl):PS X (.For tg iter body [] pos) (TU wi g tb):=by
 intro Z s Y H D I h;refine wpAny_For (Bb (hi Z s Y H _ I h) λv s1 h1=>Bb h1 λmX s2 h2=>?_) hs;obtain⟨it,fp,tn,hb,H2,e,I2,T,aV,f2,W,⟨m0,w0⟩,turn⟩:=h2;subst e
 
 have dk:∀{O:Hp},(∀b∈fp,O b=none)->∀b∈fp,Cm X Z O b:=λhn b J=>⟨hn b J,(f2 b J).2⟩;refine codeAny_forLoop_any (λn s'=>∃i σ' O,Inv X Z σ' O s'/\tn i s'.heap/\(∀b∈fp,O b=none)/\W i n σ' O) ?_ m0 ⟨0,Y,H2,I2,aV,λb J=>(f2 b J).1,w0⟩
 rintro n s3 ⟨i,σ3,H3,I3,fQ,fr3,w3⟩
 rcases turn i n σ3 H3 w3 with⟨stop,qn⟩|⟨go,N,hN,step⟩
 ·refine R6 hp (Bb (T.done X rfl rfl rfl hc i Z s3 σ3 H3 X.xe I3 (dk fr3) fQ stop) λr s4 ⟨hr,I4⟩=>?_);subst hr;exact W4 ⟨σ3,H3,I4,qn⟩
 ·refine R6 hp (Bb (T.item X rfl rfl rfl hc i Z s3 σ3 H3 X.xe I3 (dk fr3) fQ go) λr s4 ⟨u,hr,h4⟩=>?_);subst hr;refine R6 hp (Bb h4 λ_ s5 ⟨x,H5,I5,r5,y5,uY,Rv⟩=>?_);have Tx:=I5.pinned (dk Rv) (T.obj _ _ uY);refine R6 hp (Bb (hg _ s5 σ3 H5 x u _ Tx r5 (step x H5 y5)) λ_ s6 ⟨σ6,H6,I6,q6⟩=>?_);refine R6 hp (Bb (J _ s6 σ6 H6 _ I6 q6) λf s7 q7=>?_);have again:∀{σ7:St}{H7:Hp},Inv X (Z++oA fp s5.heap) σ7 H7 s7->N σ7 H7->∃m,m<n/\∃i σ' O,Inv X Z σ' O s7/\tn i s7.heap/\(∀b∈fp,O b=none)/\W i m σ' O:=λ{σ7 H7} I7 n7=>by
   obtain⟨m',hm,w7⟩:=hN σ7 H7 n7;refine⟨m',hm,i+1,σ7,H7,I7.cE,T.keep _ _ _ uY λb J o e=>(I7.pin (b,o) (B8 _ (B8 _ (tj J e)))).1,λb J=>?_,w7⟩;obtain⟨o,e,d⟩:=T.obj _ _ uY b J;exact(I7.pin (b,o) (B8 _ (B8 _ (tj J e)))).2.1
  cases f with
  |next=>obtain⟨σ7,H7,I7,n7⟩:=q7;exact again I7 n7
  |cont=>obtain⟨σ7,H7,I7,n7⟩:=q7;exact again I7 n7
  |brk=>obtain⟨σ7,H7,I7,q7⟩:=q7;exact⟨σ7,H7,I7.cE,q7⟩
  |ret v=>obtain⟨x7,σ7,H7,I7,r7,q7⟩:=q7;exact⟨x7,σ7,H7,I7.cE,r7,q7⟩
end
abbrev R2:=V->V->Hp->VK->Prop
def cG(X:Cx)(f:Value->Value->Sem Value)(r:R2):Prop:=∀(Z:AE) (s:Shared) (Y:St) (H:Hp) (x y:V) (v u:Value) (Q:VK),Inv X Z Y H s->RelV x v->RelV y u->r x y H Q->wpAny (model X.prog X.w) X.A (f v u) (EP X Z Y Q) X.xe s
def Td(X:Cx)(f:Value->Sem Value)(r:V->Hp->VK->Prop):Prop:=∀(Z:AE) (s:Shared) (Y:St) (H:Hp) (x:V) (v:Value) (Q:VK),Inv X Z Y H s->RelV x v->r x H Q->wpAny (model X.prog X.w) X.A (f v) (EP X Z Y Q) X.xe s
def bL(X:Cx)(f:Value)(r:List V->Hp->VK->Prop):Prop:=∀(Z:AE) (s:Shared) (Y:St) (H:Hp) (xs:List V) (us:List Value) (Q:VK),Inv X Z Y H s->Vals xs us->r xs H Q->wpAny (model X.prog X.w) X.A (call f us) (EP X Z Y Q) X.xe s
def afX(X:Cx)(r:V->Hp->(Bool->Hp->Prop)->Prop):Prop:=∀(Z:AE) (s:Shared) (Y:St) (H:Hp) (x:V) (v:Value) (Q:Bool->Hp->Prop),Inv X Z Y H s->RelV x v->r x H Q->wpAny (model X.prog X.w) X.A (truthy v) (TP X Z Y Q) X.xe s
def BF(r:R2)(ta tb:TE):TE:=λ Y H Q=>ta Y H λx H1=>tb Y H1 λy H2=>r x y H2 Q
def tUn(r:V->Hp->VK->Prop)(ta:TE):TE:=λ Y H Q=>ta Y H λx H1=>r x H1 Q
def rI(C:Int->Int->Prop)(g:Int->Int->V):R2:=λx y H Q=>∃i j,x=.int i/\y=.int j/\C i j/\Q (g i j) H
def tY(g:Int->Int->V):R2:=λx y H Q=>∃i j,x=.int i/\y=.int j/\Q (g i j) H
def rU(g:Int->V):V->Hp->VK->Prop:=λx H Q=>∃i,x=.int i/\Q (g i) H
section
variable{X:Cx}{a b c:Expr}{ta tb tc:TE}{pos:Pos}
def xR(ha:PE X a ta)(J:PE X b tb){Z:AE}{s:Shared}{Y:St}{H:Hp}{R:V->V->Hp->Prop}(I:Inv X Z Y H s)(h:ta Y H λx H1=>tb Y H1 λy H2=>R x y H2) {Q:AA}{f:Value->Value->Sem Value}(hf:∀v u s2 x y H2,Inv X Z Y H2 s2->RelV x v->RelV y u->R x y H2->wpAny (model X.prog X.w) X.A (f v u) Q X.xe s2):wpAny (model X.prog X.w) X.A (eval a X.env) (λv s₁=>wpAny (model X.prog X.w) X.A (eval b X.env) (λu s₂=>wpAny (model X.prog X.w) X.A (f v u) Q X.xe s₂) X.xe s₁) X.xe s:=by refine Bb (ha Z s Y H _ I h) λv s1 ⟨x,H1,I1,r1,q1⟩=>?_;refine Bb (J Z s1 Y H1 _ I1 q1) λu s2 ⟨y,H2,I2,r2,q2⟩=>?_;exact hf v u s2 x y H2 I2 r1 r2 q2
def GG{op:Operator}{r:R2}(ho:cG X (binaryOp op) r)(ha:PE X a ta)(J:PE X b tb):PE X (.BinOp a op b pos) (BF r ta tb):=by intro Z s Y H Q I h;exact wpAny_BinOp (xR ha J I h λv u s2 x y H2 I2 rx ry q=>ho Z s2 Y H2 x y v u Q I2 rx ry q)
def VA{op:UnaryOp}{r:V->Hp->VK->Prop}(ho:Td X (unaryOp op) r)(ha:PE X a ta):PE X (.UnaryOp op a pos) (tUn r ta):=by intro Z s Y H Q I h;exact UnaryOp_ (Bb (ha Z s Y H _ I h) λv s1 ⟨x,H1,I1,r1,q1⟩=>ho Z s1 Y H1 x v Q I1 r1 q1)
def BR{f:Value->Value->Sem Value}{C:Int->Int->Prop}{g:Int->Int->Int}(rule:∀(i j:Int) (t u:Tok) (s:Shared) (Q:AA) (E:AA),C i j->Q (.int (g i j) s.toks) {s with toks:=s.toks+1}->wpAny (model X.prog X.w) X.A (f (.int i t) (.int j u)) Q E s):cG X f (rI C λi j=>.int (g i j)):=by intro Z s Y H x y v u Q I rx ry h;obtain⟨i,j,rfl,rfl,hc,q⟩:=h;obtain⟨t,rfl⟩:=rx;obtain⟨t',rfl⟩:=ry;exact rule i j t t' s _ _ hc ⟨.int (g i j),H,I.tok _,⟨_,rfl⟩,q⟩
def Um{f:Value->Value->Sem Value}{g:Int->Int->Int}(rule:∀(i j:Int) (t u:Tok) (s:Shared) (Q:AA) (E:AA),Q (.int (g i j) s.toks) {s with toks:=s.toks+1}->wpAny (model X.prog X.w) X.A (f (.int i t) (.int j u)) Q E s):cG X f (tY λi j=>.int (g i j)):=by intro Z s Y H x y v u Q I rx ry h;obtain⟨i,j,rfl,rfl,q⟩:=h;obtain⟨t,rfl⟩:=rx;obtain⟨t',rfl⟩:=ry;exact rule i j t t' s _ _ ⟨.int (g i j),H,I.tok _,⟨_,rfl⟩,q⟩
def qZ{f:Value->Value->Sem Value}{g:Int->Int->Bool}(rule:∀(i j:Int) (t u:Tok) (s:Shared) (Q:AA) (E:AA),Q (.bool (g i j)) s->wpAny (model X.prog X.w) X.A (f (.int i t) (.int j u)) Q E s):cG X f (tY λi j=>.bl (g i j)):=by intro Z s Y H x y v u Q I rx ry h;obtain⟨i,j,rfl,rfl,q⟩:=h;obtain⟨t,rfl⟩:=rx;obtain⟨t',rfl⟩:=ry;exact rule i j t t' s _ _ ⟨.bl (g i j),H,I,rfl,q⟩
def NU(i j:Int):Prop:=0<=j/\j<=1000000/\i.natAbs<2^64
def yZ(i j:Int):Prop:=(-(2^64)<i/\i<2^64)\/(-(2^64)<j/\j<2^64)
def yZ.ok{i j:Int}(h:yZ i j):IntMulOk i j:=by rcases h with⟨h1,h2⟩|⟨h1,h2⟩;exact .of_left (intBits_le_64 h1 h2);exact .of_right (intBits_le_64 h1 h2)
def Xa:cG X (binaryOp .Add) (tY λi j=>.int (i+j)):=Um λ_ _ _ _ _ _ _ q=>add_int q
def WZ:cG X (binaryOp .Mult) (rI yZ λi j=>.int (i*j)):=BR λ_ _ _ _ _ _ _ hc q=>mul_int q hc.ok
def WY:cG X (binaryOp .Mod) (rI (λ_ j=>0<j) λi j=>.int (i%j)):=BR λi j _ _ _ _ _ hc q=>by have h1:(0:Int)<j:=hc;exact mod_int' () (by rw[Int.fmod_eq_emod_of_nonneg i ()];exact q)
def WX:cG X (binaryOp .Pow) (rI NU λi j=>.int (i^j.toNat)):=BR λ_ _ _ _ _ _ _ hc q=>pow_int_small hc.1 hc.2.1 hc.2.2 q
def AZ{f:Value->Sem Value}{g:Int->Int}(rule:∀(i:Int) (t:Tok) (s:Shared) (Q:AA) (E:AA),Q (.int (g i) s.toks) {s with toks:=s.toks+1}->wpAny (model X.prog X.w) X.A (f (.int i t)) Q E s):Td X f (rU λi=>.int (g i)):=by intro Z s Y H x v Q I rx h;obtain⟨i,rfl,q⟩:=h;obtain⟨t,rfl⟩:=rx;exact rule i t s _ _ ⟨.int (g i),H,I.tok _,⟨_,rfl⟩,q⟩
def WW:Td X (unaryOp .USub) (rU λi=>.int (-i)):=AZ λ_ _ _ _ _ q=>neg_int q
end
noncomputable def EZ:V->V->Bool
 |.aK,.aK=>true|.aK,.int _=>true|.int _,.aK=>true|.aK,.bl _=>true|.bl _,.aK=>true|.aK,.str _=>true|.str _,.aK=>true
 |.int _,.int _=>true|.bl _,.bl _=>true|.str _,.str _=>true|.iW _,.iW _=>true
 |.int _,.str _=>true|.str _,.int _=>true|.bl _,.str _=>true|.str _,.bl _=>true
 |_,_=>false
def rEq:R2:=λx y H Q=>EZ x y=true/\Q (.bl (decide (x=y))) H
def rNe:R2:=λx y H Q=>EZ x y=true/\Q (.bl (!decide (x=y))) H
def Jm{i j:Int}:decide (V.int i=V.int j)=(i ==j):=by rw[U6];simp
def HQ{i j:Bool}:decide (V.bl i=V.bl j)=(i ==j):=by rw[U6];simp
def Jl{i j:Str}:decide (V.str i=V.str j)=(i ==j):=by rw[U6];simp
def Jk{i j:Array UInt8}:decide (V.iW i=V.iW j)=(i.toList ==j.toList):=by rw[U6];cases i;cases j;simp
section
variable{X:Cx}{a b c:Expr}{ta tb tc:TE}{pos:Pos}
def Dp{Z:AE}{Y:St}{H:Hp}{s:Shared}{Q:VK}{k k':Bool}(I:Inv X Z Y H s)(q:Q (.bl k) H)(e:k=k'):EP X Z Y Q (.bool k') s:=by subst e;exact⟨.bl k,H,I,rfl,q⟩
def Vz:cG X (compareOp .Eq) rEq:=by
 intro Z s Y H x y v u Q I rx ry h;obtain⟨hs,q⟩:=h;cases x with
 |aK=>cases rx;cases y with|aK=>cases ry;exact PySem.EqNone.eq_none_none (Dp I q (by simp))|bl j=>cases ry;exact PySem.EqNone.eq_none_bool (Dp I q (by simp))|int j=>obtain⟨t',rfl⟩:=ry;exact PySem.EqNone.eq_none_int (Dp I q (by simp))|str j=>obtain⟨t',rfl⟩:=ry;exact PySem.EqNone.eq_none_str (Dp I q (by simp))|_=>exact absurd (show false=true from hs) B5
 |bl i=>cases rx;cases y with|aK=>cases ry;exact PySem.EqNone.eq_bool_none (Dp I q (by simp))|bl j=>cases ry;exact eq_bool (Dp I q HQ)|str j=>obtain⟨t',rfl⟩:=ry;exact PySem.EqMixed.eq_bool_str (Dp I q (by simp))|_=>exact absurd (show false=true from hs) B5
 |int i=>obtain⟨t,rfl⟩:=rx;cases y with|aK=>cases ry;exact PySem.EqNone.eq_int_none (Dp I q (by simp))|int j=>obtain⟨t',rfl⟩:=ry;exact eq_int (Dp I q Jm)|str j=>obtain⟨t',rfl⟩:=ry;exact PySem.EqMixed.eq_int_str (Dp I q (by simp))|_=>exact absurd (show false=true from hs) B5
 |str i=>obtain⟨t,rfl⟩:=rx;cases y with|aK=>cases ry;exact PySem.EqNone.eq_str_none (Dp I q (by simp))|bl j=>cases ry;exact PySem.EqMixed.eq_str_bool (Dp I q (by simp))|int j=>obtain⟨t',rfl⟩:=ry;exact PySem.EqMixed.eq_str_int (Dp I q (by simp))|str j=>obtain⟨t',rfl⟩:=ry;exact eq_str (Dp I q Jl)|_=>exact absurd (show false=true from hs) B5
 |iW i=>obtain⟨t,rfl⟩:=rx;cases y with|iW j=>obtain⟨t',rfl⟩:=ry;exact eq_bytes (Dp I q Jk)|_=>exact absurd (show false=true from hs) B5
 |_=>cases y<;>exact absurd (show false=true from hs) B5
def Vy:cG X (compareOp .NotEq) rNe:=by
 intro Z s Y H x y v u Q I rx ry h;obtain⟨hs,q⟩:=h;cases x with
 |aK=>cases rx;cases y with|aK=>cases ry;exact PySem.EqNone.ne_none_none (Dp I q (by simp))|bl j=>cases ry;exact PySem.EqNone.ne_none_bool (Dp I q (by simp))|int j=>obtain⟨t',rfl⟩:=ry;exact PySem.EqNone.ne_none_int (Dp I q (by simp))|str j=>obtain⟨t',rfl⟩:=ry;exact PySem.EqNone.ne_none_str (Dp I q (by simp))|_=>exact absurd (show false=true from hs) B5
 |bl i=>cases rx;cases y with|aK=>cases ry;exact PySem.EqNone.ne_bool_none (Dp I q (by simp))|bl j=>cases ry;exact ne_bool (Dp I q (K5 not HQ))|str j=>obtain⟨t',rfl⟩:=ry;exact PySem.EqMixed.ne_bool_str (Dp I q (by simp))|_=>exact absurd (show false=true from hs) B5
 |int i=>obtain⟨t,rfl⟩:=rx;cases y with|aK=>cases ry;exact PySem.EqNone.ne_int_none (Dp I q (by simp))|int j=>obtain⟨t',rfl⟩:=ry;exact ne_int (Dp I q (K5 not Jm))|str j=>obtain⟨t',rfl⟩:=ry;exact PySem.EqMixed.ne_int_str (Dp I q (by simp))|_=>exact absurd (show false=true from hs) B5
 |str i=>obtain⟨t,rfl⟩:=rx;cases y with|aK=>cases ry;exact PySem.EqNone.ne_str_none (Dp I q (by simp))|bl j=>cases ry;exact PySem.EqMixed.ne_str_bool (Dp I q (by simp))|int j=>obtain⟨t',rfl⟩:=ry;exact PySem.EqMixed.ne_str_int (Dp I q (by simp))|str j=>obtain⟨t',rfl⟩:=ry;exact ne_str (Dp I q (K5 not Jl))|_=>exact absurd (show false=true from hs) B5
 |iW i=>obtain⟨t,rfl⟩:=rx;cases y with|iW j=>obtain⟨t',rfl⟩:=ry;exact ne_bytes (Dp I q (K5 not Jk))|_=>exact absurd (show false=true from hs) B5
 |_=>cases y<;>exact absurd (show false=true from hs) B5
def Vx:cG X (compareOp .Lt) (tY λi j=>.bl (decide (i<j))):=qZ λ_ _ _ _ _ _ _ q=>lt_int q
def Vw:cG X (compareOp .LtE) (tY λi j=>.bl (decide (i<=j))):=qZ λ_ _ _ _ _ _ _ q=>le_int q
def Vv:cG X (compareOp .Gt) (tY λi j=>.bl (decide (j<i))):=qZ λ_ _ _ _ _ _ _ q=>gt_int q
def Vu:cG X (compareOp .GtE) (tY λi j=>.bl (decide (j<=i))):=qZ λ_ _ _ _ _ _ _ q=>ge_int q
def acj:cG X (compareOp .In) (λx y H Q=>∃i j,x=.str i/\y=.str j/\Q (.bl (!(Builtin.Str.occurrences j i 0 j.length 1).isEmpty)) H):=by intro Z s Y H x y v u Q I rx ry h;obtain⟨i,j,rfl,rfl,q⟩:=h;obtain⟨t,rfl⟩:=rx;obtain⟨t',rfl⟩:=ry;exact in_str (Dp I q rfl)
def WV:cG X (compareOp .Is) (λx y H Q=>y=.aK/\Q (.bl (decide (x=.aK))) H):=by
 intro Z s Y H x y v u Q I rx ry h;obtain⟨rfl,q⟩:=h;cases ry;refine is_none_gen (Dp I q ?_);cases x<;>first
  |(cases rx;rfl)
  |(obtain⟨t,rfl⟩:=rx;rfl)
def cG.or{f:Value->Value->Sem Value}{r r':R2}(h:cG X f r)(h':cG X f r'):cG X f (λx y H Q=>r x y H Q\/r' x y H Q):=by intro Z s Y H x y v u Q I rx ry q;rcases q with q|q;exact h Z s Y H x y v u Q I rx ry q;exact h' Z s Y H x y v u Q I rx ry q
def Cq(b:Expr){op:CmpOp}(h:op≠.In:=by decide)(h2:op≠.NotIn:=by decide):behindInMarks op b=false:=by
 have S:(op ==CmpOp.In)=false:=by cases op<;>first|rfl|exact absurd rfl h
 have e2:(op ==CmpOp.NotIn)=false:=by cases op<;>first|rfl|exact absurd rfl h2
 cases b<;>simp[behindInMarks,S,e2]
def Zv{op:CmpOp}{r:R2}(ho:cG X (compareOp op) r)(ha:PE X a ta)(J:PE X b tb)(hm:behindInMarks op b=false):PE X (.Compare a [op] [b] pos) (BF r ta tb):=by intro Z s Y H Q I h;exact wpAny_Compare1 (xR ha J I h λv u s2 x y H2 I2 rx ry q=>ho Z s2 Y H2 x y v u Q I2 rx ry q) hm
def Vt(t:TE):TT:=λ Y H Q=>t Y H λx O=>∃k,x=.bl k/\Q k O
def Zu{op:CmpOp}{r:R2}(ho:cG X (compareOp op) r)(ha:PE X a ta)(J:PE X b tb)(hm:behindInMarks op b=false):PT X (.Compare a [op] [b] pos) (Vt (BF r ta tb)):=by intro Z s Y H Q I h;refine wpAny_isTrue_Compare1 (Bb (ha Z s Y H _ I h) λv s1 ⟨x,H1,I1,r1,q1⟩=>Bb (J Z s1 Y H1 _ I1 q1) λu s2 ⟨y,H2,I2,r2,q2⟩=>Bb (ho Z s2 Y H2 x y v u _ I2 r1 r2 q2) λc s3 ⟨z,H3,I3,r3,k,e,q3⟩=>?_) hm;subst e;cases r3;exact R9 ⟨H3,I3,q3⟩
def HP(r r':R2)(ta tb tc:TE):TE:=λ Y H Q=>ta Y H λx H1=>tb Y H1 λy H2=>r x y H2 λz H3=>∃k,z=.bl k/\(if k=true then tc Y H3 λw' H4=>r' y w' H4 Q else Q (.bl false) H3)
noncomputable def aaT{op vi:CmpOp}{r r':R2}(ho:cG X (compareOp op) r)(gE:cG X (compareOp vi) r')(ha:PE X a ta)(J:PE X b tb)(hc:PE X c tc)(hm:lastMarks [op,vi] [b,c]=false:=by with_unfolding_all rfl):PE X (.Compare a [op,vi] [b,c] pos) (HP r r' ta tb tc):=by intro Z s Y H Q I h;refine Compare_chain (Bb (ha Z s Y H _ I h) λv s1 ⟨x,H1,I1,r1,q1⟩=>chain_link (Bb (J Z s1 Y H1 _ I1 q1) λu s2 ⟨y,H2,I2,r2,q2⟩=>Bb (ho Z s2 Y H2 x y v u _ I2 r1 r2 q2) λd s3 ⟨z,H3,I3,r3,k,e,q3⟩=>?_)) hm;subst e;cases r3;refine R9 ?_;cases k with|false=>exact ite_ff ⟨.bl false,H3,I3,rfl,q3⟩|true=>exact ite_tt (chain_last (Bb (hc Z s3 Y H3 _ I3 q3) λw' s4 ⟨z',H4,I4,r4,q4⟩=>gE Z s4 Y H4 y z' u w' Q I4 r2 r4 q4))
def yW(K:Frag)(x:V)(H:Hp)(k:Bool):Prop:=match x with|.aK=>k=false|.bl b=>k=b|.int i=>k=(i !=0)|.str y=>y.length<=sizeLine/\k=((y.length:Int) !=0)|.iW y=>y.size<=sizeLine/\k=((y.size:Int) !=0)|.ref p=>(∃xs,bQ K H p xs/\k= !xs.isEmpty)\/(∃xs,cQ K H p xs/\k= !xs.isEmpty)\/∃kvs,H p=some (.dK kvs)/\k= !kvs.isEmpty|_=>False
def adh{κ:Type}{kvs:List (κ×V)}{vs:List (κ×Value)}(r:KV kvs vs):(!vs.isEmpty)= !kvs.isEmpty:=by cases r<;>rfl
def Mw{xs:List V}{its:List Value}(r:Vals xs its):(!its.toArray.isEmpty)= !xs.isEmpty:=by cases r<;>simp
def jQ:(sizeLine:Nat)<2^63:=by rw[D9];decide
def WU:afX X (λx H Q=>∃k,yW X.K x H k/\Q k H):=by intro Z s Y H x v Q I rx h;obtain⟨k,e,q⟩:=h;have hl:=jQ;have hs:sizeLine=16777216:=D9;cases x with|aK=>cases rx;have e':k=false:=e;subst e';exact truthy_none ⟨H,I,q⟩|bl b=>cases rx;have e':k=b:=e;subst e';exact R9 ⟨H,I,q⟩|int i=>obtain⟨t,rfl⟩:=rx;have e':k=(i !=0):=e;subst e';exact PySem.P.truthy_int ⟨H,I,q⟩|str y=>obtain⟨t,rfl⟩:=rx;obtain⟨hy,e'⟩:y.length<=sizeLine/\k=((y.length:Int) !=0):=e;subst e';exact PySem.P.truthy_str () ⟨H,I.tok _,q⟩|iW y=>obtain⟨t,rfl⟩:=rx;obtain⟨hy,e'⟩:y.size<=sizeLine/\k=((y.size:Int) !=0):=e;subst e';exact truthy_bytes () ⟨H,I.tok _,q⟩|ref p=>cases rx;have e':(∃xs,bQ X.K H p xs/\k= !xs.isEmpty)\/(∃xs,cQ X.K H p xs/\k= !xs.isEmpty)\/∃kvs,H p=some (.dK kvs)/\k= !kvs.isEmpty:=e;rcases e' with⟨xs,hx,e'⟩|⟨xs,hx,e'⟩|⟨kvs,hx,e'⟩;subst e';obtain⟨its,r,pl,hz⟩:=I.list hx;have zk:=r.length;exact wpAny_truthy_list pl.isList (by simp only[C1];lia) ⟨H,I.tok _,by rw[Mw r];exact q⟩;subst e';obtain⟨its,r,pl,hz⟩:=I.tuple hx;have zk:=r.length;exact truthy_tuple pl (by simp only[C1];lia) ⟨H,I.tok _,by rw[Mw r];exact q⟩;subst e';obtain⟨hz,hS,vs,r,m⟩:kvs.length<=sizeLine/\(p ==sysModules)=false/\∃vs,KV kvs vs/\s.heap.DictOf (Gm X.prog X.w) p vs:=I.aJ p _ hx;have zk:kvs.length=vs.length:=V0 r;exact wpAny_truthy_dict hS m () ⟨H,I.tok _,by rw[adh r];exact q⟩|_=>exact(show False from e).elim
def aaS(ha:PE X a ta)(he:∀whole,isTrue a X.env whole=(do let v<-whole;standAt a.pos;holding [v] (truthy v))):PT X a (λ Y H Q=>ta Y H λx O=>∃k,yW X.K x O k/\Q k O):=by intro Z s Y H Q I h;exact isTrue_plain (Bb (ha Z s Y H _ I h) λv s1 ⟨x,H1,I1,r1,q1⟩=>WU Z s1 Y H1 x v Q I1 r1 q1) (he _)
def adg:cG X (binaryOp .Add) (λx y H Q=>∃i j,x=.str i/\y=.str j/\i.length+j.length<=sizeLine/\Q (.str (i++j)) H):=by intro Z s Y H x y v u Q I rx ry h;obtain⟨i,j,rfl,rfl,hz,q⟩:=h;obtain⟨t,rfl⟩:=rx;obtain⟨t',rfl⟩:=ry;exact add_str (λt' tk=>⟨.str (i++j),H,I.tok _,⟨_,rfl⟩,q⟩) hz
def lO{x:V}{us:List Value}(r:Vals [x] us):∃u,us=[u]/\RelV x u:=by cases r with|cons r1 r2=>cases r2;exact⟨_,rfl,r1⟩
def GF{x y:V}{us:List Value}(r:Vals [x,y] us):∃u w',us=[u,w']/\RelV x u/\RelV y w':=by cases r with|cons r1 r2=>cases r2 with|cons r3 r4=>cases r4;exact⟨_,_,rfl,r1,r3⟩
def aci(hc:X.calm=true):bL X (.builtin "max") (λxs H Q=>∃i j,xs=[.int i,.int j]/\Q (.int (if j>i then j else i)) H):=by intro Z s Y H xs us Q I r h;obtain⟨i,j,rfl,q⟩:=h;obtain⟨u,w',rfl,⟨t,rfl⟩,⟨t',rfl⟩⟩:=GF r;refine max_two_ints (I.ok.hd hc) λh' tk k=>⟨_,H,I.kept k,?_,q⟩;by_cases hj:j>i;rw[if_pos hj,if_pos hj];exact⟨_,rfl⟩;rw[if_neg hj,if_neg hj];exact⟨_,rfl⟩
def ach(hc:X.calm=true):bL X (.builtin "min") (λxs H Q=>∃i j,xs=[.int i,.int j]/\Q (.int (if j<i then j else i)) H):=by intro Z s Y H xs us Q I r h;obtain⟨i,j,rfl,q⟩:=h;obtain⟨u,w',rfl,⟨t,rfl⟩,⟨t',rfl⟩⟩:=GF r;refine min_two_ints (I.ok.hd hc) λh' tk k=>⟨_,H,I.kept k,?_,q⟩;by_cases hj:j<i;rw[if_pos hj,if_pos hj];exact⟨_,rfl⟩;rw[if_neg hj,if_neg hj];exact⟨_,rfl⟩
def LX:bL X (.type "int") (λxs H Q=>(∃i,xs=[.int i]/\Q (.int i) H)\/∃k,xs=[.bl k]/\Q (.int (if k then 1 else 0)) H):=by intro Z s Y H xs us Q I r h;rcases h with⟨i,rfl,q⟩|⟨k,rfl,q⟩;obtain⟨u,rfl,t,rfl⟩:=lO r;exact call_int_int ⟨.int i,H,I,⟨_,rfl⟩,q⟩;obtain⟨u,rfl,r1⟩:=lO r;cases r1;exact call_int_bool ⟨.int (if k then 1 else 0),H,I.tok _,⟨_,rfl⟩,q⟩
end
structure jY(h:Heap)(x dx C:Addr)(mA:AB):Prop where
 obj:h.get? x=some (instObj C dx)
 ns:h.Ns1 dx mA
 ne:dx≠x
def acg{h:Heap}{dx:Addr}{mA:AB}(n:h.Ns1 dx mA):∃od,h.get? dx=some od/\∀name,lookIn name od=some (mA name):=by
 obtain⟨o,es,ep,ho,hd,hk,_,hm⟩:=n;refine⟨o,ho,λname=>?_⟩;have e:=hm name;unfold nsFind findBy at e;rw[<-Array.find?_toList]at e;unfold lookIn;rw[hd];dsimp only;split;rename_i y q;rw[q]at e;exact K5 some e;rename_i q;rw[q]at e;have a:es.toList.any (·.refKey)=false:=by rw[List.any_eq_false];intro y hy;obtain⟨z,t,je⟩:=hk y (Array.mem_toList_iff.mp hy);simp[DictEntry.refKey,je]
 have a':¬es.toList.any (·.refKey)=true:=by rw[a];exact B5
 rw[if_neg a'];exact K5 some e
def jY.look{h:Heap}{x dx C:Addr}{mA:AB}(I:jY h x dx C mA):∃od,InstAt h x (instObj C dx) C (some od)/\∀name,lookIn name od=some (mA name):=
 let⟨od,ho,hl⟩:=acg I.ns
 ⟨od,⟨I.obj,rfl,rfl,ho⟩,hl⟩
section
variable{prog:Program}{w:World}{A:Around}{E:AA}{s:Shared}{K:Frag}{x dx C f:Addr}{mA:AB}{name:Str}{v:Value}
def Zt{expr:Bool}{Q:AA}(X:K.In s.heap)(I:jY s.heap x dx C mA)(hg:plainGet K C name=true)(hh:hasDictIn K C=true)(ha:findIn K (.ref C) name=some none) (hv:mA name=some v) (QO:handedIn v=true) (h:Q v {s with toks:=s.toks+1}):wpAny (model prog w) A (getAttr (.ref x) name expr) Q E s:=by obtain⟨od,hb,hl⟩:=I.look;exact get_value X hb (SG hg).1 (findObj_own hh ha rfl (by rw[hl,hv])) QO h
def aaR{pl:Sem Bool}{Q:Value×List Value->Shared->Prop}(X:K.In s.heap)(I:jY s.heap x dx C mA)(hg:plainGet K C name=true)(hf:findIn K (.ref C) name=some (some (.ref f))) (ht:isFn K (.ref f)=true) (hv:mA name=none) (h:Q (.ref f,[.ref x]) s):wpAny (model prog w) A (getMethod (.ref x) name pl) Q E s:=by obtain⟨od,hb,hl⟩:=I.look;exact method_fn X hb (SG hg).1 (SG hg).2 hf (N4.mp ht) (by show(lookIn name od).map (·.isSome)=some false;rw[hl,hv];rfl) h
def Zs{ns:List Str}{Q:Unit->Shared->Prop}(X:K.In s.heap)(I:jY s.heap x dx C mA)(hs:findIn K (.ref C) "__setattr__"=some (some (.builtin "object.__setattr__"))) (hp:plainOver K C=true) (ht:takerIn K C name=some none) (hh:hasDictIn K C=true)(hw:PySem.Within mA ns) (hsz:ns.length<=sizeLine)(h:∀h',jY h' x dx C (λy=>if y=name then some v else mA y)->Heap.SameBut dx s.heap h'->Q .unit {s with heap:=h',toks:=s.toks+2}):wpAny (model prog w) A (setAttr (.ref x) name v) Q E s:=by obtain⟨od,hb,hl⟩:=I.look;refine set_plain X hb hs (osa_open (s:={s with toks:=s.toks+1}) (r:=none) X hb hp ht λb=>?_);obtain⟨cd,hc,zX⟩:=any_some hh;have hx:s.heap.get? x=some ⟨.ref C,some dx,.plain,#[]⟩:=I.obj;refine A8 (E9 (A8 (A8 (wpAny_loadPart hx (A8 (PQ (s:={s with toks:=s.toks+1}) (SH X hc) ?_))))));rw[zX];refine E9 (a:=some dx) (A8 (E9 (A8 ?_)));refine wpAny_nsSet1 (s:={s with toks:=s.toks+1}) I.ns λh' Pf dO=>?_;obtain⟨oD,esD,epD,hoD,hdD,hcD⟩:=Pf.count (PySem.Within.cons name v hw);refine A8 (wpAny_lookBehind hoD (by rw[hdD];exact pastItsLine_dict (D2 hcD (by rw[B7];lia))) ?_);exact E9 (h _ ⟨(dO.2 _ (Ne.symm I.ne)).trans I.obj,Pf,I.ne⟩ dO)
def aaQ{R:Result->Shared->Prop}{vs:List Value}{kw:List (Str×Value)}(X:K.In s.heap)(hm:makesIn K C=true)(hi:findIn K (.ref C) "__init__"=some (some (.ref f))) (hf:typeIn K (.ref f)=some (.type "function"))(h:codeAny (model prog w) (A.under (.builtin "type.__call__" ⟨.ref C::vs,kw⟩)) (.call (.ref f) ⟨.ref (s.heap.objs.size+1)::vs,kw⟩) (InitBack (s.heap.objs.size+1) R) {s with heap:=(s.heap.push emptyDict).push (instObj C s.heap.objs.size)}):codeAny (model prog w) A (.call (.ref C) ⟨vs,kw⟩) R s:=by obtain⟨hh,g,d,t,os⟩:=s;exact make_core (makes_of X hm) (ZF7 X hi) (λself=>bind_fn X self hf) (.inl rfl) h
end
noncomputable def Cu(f:Str)(v:V):List (Str×V)->List (Str×V)|[]=>[(f,v)]|(g,x)::r=>if g=f then(g,v)::r else(g,x)::Cu f v r
theorem Nb(f g:Str)(v:V):∀fs:List (Str×V),(Cu f v fs).lookup g=if g=f then some v else fs.lookup g|[]=>by show List.lookup g [(f,v)]=_;by_cases h:g=f;have J:(g ==f)=true:=N4.mpr h;simp only[List.lookup,J,if_pos h];have J:(g ==f)=false:=P3.mpr h;simp only[List.lookup,J,if_neg h]|(k,x)::r=>by have ih:=Nb f g v r;rw[show Cu f v ((k,x)::r)=(if k=f then(k,v)::r else(k,x)::Cu f v r) from rfl];by_cases hk:k=f;rw[if_pos hk];by_cases h:g=k;have J:(g ==k)=true:=N4.mpr h;simp only[List.lookup,J,if_pos (h.trans hk)];have J:(g ==k)=false:=P3.mpr h;simp only[List.lookup,J,if_neg (λe:g=f=>h (e.trans hk.symm))];rw[if_neg hk];by_cases h:g=k;have J:(g ==k)=true:=N4.mpr h;simp only[List.lookup,J,if_neg (λe:g=f=>hk (h.symm.trans e))];have J:(g ==k)=false:=P3.mpr h;simp only[List.lookup,J];exact ih
theorem yC(f:Str)(v:V):∀fs:List (Str×V),f∈(Cu f v fs).map (·.1)/\∀g,g∈fs.map (·.1)->g∈(Cu f v fs).map (·.1)|[]=>⟨by simp[Cu],λg h=>by simp at h⟩|(k,x)::r=>by obtain⟨i1,i2⟩:=yC f v r;rw[show Cu f v ((k,x)::r)=(if k=f then(k,v)::r else(k,x)::Cu f v r) from rfl];by_cases hk:k=f;rw[if_pos hk];subst hk;exact⟨by simp,λg h=>by simpa using h⟩;rw[if_neg hk];refine⟨?_,λg h=>?_⟩;rw[B6];exact D5 _ i1;rw[B6]at h⊢;rcases C5.mp h with e|e;exact C5.mpr (.inl e);exact D5 _ (i2 g e)
theorem Na(f:Str)(v:V):∀fs:List (Str×V),(Cu f v fs).length<=fs.length+1|[]=>by simp[Cu]|(k,x)::r=>by have ih:=Na f v r;rw[show Cu f v ((k,x)::r)=(if k=f then(k,v)::r else(k,x)::Cu f v r) from rfl];by_cases hk:k=f;rw[if_pos hk,B7,B7];lia;rw[if_neg hk,B7,B7];lia
def bN.some_of{v:V}{o:Option Value}(r:bN (some v) o):∃u,o=some u/\RelV v u:=by cases o with|none=>exact(show False from r).elim|some u=>exact⟨u,rfl,r⟩
def bN.none_of{o:Option Value}(r:bN none o):o=none:=by cases o with|none=>rfl|some u=>exact(show False from r).elim
def ace{v:V}{u:Value}(r:RelV v u):handedIn u=true:=by cases v with|aK=>cases(show u=Value.none from r);rfl|bl b=>cases(show u=Value.bool b from r);rfl|int i=>obtain⟨t,e⟩:=(show∃t,u=Value.int i t from r);cases e;rfl|str x=>obtain⟨t,e⟩:=(show∃t,u=Value.str x t from r);cases e;rfl|iW b=>obtain⟨t,e⟩:=(show∃t,u=Value.bytes b t from r);cases e;rfl|nj b=>obtain⟨t,e⟩:=(show∃t,u=Value.float b t from r);cases e;rfl|ref a=>cases(show u=Value.ref a from r);rfl|ty n=>cases(show u=Value.type n from r);rfl
section
variable{P:Program}{w:World}{H O:Hp}{h h':Heap}{a C dx:Addr}{fs fs':List (Str×V)}
def xP(aJ:cF P w H h)(e:H a=some (.ins C dx fs)):∃mA,jY h a dx C mA/\(∀f,bN (fs.lookup f) (mA f))/\PySem.Within mA (fs.map (·.1))/\fs.length<=1000/\H dx=some (.own a):=by obtain⟨d,z,ne,ob,mA,n,r,q⟩:=(show aW P w H h a (.ins C dx fs) from aJ a _ e);exact⟨mA,⟨ob,n,ne⟩,r,q,z,d⟩
end
structure eP(K:Frag)(C:Addr):Prop where
 pg:plainGet K C Str.empty=true
 hd:hasDictIn K C=true
 po:plainOver K C=true
 sa:findIn K (.ref C) "__setattr__"=some (some (.builtin "object.__setattr__"))
def eP.get{K:Frag}{C:Addr}(c:eP K C)(f:Str):plainGet K C f=true:=c.pg
def aM(K:Frag)(C:Addr)(f:Str):Prop:=findIn K (.ref C) f=some none
def aM.NW{K:Frag}{C:Addr}{f:Str}(n:aM K C f):takerIn K C f=some none:=by unfold takerIn;rw[show findIn K (.ref C) f=some none from n];rfl
structure Con(K:Frag)(C:Addr)(f:Str)(v:V)(u:Value):Prop where
 at_:findIn K (.ref C) f=some (some u)
 rel:RelV v u
 get:specialIn K u "__get__"=some none
 cp:PySem.W.copiedNames.contains f=false
structure Meth(K:Frag)(C:Addr)(m:Str)(f:Addr):Prop where
 at_:findIn K (.ref C) m=some (some (.ref f))
 fn:isFn K (.ref f)=true
 kp:keepIn K (.ref f)=true
section
variable{X:Cx}{Z:AE}{Y:St}{H:Hp}{s:Shared}{a C dx:Addr}{fs:List (Str×V)}{f:Str}{v:V}{A:Around}{E:AA}
def adf{b:Bool}{Q:AA}(I:Inv X Z Y H s)(e:H a=some (.ins C dx fs))(c:eP X.K C)(n:aM X.K C f)(l:fs.lookup f=some v)(h:∀u s',Inv X Z Y H s'->RelV v u->Q u s'):wpAny (model X.prog X.w) A (getAttr (.ref a) f b) Q E s:=by obtain⟨mA,H',r,_,_,_⟩:=xP I.aJ e;obtain⟨u,hu,ru⟩:=bN.some_of (v:=v) (o:=mA f) (by rw[<-l];exact r f);exact Zt I.bU H' (c.get f) c.hd n hu (ace ru) (h u _ (I.tok _) ru)
def Mv{m:Str}{g:Addr}{pl:Sem Bool}{Q:Value×List Value->Shared->Prop}(I:Inv X Z Y H s)(e:H a=some (.ins C dx fs))(c:eP X.K C)(k:Meth X.K C m g)(l:fs.lookup m=none)(h:Q (.ref g,[.ref a]) s):wpAny (model X.prog X.w) A (getMethod (.ref a) m pl) Q E s:=by obtain⟨mA,H',r,_,_,_⟩:=xP I.aJ e;have hn:mA m=none:=bN.none_of (by rw[<-l];exact r m);exact aaR I.bU H' (c.get m) k.at_ k.fn hn h
def ade{y:V}{u:Value}{Q:Unit->Shared->Prop}(I:Inv X Z Y H s)(e:H a=some (.ins C dx fs))(c:eP X.K C)(n:aM X.K C f)(hl:fs.length<1000)(ry:RelV y u)(h:∀s',Inv X Z Y (upd H a (.ins C dx (Cu f y fs))) s'->Q .unit s'):wpAny (model X.prog X.w) A (setAttr (.ref a) f u) Q E s:=by
 obtain⟨mA,H',r,wi,_,ho⟩:=xP I.aJ e;have hz:(fs.map (·.1)).length<=sizeLine:=by rw[A4,D9];lia
 refine Zs I.bU H' c.sa c.po n.NW c.hd wi hz λh' O' sb=>h _ ?_;have hd:∃o,h'.get? dx=some o:=let⟨o,_,_,e',_⟩:=O'.ns;⟨o,e'⟩;refine I.write (x:=a) (e:=dx) (by rw[e];exact True.intro) (.inr ho) (λb q J z=>(sb.2 b J).trans z) hd ?_;refine⟨by rw[Ax H'.ne];exact ho,?_,H'.ne,O'.obj,_,O'.ns,λg=>?_,λg hg=>?_⟩;have:=Na f y fs;lia;show bN ((Cu f y fs).lookup g) (if g=f then some u else mA g);rw[Nb];by_cases q:g=f;rw[if_pos q,if_pos q];exact ry;rw[if_neg q,if_neg q];exact r g;by_cases q:g=f;rw[q];exact(yC f y fs).1;refine(yC f y fs).2 g (wi g λz=>hg ?_);show(if g=f then some u else mA g)=none;rw[if_neg q];exact z
def Inv.made(I:Inv X Z Y H s):Inv X Z Y (upd (upd H s.heap.objs.size (.own (s.heap.objs.size+1))) (s.heap.objs.size+1) (.ins C s.heap.objs.size [])) {s with heap:=(s.heap.push emptyDict).push (instObj C s.heap.objs.size)}:=by
 have S:(s.heap.push emptyDict).get? s.heap.objs.size=some emptyDict:=D0 s.heap rfl;have e2:((s.heap.push emptyDict).push (instObj C s.heap.objs.size)).get? (s.heap.objs.size+1)=some (instObj C s.heap.objs.size):=by have:=D0 (s.heap.push emptyDict) (o:=instObj C s.heap.objs.size) rfl;rwa[N7]at this
 have e3:(s.heap.push emptyDict).Ns s.heap.objs.size (λ_=>none):=⟨emptyDict,#[],_,S,rfl,(λe he=>absurd he (by simp)),λ_=>rfl⟩;have I1:=I.laid (a:=s.heap.objs.size) (o:=.own (s.heap.objs.size+1)) (h':=s.heap.push emptyDict) (t':=s.toks) (λb u q=>A5 _ q) (A9 _) ⟨_,S⟩;refine I1.laid (a:=s.heap.objs.size+1) (o:=.ins C s.heap.objs.size []) (t':=s.toks) (λb u q=>A5 _ q) (V7 (N7 _ _)) ?_;have ne:s.heap.objs.size≠s.heap.objs.size+1:=D6 (Q8 _);refine⟨by rw[Ax ne,Bo],L1 _,ne,e2,λ_=>none,(Heap.Ns1.of_empty e3).at λo q=>A5 _ q,λ_=>True.intro,λy hy=>absurd rfl hy⟩
def Zr{prog:Program}{w:World}{env:Env}{e:Expr}{f:Str}{pos:Pos}{s:Shared}{Q:AA}(J:attributeBase e f env (eval e env)=eval e env)(h:wpAny (model prog w) A (eval e env) (λo s₁=>wpAny (model prog w) A (getAttr o f true) Q E s₁) E s):wpAny (model prog w) A (eval (.Attribute e f pos) env) Q E s:=Attribute_any_ h (by rw[arm_eval_Attribute,J])
end
def TV(K:Frag)(ta:TE)(f:Str):TE:=λ Y H Q=>ta Y H λx H1=>∃a C dx fs v,x=.ref a/\H1 a=some (.ins C dx fs)/\eP K C/\aM K C f/\fs.lookup f=some v/\Q v H1
def Ud(K:Frag)(ta tv:TE)(f:Str):TS:=λD Y H=>tv Y H λy H1=>ta Y H1 λx H2=>∃a C dx fs,x=.ref a/\H2 a=some (.ins C dx fs)/\eP K C/\aM K C f/\fs.length<1000/\D.nx Y (upd H2 a (.ins C dx (Cu f y fs)))
section
variable{X:Cx}{o e value:Expr}{f:Str}{pos pos' zh:Pos}{ta tv:TE}
def WT(he:PE X e ta)(J:attributeBase e f X.env (eval e X.env)=eval e X.env):PE X (.Attribute e f pos) (TV X.K ta f):=by intro Z s Y H Q I h;refine Zr J (Bb (he Z s Y H _ I h) λu s1 ⟨x,H1,I1,rx,a,C,dx,fs,v,ex,ea,c,n,l,q⟩=>?_);subst ex;obtain rfl:u=Value.ref a:=rx;exact adf I1 ea c n l λu' s2 I2 ru=>⟨v,H1,I2,ru,q⟩
def HN(ha:PE X o ta)(hv:PE X value tv)(hs:swapsWith value (some (.Attribute o f pos')) pos.line X.env=pure false):PS X (.Assign [.Attribute o f pos'] value pos) (Ud X.K ta tv f):=by intro Z s Y H D I h;refine X6 (Bb (hv Z s Y H _ I h) λu s1 ⟨y,H1,I1,ry,q⟩=>Bb (ha Z s1 Y H1 _ I1 q) λov s2 ⟨x,H2,I2,rx,a,C,dx,fs,ex,ea,c,n,l,q2⟩=>?_) hs;subst ex;obtain rfl:ov=Value.ref a:=rx;exact ade I2 ea c n l ry λs3 I3=>⟨Y,_,I3,q2⟩
end
section
variable{X:Cx}{Z:AE}{Y:St}{H:Hp}{s:Shared}{A:Around}{E:AA}{Q:AA}{c:Value}{b:Bool}
inductive dI(K:Frag)(H:Hp):V->Value->Prop where
 |aK:dI K H .aK (.type "NoneType")
 |bl (x:Bool):dI K H (.bl x) (.type "bool")
 |int (i:Int):dI K H (.int i) (.type "int")
 |str (x:Str):dI K H (.str x) (.type "str")
 |nj (x:UInt64):dI K H (.nj x) (.type "float")
 |lst {a:Addr}{xs:List V}(e:H a=some (.lst xs)):dI K H (.ref a) (.type "list")
 |cY {a:Addr}{o:Obj}{xs:List V}(e:H a=some (.cY o (.lst xs))):dI K H (.ref a) (.type "list")
 |tup {a:Addr}{xs:List V}(e:H a=some (.tup xs)):dI K H (.ref a) (.type "tuple")
 |dK {a:Addr}{kvs:List (Am×V)}(e:H a=some (.dK kvs)):dI K H (.ref a) (.type "dict")
 |dT {a:Addr}{kvs:List (List Am×V)}(e:H a=some (.dT kvs)):dI K H (.ref a) (.type "dict")
 |ins {a C dx:Addr}{fs:List (Str×V)}(e:H a=some (.ins C dx fs)) (cl:eP K C) (ha:findIn K (.ref C) "__class__"=some (some (.builtin "object.__class__"))) (hn:specialIn K (.builtin "object.__class__") "__get__"=some (some (.builtin "getset_descriptor.__get__"))) (htk:takesIn K (.builtin "object.__class__")=some true) (hm:mroIn K C (.type "object")=some true):dI K H (.ref a) (.ref C)
end
structure dY(k:Nat)(A:Around):Prop where
 hd:A.handled=none
 dp:A.depth+3*k+5<recursionLimit
 un:A.units+16*k+200<cLine
theorem dY.in1{k:Nat}{A:Around}(r:dY (k+1) A):dY k A.in1:=⟨r.hd,by have:=r.dp;show A.depth+3*k+5<_;lia,by have:=r.un;show A.units+1+16*k+200<_;lia⟩
def adb{A:Around}{C:Addr}{us:List Value}{kw:List (Str×Value)}:(A.under (.builtin "type.__call__" ⟨.ref C::us,kw⟩)).depth=A.depth+1:=by first|rfl|simp[Around.under,Code.weight,Code.isCreation,Code.isGuard,Code.isCaller,Code.frames,Code.isFrame,guardIds]
def ada{A:Around}{C:Addr}{us:List Value}{kw:List (Str×Value)}:(A.under (.builtin "type.__call__" ⟨.ref C::us,kw⟩)).units=A.units+1:=by first|rfl|simp[Around.under,Code.cUnits,Code.frames,Code.isFrame]
theorem dY.depth{k:Nat}{A:Around}(r:dY k A):A.depth<recursionLimit:=by have:=r.dp;lia
def vN:TA:=λ_ H Q=>Q [] H
def GB(ta:TE)(tr:TA):TA:=λ Y H Q=>ta Y H λx H1=>tr Y H1 λxs H2=>Q (x::xs) H2
section
variable{X:Cx}{e:Expr}{es:List Expr}{te:TE}{t:TA}{pos:Pos}
def jq:PA X [] vN:=λ_ _ _ _ H Q I h=>P9 ⟨[],H,I,.nil,h⟩
def Hi(ha:PE X e te)(hr:PA X es t)(hs:starEach (e::es) X.env=(false,eval e X.env)::starEach es X.env:=by rfl):PA X (e::es) (GB te t):=by intro pos Z s Y H Q I h;rw[hs];show wpAny _ _ (spliced ((false,eval e X.env)::backTo pos (starEach es X.env))) _ _ s;refine M3 (Bb (ha Z s Y H _ I h) λu s1 ⟨x,H1,I1,r1,q1⟩=>?_);exact Bb (hr pos Z s1 Y H1 _ I1 q1) λus s2 ⟨xs,H2,I2,r2,q2⟩=>⟨x::xs,H2,I2,.cons r1 r2,q2⟩
def TK(t:TA):TE:=λ Y H Q=>t Y H λxs H1=>xs.length<=sizeLine/\∀p,H1 p=none->Q (.ref p) (upd H1 p (.tup xs))
def TQ(t:TA):TE:=λ Y H Q=>t Y H λxs H1=>xs.length<=sizeLine/\∀p,H1 p=none->Q (.ref p) (upd H1 p (.lst xs))
def HM{x1}(h:PA X es t):PE X (.Tuple es x1 pos) (TK t):=by intro Z s Y H Q I hq;refine wpAny_Tuple_spliced (Bb (h pos Z s Y H _ I hq) λus s1 ⟨xs,H1,I1,r,z,q⟩=>⟨by rw[<-r.length];exact z,?_⟩);have hf:H1 s1.heap.objs.size=none:=I1.aJ.fresh (A9 _);refine⟨.ref s1.heap.objs.size,upd H1 s1.heap.objs.size (.tup xs),I1.laid (t':=s1.toks) (λb u e=>A5 _ e) (A9 _) ?_,rfl,q _ hf⟩;exact⟨z,us,r,⟨_,D0 _ rfl,rfl,_,rfl⟩⟩
def wW(h:PA X es t):PE X (.List es pos) (TQ t):=by intro Z s Y H Q I hq;refine wpAny_List_spliced (Bb (h pos Z s Y H _ I hq) λus s1 ⟨xs,H1,I1,r,z,q⟩=>⟨by rw[<-r.length];exact z,?_⟩);have hf:H1 s1.heap.objs.size=none:=I1.aJ.fresh (A9 _);refine⟨.ref s1.heap.objs.size,upd H1 s1.heap.objs.size (.lst xs),I1.laid (t':=s1.toks) (λb u e=>A5 _ e) (A9 _) ?_,rfl,q _ hf⟩;exact⟨z,us,0,r,D0 _ rfl⟩
end
abbrev Sp:=List V->Hp->VK->XK->Prop
abbrev qe:=List Env->Hp->Shared->XK->Value->Shared->Prop
structure dE(P:Program)(w:World)(K:Frag)(mg:AB)(base:Heap)(A:Around)(outer:List Env)(s:Shared)(H:Hp):Prop where
 frames:A.frames=some outer
 mod:Mod K mg base
 bs:∀b o,base.get? b=some o->s.heap.get? b=some o/\H b=none
 iX:base.objs.size<=s.heap.objs.size
 bV:s.heap.FunFrames base outer
 lr:∀b∈fV outer,H b=none
 aJ:cF P w H s.heap
 bare:AllBare s.gens
 tb:pq K H
def CE(outer:List Env)(P:Program)(w:World)(H:Hp)(s:Shared)(Q:VK)(u:Value)(s':Shared):Prop:=∃v O,s'.os=s.os/\AllBare s'.gens/\Un (fV outer) [] H O s.heap s'.heap/\cF P w O s'.heap/\RelV v u/\Q v O
def CR(CX:qe)(outer:List Env)(P:Program)(w:World)(H:Hp)(s:Shared)(Q:VK)(E:XK)(r:Result)(s':Shared):Prop:=match r with|.ok (.ret u)=>CE outer P w H s Q u s'|.ok _=>False|.error e=>CX outer H s E e s'
structure pz(P:Program)(w:World)(K:Frag)(mg:AB)(base:Heap)(CX:qe)(k:Nat)(f:Addr)(fd:FuncData)(ps:List Str)(sp:Sp):Prop where
 len:∀vs H Q E,sp vs H Q E->vs.length=ps.length
 run:∀(A:Around) (outer:List Env) (s:Shared) (H:Hp) (args:Args) (us:List Value) (vs:List V) (Q:VK) (E:XK),dY k A->dE P w K mg base A outer s H->BindsTo s fd args (ps.zip us)->Vals vs us->sp vs H Q E->codeAny (model P w) A (.call (.ref f) args) (CR CX outer P w H s Q E) s
def dE.make{P:Program}{w:World}{K:Frag}{mg:AB}{base:Heap}{A:Around}{outer:List Env}{s:Shared}{H:Hp}(e:dE P w K mg base A outer s H)(C:Addr)(us:List Value)(kw:List (Str×Value)):dE P w K mg base (A.under (.builtin "type.__call__" ⟨.ref C::us,kw⟩)) outer s H:=⟨by first|exact e.frames|(simpa[Around.under,Code.envs,Code.isFrame,pushEnvs] using e.frames),e.mod,e.bs,e.iX,e.bV,e.lr,e.aJ,e.bare,e.tb⟩
theorem dE.in1{P:Program}{w:World}{K:Frag}{mg:AB}{base:Heap}{A:Around}{outer:List Env}{s:Shared}{H:Hp}(e:dE P w K mg base A outer s H):dE P w K mg base A.in1 outer s H:=⟨e.frames,e.mod,e.bs,e.iX,e.bV,e.lr,e.aJ,e.bare,e.tb⟩
section
variable{X:Cx}{Z:AE}{Y:St}{H:Hp}{s s':Shared}
def Inv.tab(I:Inv X Z Y H s):pq X.K H:=λc P e=>let⟨_,z⟩:=I.ok.tb c P e;let⟨_,y⟩:=I.base.cA _ _ z;⟨_,y⟩
def Inv.vX(I:Inv X Z Y H s):dE X.prog X.w X.K X.mg X.base X.A X.stack s H:=⟨I.ok.frames,I.ok.mod,I.bs,D2 I.ok.iX I.sz,I.stack,I.dF,I.aJ,I.bare,I.tab⟩
def Inv.after{Q:VK}{u:Value}(I:Inv X Z Y H s)(h:CE X.stack X.prog X.w H s Q u s'):EP X Z Y Q u s':=by obtain⟨v,O,os,bare,un,aJ,r,q⟩:=h;obtain⟨hh,g,d,t,qr⟩:=s';obtain rfl:qr=s.os:=os;exact⟨v,O,I.call (h':=hh) (g':=g) (d':=d) (t':=t) (ch:=[]) un aJ bare (λb z=>absurd z (by simp)),r,q⟩
end
def Binds(K:Frag)(fd:FuncData)(ps:List Str)(M:List Value):Prop:=∀(s:Shared) (us:List Value),K.In s.heap->(us++M).length=ps.length->BindsTo s fd ⟨us,[]⟩ (ps.zip (us++M))
def Binds.all{K:Frag}{fd:FuncData}{ps:List Str}(h:∀us:List Value,us.length=ps.length->bindArgs fd ⟨us,[]⟩=pure (ps.zip us)):Binds K fd ps []:=λs us _ hl=>by rw[G6]at hl⊢;exact .of_eq (h us hl)
section
variable{X:Cx}{CX:qe}{k:Nat}{f C:Addr}{fd:FuncData}{ps:List Str}{sp:Sp}{dvs:List V}{M:List Value}{E:XK}{x m:Str}{p pos zg:Pos}{e o:Expr}{es:List Expr}{ta:TE}{t:TA}
structure Mk(K:Frag)(C f:Addr):Prop where
 makes:makesIn K C=true
 init:findIn K (.ref C) "__init__"=some (some (.ref f))
 fn:isFn K (.ref f)=true
 kp:keepIn K (.ref C)=true
end
section
variable{X:Cx}{CX:qe}{k:Nat}{f C:Addr}{fd:FuncData}{ps L:List Str}{sp:Sp}{E:XK}{x m:Str}{p pos zg ji:Pos}{e o:Expr}{es:List Expr}{kws:List Keyword}{te ta:TE}{t tk:TA}{nm:Option Str}
structure agb(K:Frag)(fd:FuncData)(ps L:List Str)(g:List Value->List Value->List Value)(gV:List V->List V->List V):Prop where
 to:∀(s:Shared) (us ws:List Value),K.In s.heap->(g us ws).length=ps.length->BindsTo s fd ⟨us,L.zip ws⟩ (ps.zip (g us ws))
 rel:∀{vs:List V}{us:List Value}{zs:List V}{ws:List Value},Vals vs us->Vals zs ws->Vals (gV vs zs) (g us ws)
variable{g:List Value->List Value->List Value}{gV:List V->List V->List V}
end
structure aS(N P:List Str)(sc:Scope):Prop where
 kind:sc.kind=.function
 co:sc.isCoroutine=false
 gen:sc.isGenerator=false
 nd:N.Nodup
 pre:N.take P.length=P
 par:∀x∈P,sc.names.lookup x=some .local\/sc.names.lookup x=some .cell
 zv:∀y∈sc.names,y.2≠.free
theorem LW{kindOf:Str->Option NameKind}{x:Str}:∀{binds:List (Str×Value)}{m:AB},(∀v,(x,v)∉binds)->bindL kindOf binds m x=m x
 |[],_,_=>rfl|(n,v)::r,m,h=>by
  unfold bindL;rw[LW λw hw=>h w (D5 _ hw)];split;have:x≠n:=by rintro rfl;exact h v K7
  simp[this];rfl
theorem LV{kindOf:Str->Option NameKind}{x:Str}:∀{binds:List (Str×Value)}{m:AB},(∀v,(x,v)∉binds)->bindC kindOf binds m x=m x
 |[],_,_=>rfl|(n,v)::r,m,h=>by
  unfold bindC;rw[LV λw hw=>h w (D5 _ hw)];split;rfl;have:x≠n:=by rintro rfl;exact h v K7
  simp[this]
theorem LU{kindOf:Str->Option NameKind}{x:Str}{v:Value}:∀{P:List Str}{vs:List Value}{i:Nat}{m:AB},P.Nodup->P[i]?=some x->vs[i]?=some v->kindOf x=some .local->bindL kindOf (P.zip vs) m x=some v|[],_,_,_,_,h,_,_=>by simp at h|_::_,[],_,_,_,_,h,_=>by simp at h|p::P,w::vs,0,m,nd,h1,h2,hk=>by simp at h1 h2;subst h1;subst h2;show bindL kindOf ((p,w)::P.zip vs) m p=_;unfold bindL;rw[LW λv hv=>(K1.mp nd).1 (SM hv).1,if_pos hk];simp|p::P,w::vs,i+1,m,nd,h1,h2,hk=>by show bindL kindOf ((p,w)::P.zip vs) m x=_;unfold bindL;exact LU (i:=i) (K1.mp nd).2 (by simpa using h1) (by simpa using h2) hk
theorem LS{kindOf:Str->Option NameKind}{x:Str}{v:Value}:∀{P:List Str}{vs:List Value}{i:Nat}{m:AB},P.Nodup->P[i]?=some x->vs[i]?=some v->kindOf x≠some .local->bindC kindOf (P.zip vs) m x=some v|[],_,_,_,_,h,_,_=>by simp at h|_::_,[],_,_,_,_,h,_=>by simp at h|p::P,w::vs,0,m,nd,h1,h2,hk=>by simp at h1 h2;subst h1;subst h2;show bindC kindOf ((p,w)::P.zip vs) m p=_;unfold bindC;rw[LV λv hv=>(K1.mp nd).1 (SM hv).1,if_neg hk];simp|p::P,w::vs,i+1,m,nd,h1,h2,hk=>by show bindC kindOf ((p,w)::P.zip vs) m x=_;unfold bindC;exact LS (i:=i) (K1.mp nd).2 (by simpa using h1) (by simpa using h2) hk
noncomputable def Gg(N:List Str)(vs:List V):St:=vs.map some++List.replicate (N.length-vs.length) none
noncomputable def Gc(CX:qe)(P:Program)(w:World)(K:Frag)(mg:AB)(base:Heap)(N:List Str)(qual:Str)(scope:Scope)(f:Addr)(cd:Value)(A:Around)(outer:List Env)(s:Shared)(H:Hp)(E:XK):Cx where
 prog:=P
 w:=w
 K:=K
 mg:=mg
 base:=base
 A:=A.deeper (envOfC qual scope s.heap.objs.size f cd)
 N:=N
 s₀:=s
 H₀:=H
 env:=envOfC qual scope s.heap.objs.size f cd
 outer:=outer
 stack:=envOfC qual scope s.heap.objs.size f cd::outer
 ex:=[]
 calm:=true
 fn:=λ_=>true
 pn:=[]
 xe:=λe s'=>wpAny (model P w) (A.deeper (envOfC qual scope s.heap.objs.size f cd)) (leaving (envOfC qual scope s.heap.objs.size f cd) e) (λ_ qo=>CX outer H s E e qo) (λe' qo=>CX outer H s E e' qo) s'
def Kr{sc:Scope}{n:Nat}{x:Str}(h:sc.names.lookup x=some .cell):∃c,(cellsFrom n sc.names []).lookup x=some c:=by have q:=ZE8 sc.names n [] (.inl h);exact S8.mp q
def acd{CX:qe}{P:Program}{w:World}{K:Frag}{mg:AB}{base:Heap}{N ps:List Str}{qual:Str}{scope:Scope}{f:Addr}{cd:Value}{A:Around}{outer:List Env}{s s1:Shared}{H:Hp}{E:XK}{us:List Value}{vs:List V}(e1:aS N ps scope) (hd:A.handled=none) (e0:dE P w K mg base A outer s H) (hl:vs.length=ps.length) (r:Vals vs us)(x:InCallC s s.heap.objs.size (bindL (envOfC qual scope s.heap.objs.size f cd).kindOf (ps.zip us) λ_=>none) (cellsFrom (s.heap.objs.size+1) scope.names []) (bindC (envOfC qual scope s.heap.objs.size f cd).kindOf (ps.zip us) λ_=>none) s1):Inv (Gc CX P w K mg base N qual scope f cd A outer s H E) [] (Gg N vs) H s1:=by
 have bM:ps.length<=N.length:=by have:=K5 List.length e1.pre;rw[Q9]at this;lia
 obtain⟨h1,tk,rfl,hk⟩:=x.done;have CD:∀b:Addr,b∉(Gc CX P w K mg base N qual scope f cd A outer s H E).ex:=λb z=>absurd (show b∈([]:List Addr) from z) (by simp);refine⟨⟨e0.mod,e1.kind,rfl,rfl,A9 _,λy z c h1 h2=>?_,λy hy=>?_,λy c _ h=>?_,λ_=>hd,Y8 e0.frames,.inr ⟨rfl,rfl⟩,λb z=>absurd z (CD b),e0.bs,e0.iX,λb _ _=>CD b,λb z=>absurd z (CD b),e0.bV,e0.lr,e0.tb⟩,
  rfl,e0.bare,Un.kept hk,⟨_,x.toInCall.ns,λi y v h1 h2 h3=>?_⟩,λy c h=>⟨_,x.cell y c h⟩,e0.aJ.fresh (A9 _),λy c h=>?_,λp hp=>absurd (show p∈([]:AE) from hp) (by simp),e0.aJ.kept hk,?_⟩
 exact name_of_addr x.apart (L6 h1) (L6 h2);have hy:scope.names.lookup y=some .cell\/scope.names.lookup y=some .free:=hy;rcases hy with hy|hy;exact Kr hy;exact absurd rfl (e1.zv _ (L6 hy));exact P8 (x.above y c (L6 h));have hi:i<vs.length:=by unfold Gg at h2;by_cases hi:i<vs.length;exact hi;rw[D7 (by simpa using hi)]at h2;rw[J6]at h2;split at h2<;>cases h2
 have ha:vs[i]?=some v:=by unfold Gg at h2;rw[C7 (by simpa using hi),B3]at h2;cases e:vs[i]? with|none=>rw[e]at h2;cases h2|some a=>rw[e]at h2;cases h2;rfl
 obtain⟨u,hu,rv⟩:=r.get ha;have hp:ps[i]?=some y:=by rw[<-e1.pre,List.getElem?_take_of_lt ()];exact h1
 have ndP:ps.Nodup:=by rw[<-e1.pre];exact e1.nd.sublist (List.take_sublist _ _)
 refine⟨u,rv,?_⟩;rcases e1.par y (M0 hp)with k|k;exact .inl ⟨k,LU ndP hp hu k⟩;obtain⟨c,e⟩:=Kr (n:=s.heap.objs.size+1) k;refine .inr ⟨.inl k,c,e,?_⟩;have q:=x.cell y c e;rw[LS ndP hp hu (by show scope.names.lookup y≠_;rw[k];decide)]at q;exact q;exact e0.aJ.fresh (P8 (x.above y c (L6 h)));unfold Gg;show _=N.length;rw[A6,A4,M6];lia
section
variable{X:Cx}{x:Str}{p pos:Pos}{e:Expr}{es:List Expr}{t:TA}{id T:String}{r:List V->Hp->VK->Prop}
def Ql(r:List V->Hp->VK->Prop)(t:TA):TE:=λ Y H Q=>t Y H λvs H1=>r vs H1 Q
def sS(hc:bL X (.builtin id) r)(hg:Gl X x)(hm:X.mg x=none)(hv:bootBuiltins x=some (.builtin id))(ha:PA X (e::es) t)(hn:x≠"__name__" :=by decide)(cL:AG x:=by decide)(he:starEach (e::es) X.env=(false,eval e X.env)::starEach es X.env:=by rfl) (bM:(backTo pos (starEach es X.env)).any (·.1)=false:=by rfl):PE X (.Call (.Name x p) (e::es) [] pos) (Ql r t):=by intro Z s Y H Q I h;refine N1 (mR I hg hm hv ?_ hn cL);exact Y3 (Bb (ha pos Z s Y H _ I h) λus s1 ⟨vs,H1,I1,r1,q1⟩=>hc Z s1 Y H1 vs us Q I1 r1 q1) he bM
def acb(hc:bL X (.type T) r)(hg:Gl X x)(hm:X.mg x=none)(hv:bootBuiltins x=some (.type T))(ha:PA X (e::es) t)(hn:x≠"__name__" :=by decide)(cL:AG x:=by decide)(he:starEach (e::es) X.env=(false,eval e X.env)::starEach es X.env:=by rfl) (bM:(backTo pos (starEach es X.env)).any (·.1)=false:=by rfl):PE X (.Call (.Name x p) (e::es) [] pos) (Ql r t):=by intro Z s Y H Q I h;refine N1 (mR I hg hm hv ?_ hn cL);exact L4 (Bb (ha pos Z s Y H _ I h) λus s1 ⟨vs,H1,I1,r1,q1⟩=>hc Z s1 Y H1 vs us Q I1 r1 q1) he bM
end
end L2
namespace HT
open PySem PyProof.Rows
section
open PySem.SeqAt
open PySem.AutoSeq1 (wpAny_loadPart')
open PySem.MeetsSeq PySem.MeetsSeq2 PySem.MeetsSeq3
end
section
variable{prog:Program}{w:World}{A:Around}{E:AA}{s:Shared}
noncomputable def cJ(n d:Nat):Option Int->Nat|none=>d|some v=>if v<0 then(v+(n:Int)).toNat else min v.toNat n
def pE(n d:Nat)(hd:d<=n)(o:Option Int):cJ n d o<=n:=by cases o with|none=>exact hd|some v=>show(if v<0 then(v+(n:Int)).toNat else min v.toNat n)<=n;by_cases hv:v<0;rw[if_pos hv];lia;rw[if_neg hv];exact Nat.min_le_right _ _
end
end HT
namespace L2
open PySem PySem.Spec PyProof.Rows
abbrev TO:=St->Hp->(Option Int->Hp->Prop)->Prop
def PO(X:Cx)(e:Option Expr)(t:TO):Prop:=∀(Z:AE) (s:Shared) (Y:St) (H:Hp) (Q:Option Int->Hp->Prop),Inv X Z Y H s->t Y H Q->wpAny (model X.prog X.w) X.A (evalPart e X.env) (λu s'=>∃o O,Inv X Z Y O s'/\IsPart u o/\Q o O) X.xe s
def Zq:TO:=λ_ H Q=>Q none H
def Vs(t:TE):TO:=λ Y H Q=>t Y H λx H1=>∃i,x=.int i/\Q (some i) H1
section
variable{X:Cx}{e:Expr}{te:TE}{lo hi:Option Expr}{tl th:TO}{pos p2:Pos}
def Zp:PO X none Zq:=by intro Z s Y H Q I h;rw[evalPart_none];exact E9 ⟨none,H,I,.none,h⟩
def Zo(h:PE X e te):PO X (some e) (Vs te):=by intro Z s Y H Q I hw;rw[evalPart_some];refine Bb (h Z s Y H _ I hw) λu s1 ⟨x,H1,I1,r1,q1⟩=>?_;obtain⟨i,rfl,q⟩:=q1;obtain⟨t,rfl⟩:=r1;exact⟨some i,H1,I1,.int i t,q⟩
def uF(X:Cx)(r:V->Option Int->Option Int->Hp->VK->Prop):Prop:=∀(Z:AE) (s:Shared) (Y:St) (H:Hp) (x:V) (v vl vu:Value) (lo hi:Option Int) (sl:Addr) (Q:VK),Inv X Z Y H s->RelV x v->s.heap.IsSliceOf sl vl vu .none->IsPart vl lo->IsPart vu hi->r x lo hi H Q->∃T id,typeLookup (.type T) "__getitem__"=pure (some (.builtin id))/\s.TypeIs v T/\wpAny (model X.prog X.w) X.A (getItem v (.ref sl)) (EP X Z Y Q) X.xe s
def uF.or{r r':V->Option Int->Option Int->Hp->VK->Prop}(h:uF X r)(h':uF X r'):uF X (λx lo hi H Q=>r x lo hi H Q\/r' x lo hi H Q):=by intro Z s Y H x v vl vu lo hi sl Q I rx hs pl pu q;rcases q with q|q;exact h Z s Y H x v vl vu lo hi sl Q I rx hs pl pu q;exact h' Z s Y H x v vl vu lo hi sl Q I rx hs pl pu q
def tSl(r:V->Option Int->Option Int->Hp->VK->Prop)(te:TE)(tl th:TO):TE:=λ Y H Q=>te Y H λx H1=>tl Y H1 λl H2=>th Y H2 λu H3=>r x l u H3 Q
def aaP{r:V->Option Int->Option Int->Hp->VK->Prop}(hr:uF X r)(he:PE X e te)(hl:PO X lo tl)(hu:PO X hi th):PE X (.Subscript e (.Slice lo hi none p2) pos) (tSl r te tl th):=by intro Z s Y H Q I h;refine Subscript_ (Bb (he Z s Y H _ I h) λv s1 ⟨x,H1,I1,r1,q1⟩=>?_);refine wpAny_Slice (Bb (hl Z s1 Y H1 _ I1 q1) λvl s2 ⟨l,H2,I2,pl,q2⟩=>Bb (hu Z s2 Y H2 _ I2 q2) λvu s3 ⟨u,H3,I3,pu,q3⟩=>?_);rw[evalPart_none];refine E9 ?_;have I4:Inv X Z Y H3 {s3 with heap:=s3.heap.push {cls:=.type "slice",data:=.fields #[vl,vu,.none]}}:=I3.kept (t':=s3.toks) λb ob q=>A5 _ q;obtain⟨T,id,hT,ht,hg⟩:=hr Z {s3 with heap:=s3.heap.push {cls:=.type "slice",data:=.fields #[vl,vu,.none]}} Y H3 x v vl vu l u s3.heap.objs.size Q I4 r1 (Heap.IsSliceOf.new ..) pl pu q3;show wpAny (model X.prog X.w) X.A (subscriptTail e (.Slice lo hi none p2) v (.ref s3.heap.objs.size)) (EP X Z Y Q) X.xe {s3 with heap:=s3.heap.push {cls:=.type "slice",data:=.fields #[vl,vu,.none]}};exact tail_any (ops:=[.ref s3.heap.objs.size,v]) ht hT hg (by with_unfolding_all rfl)
def lF(xs:List V)(lo hi:Option Int):List V:=(xs.drop (HT.cJ xs.length 0 lo)).take (HT.cJ xs.length xs.length hi-HT.cJ xs.length 0 lo)
def adN(xs:List V)(lo hi:Option Int):(lF xs lo hi).length<=xs.length:=by unfold lF;rw[Q9,List.length_drop];lia
end
noncomputable def iS(n:Nat)(i:Int):Option Nat:=if 0<=i then(if i<n then some i.toNat else none) else if -(n:Int)<=i then some (i+n).toNat else none
def dP{α:Type}(xs:List α)(i:Int):Option α:=(iS xs.length i).bind λj=>xs[j]?
def Jj{n:Nat}{i:Int}{j:Nat}(h:iS n i=some j):seqIndex? i n=some j/\j<n/\ -(n:Int)<=i/\i<n:=by unfold iS at h;by_cases h0:0<=i;rw[if_pos h0]at h;by_cases h1:i<n;rw[if_pos h1]at h;have e:i.toNat=j:=L9 h;exact⟨by rw[seqIndex_of h0 h1,e],by lia,by lia,h1⟩;rw[if_neg h1]at h;cases h;rw[if_neg h0]at h;by_cases h1:-(n:Int)<=i;rw[if_pos h1]at h;have e:(i+n).toNat=j:=L9 h;exact⟨by rw[Sw () h1,e],by lia,h1,by lia⟩;rw[if_neg h1]at h;cases h
def xO{α:Type}{xs:List α}{i:Int}{v:α}(h:dP xs i=some v):∃j,seqIndex? i xs.length=some j/\xs[j]?=some v/\j<xs.length/\ -(xs.length:Int)<=i/\i<xs.length:=by unfold dP at h;cases e:iS xs.length i with|none=>rw[e]at h;cases h|some j=>rw[e]at h;obtain⟨h1,h2,h3,h4⟩:=Jj e;exact⟨j,h1,h,h2,h3,h4⟩
def Ji(b:Expr):Prop:=∀o i,subscripted b false o i=operate [o,i] (getItem o i)
def qR(X:Cx)(r:R2):Prop:=∀(value slice:Expr) (Z:AE) (s:Shared) (Y:St) (H:Hp) (x y:V) (v u:Value) (Q:VK),Inv X Z Y H s->RelV x v->RelV y u->r x y H Q->subscripted slice false v u=operate [v,u] (getItem v u)->wpAny (model X.prog X.w) X.A (subscriptTail value slice v u) (EP X Z Y Q) X.xe s
def vL(X:Cx)(id:String)(r:V->List V->Hp->VK->Prop):Prop:=∀(Z:AE) (s:Shared) (Y:St) (H:Hp) (x:V) (xs:List V) (v:Value) (us:List Value) (Q:VK),Inv X Z Y H s->RelV x v->Vals xs us->r x xs H Q->wpAny (model X.prog X.w) X.A (call (.builtin id) (v::us)) (EP X Z Y Q) X.xe s
section
variable{X:Cx}{a b:Expr}{ta tb:TE}{pos:Pos}
def qR.or{r r':R2}(h:qR X r)(h':qR X r'):qR X (λx y H Q=>r x y H Q\/r' x y H Q):=by intro value slice Z s Y H x y v u Q I rx ry q hs;rcases q with q|q;exact h value slice Z s Y H x y v u Q I rx ry q hs;exact h' value slice Z s Y H x y v u Q I rx ry q hs
def vL.or{id:String}{r r':V->List V->Hp->VK->Prop}(h:vL X id r)(h':vL X id r'):vL X id (λx xs H Q=>r x xs H Q\/r' x xs H Q):=by intro Z s Y H x xs v us Q I rx rs q;rcases q with q|q;exact h Z s Y H x xs v us Q I rx rs q;exact h' Z s Y H x xs v us Q I rx rs q
def Vr{r:R2}(hr:qR X r)(ha:PE X a ta)(J:PE X b tb)(hs:Ji b):PE X (.Subscript a b pos) (BF r ta tb):=by intro Z s Y H Q I h;exact Subscript_ (xR ha J I h λv u s2 x y H2 I2 rx ry q=>hr a b Z s2 Y H2 x y v u Q I2 rx ry q (hs _ _))
def Ul(K:Frag):R2:=λx y H Q=>∃p xs i v,x=.ref p/\y=.int i/\bQ K H p xs/\dP xs i=some v/\Q v H
def Uj(K:Frag):R2:=λx y H Q=>∃p xs i v,x=.ref p/\y=.int i/\cQ K H p xs/\dP xs i=some v/\Q v H
def Uk:R2:=λx y H Q=>∃z i c,x=.str z/\y=.int i/\z.length<=sizeLine/\dP z.cps.toList i=some c/\Q (.str ⟨#[c]⟩) H
def Zn:qR X (Ul X.K):=by
 intro value slice Z s Y H x y v u Q I rx ry h hs;obtain⟨p,xs,i,z,rfl,rfl,hq,he,q⟩:=h;cases rx;obtain⟨t,rfl⟩:=ry;obtain⟨its,r,pl,hz⟩:=I.list hq;obtain⟨j,h1,h2,h3,h4,h5⟩:=xO he;obtain⟨w,ew,iZ⟩:=r.get h2;have hl:=r.length;have hn:=jQ;have fin:EP X Z Y Q w s:=⟨z,H,I,iZ,q⟩;by_cases h0:0<=i;have hj:i.toNat=j:=by rw[seqIndex_of h0 h5]at h1;exact L9 h1
 exact item_listR pl.isList h0 () (by rw[hj];simpa using ew) fin hs;have hj:(i+(its.toArray.size:Int)).toNat=j:=by rw[Sw () h4]at h1;rw[C1,<-hl];exact L9 h1
 exact ZD2 (x:=w) pl.isList.typeIs slot_list_getitem.lookup (wpAny_getItem_list_neg (Q:=λr s'=>r=w/\EP X Z Y Q r s') pl.isList () (by rw[C1]<;>lia) () (by rw[hj];simpa using ew) ⟨rfl,fin⟩) hs
def WS:qR X (Uj X.K):=by intro value slice Z s Y H x y v u Q I rx ry h hs;obtain⟨p,xs,i,z,rfl,rfl,hq,he,q⟩:=h;cases rx;obtain⟨t,rfl⟩:=ry;obtain⟨its,r,pl,hz⟩:=I.tuple hq;obtain⟨j,h1,h2,h3,h4,h5⟩:=xO he;obtain⟨w,ew,iZ⟩:=r.get h2;have hl:=r.length;have hn:=jQ;have fin:EP X Z Y Q w s:=⟨z,H,I,iZ,q⟩;exact ZD2 (x:=w) pl.typeIs slot_tuple_getitem.lookup (getItem_tuple (j:=j) (Q:=λr s'=>r=w/\EP X Z Y Q r s') pl () () (by rw[C1,<-hl];exact h1) (by simpa using ew) ⟨rfl,fin⟩) hs
def WR:qR X Uk:=by
 intro value slice Z s Y H x y v u Q I rx ry h hs;obtain⟨z,i,c,rfl,rfl,hz,he,q⟩:=h;obtain⟨t,rfl⟩:=rx;obtain⟨t',rfl⟩:=ry;obtain⟨j,h1,h2,h3,h4,h5⟩:=xO he;have hl:z.cps.toList.length=z.length:=by simp[Str.length]
 rw[hl]at h1 h4 h5;have hn:=jQ;exact tail_any (typeIs_str s z t) slot_str_getitem.lookup (getItem_str (c:=c) (by have S:decide (i < -(2^63:Int))=false:=L8 ();have e2:decide (i≥2^63)=false:=L8 ();rw[S,e2,Bool.or_false]) (by rw[h1];simpa using h2) ⟨.str ⟨#[c]⟩,H,I.tok _,⟨_,rfl⟩,q⟩) hs
def acZ(its:List Value)(n j:Nat)(u:Value):Obj.mapSeq (·.setIfInBounds j u) {cls:=.type "list",data:=.seq its.toArray n}={cls:=.type "list",data:=.seq (its.set j u).toArray n}:=by simp[Obj.mapSeq]
theorem Inv.lst{Z:AE}{Y:St}{H:Hp}{s:Shared}{p:Addr}{xs:List V}(I:Inv X Z Y H s)(h:H p=some (.lst xs)):∃(its:List Value) (n:Nat),Vals xs its/\s.heap.get? p=some {cls:=.type "list",data:=.seq its.toArray n}/\xs.length<=sizeLine:=by obtain⟨z,its,n,r,e⟩:=I.aJ p _ h;exact⟨its,n,r,e,z⟩
def Inv.zw{Z:AE}{Y:St}{H:Hp}{s:Shared}{p:Addr}{xs ys:List V}{its its':List Value}{n n':Nat}{f:Obj->Obj}(I:Inv X Z Y H s)(h:H p=some (.lst xs))(ho:s.heap.get? p=some {cls:=.type "list",data:=.seq its.toArray n}) (hf:f {cls:=.type "list",data:=.seq its.toArray n}={cls:=.type "list",data:=.seq its'.toArray n'}) (r:Vals ys its') (hz:ys.length<=sizeLine) (t:Nat):Inv X Z Y (upd H p (.lst ys)) {s with heap:=s.heap.update p f,toks:=t}:=by
 have e:(s.heap.update p f).get? p=some {cls:=.type "list",data:=.seq its'.toArray n'}:=by rw[R5 f ho (by rw[hf]<;>rfl),hf]
 refine I.write (x:=p) (e:=p) (by rw[h];trivial) (.inl rfl) (λb u J q=>(K3 _ _ (Ne.symm J)).trans q) ⟨_,e⟩ ?_;exact⟨hz,its',n',r,e⟩
def Vq:V->V->V->Hp->(Hp->Prop)->Prop:=λo i v H Q=>∃p xs k j,o=.ref p/\i=.int k/\H p=some (.lst xs)/\iS xs.length k=some j/\Q (upd H p (.lst (xs.set j v)))
def Kq:NT X Vq:=by
 intro Z s Y H o i v ov iv u Q I ro ri rv h;obtain⟨p,xs,k,j,rfl,rfl,hp,hj,q⟩:=h;cases ro;obtain⟨t,rfl⟩:=ri;obtain⟨its,n,r,ho,hz⟩:=I.lst hp;obtain⟨h1,h2,h3,h4⟩:=Jj hj;have hl:=r.length;have hn:=jQ;have I':Inv X Z Y (upd H p (.lst (xs.set j v))) {s with heap:=s.heap.update p (Obj.mapSeq (·.setIfInBounds j u))}:=I.zw hp ho (acZ its n j u) (r.set rv j) (by rw[F7];exact hz) s.toks;by_cases h0:0<=k;have hk:k.toNat=j:=by rw[seqIndex_of h0 h4]at h1;exact L9 h1
 exact ki_setAt ho h0 () (by rw[C1,<-hl];exact h4) (by rw[hk];exact⟨_,I',q⟩);have hk:(k+(its.toArray.size:Int)).toNat=j:=by rw[Sw () h3]at h1;rw[C1,<-hl];exact L9 h1
 exact ki_setBack ho () (by rw[C1,<-hl];exact h3) () (by rw[hk];exact⟨_,I',q⟩)
def aeA(lo hi:Option Int)(n:Nat):(sliceBounds lo hi none n).1=((HT.cJ n 0 lo:Nat):Int)/\(sliceBounds lo hi none n).2.1=((HT.cJ n n hi:Nat):Int)/\(sliceBounds lo hi none n).2.2=1:=by
 refine⟨?_,?_,rfl⟩;cases lo with|none=>simp[sliceBounds,HT.cJ]|some i=>simp only[sliceBounds,HT.cJ,Option.getD_none,show(1:Int)>0 by decide,if_true];by_cases h:i<0;simp only[h,if_true]<;>lia;simp only[h,L5]<;>lia
 cases hi with|none=>simp[sliceBounds,HT.cJ]|some i=>simp only[sliceBounds,HT.cJ,Option.getD_none,show(1:Int)>0 by decide,if_true];by_cases h:i<0;simp only[h,if_true]<;>lia;simp only[h,L5]<;>lia
def aeZ(its:List Value)(lo hi:Option Int):slicePick its.toArray lo hi none=((its.drop (HT.cJ its.length 0 lo)).take (HT.cJ its.length its.length hi-HT.cJ its.length 0 lo)).toArray:=by obtain⟨h1,h2,h3⟩:=aeA lo hi its.toArray.size;unfold slicePick;rw[h1,h2,h3];simp only[sliceRange_one,pick_run,C1]<;>rfl
def Ue(K:Frag):V->Option Int->Option Int->Hp->VK->Prop:=λx lo hi H Q=>∃a xs,x=.ref a/\bQ K H a xs/\∀p,H p=none->Q (.ref p) (upd H p (.lst (lF xs lo hi)))
def Zm:uF X (Ue X.K):=by intro Z s Y H x v vl vu lo hi sl Q I rx hs pl pu h;obtain⟨a,xs,rfl,hx,q⟩:=h;cases rx;obtain⟨its,r,ht,hz⟩:=I.list hx;have zk:=r.length;refine⟨"list",_,slot_list_getitem.lookup,ht.isList.typeIs,?_⟩;refine wpAny_getItem_list_slice ht.isList hs pl pu .none (by simp) ?_ (by rw[C1]<;>lia);rw[aeZ,<-zk];refine⟨.ref s.heap.objs.size,_,I.laid (t':=s.toks) (o:=.lst (lF xs lo hi)) (λb ob q=>A5 _ q) (A9 _) ?_,rfl,q _ (I.aJ.fresh (A9 _))⟩;exact⟨D2 (adN xs lo hi) hz,_,0,(r.drop (HT.cJ xs.length 0 lo)).take (HT.cJ xs.length xs.length hi-HT.cJ xs.length 0 lo),D0 _ rfl⟩
noncomputable def Hm:V->Bool|.aK=>true|.bl _=>true|.int _=>true|.str _=>true|_=>false
def qM:V->V->Bool|.aK,.aK=>true|.bl a,.bl b=>a ==b|.bl a,.int b=>(if a then 1 else 0)==b|.int a,.bl b=>a ==(if b then 1 else 0)|.int a,.int b=>a ==b|.str a,.str b=>a ==b|_,_=>false
def WQ{A:Around}{s:Shared}{y x:V}{u v:Value}(ry:RelV y u)(rx:RelV x v)(fy:Hm y=true)(fx:Hm x=true):SeqAt.EqAt A s u v (qM y x):=by
 cases y with
 |aK=>cases ry;cases x with|aK=>cases rx;exact SeqAt.EqAt.same _|bl b=>cases rx;exact SeqAt.EqAt.none_bool b|int b=>obtain⟨t,rfl⟩:=rx;exact SeqAt.EqAt.none_int b t|str b=>obtain⟨t,rfl⟩:=rx;exact SeqAt.EqAt.none_str b t|_=>exact absurd (show false=true from fx) B5
 |bl a=>cases ry;cases x with|aK=>cases rx;exact SeqAt.EqAt.bool_none a|bl b=>cases rx;exact SeqAt.EqAt.bool_bool a b|int b=>obtain⟨t,rfl⟩:=rx;exact SeqAt.EqAt.bool_int a b t|str b=>obtain⟨t,rfl⟩:=rx;exact SeqAt.EqAt.bool_str a b t|_=>exact absurd (show false=true from fx) B5
 |int a=>obtain⟨t',rfl⟩:=ry;cases x with|aK=>cases rx;exact SeqAt.EqAt.int_none a t'|bl b=>cases rx;exact SeqAt.EqAt.int_bool a t' b|int b=>obtain⟨t,rfl⟩:=rx;exact SeqAt.EqAt.int_int a t' b t|str b=>obtain⟨t,rfl⟩:=rx;exact SeqAt.EqAt.int_str a t' b t|_=>exact absurd (show false=true from fx) B5
 |str a=>obtain⟨t',rfl⟩:=ry;cases x with|aK=>cases rx;exact SeqAt.EqAt.str_none a t'|bl b=>cases rx;exact SeqAt.EqAt.str_bool a t' b|int b=>obtain⟨t,rfl⟩:=rx;exact SeqAt.EqAt.str_int a t' b t|str b=>obtain⟨t,rfl⟩:=rx;exact SeqAt.EqAt.str_str a t' b t|_=>exact absurd (show false=true from fx) B5
 |_=>exact absurd (show false=true from fy) B5
def jy(x:V)(u:Value):Bool:=match u with|.none=>qM .aK x|.bool b=>qM (.bl b) x|.int i _=>qM (.int i) x|.str z _=>qM (.str z) x|_=>false
def HL{x y:V}{u:Value}(r:RelV y u)(f:Hm y=true):jy x u=qM y x:=by cases y with|aK=>cases r;rfl|bl b=>cases r;rfl|int i=>obtain⟨t,rfl⟩:=r;rfl|str z=>obtain⟨t,rfl⟩:=r;rfl|_=>exact absurd (show false=true from f) B5
theorem oS{x:V}:∀{xs:List V}{us:List Value},Vals xs us->xs.all Hm=true->us.any (jy x)=xs.any λy=>qM y x|_,_,.nil,_=>rfl|y::xs,u::us,.cons r t,f=>by rw[Q6,C6]at f;rw[S9,S9,HL r f.1,oS t f.2]
theorem pd{A:Around}{s:Shared}{x:V}{v:Value}(rx:RelV x v)(fx:Hm x=true):∀{xs:List V}{us:List Value},Vals xs us->xs.all Hm=true->∀u∈us,SeqAt.EqAt A s u v (jy x u)|_,_,.nil,_=>λu hu=>by cases hu|y::xs,u::us,.cons r t,f=>λu' hu=>by rw[Q6,C6]at f;rcases C5.mp hu with rfl|hu;rw[HL r f.1];exact WQ r rx f.1 fx;exact pd rx fx t f.2 u' hu
def OW(x:V)(xs:List V):Bool:=xs.any λy=>qM y x
def Qv(K:Frag)(neg:Bool):R2:=λx y H Q=>∃p xs,y=.ref p/\(bQ K H p xs\/cQ K H p xs)/\Hm x=true/\xs.all Hm=true/\Q (.bl (if neg then !OW x xs else OW x xs)) H
def aca:cG X (compareOp .In) (Qv X.K false):=by intro Z s Y H x y v u Q I rx ry h;obtain⟨p,xs,rfl,hq,fx,fs,q⟩:=h;cases ry;rcases hq with hq|hq;obtain⟨its,r,pl,hz⟩:=I.list hq;refine SeqAt.in_listAt (jy x) pl.isList (λw hw=>pd rx fx r fs w (by simpa using hw)) ⟨.bl _,H,I,rfl,?_⟩;rw[show its.toArray.any (jy x)=its.any (jy x) by simp,oS r fs];exact q;obtain⟨its,r,pl,hz⟩:=I.tuple hq;refine SeqAt.in_tupleAt (jy x) pl (λw hw=>pd rx fx r fs w (by simpa using hw)) ⟨.bl _,H,I,rfl,?_⟩;rw[show its.toArray.any (jy x)=its.any (jy x) by simp,oS r fs];exact q
def aez:cG X (compareOp .NotIn) (Qv X.K true):=by intro Z s Y H x y v u Q I rx ry h;obtain⟨p,xs,rfl,hq,fx,fs,q⟩:=h;cases ry;rcases hq with hq|hq;obtain⟨its,r,pl,hz⟩:=I.list hq;refine SeqAt.notIn_listAt (jy x) pl.isList (λw hw=>pd rx fx r fs w (by simpa using hw)) ⟨.bl _,H,I,rfl,?_⟩;rw[show its.toArray.any (jy x)=its.any (jy x) by simp,oS r fs];exact q;obtain⟨its,r,pl,hz⟩:=I.tuple hq;refine SeqAt.notIn_tupleAt (jy x) pl (λw hw=>pd rx fx r fs w (by simpa using hw)) ⟨.bl _,H,I,rfl,?_⟩;rw[show its.toArray.any (jy x)=its.any (jy x) by simp,oS r fs];exact q
def aey:cG X (compareOp .NotIn) (λx y H Q=>∃i j,x=.str i/\y=.str j/\Q (.bl (!(!(Builtin.Str.occurrences j i 0 j.length 1).isEmpty))) H):=by intro Z s Y H x y v u Q I rx ry h;obtain⟨i,j,rfl,rfl,q⟩:=h;obtain⟨t,rfl⟩:=rx;obtain⟨t',rfl⟩:=ry;exact notIn_str ⟨.bl _,H,I,rfl,q⟩
def Nk:bL X (.builtin "len") (λxs H Q=>∃p ys,xs=[.ref p]/\(bQ X.K H p ys\/cQ X.K H p ys)/\Q (.int ys.length) H):=by intro Z s Y H xs us Q I r h;obtain⟨p,ys,rfl,hq,q⟩:=h;obtain⟨u,rfl,rx⟩:=lO r;cases rx;have hn:=jQ;rcases hq with hq|hq;obtain⟨its,r',pl,hz⟩:=I.list hq;have zk:=r'.length;exact Calls.call_len_list pl.isList (by simp only[C1]<;>lia) ⟨.int ys.length,H,I.tok _,⟨s.toks+1,by rw[C1,zk]⟩,q⟩;obtain⟨its,r',pl,hz⟩:=I.tuple hq;have zk:=r'.length;exact len_tuple pl (by simp only[C1]<;>lia) ⟨.int ys.length,H,I.tok _,⟨s.toks+1,by rw[C1,zk]⟩,q⟩
def aex:bL X (.builtin "len") (λxs H Q=>∃z,xs=[.str z]/\z.length<=sizeLine/\Q (.int z.length) H):=by intro Z s Y H xs us Q I r h;obtain⟨z,rfl,hz,q⟩:=h;obtain⟨u,rfl,t,rfl⟩:=lO r;have hn:=jQ;exact len_str () ⟨.int z.length,H,I.tok _,⟨_,rfl⟩,q⟩
def bL.or{f:Value}{r r':List V->Hp->VK->Prop}(h:bL X f r)(h':bL X f r'):bL X f (λxs H Q=>r xs H Q\/r' xs H Q):=by intro Z s Y H xs us Q I rs q;rcases q with q|q;exact h Z s Y H xs us Q I rs q;exact h' Z s Y H xs us Q I rs q
def Nj:bL X (.type "list") (λxs H Q=>∃p ys,xs=[.ref p]/\(bQ X.K H p ys\/cQ X.K H p ys)/\∀l,H l=none->Q (.ref l) (upd H l (.lst ys))):=by intro Z s Y H xs us Q I r h;obtain⟨p,ys,rfl,hq,q⟩:=h;obtain⟨u,rfl,rx⟩:=lO r;cases rx;have fin:∀(its:List Value),Vals ys its->ys.length<=sizeLine->∀(h':Heap) (c':Nat),(∀b o',s.heap.get? b=some o'->h'.get? b=some o')->h'.get? s.heap.objs.size=some {cls:=.type "list",dict:=none,data:=.seq its.toArray c',slots:= #[]}->EP X Z Y Q (.ref s.heap.objs.size) {s with heap:=h'}:=λits r' hz h' c' kp e=>⟨.ref s.heap.objs.size,_,I.laid (t':=s.toks) kp (A9 _) (show aW X.prog X.w _ h' _ (.lst ys) from⟨hz,its,c',r',e⟩),rfl,q _ (I.aJ.fresh (A9 _))⟩;rcases hq with hq|hq;obtain⟨its,r',pl,hz⟩:=I.list hq;have zk:=r'.length;obtain⟨o,ho,hc,n,hd⟩:=pl.isList;exact call_list_seq p (.inl rfl) ho hc hd (λh' c' kp e=>fin its r' hz h' c' kp e) (by simp only[C1]<;>lia);obtain⟨its,r',pl,hz⟩:=I.tuple hq;have zk:=r'.length;obtain⟨o,ho,hc,n,hd⟩:=pl;exact call_list_seq p (.inr rfl) ho hc hd (λh' c' kp e=>fin its r' hz h' c' kp e) (by simp only[C1]<;>lia)
def ND:bL X (.type "tuple") (λxs H Q=>∃p ys,xs=[.ref p]/\((bQ X.K H p ys/\∀l,H l=none->Q (.ref l) (upd H l (.tup ys)))\/(cQ X.K H p ys/\Q (.ref p) H))):=by intro Z s Y H xs us Q I r h;obtain⟨p,ys,rfl,h⟩:=h;obtain⟨u,rfl,rx⟩:=lO r;cases rx;rcases h with⟨hq,q⟩|⟨hq,q⟩;obtain⟨its,r',pl,hz⟩:=I.list hq;have zk:=r'.length;refine call_tuple_list pl.isList (λh' kp=>?_) (by simp only[C1]<;>lia);have I1:Inv X Z Y H {s with heap:=h'}:=I.kept (t':=s.toks) kp;have I2:Inv X Z Y (upd H h'.objs.size (.tup ys)) {s with heap:=h'.push {cls:=.type "tuple",data:=.seq its.toArray}}:=I1.laid (t':=s.toks) (λb o e=>A5 _ e) (A9 _) (show aW X.prog X.w _ _ _ (.tup ys) from⟨hz,its,r',IsTup.new _ _⟩);exact⟨.ref h'.objs.size,_,I2,rfl,q _ (I1.aJ.fresh (A9 _))⟩;obtain⟨its,r',pl,hz⟩:=I.tuple hq;exact call_tuple_same pl ⟨.ref p,H,I,rfl,q⟩
def BE(K:Frag)(T:String)(x:V)(H:Hp):Prop:=match x with|.str _=>T="str"|.int _=>T="int"|.ref p=>(T="list" /\∃xs,bQ K H p xs)\/(T="tuple" /\∃o,K.lookup p=some o/\o.cls=.type "tuple" /\o.dict=none)\/(T="dict" /\((∃kvs,H p=some (.dK kvs))\/∃kvs,H p=some (.dT kvs)))\/(T="set" /\∃e1 n,H p=some (.set e1 n))|_=>False
def HK{Z:AE}{Y:St}{H:Hp}{s:Shared}{T:String}{x:V}{v:Value}(I:Inv X Z Y H s)(r:RelV x v)(ty:BE X.K T x H):s.TypeIs v T/\∀a,v=.ref a->∃ob,s.heap.get? a=some ob/\ob.dict=none:=by
 cases x with
 |str z=>obtain⟨t,rfl⟩:=r;cases(show T="str" from ty);exact⟨typeIs_str s z t,λ_ e=>nomatch e⟩|int i=>obtain⟨t,rfl⟩:=r;cases(show T="int" from ty);exact⟨typeIs_int s i t,λ_ e=>nomatch e⟩|ref p=>
  cases r;rcases ty with⟨rfl,xs,hq⟩|⟨rfl,o,hk,hc,hd⟩|⟨rfl,hk⟩|⟨rfl,e1,n,hk⟩;obtain⟨its,_,pl,_⟩:=I.list hq;refine⟨pl.isList.typeIs,λa e=>?_⟩;cases e;obtain⟨o,n,e,c,hd,_⟩:=pl;exact⟨o,e,hd⟩;refine⟨⟨o,I.bU p o hk,hc⟩,λa e=>?_⟩;cases e;exact⟨o,I.bU _ o hk,hd⟩;have z:∃o,s.heap.get? p=some o/\o.ExactDict:=by rcases hk with⟨kvs,hk⟩|⟨kvs,hk⟩;obtain⟨_,_,_,_,o,_,_,e,ex,_⟩:=I.aJ p _ hk;exact⟨o,e,ex⟩;obtain⟨_,_,_,_,o,_,_,e,ex,_⟩:=I.aJ p _ hk;exact⟨o,e,ex⟩
  obtain⟨o,e,ex⟩:=z;refine⟨⟨o,e,ex.1⟩,λa e2=>?_⟩;cases e2;exact⟨o,e,ex.2.1⟩;obtain⟨o,_,_,_,e,ex,_⟩:=I.aJ p _ hk;refine⟨⟨o,e,ex.1⟩,λa e2=>?_⟩;cases e2;exact⟨o,e,ex.2.1⟩
 |_=>exact False.elim ty
def TX(K:Frag)(T:String)(r:V->List V->Hp->VK->Prop)(to:TE):TE:=λ Y H Q=>to Y H λx H1=>BE K T x H1/\r x [] H1 Q
def tBM(K:Frag)(T:String)(r:V->List V->Hp->VK->Prop)(to:TE)(t:TA):TE:=λ Y H Q=>to Y H λx H1=>BE K T x H1/\t Y H1 λxs H2=>r x xs H2 Q
variable{o e:Expr}{es:List Expr}{to:TE}{t:TA}{name:Str}{zg zf:Pos}{T id:String}{r:V->List V->Hp->VK->Prop}
def WO(pa:PlainAttrs T)(slot:Slot T name id)(CM:typeOf (.builtin id)=pure (.type "method_descriptor"))(hm:vL X id r)(ho:PE X o to)(af:attributeBase o name X.env (eval o X.env)=eval o X.env:=by rfl) (ae:(zg.endLine ==zf.line)=true:=by rfl):PE X (.Call (.Attribute o name zg) [] [] zf) (TX X.K T r to):=by intro Z s Y H Q I h;refine wpAny_Call_method0_late af ae (Bb (ho Z s Y H _ I h) λv s1 ⟨x,H1,I1,r1,ty,q1⟩=>?_);obtain⟨h1,h2⟩:=HK I1 r1 ty;exact⟨T,id,pa,slot,CM,h1,h2,Q5 rfl (PySem.evalArgs_none (hm Z s1 Y H1 x [] v [] Q I1 r1 .nil q1))⟩
def rS(pa:PlainAttrs T)(slot:Slot T name id)(CM:typeOf (.builtin id)=pure (.type "method_descriptor"))(hm:vL X id r)(ho:PE X o to)(ha:PA X (e::es) t)(af:attributeBase o name X.env (eval o X.env)=eval o X.env:=by rfl)(az:((backTo zf (starEach (e::es) X.env)).all (λx=>!x.1)&&(backToKw zf (keywordEach [] X.env)).all (λx=>x.1.isSome)&&decide ((e::es).length+([]:List Keyword).length+(if([]:List Keyword).isEmpty then 0 else 1)<30))=true:=by rfl)(ae:(zg.endLine ==zf.line)=true:=by rfl) (hs:starEach (e::es) X.env=(false,eval e X.env)::starEach es X.env:=by rfl) (aa:(backTo zf (starEach es X.env)).any (·.1)=false:=by rfl):PE X (.Call (.Attribute o name zg) (e::es) [] zf) (tBM X.K T r to t):=by intro Z s Y H Q I h;refine wpAny_Call_method_late af az ae rfl (Bb (ho Z s Y H _ I h) λv s1 ⟨x,H1,I1,r1,ty,q1⟩=>?_);obtain⟨h1,h2⟩:=HK I1 r1 ty;refine⟨T,id,pa,slot,CM,h1,h2,?_⟩;have hA:=ha zf Z s1 Y H1 _ I1 q1;rw[hs]at hA⊢;refine Q5 (by show(false||(backTo zf (starEach es X.env)).any (·.1))=false;rw[aa]<;>rfl) (V3 ?_);exact Bb hA λus s2 ⟨vs,H2,I2,r2,q2⟩=>hm Z s2 Y H2 x vs v us Q I2 r1 r2 q2
end
def Tg(X:Cx)(id:String)(r:V->List V->Hp->VK->Prop):Prop:=∀(Z:AE) (s:Shared) (Y:St) (H:Hp) (x:V) (xs:List V) (v:Value) (us:List Value) (Q:VK),Inv X Z Y H s->RelV x v->Vals xs us->r x xs H Q->wpAny (model X.prog X.w) X.A (call (.builtin id) (v::us)) (EP X Z Y Q) X.xe s
def Vals.one:∀{x:V}{us:List Value},Vals [x] us->∃u,us=[u]/\RelV x u|_,_,.cons r .nil=>⟨_,rfl,r⟩
def Vals.two{x y:V}{us:List Value}(h:Vals [x,y] us):∃u v,us=[u,v]/\RelV x u/\RelV y v:=by cases h with|cons r t=>cases t with|cons q t=>cases t;exact⟨_,_,rfl,r,q⟩
def Vals.zero:∀{us:List Value},Vals [] us->us=[]|_,.nil=>rfl
theorem Vals.dropLast{xs:List V}{us:List Value}(h:Vals xs us):Vals xs.dropLast us.dropLast:=by induction h with|nil=>exact .nil|cons r t ih=>cases t with|nil=>exact .nil|cons q t'=>exact .cons r ih
theorem Vals.eraseIdx:∀{xs:List V}{us:List Value}(i:Nat),Vals xs us->Vals (xs.eraseIdx i) (us.eraseIdx i)|_,_,_,.nil=>.nil|_,_,0,.cons _ t=>t|_,_,i+1,.cons r t=>.cons r (Vals.eraseIdx i t)
theorem Vals.reverse{xs:List V}{us:List Value}(h:Vals xs us):Vals xs.reverse us.reverse:=by induction h with|nil=>exact .nil|cons r t ih=>rw[SX,SX];exact Vals.append ih (.cons r .nil)
theorem Vals.rep{xs:List V}{us:List Value}(h:Vals xs us):∀k:Nat,Vals (List.replicate k xs).flatten (List.replicate k us).flatten|0=>.nil|k+1=>by rw[L7,L7,O6,O6];exact Vals.append h (Vals.rep h k)
def acY{α:Type}(l:List α):l.eraseIdx (l.length-1)=l.dropLast:=by induction l with|nil=>rfl|cons a r ih=>cases r with|nil=>rfl|cons b r=>have e:(a::b::r).length-1=((b::r).length-1)+1:=(by have h1:(a::b::r).length=r.length+2:=rfl;have h2:(b::r).length=r.length+1:=rfl;lia);rw[e,List.eraseIdx_cons_succ,ih];all_goals rfl
theorem LR(its:List Value):∀(k:Nat) (zm:List Value),List.foldl (λx1 x2=>x1++x2) zm.toArray (List.replicate k its.toArray)=(zm++(List.replicate k its).flatten).toArray
 |0,zm=>by simp|k+1,zm=>by
  have e:zm.toArray++its.toArray=(zm++its).toArray:=by simp
  have e2:(zm++its)++(List.replicate k its).flatten=zm++(List.replicate (k+1) its).flatten:=by rw[L7,O6,J7]
  rw[<-e2,<-LR its k (zm++its),<-e,L7,Z0]
section
variable{X:Cx}{Z:AE}{Y:St}{H:Hp}{s:Shared}{l b:Addr}{xs ys zs:List V}
def Inv.vS{its its':List Value}{n:Nat}{f:Array Value->Array Value}{t':Nat}(I:Inv X Z Y H s)(hH:H l=some (.lst xs))(e:s.heap.get? l=some {cls:=.type "list",data:=.seq its.toArray n}) (hf:f its.toArray=its'.toArray) (hv:Vals ys its') (hz:ys.length<=sizeLine):Inv X Z Y (upd H l (.lst ys)) {s with heap:=s.heap.update l (Obj.mapSeq f),toks:=t'}:=by have q:=PySem.IsL.update e f;rw[hf]at q;refine I.write (x:=l) (e:=l) (by rw[hH];exact trivial) (.inl rfl) (λb' u J hu=>(K3 s.heap (Obj.mapSeq f) (Ne.symm J)).trans hu) ⟨_,q⟩ ?_;exact⟨hz,its',_,hv,q⟩
def Inv.vT{its:List Value}{t':Nat}(I:Inv X Z Y H s)(hv:Vals ys its)(hz:ys.length<=sizeLine):Inv X Z Y (upd H s.heap.objs.size (.lst ys)) {s with heap:=s.heap.push {cls:=.type "list",data:=.seq its.toArray},toks:=t'}:=I.laid (λ_ _ q=>A5 _ q) (A9 _) ⟨hz,its,0,hv,D0 _ rfl⟩
theorem Inv.fresh(I:Inv X Z Y H s):H s.heap.objs.size=none:=I.aJ.fresh (A9 _)
def Inv.rj(I:Inv X Z Y H s)(hH:H l=some (.lst xs)):xs.length<=sizeLine/\∃(its:List Value) (n:Nat),Vals xs its/\xs.length=its.length/\s.heap.get? l=some {cls:=.type "list",data:=.seq its.toArray n}:=by obtain⟨z,its,n,r,e⟩:=I.aJ l _ hH;exact⟨z,its,n,r,r.length,e⟩
def Kp{n:Nat}(h:n<=sizeLine):Builtin.List.listTooLong n=false:=by unfold Builtin.List.listTooLong;exact L8 ()
end
section
variable{X:Cx}
def xN:V->List V->Hp->VK->Prop:=λx vs H Q=>∃l xs y,x=.ref l/\vs=[y]/\H l=some (.lst xs)/\xs.length<sizeLine/\Q .aK (upd H l (.lst (xs++[y])))
def yB:Tg X "list.append" xN:=by intro Z s Y H x vs v us Q I rx rv h;obtain⟨l,xs,y,rfl,rfl,hH,hz,q⟩:=h;cases rx;obtain⟨u,rfl,ru⟩:=rv.one;obtain⟨z,its,n,r,hl,e⟩:=I.rj hH;refine EL F.slot_list_append ⟨_,e,rfl⟩ F.entry_list_append (F.args_list_append_2 _ _) (PySem.list_append l its.toArray n u (by rw[C1];lia)) ⟨e,?_⟩;refine⟨.aK,_,I.vS (its':=its++[u]) hH e (by simp) (r.append (.cons ru .nil)) ?_,rfl,q⟩;rw[A6,F8];lia
def Ui:V->List V->Hp->VK->Prop:=λx vs H Q=>∃l xs y,x=.ref l/\vs=[]/\H l=some (.lst xs)/\xs[xs.length-1]?=some y/\Q y (upd H l (.lst xs.dropLast))
def WN:Tg X "list.pop" Ui:=by
 intro Z s Y H x vs v us Q I rx rv h;obtain⟨l,xs,y,rfl,rfl,hH,hy,q⟩:=h;cases rx;have Pa:=rv.zero;subst Pa;obtain⟨z,its,n,r,hl,e⟩:=I.rj hH;obtain⟨u,hu,ru⟩:=r.get hy;have QK:its.toArray[its.toArray.size-1]?=some u:=by show its.toArray[its.length-1]?=some u;rw[<-V1,<-hl];exact hu
 refine EL F.slot_list_pop ⟨_,e,rfl⟩ F.entry_list_pop (F.args_list_pop_1 _) (MeetsSeq.list_pop_last l its.toArray n u QK (by rw[C1];lia)) ⟨e,?_⟩;refine⟨y,_,I.vS (its':=its.dropLast) hH e ?_ r.dropLast ?_,ru,q⟩;show its.toArray.eraseIdxIfInBounds (its.toArray.size-1)=its.dropLast.toArray;rw[C1,List.eraseIdxIfInBounds_toArray,acY];rw[List.length_dropLast];lia
def Uh:R2:=λx y H Q=>∃l k xs,x=.ref l/\y=.int k/\H l=some (.lst xs)/\ -(2^63)<=k/\k<2^63/\xs.length*k.toNat<=sizeLine/\∀p,H p=none->Q (.ref p) (upd H p (.lst (List.replicate k.toNat xs).flatten))
def Zl{α:Type}(xs:List α)(k:Nat):(List.replicate k xs).flatten.length=k*xs.length:=by induction k with|zero=>simp|succ k ih=>rw[L7,O6,A6,ih,Nat.succ_mul,Nat.add_comm]
def WM:cG X (binaryOp .Mult) Uh:=by
 intro Z s Y H x y v u Q I rx ry h;obtain⟨l,k,xs,rfl,rfl,hH,h1,h2,hz,q⟩:=h;cases rx;obtain⟨t,rfl⟩:=ry;obtain⟨z,its,n,r,hl,e⟩:=I.rj hH;have zk:its.toArray.size*k.toNat<=sizeLine:=by rw[C1,<-hl];exact hz
 have gb:¬its.toArray.size*k.toNat>(2^63-1)/8:=by
  have:(sizeLine:Nat)<=(2^63-1)/8:=by decide
  lia
 have jb:¬(!Builtin.List.listFitsIndex k)=true:=by rw[fitsIndex_both h1 h2];exact B5
 have bf:¬Builtin.List.listTooLong (its.toArray.size*k.toNat)=true:=by rw[Kp zk];exact B5
 have gq:List.foldl (λx1 x2=>x1++x2) #[] (List.replicate (if its.toArray.isEmpty=true then 0 else k.toNat) its.toArray)=(List.replicate k.toNat its).flatten.toArray:=by
  have f0:∀m:Nat,List.foldl (λx1 x2=>x1++x2) #[] (List.replicate m its.toArray)=(List.replicate m its).flatten.toArray:=λm=>by have:=LR its m [];rw[U7]at this;exact this
  rw[f0];cases its with|nil=>simp|cons a r'=>rw[if_neg (by simp)]
 refine wpAny_binaryOp_repeat_ref (T:="list") (U:="int") ⋯ ⟨_,e,rfl⟩ (λs'=>typeIs_int s' k t) noFill_list_mul F.fills_int_mul F.slot_int_rmul repeat_list F.slot_int_index.lookup (EL F.slot_int_rmul (typeIs_int s k t) F.entry_int_rmul (F.args_int_rmul_2 _ _) (int___rmul___int_list k t l its.toArray n) ⟨e,rfl,⟨_,e,rfl⟩,EL F.slot_list_mul ⟨_,e,rfl⟩ F.entry_list_mul (F.args_list_mul_2 _ _) (AutoListH.list___mul___list_int_3 l its.toArray n k t jb gb bf) ⟨e,?_⟩⟩);rw[gq];exact⟨.ref _,_,I.vT (t':=s.toks) (r.rep k.toNat) (by rw[Zl,Nat.mul_comm];exact hz),rfl,q _ I.fresh⟩
end
section
variable{prog:Program}{w:World}{A:Around}{E:AA}{s:Shared}
end
section
variable{X:Cx}
end
end L2
namespace Att
open PySem PySem.W PySem.Calls PyProof.Rows
def afl{P:Params}{h:Heap}:∀(ns:List Int) (vs:List Value),WellAll P h vs (ns.map WData.int)->IntsAre vs ns:=by intro ns;induction ns with|nil=>intro vs w;rw[N8]at w;cases w;exact .nil|cons n ns ih=>intro vs w;rw[B6]at w;cases w with|cons a b=>cases a;exact .cons _ _ (ih _ b)
def abZ{l:OpenLaw}{n:Nat}(hn:l.most=some n){P:Params}{h:Heap}{args:List WData}{vals:List Value}(cg:l.row.toRowW.claim.pre args=true) (QL:WellAll P h vals args):∃a vs ns,vals=[Value.ref a]/\args=[WData.list (ns.map WData.int)]/\h.get? a=some {cls:=.type "list",data:=.seq vs.toArray}/\IntsAre vs ns/\ns.length<=n:=by
 have hsh:WShape.hasAll [] args [.list .int]=true:=(pre_splitW cg).1;have hc:l.pre.holds [] {args:=args}=true:=(pre_splitW cg).2;obtain⟨d,r,rfl,h1,h2⟩:=hasAllW_cons hsh;obtain rfl:=hasAllW_nil h2;obtain⟨xs,rfl,h3⟩:=hasW_list h1;obtain⟨ns,rfl⟩:=items_int h3;have zk:ns.length<=n:=by
  unfold OpenLaw.pre at hc;have h4:(WTm.not (.lt (.lit (.int (n:Int))) (.len (.arg 0)))).holds [] {args:=[.list (ns.map .int)]}=true:=by have h4:=(holds_andW hc).1;rw[hn]at h4;exact h4
  have h5:=condW_of h4 (w_not (w_lt w_lit (w_len_list (w_arg rfl))));rw[A4]at h5;refine Nat.le_of_not_lt λq=>?_;have q':(n:Int)<((ns.length:Nat):Int):=by lia
  first
   |(rw[F4 q']at h5;exact absurd h5 ⋯)
   |(simp at h5;lia)
 cases QL with|cons w1 w2=>cases w2;cases w1 with|list ho ay=>exact⟨_,_,ns,rfl,rfl,ho,afl ns _ ay,zk⟩
def abY(l:OpenLaw)(args:List WData):l.row.toRowW.claim.post args (.bool true) args=true:=postW_of (r:=l.row.toRowW) (X:=(true ==true)) (show WShape.has [] (.bool true) .bool=true by first|rfl|decide|simp[WShape.has,WShape.arms,WShape.armsAll]) (show(WTm.eq .res (.lit (.bool true))).value [] {args:=args,res:=some (.bool true),after:=args}=some (.bool (true ==true)) from w_eq_bool (w_res rfl) w_lit) rfl
def iL{l:OpenLaw}{n:Nat}{q:Program}{loose:List Str}{XP:(AB)->Heap->Prop}{YP:World->Heap->Prop}{d:DefRec}(hn:l.most=some n) (CV:d.params.defaults=[])(call:∀(w:World) (s₀ s₁:Shared) (mg mb:AB) (fa:Addr) (o:Obj) (pm cd doc:Value) (a:Addr) (vs:List Value) (ns:List Int),Ground q loose [] XP w s₀ mg mb s₁.heap->YP w s₁.heap->s₁.heap.get? fa=some o->o.data=.func (docDef d.name d.params d.body d.scope pm cd doc)->s₁.heap.CodeRec cd d.name->mg d.name=some (.ref fa)->s₁.heap.get? a=some {cls:=.type "list",data:=.seq vs.toArray}->IntsAre vs ns->ns.length<=n->s₁.gens= #[]->codeAny (model l.prog w) callerA (.call (.ref fa) ⟨[.ref a],[]⟩) (λr s'=>r=.ok (.ret (.bool true))/\OldK s₁.heap s'.heap/\s'.os=s₁.os/\AllBare s'.gens) s₁):WalkO q loose XP YP l.row.toRowW d [] (λf vs=>PySem.call f vs):=by intro w s₀ s₁ mg mb G σ fa o pm cd doc dV kV ho hd bI hD CS hg args vals as cg age hrd QL hlo;obtain rfl:dV=.none:=Dflts.none hD CV;obtain rfl:kV=.none:=Dflts.noKw hD;obtain⟨a,vs,ns,rfl,rfl,bo,hints,zk⟩:=abZ hn cg QL;refine enter_call (U4 (call w s₀ s₁ mg mb fa o pm cd doc a vs ns G σ ho (fd_plain hd) bI CS bo hints zk hg) λr s' hq=>?_);obtain⟨rfl,h2,h3,h4⟩:=hq;exact⟨.inl ⟨.bool true,.bool true,[],rfl,λ_=>rfl,.bool true,abY l _,λ_=>⟨List.Pairwise.nil,λ_ hm=>(nomatch hm)⟩⟩,h2,h3,h4⟩
section
variable{prog:Program}{w:World}{A:Around}{E:AA}{s:Shared}{K:Frag}
end
end Att
namespace L2
open PySem PySem.Spec PyProof.Rows
theorem LQ:∀{vs:List Value}{ns:List Int},IntsAre vs ns->Vals (ns.map V.int) vs|_,_,.nil=>.nil|_,_,.cons n t h=>.cons ⟨t,rfl⟩ (LQ h)
def yY(H:Hp):Prop:=∀b,H b=none\/(∃o xs,H b=some (.cY o (.lst xs)))\/H b=some (.kj #[])
def aaO{P:Program}{w:World}{K:Frag}{mg mb:AB}{CX:qe}{k:Nat}{fa a:Addr}{fd:FuncData}{x:Str}{sp:Sp}{s₁:Shared}{vs:List Value}{ns:List Int}
  (KX:K.In s₁.heap) (Pc:s₁.heap.Ns mainGlobals mg) (J:s₁.heap.Ns builtinsNs mb) (hbb:∀x:Str,x≠"__name__" ->mb x=bootBuiltins x) (gr:s₁.heap.NoLimit) (hg:s₁.gens= #[])
  (ha:s₁.heap.get? a=some {cls:=.type "list",data:=.seq vs.toArray}) (hi:IntsAre vs ns) (hl:ns.length<=sizeLine) (hr:dY k callerA) (hbm:∃bm o,mg "__builtins__"=some (.ref bm)/\bm≠builtinsNs/\s₁.heap.get? bm=some o/\o.cls=.type "module" /\o.dict=some builtinsNs/\o.data=.plain) (hT:∀c P,PySem.W.tabIn K "numbers_by_bucket"=some (c,P)->isCodeTable s₁.heap P/\s₁.heap.get? P=some {cls:=.none,data:=.fields #[]}/\K.lookup P=none)
  (F:∀base:Heap,K.In base->base.Ns mainGlobals mg->pz P w K mg base CX k fa fd [x] sp) (aj:∀(s:Shared) (u:Value),BindsTo s fd ⟨[u],[]⟩ [(x,u)])
  (um:∀H:Hp,yY H->bQ K H a (ns.map V.int)->sp [.ref a] H (λv _=>v=.bl true) λ_ _ _=>False)
  (Rp:∀H e s',CX [] H s₁ (λ_ _ _=>False) e s'->False):
  codeAny (model P w) callerA (.call (.ref fa) ⟨[.ref a],[]⟩) (λr s'=>r=.ok (.ret (.bool true))/\OldK s₁.heap s'.heap/\s'.os=s₁.os/\AllBare s'.gens) s₁:=by
 have rv:=LQ hi;have gw:=hi.length
 
 have core:∀H:Hp,yY H->bQ K H a (ns.map V.int)->cF P w H s₁.heap->(∀b,H b≠none->b=a\/(H b=some (.kj #[])/\isCodeTable s₁.heap b/\s₁.heap.get? b=some {cls:=.none,data:=.fields #[]}/\K.lookup b=none))->(H a≠none->K.lookup a=none)->pq K H->
   codeAny (model P w) callerA (.call (.ref fa) ⟨[.ref a],[]⟩) (λr s'=>r=.ok (.ret (.bool true))/\OldK s₁.heap s'.heap/\s'.os=s₁.os/\AllBare s'.gens) s₁:=by
  intro H hO hS aJ hA hK hTH;have ak:∀{b:Addr} {o:Obj},s₁.heap.get? b=some o->H b=none->(eV s₁.heap H).get? b=some o:=λe n=>aaY e n;have CD:∀{b:Addr} {o:Obj} {es:Array DictEntry} {ep:Nat},s₁.heap.get? b=some o->o.data=.dict es ep->H b=none:=λ{b o es ep} e d=>by
   cases q:H b with
   |none=>rfl
   |some u=>
    rcases hA b (by rw[q];simp)with e'|⟨_,_,e',_⟩
    ·subst e';rw[ha]at e;cases e;have d':Data.seq vs.toArray _=Data.dict es ep:=d;cases d'
    ·rw[e']at e;cases e;have d':Data.fields #[]=Data.dict es ep:=d;cases d'
  have OL:∀{b:Addr} {m:AB},s₁.heap.Ns b m->(eV s₁.heap H).Ns b m:=λ{b m} ⟨o,es,ep,e,d,r⟩=>⟨o,es,ep,ak e (CD e d),d,r⟩;have hKb:K.In (eV s₁.heap H):=λb o e=>ak (KX b o e) (by
   cases q:H b with
   |none=>rfl
   |some u=>
    rcases hA b (by rw[q];simp)with e'|⟨_,_,_,e'⟩
    ·subst e';rw[hK (by rw[q];simp)]at e;cases e
    ·rw[e']at e;cases e)
  have hM:Mod K mg (eV s₁.heap H):=⟨hKb,OL Pc,⟨mb,OL J,hbb⟩,let⟨mc,h1,h2⟩:=gr;⟨mc,OL h1,h2⟩,let⟨bm,o,b1,b2,b3,b4,b5,b6⟩:=hbm;⟨bm,o,b1,b2,ak b3 (by
   cases q:H bm with
   |none=>rfl
   |some u=>
    rcases hA bm (by rw[q];simp)with e'|⟨_,_,e',_⟩
    ·subst e';rw[ha]at b3;cases b3;have d':Data.seq vs.toArray _=Data.plain:=b6;cases d'
    ·rw[e']at b3;cases b3;have d':Data.fields #[]=Data.plain:=b6;cases d'),b4,b5,b6⟩⟩
  have e0:dE P w K mg (eV s₁.heap H) callerA [] s₁ H:=⟨rfl,hM,λb o e=>Zy e,V7 (aco _ _),trivial,λb J=>absurd (show b∈([]:List Addr) from J) (by simp),aJ,.of_eq hg,hTH⟩;refine U4 ((F _ hKb (OL Pc)).run callerA [] s₁ H ⟨[.ref a],[]⟩ [.ref a] [.ref a] _ _ hr e0 (aj s₁ (.ref a)) (.cons rfl .nil) (um H hO hS)) λr s' h=>?_;cases r with
  |error e=>exact(Rp H e s' h).elim
  |ok fl=>
   cases fl with
   |next=>exact False.elim h
   |brk=>exact False.elim h
   |cont=>exact False.elim h
   |ret u=>
    obtain⟨v,O,os,bare,un,fu,r',q⟩:=h;have q':v=.bl true:=q;subst q';obtain rfl:u=Value.bool true:=r';have old:∀b o,s₁.heap.get? b=some o->s'.heap.get? b=some o\/(isCodeTable s₁.heap b/\o={cls:=.none,data:=.fields #[]}/\∃vs,s'.heap.get? b=some {cls:=.none,data:=.fields vs}):=λb o e=>by
     cases q:H b with
     |none=>exact .inl (un.keep b o e q (by intro z;exact absurd (show b∈([]:List Addr) from z) (by simp)) (by simp))
     |some u=>
      rcases hO b with z|⟨ob,xs,z⟩|z
      ·rw[q]at z;cases z
      ·have z2:=un.cH b ob _ z;obtain⟨S,_⟩:=aJ b _ z;obtain⟨e2,_⟩:=fu b _ z2;rw[e]at S;cases S;exact .inl e2
      ·obtain⟨m,z2⟩:=un.cA b _ z;obtain⟨vs,e2,_⟩:=fu b _ z2;rcases hA b (by rw[q];simp)with e'|⟨_,c,e',_⟩
       ·subst e';obtain⟨_,e3,_⟩:=aJ b _ z;rw[ha]at e3;cases e3
       ·rw[e]at e';cases e';exact .inr ⟨c,rfl,vs,e2⟩
    refine⟨rfl,⟨λb o e=>?_,λb o e=>?_⟩,os,bare⟩
    ·rcases old b o e with z|⟨c,rfl,vs,z⟩
     ·exact .inl z
     ·exact .inr (.inl ⟨c,rfl,#[],vs,rfl,by rw[z];simp⟩)
    ·rcases old b o e with z|⟨_,_,vs,z⟩
     ·exact⟨o,z⟩
     ·exact⟨_,z⟩
 have tr:TriplesOk (#[]:Array Value).toList:=trivial;have fj:∀(H:Hp) (b:Addr),s₁.heap.get? b=some {cls:=.none,data:=.fields #[]}->aW P w H s₁.heap b (.kj #[]):=λH b e=>⟨#[],e,tr,λpos cv q=>by simp[codeAmong]at q⟩
 
 let HT:Hp:=λb=>match PySem.W.tabIn K "numbers_by_bucket" with
  |some (_,P)=>if b=P then some (.kj #[]) else none
  |none=>none
 have AJ:∀b u,HT b=some u->u=.kj #[]/\isCodeTable s₁.heap b/\s₁.heap.get? b=some {cls:=.none,data:=.fields #[]}/\K.lookup b=none:=λb u z=>by
  dsimp only[HT]at z;cases q:PySem.W.tabIn K "numbers_by_bucket" with
  |none=>rw[q]at z;cases z
  |some cp=>
   obtain⟨c,p⟩:=cp;rw[q]at z;dsimp only at z
   split at z
   ·rename_i J;cases z;subst J;exact⟨rfl,hT c b q⟩
   ·cases z
 have bj:pq K HT:=λc p e=>⟨#[],by dsimp only[HT];rw[e];dsimp only;rw[if_pos rfl]⟩;have neA:∀b,HT b≠none->b≠a:=λb z e=>by
  cases q:HT b with
  |none=>exact z q
  |some u=>
   have:=(AJ b u q).2.2.1;rw[e,ha]at this;cases this
 have bt:∀b,HT b=none\/HT b=some (.kj #[]):=λb=>by
  cases q:HT b with
  |none=>exact .inl rfl
  |some u=>rw[(AJ b u q).1];exact .inr rfl
 cases hk:K.lookup a with
 |some o=>
  have e:=KX a o hk;rw[ha]at e;cases e;refine core HT (λb=>(bt b).imp_right .inr) (.inr ⟨_,vs.toArray,_,hk,rfl,rfl,rfl,by rw[C1,gw];exact hl,by simpa using rv⟩) (λb u z=>?_) (λb z=>?_) (λz=>absurd rfl (neA a z)) bj
  ·obtain⟨rfl,_,e,_⟩:=AJ b u z;exact fj _ _ e
  ·cases q:HT b with
   |none=>exact absurd q z
   |some u=>obtain⟨rfl,r⟩:=AJ b u q;exact .inr ⟨rfl,r⟩
 |none=>
  refine core (λb=>if b=a then some (.cY {cls:=.type "list",data:=.seq vs.toArray} (.lst (ns.map V.int))) else HT b) (λb=>?_) (.inl (.inr ⟨{cls:=.type "list",data:=.seq vs.toArray},if_pos rfl⟩)) (λb u z=>?_) (λb z=>?_) (λ_=>hk) λc p e=>?_
  ·by_cases J:b=a
   ·exact .inr (.inl ⟨_,_,if_pos J⟩)
   ·rcases bt b with z|z
    ·exact .inl ((if_neg J).trans z)
    ·exact .inr (.inr ((if_neg J).trans z))
  ·by_cases J:b=a
   ·have z':=(if_pos J).symm.trans z;cases z';subst J;exact⟨ha,by rw[A4];exact hl,vs,_,rv,ha⟩
   ·have z':=(if_neg J).symm.trans z;obtain⟨rfl,_,e,_⟩:=AJ b u z';exact fj _ _ e
  ·by_cases J:b=a
   ·exact .inl J
   ·have z':HT b≠none:=λq=>z ((if_neg J).trans q);cases q:HT b with
    |none=>exact absurd q z'
    |some u=>obtain⟨rfl,r⟩:=AJ b u q;exact .inr ⟨if_neg J,r⟩
  ·obtain⟨ps,z⟩:=bj c p e;exact⟨ps,(if_neg (neA p (by rw[z];simp))).trans z⟩
def Zk{l:PySem.W.OpenLaw}{n k:Nat}{q:Program}{loose:List Str}{XP:(AB)->Heap->Prop}{YP:World->Heap->Prop}{d:DefRec}{K:Params->Frag}{CX:World->qe}{sp:World->Sp}{x:Str}(hn:l.most=some n) (Pf:n<=sizeLine) (CV:d.params.defaults=[]) (hr:dY k callerA)(hY:∀(w:World) (h:Heap),YP w h->(K w.params).In h) (hT:∀(w:World) (h:Heap),YP w h->∀c P,PySem.W.tabIn (K w.params) "numbers_by_bucket"=some (c,P)->isCodeTable h P/\h.get? P=some {cls:=.none,data:=.fields #[]}/\(K w.params).lookup P=none)(F:∀(w:World) (mg:AB) (fa:Addr) (h:Heap),(K w.params).In h->h.Ns mainGlobals mg->mg d.name=some (.ref fa)->∃fd:FuncData,(∀(s:Shared) (u:Value),BindsTo s fd ⟨[u],[]⟩ [(x,u)])/\∀base:Heap,(K w.params).In base->base.Ns mainGlobals mg->pz l.prog w (K w.params) mg base (CX w) k fa fd [x] (sp w))(um:∀(w:World) (H:Hp) (a:Addr) (ns:List Int),ns.length<=n->yY H->bQ (K w.params) H a (ns.map V.int)->sp w [.ref a] H (λv _=>v=.bl true) λ_ _ _=>False)(Rp:∀(w:World) (H:Hp) (s:Shared) (e:Value) (s':Shared),CX w [] H s (λ_ _ _=>False) e s'->False):PySem.W.WalkO q loose XP YP l.row.toRowW d [] (λf vs=>PySem.call f vs):=by refine Att.iL hn CV λw s₀ s₁ mg mb fa o pm cd doc a vs ns G σ ho hd bI CS bo hints zk hg=>?_;have KX:=hY w _ σ;obtain⟨fd,J,hF⟩:=F w mg fa _ KX G.T.g CS;exact aaO KX G.T.g G.T.b G.T.builtins G.T.nolimit hg bo hints (D2 zk Pf) hr G.T.bmain (hT w _ σ) hF J (λH hO hS=>um w H a ns zk hO hS) λH e s'=>Rp w H s₁ e s'
noncomputable def gB(s:Stmt):Arguments:=match s with|.FunctionDef _ a _ _ _ _ _ _ _ _=>a|_=>{posonlyargs:=[],args:=[],vararg:=none,kwonlyargs:=[],kw_defaults:=[],kwarg:=none,defaults:=[]}
def Fg(s:Stmt):List Stmt:=match s with|.FunctionDef _ _ b _ _ _ _ _ _ _=>b|_=>[]
def Bt(s:Stmt):Scope:=match s with|.FunctionDef _ _ _ _ _ _ sc _ _ _=>sc|_=>{kind:=.function,names:=[],isGenerator:=false,isCoroutine:=false}
abbrev Qg:qe:=λ_ _ _ _ _ _=>False
abbrev E0:XK:=λ_ _ _=>False
structure aY(K:Frag)(x qual:Str)(st:Stmt)(f:Addr)(fd:FuncData):Prop where
 ex:∃(oc:Value) (od:Option Addr) (kV doc pm:Value) (an:Option Addr) (zn ct:Value) (pN:Array (Option Value)),fd=fnOf x qual (gB st) (Fg st) (Bt st) .none kV doc pm an zn ct/\K.lookup f=some ⟨oc,od,.func fd,pN⟩/\codeIn K zn qual=true
 kp:keepIn K (.ref f)=true
section
variable{P:Program}{w:World}{K:Frag}{mg:AB}{base:Heap}
def aY.binds{x qual:Str}{st:Stmt}{f:Addr}{fd:FuncData}{ps:List Str}(F:aY K x qual st f fd)(h:∀(kV doc pm:Value) (an:Option Addr) (zn ct:Value) (us:List Value),us.length=ps.length->bindArgs (fnOf x qual (gB st) (Fg st) (Bt st) .none kV doc pm an zn ct) ⟨us,[]⟩=pure (ps.zip us)):Binds K fd ps []:=by obtain⟨oc,od,kV,doc,pm,an,zn,ct,pN,rfl,lk,bI⟩:=F.ex;exact .all (h kV doc pm an zn ct)
def wV{x qual:Str}{st:Stmt}{f:Addr}{oc:Value}{od an:Option Addr}{pN:Array (Option Value)}{kV doc pm zn ct:Value}(l:K.lookup f=some ⟨oc,od,.func (fnOf x qual (gB st) (Fg st) (Bt st) .none kV doc pm an zn ct),pN⟩)(c:codeIn K zn qual=true) (k:keepIn K (.ref f)=true):aY K x qual st f (fnOf x qual (gB st) (Fg st) (Bt st) .none kV doc pm an zn ct):=⟨⟨oc,od,kV,doc,pm,an,zn,ct,pN,rfl,l,c⟩,k⟩
end
section
variable{X:Cx}
end
def aA(H O:Hp):Prop:=∀b o,H b=some o->O b=some o
def aA.refl(H:Hp):aA H H:=λ_ _ h=>h
def aA.trans{H H1 H2:Hp}(a:aA H H1)(b:aA H1 H2):aA H H2:=λc o h=>b c o (a c o h)
def aA.free{H O:Hp}(e:aA H O){l:Addr}(h:O l=Option.none):H l=Option.none:=by cases q:H l with|none=>rfl|some o=>rw[e l o q]at h;cases h
def aA.seq{K:Frag}{H O:Hp}{a:Addr}{xs:List V}(e:aA H O)(h:bQ K H a xs):bQ K O a xs:=by rcases h with(h|⟨o,h⟩)|h;exact .inl (.inl (e _ _ h));exact .inl (.inr ⟨o,e _ _ h⟩);exact .inr h
end L2
namespace L3
open PySem PySem.Spec PyProof.Rows L2
variable{K:Frag}{fd:FuncData}{mg:AB}{us:List Value}{base:Heap}{H:Hp}{X:Cx}{pos:Pos}{v:V}
abbrev Sg:=L2.St
inductive D where
 |aK|bl (b:Bool)|int (i:Int)|str (x:Str)|lst (M:List D)|tup (M:List D)|aF (kvs:List (Am×D))
 |uy (c:Str) (ns:List Str) (vs:List D)|obj (c:Str) (ns:List Str) (vs:List D)
structure Xn where
 c:Str
 ns:List Str
 vs:List D
inductive R(α:Type) where|ok (a:α)|ex (x:Xn)|no
namespace R
noncomputable def bind{α β:Type}(r:R α)(k:α->R β):R β:=match r with|.ok a=>k a|.ex x=>.ex x|.no=>.no
@[simp] theorem aD{α β:Type}(a:α)(k:α->R β):(R.ok a).bind k=k a:=rfl
@[simp] theorem kT{α β:Type}(x:Xn)(k:α->R β):(R.ex x).bind k=.ex x:=rfl
@[simp] theorem kR{α β:Type}(k:α->R β):(R.no).bind k=.no:=rfl
end R
inductive Tn where|sh (d:D)|lst (ts:List Tn)|tup (ts:List Tn)|aF (kts:List (Am×Tn))|obj (c:Str) (ns:List Str) (ts:List Tn)
mutual
noncomputable def Tn.d:Tn->D|.sh d=>d|.lst ts=>.lst (Tn.M ts)|.tup ts=>.tup (Tn.M ts)|.aF kts=>.aF (Tn.L kts)|.obj c ns ts=>.obj c ns (Tn.M ts)
noncomputable def Tn.M:List Tn->List D|[]=>[]|t::ts=>t.d::Tn.M ts
noncomputable def Tn.L:List (Am×Tn)->List (Am×D)|[]=>[]|(k,t)::ts=>(k,t.d)::Tn.L ts
end
noncomputable def Tn.of:D->Tn|.lst M=>.lst (M.map .sh)|.aF kvs=>.aF (kvs.map λp=>(p.1,.sh p.2))|.obj c ns vs=>.obj c ns (vs.map .sh)|d=>.sh d
theorem Tn.pC:∀M:List D,Tn.M (M.map .sh)=M|[]=>rfl|d::M=>by show(Tn.sh d).d::Tn.M (M.map .sh)=_;rw[Tn.pC M];rfl
theorem Tn.uJ:∀kvs:List (Am×D),Tn.L (kvs.map λp=>(p.1,Tn.sh p.2))=kvs|[]=>rfl|(k,d)::kvs=>by show(k,(Tn.sh d).d)::Tn.L (kvs.map λp=>(p.1,Tn.sh p.2))=_;rw[Tn.uJ kvs];rfl
theorem Tn.pG:∀kts:List (Am×Tn),(Tn.L kts).map (·.1)=kts.map (·.1)|[]=>rfl|(k,t)::kts=>by show k::(Tn.L kts).map (·.1)=_;rw[Tn.pG kts];rfl
theorem Tn.pF:∀kts:List (Am×Tn),(Tn.L kts).map (·.2)=Tn.M (kts.map (·.2))|[]=>rfl|(k,t)::kts=>by show t.d::(Tn.L kts).map (·.2)=_;rw[Tn.pF kts];rfl
def Tn.dW(d:D):(Tn.of d).d=d:=by cases d with|lst M=>show D.lst (Tn.M (M.map .sh))=_;rw[Tn.pC]|aF kvs=>show D.aF (Tn.L (kvs.map λp=>(p.1,.sh p.2)))=_;rw[Tn.uJ]|obj c ns vs=>show D.obj c ns (Tn.M (vs.map .sh))=_;rw[Tn.pC]|_=>rfl
inductive W where|sh (d:D)|ow (d:D)|tr (t:Tn)
def W.d:W->D|.sh d=>d|.ow d=>d|.tr t=>t.d
@[simp] theorem W.dC(d:D):(W.sh d).d=d:=rfl
@[simp] theorem W.HY(d:D):(W.ow d).d=d:=rfl
@[simp] theorem W.agg(t:Tn):(W.tr t).d=t.d:=rfl
def ClsAt(K:Frag)(c:Str)(C:Addr):Prop:=PySem.W.nsIn K mainGlobals c=some (some (.ref C))
noncomputable def XO(a C:Addr)(dx:Option Addr):HO:=.ext λh=>∃us sl,h.get? a=some ⟨.ref C,dx,.fields us,sl⟩/\us[2]?=some .none
mutual
inductive aP(K:Frag)(G:Hp):V->D->Prop where
 |aK:aP K G .aK .aK
 |bl (b:Bool):aP K G (.bl b) (.bl b)
 |int (i:Int):aP K G (.int i) (.int i)
 |str (x:Str):aP K G (.str x) (.str x)
 |lst {a:Addr}{vs:List V}{M:List D}(h:bQ K G a vs) (r:aB K G vs M):aP K G (.ref a) (.lst M)
 |tup {a:Addr}{vs:List V}{M:List D}(h:cQ K G a vs) (r:aB K G vs M):aP K G (.ref a) (.tup M)
 |jF {a C:Addr}{o:Obj}{c:Str}(hc:ClsAt K c C) (h:G a=some (.cY o (XO a C none))):aP K G (.ref a) (.uy c [] [])
 |jE {a C d:Addr}{o:Obj}{c:Str}{ns:List Str}{us:List V}{vs:List D}(hc:ClsAt K c C) (h:G a=some (.cY o (XO a C (some d)))) (hd:G d=some (.xd (ns.zip us))) (hl:ns.length=us.length) (r:aB K G us vs):aP K G (.ref a) (.uy c ns vs)
 |aF {a:Addr}{kvs:List (Am×V)}{aL:List (Am×D)}(h:Rd G a (.dK kvs)) (hk:kvs.map (·.1)=aL.map (·.1)) (r:aB K G (kvs.map (·.2)) (aL.map (·.2))):aP K G (.ref a) (.aF aL)
 |obj {a C dx:Addr}{c:Str}{ns:List Str}{us:List V}{vs:List D}(hc:ClsAt K c C) (h:G a=some (.ins C dx (ns.zip us))) (hl:ns.length=us.length) (r:aB K G us vs):aP K G (.ref a) (.obj c ns vs)
inductive aB(K:Frag)(G:Hp):List V->List D->Prop where
 |nil:aB K G [] []
 |cons {v:V}{d:D}{vs:List V}{M:List D}(h:aP K G v d) (r:aB K G vs M):aB K G (v::vs) (d::M)
end
abbrev AS:=Addr->Prop
mutual
inductive Ow(K:Frag)(G H:Hp):V->Tn->AS->Prop where
 |sh {v:V}{d:D}{e1:AS}(h:aP K G v d):Ow K G H v (.sh d) e1
 |lst {a:Addr}{vs:List V}{ts:List Tn}{e1 S1:AS}(h:H a=some (.lst vs)) (ha:e1 a) (sub:∀b,S1 b->e1 b/\b≠a) (r:aX K G H vs ts S1):Ow K G H (.ref a) (.lst ts) e1
 |tup {a:Addr}{vs:List V}{ts:List Tn}{e1 S1:AS}(h:H a=some (.tup vs)) (ha:e1 a) (sub:∀b,S1 b->e1 b/\b≠a) (r:aX K G H vs ts S1):Ow K G H (.ref a) (.tup ts) e1
 |aF {a:Addr}{kvs:List (Am×V)}{kts:List (Am×Tn)}{e1 S1:AS}(h:H a=some (.dK kvs)) (hk:kvs.map (·.1)=kts.map (·.1)) (ha:e1 a) (sub:∀b,S1 b->e1 b/\b≠a) (r:aX K G H (kvs.map (·.2)) (kts.map (·.2)) S1):Ow K G H (.ref a) (.aF kts) e1
 |obj {a C dx:Addr}{c:Str}{ns:List Str}{us:List V}{ts:List Tn}{e1 S1:AS}(hc:ClsAt K c C) (h:H a=some (.ins C dx (ns.zip us))) (hl:ns.length=us.length) (ha:e1 a) (sub:∀b,S1 b->e1 b/\b≠a) (r:aX K G H us ts S1):Ow K G H (.ref a) (.obj c ns ts) e1
inductive aX(K:Frag)(G H:Hp):List V->List Tn->AS->Prop where
 |nil {e1:AS}:aX K G H [] [] e1
 |cons {v:V}{t:Tn}{vs:List V}{ts:List Tn}{e1 S1 S2:AS}(h:Ow K G H v t S1) (r:aX K G H vs ts S2) (dj:∀b,S1 b->S2 b->False) (s1:∀b,S1 b->e1 b) (s2:∀b,S2 b->e1 b):aX K G H (v::vs) (t::ts) e1
end
def aA.mG{H O:Hp}{a:Addr}{u:HO}(e:aA H O)(h:Rd H a u):Rd O a u:=by rcases h with h|⟨o,h⟩;exact .inl (e _ _ h);exact .inr ⟨o,e _ _ h⟩
def aA.tupS{H O:Hp}{a:Addr}{xs:List V}(e:aA H O)(h:cQ K H a xs):cQ K O a xs:=by rcases h with(h|⟨o,h⟩)|h;exact .inl (.inl (e _ _ h));exact .inl (.inr ⟨o,e _ _ h⟩);exact .inr h
def aB.mono{G G':Hp}(e:aA G G'){vs:List V}{M:List D}(r:aB K G vs M):aB K G' vs M:=aB.rec (motive_1:=λv d _=>aP K G' v d) (motive_2:=λvs M _=>aB K G' vs M) .aK .bl .int .str (λh _ r=>.lst (e.seq h) r) (λh _ r=>.tup (aA.tupS e h) r) (λhc h=>.jF hc (e _ _ h)) (λhc h hd hl _ r=>.jE hc (e _ _ h) (e _ _ hd) hl r) (λh hk _ r=>.aF (aA.mG e h) hk r) (λhc h hl _ r=>.obj hc (e _ _ h) hl r) .nil (λ_ _=>.cons) r
theorem aP.mono{G G':Hp}(e:aA G G'){d:D}(h:aP K G v d):aP K G' v d:=by cases aB.mono e (.cons h .nil)with|cons h=>exact h
theorem aB.length{G:Hp}:∀{vs:List V}{M:List D},aB K G vs M->vs.length=M.length|_,_,.nil=>rfl|_,_,.cons _ r=>by rw[B7,B7,r.length]
theorem aB.append{G:Hp}:∀{vs ws:List V}{M es:List D},aB K G vs M->aB K G ws es->aB K G (vs++ws) (M++es)|_,_,_,_,.nil,s=>s|_,_,_,_,.cons h r,s=>.cons h (r.append s)
theorem aB.get{G:Hp}:∀{vs:List V}{M:List D}{i:Nat}{d:D},aB K G vs M->M[i]?=some d->∃v,vs[i]?=some v/\aP K G v d|_,_,_,_,.nil,e=>by simp at e|_,_,0,_,.cons h _,e=>by simp at e;subst e;exact⟨_,rfl,h⟩|_,_,i+1,d,.cons _ r,e=>by obtain⟨u,h1,h2⟩:=aB.get (i:=i) (d:=d) r (by simpa using e);exact⟨u,by simpa using h1,h2⟩
theorem aB.take{G:Hp}:∀{vs:List V}{M:List D}(n:Nat),aB K G vs M->aB K G (vs.take n) (M.take n)|_,_,0,_=>.nil|_,_,_+1,.nil=>.nil|_,_,n+1,.cons h r=>.cons h (aB.take n r)
theorem aB.drop{G:Hp}:∀{vs:List V}{M:List D}(n:Nat),aB K G vs M->aB K G (vs.drop n) (M.drop n)|_,_,0,r=>r|_,_,_+1,.nil=>.nil|_,_,n+1,.cons _ r=>aB.drop n r
theorem aB.set{G:Hp}{d:D}(h:aP K G v d):∀{vs:List V}{M:List D}(i:Nat),aB K G vs M->aB K G (vs.set i v) (M.set i d)|_,_,_,.nil=>.nil|_,_,0,.cons _ r=>.cons h r|_,_,i+1,.cons q r=>.cons q (aB.set h i r)
mutual
theorem Ow.mono{G G' H O:Hp}(e:aA G G'):∀{v:V}{d:Tn}{e1 S':AS},Ow K G H v d e1->(∀b o,e1 b->H b=some o->O b=some o)->(∀b,e1 b->S' b)->Ow K G' O v d S'|_,_,_,_,.sh h,_,_=>.sh (h.mono e)|_,_,_,_,.lst h ha sub r,f,i=>.lst (f _ _ ha h) (i _ ha) (λb J=>⟨i b (sub b J).1,(sub b J).2⟩) (aX.mono e r (λb o J q=>f b o (sub b J).1 q) λ_ q=>q)|_,_,_,_,.tup h ha sub r,f,i=>.tup (f _ _ ha h) (i _ ha) (λb J=>⟨i b (sub b J).1,(sub b J).2⟩) (aX.mono e r (λb o J q=>f b o (sub b J).1 q) λ_ q=>q)|_,_,_,_,.aF h hk ha sub r,f,i=>.aF (f _ _ ha h) hk (i _ ha) (λb J=>⟨i b (sub b J).1,(sub b J).2⟩) (aX.mono e r (λb o J q=>f b o (sub b J).1 q) λ_ q=>q)|_,_,_,_,.obj hc h hl ha sub r,f,i=>.obj hc (f _ _ ha h) hl (i _ ha) (λb J=>⟨i b (sub b J).1,(sub b J).2⟩) (aX.mono e r (λb o J q=>f b o (sub b J).1 q) λ_ q=>q)
theorem aX.mono{G G' H O:Hp}(e:aA G G'):∀{vs:List V}{M:List Tn}{e1 S':AS},aX K G H vs M e1->(∀b o,e1 b->H b=some o->O b=some o)->(∀b,e1 b->S' b)->aX K G' O vs M S'|_,_,_,_,.nil,_,_=>.nil|_,_,_,_,.cons h r dj s1 s2,f,i=>.cons (Ow.mono e h (λb o J q=>f b o (s1 b J) q) λ_ q=>q) (aX.mono e r (λb o J q=>f b o (s2 b J) q) λ_ q=>q) dj (λb q=>i b (s1 b q)) λb q=>i b (s2 b q)
end
mutual
theorem Ow.has{G G' H:Hp}(e:aA G G'):∀{v:V}{d:Tn}{e1:AS},Ow K G H v d e1->(∀b o,e1 b->H b=some o->G' b=some o)->aP K G' v d.d|_,_,_,.sh h,_=>h.mono e|_,_,_,.lst h ha sub r,f=>.lst (bQ.of (f _ _ ha h)) (aX.has e r λb o J q=>f b o (sub b J).1 q)|_,_,_,.tup h ha sub r,f=>.tup (cQ.of (f _ _ ha h)) (aX.has e r λb o J q=>f b o (sub b J).1 q)|_,_,_,.aF h hk ha sub r,f=>.aF (.inl (f _ _ ha h)) (by rw[Tn.pG];exact hk) (by rw[Tn.pF];exact aX.has e r λb o J q=>f b o (sub b J).1 q)|_,_,_,.obj hc h hl ha sub r,f=>.obj hc (f _ _ ha h) hl (aX.has e r λb o J q=>f b o (sub b J).1 q)
theorem aX.has{G G' H:Hp}(e:aA G G'):∀{vs:List V}{M:List Tn}{e1:AS},aX K G H vs M e1->(∀b o,e1 b->H b=some o->G' b=some o)->aB K G' vs (Tn.M M)|_,_,_,.nil,_=>.nil|_,_,_,.cons h r dj s1 s2,f=>.cons (Ow.has e h λb o J q=>f b o (s1 b J) q) (aX.has e r λb o J q=>f b o (s2 b J) q)
end
theorem aX.of{G H:Hp}:∀{vs:List V}{M:List D}{e1:AS},aB K G vs M->aX K G H vs (M.map .sh) e1|_,_,_,.nil=>.nil|_,_,_,.cons h r=>.cons (S1:=λ_=>False) (S2:=λ_=>False) (.sh h) (aX.of r) (λ_ z _=>z) (λ_ z=>z.elim) λ_ z=>z.elim
theorem aX.off{G H:Hp}:∀{vs:List V}{M:List D}{e1:AS},aX K G H vs (M.map .sh) e1->aB K G vs M|_,[],_,h=>by cases h;exact .nil|_,d::M,_,h=>by cases h with|cons h r dj s1 s2=>cases h with|sh h=>exact .cons h (aX.off r)
theorem aX.length{G H:Hp}:∀{vs:List V}{M:List Tn}{e1:AS},aX K G H vs M e1->vs.length=M.length|_,_,_,.nil=>rfl|_,_,_,.cons _ r _ _ _=>by rw[B7,B7,r.length]
def Ow.list{G H:Hp}{a:Addr}{vs:List V}{M:List D}{e1:AS}(h:H a=some (.lst vs))(ha:e1 a)(r:aB K G vs M):Ow K G H (.ref a) (Tn.of (.lst M)) e1:=.lst (S1:=λ_=>False) h ha (λ_ z=>z.elim) (.of r)
def Ow.bY{G H:Hp}{M:List D}{e1:AS}(t:Ow K G H v (Tn.of (.lst M)) e1):∃a vs,v=.ref a/\e1 a/\H a=some (.lst vs)/\aB K G vs M:=by cases t with|lst h ha sub r=>exact⟨_,_,rfl,ha,h,r.off⟩
def HJ(aL:List (Am×D)):(aL.map λp=>(p.1,Tn.sh p.2)).map (·.2)=(aL.map (·.2)).map Tn.sh:=by rw[D1,D1];rfl
def Jh(aL:List (Am×D)):(aL.map λp=>(p.1,Tn.sh p.2)).map (·.1)=aL.map (·.1):=by rw[D1];rfl
def Ow.dict{G H:Hp}{a:Addr}{kvs:List (Am×V)}{aL:List (Am×D)}{e1:AS}(h:H a=some (.dK kvs))(hk:kvs.map (·.1)=aL.map (·.1))(ha:e1 a)(r:aB K G (kvs.map (·.2)) (aL.map (·.2))):Ow K G H (.ref a) (Tn.of (.aF aL)) e1:=.aF (S1:=λ_=>False) h (by rw[Jh];exact hk) ha (λ_ z=>z.elim) (by rw[HJ];exact .of r)
def Ow.fO{G H:Hp}{aL:List (Am×D)}{e1:AS}(t:Ow K G H v (Tn.of (.aF aL)) e1):∃a kvs,v=.ref a/\e1 a/\H a=some (.dK kvs)/\kvs.map (·.1)=aL.map (·.1)/\aB K G (kvs.map (·.2)) (aL.map (·.2)):=by generalize e:Tn.of (.aF aL)=t' at t;cases t with|aF h hk ha sub r=>injection e with e;subst e;rw[HJ]at r;rw[Jh]at hk;exact⟨_,_,rfl,ha,h,hk,r.off⟩|_=>cases e
structure Step(G H G' O:Hp):Prop where
 hh:aA H O
 gh:aA G' O
 gg:aA G G'
 nw:∀b,G b=none->H b≠none->G' b=none
theorem Step.refl{G H:Hp}(h:aA G H):Step G H G H:=⟨aA.refl _,h,aA.refl _,λ_ e _=>e⟩
theorem Step.trans{G H G1 H1 G2 H2:Hp}(a:Step G H G1 H1)(b:Step G1 H1 G2 H2):Step G H G2 H2:=⟨a.hh.trans b.hh,b.gh,a.gg.trans b.gg,λc e n=>b.nw c (a.nw c e n) λz=>n (a.hh.free z)⟩
def iV{p:Addr}(h:H p=none)(o:HO):aA H (upd H p o):=λb u q=>by rw[Ax (Eu q h)];exact q
def aaN{G H:Hp}(h:aA G H)(p:Addr)(o:HO):aA (upd G p o) (upd H p o):=λb u q=>by by_cases e:b=p;subst e;rw[Bo]at q⊢;exact q;rw[Ax e]at q⊢;exact h b u q
def Step.new{G H:Hp}(h:aA G H){p:Addr}(e:H p=none)(o:HO):Step G H (L2.upd G p o) (L2.upd H p o):=⟨iV e o,aaN h p o,iV (h.free e) o,λb n z=>by by_cases q:b=p;subst q;exact absurd e z;rw[Ax q];exact n⟩
def Step.own{G H:Hp}(h:aA G H){p:Addr}(e:H p=none)(o:HO):Step G H G (L2.upd H p o):=⟨iV e o,h.trans (iV e o),aA.refl _,λ_ n _=>n⟩
open Classical in
def Ca(G H:Hp)(e1:AS):Hp:=λb=>if e1 b then H b else G b
def WP(K:Frag)(G H:Hp)(w:W)(Q:VK):Prop:=match w with|.sh d=>∀v G' O,Step G H G' O->aP K G' v d->Q v O|.ow d=>∀v e1 G' O,Step G H G' O->(∀a,e1 a->H a=none/\G' a=none/\O a≠none)->Ow K G' O v (Tn.of d) e1->Q v O|.tr t=>∀v e1 G' O,Step G H G' O->(∀a,e1 a->H a=none/\G' a=none/\O a≠none)->Ow K G' O v t e1->Q v O
structure iY where
 p:Xn->Hp->Hp->Prop
 mono:∀x G H G' O,Step G H G' O->p x G H->p x G' O
def EX0:iY:=⟨λ_ _ _=>False,λ_ _ _ _ _ _ h=>h⟩
abbrev Be:=Sg->iY
def Cl:Be:=λ_=>EX0
def Out(K:Frag)(EX:iY)(G H:Hp)(r:R W)(Q:VK):Prop:=match r with|.ok w=>WP K G H w Q|.ex x=>EX.p x G H|.no=>False
section
variable{K:Frag}{EX:iY}{G H G' O:Hp}{Q Q':VK}{w:W}
def WP.mono(s:Step G H G' O)(h:WP K G H w Q):WP K G' O w Q:=by cases w with|sh d=>exact λv G2 H2 s2 r=>h v G2 H2 (s.trans s2) r|ow d=>exact λv e1 G2 H2 s2 fr t=>h v e1 G2 H2 (s.trans s2) (λa ha=>⟨s.hh.free (fr a ha).1,(fr a ha).2⟩) t|tr d=>exact λv e1 G2 H2 s2 fr t=>h v e1 G2 H2 (s.trans s2) (λa ha=>⟨s.hh.free (fr a ha).1,(fr a ha).2⟩) t
theorem Out.mono{r:R W}(s:Step G H G' O)(h:Out K EX G H r Q):Out K EX G' O r Q:=by cases r with|ok w=>exact WP.mono s h|ex x=>exact EX.mono _ _ _ _ _ s h|no=>exact h
def WP.join{t:Tn}{e1:AS}(h:∀v G' O,Step G H G' O->aP K G' v t.d->Q v O)(s:Step G H G' O)(fr:∀a,e1 a->H a=none/\G' a=none/\O a≠none)(t:Ow K G' O v t e1):Q v O:=by
 have sg:aA G' (Ca G' O e1):=λb o q=>by unfold Ca;split;rename_i J;rw[(fr b J).2.1]at q;cases q;exact q
 refine h v (Ca G' O e1) O ⟨s.hh,λb o q=>?_,s.gg.trans sg,λb n z=>?_⟩ (t.has sg λb o J q=>?_);unfold Ca at q;split at q;exact q;exact s.gh b o q;unfold Ca;split;rename_i J;exact absurd (fr b J).1 z;exact s.nw b n z;unfold Ca;rw[if_pos J];exact q
def WP.intro(h:∀v G' O,Step G H G' O->aP K G' v w.d->Q v O):WP K G H w Q:=by cases w with|sh d=>exact h|ow d=>exact λv e1 G' O s fr t=>WP.join (t:=Tn.of d) (by rw[Tn.dW];exact h) s fr t|tr d=>exact λv e1 G' O s fr t=>WP.join h s fr t
theorem WP.sh(h:WP K G H (.sh w.d) Q):WP K G H w Q:=WP.intro h
def WP.use{d:D}(h:WP K G H (.sh d) Q)(s:aA G H)(r:aP K G v d):Q v H:=h v G H (Step.refl s) r
end
inductive ExcAt(K:Frag)(G:Hp):Value->Option Addr->Xn->Prop where
 |bare {C:Addr}{c:Str}(hc:ClsAt K c C):ExcAt K G (.ref C) none ⟨c,[],[]⟩
 |iD {C d:Addr}{c:Str}{ns:List Str}{us:List V}{vs:List D}(hc:ClsAt K c C) (hd:G d=some (.xd (ns.zip us))) (hl:ns.length=us.length) (r:aB K G us vs):ExcAt K G (.ref C) (some d) ⟨c,ns,vs⟩
def bK(K:Frag)(E:XK):iY:=⟨λx G H=>∀cls dx G' O,Step G H G' O->ExcAt K G' cls dx x->E cls dx O,λ_ _ _ _ _ s h cls dx G2 H2 s2=>h cls dx G2 H2 (s.trans s2)⟩
def nz(K:Frag)(EX:iY):XK:=λcls dx H=>∃x G,aA G H/\ExcAt K G cls dx x/\EX.p x G H
def nz.of{E:XK}{cls:Value}{dx:Option Addr}(h:nz K (bK K E) cls dx H):E cls dx H:=by obtain⟨x,G,s,e,q⟩:=h;exact q cls dx G H (Step.refl s) e
def bK.in{EX:iY}{G H:Hp}{x:Xn}(q:EX.p x G H):(bK K (nz K EX)).p x G H:=λ_ _ G' O st e=>⟨x,G',st.gh,e,EX.mono _ _ _ _ _ st q⟩
abbrev DE:=List (Option D)
abbrev FE:=DE->R W
abbrev FT:=DE->R Bool
abbrev FA:=DE->R (List D)
structure aT(K:Frag)(G:Hp)(Y:Sg)(δ:DE):Prop where
 len:Y.length=δ.length
 get:∀(i:Nat) (d:D),δ[i]?=some (some d)->∃v,Y[i]?=some (some v)/\aP K G v d
theorem aT.mono{G G':Hp}{Y:Sg}{δ:DE}(e:aA G G')(h:aT K G Y δ):aT K G' Y δ:=⟨h.len,λi d q=>by obtain⟨v,S,r⟩:=h.get i d q;exact⟨v,S,r.mono e⟩⟩
def tD(K:Frag)(EX:Be)(f:FE):TE:=λ Y H Q=>∃G δ,aA G H/\aT K G Y δ/\Out K (EX Y) G H (f δ) Q
def dQ(K:Frag)(EX:Be)(f:FT):TT:=λ Y H Q=>∃G δ,aA G H/\aT K G Y δ/\match f δ with|.ok b=>∀G' O,Step G H G' O->Q b O|.ex x=>(EX Y).p x G H|.no=>False
def dR(K:Frag)(EX:Be)(f:FA):TA:=λ Y H Q=>∃G δ,aA G H/\aT K G Y δ/\match f δ with|.ok M=>∀vs G' O,Step G H G' O->aB K G' vs M->Q vs O|.ex x=>(EX Y).p x G H|.no=>False
abbrev ED(X:Cx)(EX:Be)(e:Expr)(f:FE):Prop:=PE X e (tD X.K EX f)
abbrev TD(X:Cx)(EX:Be)(e:Expr)(f:FT):Prop:=PT X e (dQ X.K EX f)
abbrev AD(X:Cx)(EX:Be)(es:List Expr)(f:FA):Prop:=PA X es (dR X.K EX f)
def PE.imp{e:Expr}{t t':TE}(h:PE X e t)(i:∀Y H Q,t' Y H Q->t Y H Q):PE X e t':=λZ s Y H Q I q=>h Z s Y H Q I (i Y H Q q)
def PT.imp{e:Expr}{t t':TT}(h:PT X e t)(i:∀Y H Q,t' Y H Q->t Y H Q):PT X e t':=λZ s Y H Q I q=>h Z s Y H Q I (i Y H Q q)
def PW.imp{e:Expr}{t t':TT}(h:PW X e t)(i:∀Y H Q,t' Y H Q->t Y H Q):PW X e t':=λwh Z s Y H Q I q=>h wh Z s Y H Q I (i Y H Q q)
def PA.imp{e:List Expr}{t t':TA}(h:PA X e t)(i:∀Y H Q,t' Y H Q->t Y H Q):PA X e t':=λpos Z s Y H Q I q=>h pos Z s Y H Q I (i Y H Q q)
def PS.imp{e:Stmt}{t t':TS}(h:PS X e t)(i:∀D Y H,t' D Y H->t D Y H):PS X e t':=λZ s Y H D I q=>h Z s Y H D I (i D Y H q)
def gI.imp{e:List Stmt}{t t':TS}(h:gI X e t)(i:∀D Y H,t' D Y H->t D Y H):gI X e t':=λZ s Y H D I q=>h Z s Y H D I (i D Y H q)
section
variable{K:Frag}{EX:Be}{G H:Hp}{Y:Sg}{δ:DE}{Q:VK}
def tD.seq{f:FE}{k:W->R W}{P:VK}(g:aA G H)(s:aT K G Y δ)(h:Out K (EX Y) G H ((f δ).bind k) Q)(i:∀w v G' O,f δ=.ok w->Step G H G' O->aP K G' v w.d->Out K (EX Y) G' O (k w) Q->P v O):tD K EX f Y H P:=by refine⟨G,δ,g,s,?_⟩;cases e:f δ with|ok w=>rw[e]at h;exact WP.intro λv G' O st r=>i w v G' O e st r (Out.mono st h)|ex x=>rw[e]at h;exact h|no=>rw[e]at h;exact h
def dQ.seq{f:FT}{k:Bool->R W}{P:Bool->Hp->Prop}(g:aA G H)(s:aT K G Y δ)(h:Out K (EX Y) G H ((f δ).bind k) Q)(i:∀b G' O,f δ=.ok b->Step G H G' O->Out K (EX Y) G' O (k b) Q->P b O):dQ K EX f Y H P:=by refine⟨G,δ,g,s,?_⟩;cases e:f δ with|ok w=>rw[e]at h;exact λG' O st=>i w G' O e st (Out.mono st h)|ex x=>rw[e]at h;exact h|no=>rw[e]at h;exact h
abbrev AF:=List D->R W
def dR.seq{f:FA}{k:AF}{P:List V->Hp->Prop}(g:aA G H)(s:aT K G Y δ)(h:Out K (EX Y) G H ((f δ).bind k) Q)(i:∀M vs G' O,f δ=.ok M->Step G H G' O->aB K G' vs M->Out K (EX Y) G' O (k M) Q->P vs O):dR K EX f Y H P:=by refine⟨G,δ,g,s,?_⟩;cases e:f δ with|ok w=>rw[e]at h;exact λvs G' O st r=>i w vs G' O e st r (Out.mono st h)|ex x=>rw[e]at h;exact h|no=>rw[e]at h;exact h
end
def qh{EX:iY}{G H:Hp}{Q:VK}{M:List D}{vs:List V}(o:Out K EX G H (.ok (.ow (.lst M))) Q)(g:aA G H)(r:aB K G vs M):∀p,H p=none->Q (.ref p) (upd H p (.lst vs)):=λp hp=>o (.ref p) (λb=>b=p) G _ (Step.own g hp _) (λa e=>by subst e;exact⟨hp,g.free hp,by rw[Bo];simp⟩) (.list Bo rfl r)
end L3
namespace L3
open PySem PySem.Spec PyProof.Rows L2
variable{K:Frag}{fd:FuncData}{mg:AB}{us:List Value}{base:Heap}{H:Hp}{X:Cx}{pos:Pos}{v:V}
section
variable{prog:Program}{w:World}{A:Around}{E:AA}{s:Shared}
end
structure Tr(h:Heap)(a C:Addr)(dx:Option Addr)(fl:Value)(T:Addr):Prop where
 ob:∃o us,h.get? a=some o/\o.cls=.ref C/\o.dict=dx/\o.data=.fields us/\us[1]?=some (.ref T)/\us[2]?=some .none
 ne:T≠a
 tb:∃o us,h.get? T=some o/\o.data=.fields us/\us[3]?=some fl
structure bP(xs fr:List Addr)(h h':Heap):Prop where
 same:∀b o,b∉xs->b∉fr->h.get? b=some o->h'.get? b=some o
 slot:∀b o,b∉xs->h.get? b=some o->∃sl,h'.get? b=some {o with slots:=sl}
def bP.trans{xs ys fr:List Addr}{h1 h2 h3:Heap}(a:bP xs fr h1 h2)(b:bP ys fr h2 h3):bP (xs++ys) fr h1 h3:=⟨λc o n m e=>b.same c o (λz=>n (B8 _ z)) m (a.same c o (λz=>n (N0 _ z)) m e),λc o n e=>by obtain⟨sl,S⟩:=a.slot c o (λz=>n (N0 _ z)) e;obtain⟨Qo,e2⟩:=b.slot c _ (λz=>n (B8 _ z)) S;exact⟨Qo,e2⟩⟩
def bP.of_same{xs fr:List Addr}{h h':Heap}(k:∀b o,b∉xs->h.get? b=some o->h'.get? b=some o):bP xs fr h h':=⟨λb o n _ e=>k b o n e,λb o n e=>⟨o.slots,k b o n e⟩⟩
def aaM(o:Obj)(f:Array Value->Array Value):(o.mapFields f).dict=o.dict:=by obtain⟨c,d,dt,sl⟩:=o;cases dt<;>rfl
section
variable{ds:Model}{A:Around}{E:AA}{s:Shared}{env:Env}{outer:List Env}{base:Heap}{ks a C:Addr}{dx:Option Addr}{Q:Unit->Shared->Prop}
def Jg{o:Obj}{us:Array Value}{head:Value}{b:Bool}(qF:A.frames=some (env::outer))(hl:s.heap.FunFrames base (env::outer))(hf:env.frame=some ks)(he:s.heap.get? a=some o) (hc:o.cls=.ref C) (hx:o.dict=dx) (hd:o.data=.fields us) (hz:1<us.size) (c2:us[2]?=some .none)(h:∀h' T,s.heap.objs.size<=T->bP [a] (fV (env::outer)) s.heap h'->Tr h' a C dx (rawInt ks) T->Q .unit {s with heap:=h'}):wpAny ds A (do let fv<-frameOf env;let pl<-entryPlaceOf ks b;let en<-EntryCells.newEntry head fv .none (rawInt ks) .none pl;setField (.ref a) 1 en) Q E s:=by
 have nfr:a∉fV (env::outer):=λhm=>by obtain⟨_,u,hu,hn⟩:=hl.mem hm;rw[he]at hu;cases hu;exact hn us hd
 refine A8 (wpAny_frameOf_fun qF hl hf λh1 so=>?_);refine A8 (wpAny_entryPlaceOf λpl bM=>?_);unfold EntryCells.newEntry newFields;refine A8 (SW ?_ (bM.sizeOk5 _ _ _ _ _));have S:h1.get? a=some o:=(so.2.1 a nfr).trans he;generalize hT:({cls:=.type "traceback",dict:=none,data:=.fields ([head,.ref ks,.none,rawInt ks,.none]++(if pl.isEmpty then List.replicate 6 Value.none else pl)).toArray}:Obj)=oT;have eT:oT.data=.fields ([head,.ref ks,.none,rawInt ks,.none]++(if pl.isEmpty then List.replicate 6 Value.none else pl)).toArray:=by rw[<-hT]
 have e2:(h1.push oT).get? a=some o:=A5 oT S;refine SA e2 hd hz ?_;have sz:h1.objs.size=s.heap.objs.size:=so.1;have ltA:a<s.heap.objs.size:=B2 he;have neT:h1.objs.size≠a:=λz=>absurd ltA (by rw[<-z,sz];exact F3 _);have d3:=Ta hd (·.setIfInBounds 1 (Value.ref h1.objs.size));refine h _ h1.objs.size (by rw[sz];exact A9 _) ⟨λb u n m e=>?_,λb u n e=>?_⟩ ⟨⟨_,_,R5 _ e2 (X7 d3),(Obj.cls_mapFields _ _).trans hc,(aaM _ _).trans hx,d3,?_,?_⟩,neT,⟨oT,_,?_,eT,?_⟩⟩;have nb:a≠b:=λz=>n (by simp[z]);rw[K3 _ _ nb];exact A5 oT ((so.2.1 b m).trans e);have nb:a≠b:=λz=>n (by simp[z]);obtain⟨sl,es⟩:=so.2.2 b u e;exact⟨sl,by rw[K3 _ _ nb];exact A5 oT es⟩;simp[hz];rw[<-c2];simp;rw[K3 _ _ (Ne.symm neT)];exact D0 h1 (X7 eT)
 ·first|(simp;done)|(rcases bM with rfl|⟨_,_,_,_,_,_,_,rfl⟩<;>simp)
def acX{o:Obj}{us:Array Value}(qF:A.frames=some (env::outer))(hl:s.heap.FunFrames base (env::outer))(hf:env.frame=some ks)(he:s.heap.get? a=some o) (hc:o.cls=.ref C) (hx:o.dict=dx) (hd:o.data=.fields us) (h1:us[1]?=some .none) (c2:us[2]?=some .none)(h:∀h' T,s.heap.objs.size<=T->bP [a] (fV (env::outer)) s.heap h'->Tr h' a C dx (rawInt ks) T->Q .unit {s with heap:=h'}):wpAny ds A (noteFrame (.ref a) env) Q E s:=by unfold noteFrame;simp only[hf];refine A8 (PR he hd h1 ?_);rw[if_neg ⋯];exact Jg qF hl hf he hc hx hd (R0.mp h1).1 c2 h
def LP{T0:Addr}(qF:A.frames=some (env::outer))(hl:s.heap.FunFrames base (env::outer))(hf:env.frame=some ks)(t:Tr s.heap a C dx .none T0)(h:∀h' T,s.heap.objs.size<=T->bP [a,T0] (fV (env::outer)) s.heap h'->Tr h' a C dx (rawInt ks) T->Q .unit {s with heap:=h'}):wpAny ds A (noteFrame (.ref a) env) Q E s:=by
 obtain⟨⟨o,us,he,hc,hx,hd,h1,c2⟩,ne,⟨oT,ws,hT,ng,h3⟩⟩:=t;unfold noteFrame;simp only[hf];refine A8 (PR he hd h1 ?_);rw[if_pos (show(Value.ref T0 !=Value.none)=true from by simp)];refine A8 (PR hT ng h3 ?_);rw[if_neg (show¬((Value.none ==rawInt ks)=true) from by simp[rawInt])];refine A8 (SA hT ng (R0.mp h3).1 ?_);have OI:∀b,b≠T0->(s.heap.update T0 (Obj.mapFields (·.setIfInBounds 3 Value.none))).get? b=s.heap.get? b:=λb J=>K3 _ _ (Ne.symm J);have iw:∀b u,s.heap.get? b=some u->(∀zs,u.data≠.fields zs)->b≠T0:=λb u J hn q=>by subst q;rw[hT]at J;cases J;exact hn ws ng
 refine Jg (s:={s with heap:=s.heap.update T0 (Obj.mapFields (·.setIfInBounds 3 Value.none))}) qF (hl.of_keeps λb u J hn=>⟨u,(OI b (iw b u J hn)).trans J,rfl⟩) hf ((OI a (Ne.symm ne)).trans he) hc hx hd (R0.mp h1).1 c2 λh' T n k tr=>h h' T ?_ ?_ tr;have zz:(s.heap.update T0 (Obj.mapFields (·.setIfInBounds 3 Value.none))).objs.size=s.heap.objs.size:=Heap.size_update _ _ _;rw[<-zz];exact n;have na:∀b,b∉ [a,T0]->b∉ [a]:=λb nb z=>nb (by rw[E7.mp z];exact K7);have nT:∀b,b∉ [a,T0]->b≠T0:=λb nb z=>nb (by rw[z];simp);exact⟨λb u nb m e=>k.same b u (na b nb) m ((OI b (nT b nb)).trans e),λb u nb e=>k.slot b u (na b nb) ((OI b (nT b nb)).trans e)⟩
def Og{T:Addr}{fl:Value}(t:Tr s.heap a C dx fl T)(h:∀h',(∀b o,b∉ [T]->s.heap.get? b=some o->h'.get? b=some o)->Tr h' a C dx .none T->Q .unit {s with heap:=h'}):wpAny ds A (setFlight (.ref a) none) Q E s:=by obtain⟨⟨o,us,he,hc,hx,hd,h1,c2⟩,ne,⟨oT,ws,hT,ng,h3⟩⟩:=t;have sz3:3<ws.size:=(R0.mp h3).1;unfold setFlight;refine A8 (PR he hd h1 ?_);rw[if_pos (show(Value.ref T !=Value.none)=true from by simp)];refine SA hT ng sz3 (h _ (λb u n e=>?_) ⟨⟨o,us,?_,hc,hx,hd,h1,c2⟩,ne,⟨_,_,R5 _ hT (X7 (Ta ng _)),Ta ng _,?_⟩⟩);rw[K3 _ _ (λz=>n (by simp[z]))];exact e;rw[K3 _ _ ne];exact he;simp[sz3]
end
def kK(P:Program)(w:World):qe:=λouter H s E e s'=>∃a C dx T O,e=.ref a/\s'.os=s.os/\AllBare s'.gens/\Un (fV outer) [] H O s.heap s'.heap/\cF P w O s'.heap/\Tr s'.heap a C dx .none T/\O a=none/\O T=none/\s.heap.objs.size<=a/\s.heap.objs.size<=T/\E (.ref C) dx O
section
variable{X:Cx}{Z:AE}{Y:Sg}{H O:Hp}{s s':Shared}
def Inv.settle{ch:List Addr}{h2:Heap}(I:Inv X Z Y H s)(I':Inv X Z Y O s')(n:∀b∈ch,s.heap.objs.size<=b/\O b=none)(k:bP ch (fV X.stack) s'.heap h2):Inv X Z Y O {s' with heap:=h2}:=by have qj:∀b u,O b=some u->b∉ch/\b∉fV X.stack:=λb u e=>⟨λz=>(by rw[(n b z).2]at e;cases e),λz=>(by rw[I'.dF b z]at e;cases e)⟩;refine I'.step (g':=s'.gens) (d':=s'.drawn) (t':=s'.toks) (ch:=ch) (λb J=>?_) (λb o h1 h2 h3 e _=>k.same b o h3 (λz=>?_) e) (λb o _ _ h3 e _=>k.slot b o h3 e) (λ_ _ _ _ z=>z) (λb o h3 e=>?_) (λ_ _ z=>z) (λ_ _ _ z=>z) (λb ps z=>⟨#[],by rw[z];simp⟩) (λm hm=>?_) (λb u e=>?_) I'.bare;have lb:=(n b J).1;refine⟨.inr (D2 I.sz lb),λz=>?_,λx c e z=>?_,λp hp z=>?_⟩;exact absurd (C9 I.lt lb) (by rw[z];exact F3 _);obtain⟨v,hv⟩:=I.cell x c e;exact absurd (C9 hv.lt lb) (by rw[z];exact F3 _);exact absurd (C9 (B2 (I.pin p hp).1) lb) (by rw[z];exact F3 _);rcases C5.mp (I'.cN b z)with z|z;exact h1 z;exact h2 z;obtain⟨sl,q⟩:=k.slot b o h3 e;exact⟨_,q⟩;obtain⟨o,es,ep,ho,r⟩:=hm;have nl:X.env.locals∉ch:=λz=>absurd (C9 I.lt (n _ z).1) (F3 _);obtain⟨sl,q⟩:=k.slot _ o nl ho;exact⟨_,es,ep,q,r⟩;refine(I'.aJ b u e).cU (λc v hc q=>?_) (λ_ z=>z) λ_ _ z=>z;rcases hc with rfl|hc;exact k.same c v (qj c u e).1 (qj c u e).2 q;exact k.same c v (qj c _ hc).1 (qj c _ hc).2 q
def Inv.raised{E:XK}{e:Value}(I:Inv X Z Y H s)(c:kK X.prog X.w X.stack H s E e s'):∃a C dx T O,e=.ref a/\Inv X Z Y O s'/\Tr s'.heap a C dx .none T/\O a=none/\O T=none/\s.heap.objs.size<=a/\s.heap.objs.size<=T/\E (.ref C) dx O:=by obtain⟨a,C,dx,T,O,S,os,br,un,aJ,tr,n1,n2,z1,z2,q⟩:=c;exact⟨a,C,dx,T,O,S,I.uO (ch:=[]) os un aJ br (λb z=>absurd z (by simp)),tr,n1,n2,z1,z2,q⟩
end
section
variable{cm:Bool}{P:Program}{w:World}{K:Frag}{mg:AB}{base:Heap}{N:List Str}{qual:Str}{scope:Scope}{f:Addr}{cd:Value}{A:Around}{outer:List Env}{s0:Shared}{H0:Hp}{E E':XK}
def abX{Z:AE}{Y:Sg}{s s':Shared}{e:Value}(I:Inv ({Gc (kK P w) P w K mg base N qual scope f cd A outer s0 H0 E with calm:=cm}:Cx) Z Y H s)(c:kK P w ({Gc (kK P w) P w K mg base N qual scope f cd A outer s0 H0 E with calm:=cm}:Cx).stack H s E' e s') (i:∀cls dx O,E' cls dx O->E cls dx O):({Gc (kK P w) P w K mg base N qual scope f cd A outer s0 H0 E with calm:=cm}:Cx).xe e s':=by
 obtain⟨a,C,dx,T,O,rfl,I',tr,n1,n2,z1,z2,q⟩:=Inv.raised I c;show wpAny (model P w) _ (leaving _ _) _ _ s';unfold leaving;refine A8 (LP I'.ok.frames I'.stack rfl tr λh1 T2 z3 k1 t1=>?_);refine Og t1 λh2 k2 t2=>?_;have tQ:O T2=none:=I'.aJ.fresh z3;have hb:Inv ({Gc (kK P w) P w K mg base N qual scope f cd A outer s0 H0 E with calm:=cm}:Cx) Z Y O {s' with heap:=h2}:=by
  refine Inv.settle (ch:=[a,T]++[T2]) I I' (λb J=>?_) (k1.trans (bP.of_same k2));have:b=a\/b=T\/b=T2:=by simpa using J
  rcases this with rfl|rfl|rfl;exact⟨z1,n1⟩;exact⟨z2,n2⟩;exact⟨D2 (D2 (A9 _) z1) (D2 (P8 (B2 tr.ob.choose_spec.choose_spec.1)) z3),tQ⟩
 exact⟨a,C,dx,T2,O,rfl,hb.os,hb.bare,hb.base,hb.aJ,t2,n1,tQ,D2 I.sz z1,D2 I'.sz z3,i _ _ _ q⟩
def aew{Z:AE}{Y:Sg}{H O:Hp}{s s':Shared}{a C:Addr}{dx:Option Addr}{o:Obj}{us:Array Value}(I:Inv ({Gc (kK P w) P w K mg base N qual scope f cd A outer s0 H0 E with calm:=cm}:Cx) Z Y H s)(I':Inv ({Gc (kK P w) P w K mg base N qual scope f cd A outer s0 H0 E with calm:=cm}:Cx) Z Y O s') (he:s'.heap.get? a=some o) (hc:o.cls=.ref C) (hx:o.dict=dx) (hd:o.data=.fields us) (h1:us[1]?=some .none) (c2:us[2]?=some .none) (n1:O a=none) (z1:s.heap.objs.size<=a) (q:E (.ref C) dx O):({Gc (kK P w) P w K mg base N qual scope f cd A outer s0 H0 E with calm:=cm}:Cx).xe (.ref a) s':=by
 show wpAny (model P w) _ (leaving _ _) _ _ s';unfold leaving;refine A8 (acX I'.ok.frames I'.stack rfl he hc hx hd h1 c2 λh1 T2 z3 k1 t1=>?_);refine Og t1 λh2 k2 t2=>?_;have tQ:O T2=none:=I'.aJ.fresh z3;have hb:Inv ({Gc (kK P w) P w K mg base N qual scope f cd A outer s0 H0 E with calm:=cm}:Cx) Z Y O {s' with heap:=h2}:=by
  refine Inv.settle (ch:=[a]++[T2]) I I' (λb J=>?_) (k1.trans (bP.of_same k2));have:b=a\/b=T2:=by simpa using J
  rcases this with rfl|rfl;exact⟨z1,n1⟩;exact⟨D2 z1 (D2 (P8 (B2 he)) z3),tQ⟩
 exact⟨a,C,dx,T2,O,rfl,hb.os,hb.bare,hb.base,hb.aJ,t2,n1,tQ,D2 I.sz z1,D2 I'.sz z3,q⟩
end
section
variable{prog:Program}{w:World}{A:Around}{E:AA}{h:Heap}{g:Array GenState}{d:Drawn}{t:Nat}{os:OsState}
variable{nm q:Str}{C N:Addr}{bs bm qP:List Value}{bp:Bool}{sn:List Str}{sub:List Value}{ab:Bool}{col:Option Bool}{dd:Option Addr}{k0 k1 k2 k3 k5:Option Value}{Δ newId ah:String}
def abW(FB:ExcBaseFacts Δ newId ah qP)(T:OwnTail h qP bm){mN:AB}{fI:Addr}{oI:Obj}{Q:PySem.Fin->Shared->Prop}(hC:h.get? C=some (excClassObj nm q C N bs bm bp sn sub ab col dd k0 k1 k2 k3 k5 newId)) (hn:h.Ns N mN) (hi:mN "__init__"=some (.ref fI)) (ho:h.get? fI=some oI) (hf:oI.cls=.type "function")(z:∀h' e,Heap.MadeExcOf h h' e (.ref C) us->h.objs.size<=e->wpAny (model prog w) A (call (.ref fI) (.ref e::us)) (λr s'=>r=.none/\Q (.done (.ret (.ref e))) s') E ⟨h',g,d,t,os⟩) (hu:us.length<=sizeLine):wpAny (model prog w) A (Builtin.«type.__call__» ⟨.ref C::us,[]⟩) Q E ⟨h,g,d,t,os⟩:=by
 wp_walk using O7 hC,wpAny_madeBy_exc hC;refine ZA7 (W8 _ FB.quiet) (wpAny_check_new_subT FB T hC ?_);refine codeAny_exc_new_subT FB T hC ?_ hu;show wpAny _ _ _ _ _ _;generalize S:({cls:=.type "tuple",data:=.seq us.toArray}:Obj)=o1;generalize e2:({cls:=.ref C,data:=.fields #[.ref h.objs.size,.none,.none,.none,.bool false,.none]}:Obj)=o2;have up:∀b o,h.get? b=some o->((h.push o1).push o2).get? b=some o:=λb o e=>A5 _ (A5 _ e);have ge:((h.push o1).push o2).get? (h.objs.size+1)=some o2:=by have:=D0 (h.push o1) (o:=o2) (by rw[<-e2];rfl);rwa[N7]at this
 have gt:((h.push o1).push o2).get? h.objs.size=some o1:=A5 _ (D0 h (by rw[<-S];rfl));have vD:=up _ _ hC;have vA:((h.push o1).push o2).Ns N mN:=hn.keeps up;have cl:o2.cls=.ref C:=by rw[<-e2]
 have uv:List.contains (Value.ref C::bm) (.ref C)=true:=X8.mpr (.head _);unfold isInstance;repeat (first|(with_reducible refine O7 ge ?_;rw[cl])|(with_reducible refine Z4 vD ?_;rw[uv])|wp_step)
 change wpAny _ _ (mroOf (.ref C)>>=λl=>lookupAlong l _) _ _ _;refine A8 (wpAny_mroOf_exc vD ?_);rw[lookupAlong_cons];refine A8 (wpAny_classOwn_exc vD vA ?_);rw[hi];refine E9 (S6 (A8 ?_));unfold bindSpecial;refine A8 (wpAny_typeOf (T:="function") ⟨_,up _ _ ho,hf⟩ ?_);rw[if_pos ⋯];refine E9 (A8 (F5 (z _ (h.objs.size+1) ⟨up,R8 (P4 _),h.objs.size,by rw[e2];exact ge,R8 (A9 _),by rw[S];exact gt⟩ (P4 _)) (λr s' hr=>?_) λ_ _ x=>x));obtain⟨rfl,hQ⟩:=hr;wp_walk;exact hQ
def aaL(FB:ExcBaseFacts Δ newId ah qP)(T:OwnTail h qP bm){mN:AB}{fI:Addr}{oI:Obj}{Q:AA}(hC:h.get? C=some (excClassObj nm q C N bs bm bp sn sub ab col dd k0 k1 k2 k3 k5 newId)) (hn:h.Ns N mN) (hi:mN "__init__"=some (.ref fI)) (ho:h.get? fI=some oI) (hf:oI.cls=.type "function")(z:∀h' e,Heap.MadeExcOf h h' e (.ref C) us->h.objs.size<=e->wpAny (model prog w) (A.under (.builtin "type.__call__" ⟨.ref C::us,[]⟩)) (call (.ref fI) (.ref e::us)) (λr s'=>r=.none/\Q (.ref e) s') E ⟨h',g,d,t,os⟩) (hu:us.length<=sizeLine):wpAny (model prog w) A (call (.ref C) us) Q E ⟨h,g,d,t,os⟩:=by have f1:=tc_lookup;have f2:=tc_bind (.ref C);have Dh:Shared.TypeIs ⟨h,g,d,t,os⟩ (.ref C) "type" :=⟨_,hC,rfl⟩;refine Y4 (codeAny_of_tree (?_:wpAny _ _ (callAny (.ref C) _) _ _ _));wp_walk using O7 hC;refine⟨rfl,?_⟩;exact ZC3 (W8 _ nofun) entry_typeCall (ZA8 hC (abW FB T hC hn hi ho hf (λh' e hm hz=>z h' e hm hz) hu))
def LO{ds:Model}{env:Env}{s:Shared}{x:Sem Value}{Q:Flow->Shared->Prop}(J:bm.contains (.type "BaseException")=true)(hh:A.handled=none)(z:wpAny ds A x (λv s1=>∃e t dx,v=.ref e/\s1.heap.get? C=some (excClassObj nm q C N bs bm bp sn sub ab col dd k0 k1 k2 k3 k5 newId)/\s1.heap.get? e=some {cls:=.ref C,dict:=dx,data:=.fields #[.ref t,.none,.none,.none,.bool false,.none]}/\E (.ref e) s1) E s):wpAny ds A (raiseStmt env (some x) none) Q E s:=by
 have hcB:(Value.ref C::bm).contains (.type "BaseException")=true:=by rw[R1,J,PX]
 unfold raiseStmt;refine A8 (F5 z (λv s1 z1=>?_) λ_ _ y=>y);obtain⟨e,t,dx,rfl,hC,he,hE⟩:=z1;obtain⟨hp,g,d,tk,os⟩:=s1;repeat (first|with_reducible refine O7 he ?_|with_reducible refine O7 hC ?_|(with_reducible refine Z4 hC ?_;rw[hcB])|wp_step)
 exact wpAny_raiseNew_none hh hE
end
section
variable{X:Cx}{EX:Be}{a b c:Expr}{f g h:FE}{pos:Pos}
noncomputable def Aa(i:Nat):FE:=λ δ=>match δ[i]? with|some (some d)=>.ok (.sh d)|_=>.no
def eC(d:D):FE:=λ_=>.ok (.sh d)
def Ac(i:Nat){x:Str}(hN:X.N[i]?=some x:=by rfl)(hv:Ff X.env.scope x:=by trivial)(hd:AG x:=by decide)(bI:(x ==("__classdict__" :Str))=false:=by decide):ED X EX (.Name x pos) (Aa i):=PE.imp (Fp hN hv hd bI) λ Y H Q ⟨G,δ,g,s,o⟩=>by unfold Aa at o;split at o;rename_i d e;obtain⟨v,S,r⟩:=s.get i d e;exact⟨v,S,WP.use o g r⟩;exact o.elim
def mw{e:Expr}{d:D}(he:PE X e (tC v))(hd:∀G,aP X.K G v d):ED X EX e (eC d):=PE.imp he λ Y H Q ⟨G,δ,g,s,o⟩=>WP.use o g (hd G)
def Ap{i:Int}{j pos}:ED X EX (.Constant (.int i) j pos) (eC (.int i)):=mw Xk λ_=>.int i
def fX{b:Bool}{j pos}:ED X EX (.Constant (.bool b) j pos) (eC (.bl b)):=mw VJ λ_=>.bl b
def oz{j pos}:ED X EX (.Constant .none j pos) (eC .aK):=mw HV λ_=>.aK
def kr{x:Str}{j pos}:ED X EX (.Constant (.str x) j pos) (eC (.str x)):=mw Xj λ_=>.str x
def jV{x:Str}{i:Int}{t:Tok}(hg:Gl X x)(hm:X.mg x=some (.int i t))(hd:AG x:=by decide):ED X EX (.Name x pos) (eC (.int i)):=mw (xQ (v:=.int i) hg hm ⟨t,rfl⟩ hd) λ_=>.int i
def Jf{x:Str}{z:Str}{t:Tok}(hg:Gl X x)(hm:X.mg x=some (.str z t))(hd:AG x:=by decide):ED X EX (.Name x pos) (eC (.str z)):=mw (xQ (v:=.str z) hg hm ⟨t,rfl⟩ hd) λ_=>.str z
def rD(K:Frag)(r:D->D->R W):R2:=λx y H Q=>∃(EX:iY) (G:Hp) (a b:D),aA G H/\aP K G x a/\aP K G y b/\Out K EX G H (r a b) Q
abbrev Fo(X:Cx)(f:Value->Value->Sem Value)(r:D->D->R W):Prop:=cG X f (rD X.K r)
def Ag(r:D->D->R W)(f g:FE):FE:=λ δ=>(f δ).bind λa=>(g δ).bind λb=>r a.d b.d
def two{r:D->D->R W}{Y:Sg}{Q:VK}(q:tD K EX (Ag r f g) Y H Q):BF (rD K r) (tD K EX f) (tD K EX g) Y H Q:=by obtain⟨G,δ,g0,s0,o⟩:=q;exact tD.seq g0 s0 o λw v G1 H1 _ bH r1 o1=>tD.seq bH.gh (s0.mono bH.gg) o1 λw2 v2 G2 H2 _ aV r2 o2=>⟨_,G2,w.d,w2.d,aV.gh,r1.mono aV.gg,r2,o2⟩
def Aw{op:Operator}{r:D->D->R W}(ho:Fo X (binaryOp op) r)(ha:ED X EX a f)(J:ED X EX b g):ED X EX (.BinOp a op b pos) (Ag r f g):=PE.imp (GG ho ha J) λ_ _ _ q=>two q
def mQ{op:CmpOp}{r:D->D->R W}(ho:Fo X (compareOp op) r)(ha:ED X EX a f)(J:ED X EX b g)(hm:behindInMarks op b=false):ED X EX (.Compare a [op] [b] pos) (Ag r f g):=PE.imp (Zv ho ha J hm) λ_ _ _ q=>two q
noncomputable def Ed:D->R Bool|.bl b=>.ok b|_=>.no
def Ar(f:FE):FT:=λ δ=>(f δ).bind λw=>Ed w.d
def Zj{Y:Sg}{Q:Bool->Hp->Prop}(q:dQ K EX (Ar f) Y H Q):tD K EX f Y H λx O=>∃k,x=.bl k/\Q k O:=by
 obtain⟨G,δ,g0,s0,o⟩:=q;refine⟨G,δ,g0,s0,?_⟩;unfold Ar at o;cases e:f δ with
 |ok w=>rw[e]at o;simp only[R.aD]at o;refine WP.intro λv G' O st r=>?_;revert r o;cases w.d with|bl k=>intro o r;cases r;exact⟨k,rfl,o G' O st⟩|_=>intro o _;exact False.elim o
 |ex x=>rw[e]at o;exact o|no=>rw[e]at o;exact o
def Cr{op:CmpOp}{r:D->D->R W}(ho:Fo X (compareOp op) r)(ha:ED X EX a f)(J:ED X EX b g)(hm:behindInMarks op b=false):TD X EX (.Compare a [op] [b] pos) (Ar (Ag r f g)):=PT.imp (Zu ho ha J hm) λ Y H Q q=>two (Zj q)
def lZ(r r':D->D->R W)(f g h:FE):FE:=λ δ=>(f δ).bind λa=>(g δ).bind λb=>(r a.d b.d).bind λz=>(Ed z.d).bind λk=>if k=true then(h δ).bind λc=>r' b.d c.d else .ok (.sh (.bl false))
def Vp{r r':D->D->R W}{Y:Sg}{Q:VK}(q:tD K EX (lZ r r' f g h) Y H Q):HP (rD K r) (rD K r') (tD K EX f) (tD K EX g) (tD K EX h) Y H Q:=by
 obtain⟨G,δ,g0,s0,o⟩:=q;refine tD.seq g0 s0 o λw v G1 H1 _ bH r1 o1=>tD.seq bH.gh (s0.mono bH.gg) o1 λw2 v2 G2 H2 _ aV r2 o2=>⟨EX Y,G2,w.d,w2.d,aV.gh,r1.mono aV.gg,r2,?_⟩;revert o2;cases r w.d w2.d with
 |ok z=>intro o2;refine WP.intro λv3 G3 H3 fQ r3=>?_;have o2:Out K (EX Y) G2 H2 ((Ed z.d).bind λk=>if k=true then(h δ).bind λc=>r' w2.d c.d else .ok (.sh (.bl false))) Q:=o2;revert r3 o2;cases z.d with|bl k=>intro r3 o2;cases r3;refine⟨k,rfl,?_⟩;(cases k with|true=>rw[if_pos rfl];have o3:Out K (EX Y) G2 H2 ((h δ).bind λc=>r' w2.d c.d) Q:=o2;exact tD.seq fQ.gh (s0.mono (bH.gg.trans (aV.gg.trans fQ.gg))) (o3.mono fQ) λw4 v4 G4 H4 _ qk r4 o4=>⟨_,G4,w2.d,w4.d,qk.gh,r2.mono (fQ.gg.trans qk.gg),r4,o4⟩|false=>rw[if_neg B5];have o3:WP K G2 H2 (.sh (.bl false)) Q:=o2;exact(o3.mono fQ).use fQ.gh (.bl false))|_=>intro _ o2;exact False.elim o2
 |ex x=>exact λo2=>o2|no=>exact λo2=>o2
def Ko{op vi:CmpOp}{r r':D->D->R W}(ho:Fo X (compareOp op) r)(gE:Fo X (compareOp vi) r')(ha:ED X EX a f)(J:ED X EX b g)(hc:ED X EX c h)(hm:lastMarks [op,vi] [b,c]=false:=by with_unfolding_all rfl):ED X EX (.Compare a [op,vi] [b,c] pos) (lZ r r' f g h):=PE.imp (aaT ho gE ha J hc hm) λ_ _ _ q=>Vp q
abbrev TW(X:Cx)(EX:Be)(e:Expr)(f:FT):Prop:=PW X e (dQ X.K EX f)
variable{p q:FT}{Ep:List Expr}
def Ex(p q:FT):FT:=λ δ=>(p δ).bind λb=>if b=true then q δ else .ok false
def Et(p q:FT):FT:=λ δ=>(p δ).bind λb=>if b=true then .ok true else q δ
def Br(p:FT):FT:=λ δ=>(p δ).bind λb=>.ok (!b)
def Je(ha:TD X EX a p):TW X EX (.BoolOp .And [a] pos) p:=Zx ha
def jP(ha:TD X EX a p):TW X EX (.BoolOp .Or [a] pos) p:=Xi ha
def dQ.two{Y:Sg}{Q:Bool->Hp->Prop}{k:Bool->DE->R Bool}{P:Bool->Hp->Prop}(h:dQ K EX (λ δ=>(p δ).bind λb=>k b δ) Y H Q)(i:∀b O,dQ K EX (k b) Y O Q->P b O):dQ K EX p Y H P:=by
 obtain⟨G,δ,g0,s0,o⟩:=h;refine⟨G,δ,g0,s0,?_⟩;cases e:p δ with
 |ok b=>simp only[e,R.aD]at o;refine λG' O st=>i b O ⟨G',δ,st.gh,s0.mono st.gg,?_⟩;cases e2:k b δ with|ok c=>rw[e2]at o;exact λG2 H2 aV=>o G2 H2 (st.trans aV)|ex x=>rw[e2]at o;exact(EX Y).mono _ _ _ _ _ st o|no=>rw[e2]at o;exact o
 |ex x=>simp only[e,R.kT]at o;exact o|no=>simp only[e,R.kR]at o
def dQ.now{Y:Sg}{Q:Bool->Hp->Prop}{c:Bool}(h:dQ K EX (λ_=>.ok c) Y H Q):Q c H:=by obtain⟨G,δ,g0,s0,o⟩:=h;exact o G H (Step.refl g0)
def HI(ha:TD X EX a p)(J:TW X EX (.BoolOp .And (b::Ep) pos) q):TW X EX (.BoolOp .And (a::b::Ep) pos) (Ex p q):=PW.imp (Xh ha J) λ Y H Q h=>dQ.two (k:=λb δ=>if b=true then q δ else .ok false) h λb O h'=>by cases b with|true=>rw[if_pos rfl];exact h'|false=>rw[if_neg B5];exact dQ.now h'
def fE(ha:TD X EX a p)(J:TW X EX (.BoolOp .Or (b::Ep) pos) q):TW X EX (.BoolOp .Or (a::b::Ep) pos) (Et p q):=PW.imp (VI ha J) λ Y H Q h=>dQ.two (k:=λb δ=>if b=true then .ok true else q δ) h λb O h'=>by cases b with|true=>rw[if_pos rfl];exact dQ.now h'|false=>rw[if_neg B5];exact h'
def eS{e:Expr}(h:TW X EX e p):TD X EX e p:=h.pt
def mP(ha:TD X EX a p):TD X EX (.UnaryOp .Not a pos) (Br p):=PT.imp (Xg ha) λ Y H Q h=>dQ.two (k:=λb _=>.ok (!b)) h λb O h'=>dQ.now h'
def eW(f g:FE):FE:=λ δ=>(f δ).bind λa=>(Ed a.d).bind λk=>if k=true then g δ else .ok (.sh (.bl false))
def eOr(f g:FE):FE:=λ δ=>(f δ).bind λa=>(Ed a.d).bind λk=>if k=true then .ok (.sh (.bl true)) else g δ
def rB(f:FE):FE:=λ δ=>(f δ).bind λa=>(Ed a.d).bind λk=>.ok (.sh (.bl (!k)))
def oy{op}(h:ED X EX a f):ED X EX (.BoolOp op [a] pos) f:=Xf h
def tD.iJ{Y:Sg}{Q:VK}{k:Bool->DE->R W}{P:Bool->Hp->Prop}(h:tD K EX (λ δ=>(f δ).bind λa=>(Ed a.d).bind λc=>k c δ) Y H Q)(i:∀c O,tD K EX (k c) Y O Q->P c O):tD K EX f Y H λx O=>∃c,x=.bl c/\P c O:=by obtain⟨G,δ,g0,s0,o⟩:=h;refine tD.seq g0 s0 o λw v G1 H1 _ bH r1 o1=>?_;revert r1 o1;cases w.d with|bl c=>intro r1 o1;cases r1;exact⟨c,rfl,i c H1 ⟨G1,δ,bH.gh,s0.mono bH.gg,o1⟩⟩|_=>intro _ o1;exact False.elim o1
def tD.now{Y:Sg}{Q:VK}{d:D}(h:tD K EX (λ_=>.ok (.sh d)) Y H Q)(r:∀G,aP K G v d):Q v H:=by obtain⟨G,δ,g0,s0,o⟩:=h;exact WP.use o g0 (r G)
def ou(ha:ED X EX a f)(J:ED X EX (.BoolOp .And (b::Ep) pos) g):ED X EX (.BoolOp .And (a::b::Ep) pos) (eW f g):=PE.imp (Xe ha J) λ Y H Q h=>tD.iJ (k:=λk δ=>if k=true then g δ else .ok (.sh (.bl false))) h λc O h'=>by cases c with|true=>rw[if_pos rfl];exact h'|false=>rw[if_neg B5];exact tD.now h' λ_=>.bl false
def HH(ha:ED X EX a f):ED X EX (.UnaryOp .Not a pos) (rB f):=PE.imp (Xd ha) λ Y H Q h=>tD.iJ (k:=λk _=>.ok (.sh (.bl (!k)))) h λc O h'=>tD.now h' λ_=>.bl (!c)
def AN(p:FT)(f g:FE):FE:=λ δ=>(p δ).bind λk=>if k=true then f δ else g δ
def GA(hc:TD X EX c p)(ha:ED X EX a f)(J:ED X EX b g):ED X EX (.IfExp c a b pos) (AN p f g):=PE.imp (aaX hc ha J) λ Y H Q ⟨G,δ,g0,s0,o⟩=>dQ.seq g0 s0 o λk G' O _ st o'=>by cases k with|true=>rw[if_pos rfl];exact⟨G',δ,st.gh,s0.mono st.gg,o'⟩|false=>rw[if_neg B5];exact⟨G',δ,st.gh,s0.mono st.gg,o'⟩
noncomputable def Bz:D->R Bool|.aK=>.ok false|.bl b=>.ok b|.int i=>.ok (i !=0)|.str x=>if x.length<=16777216 then .ok ((x.length:Int) !=0) else .no|.lst M=>.ok (!M.isEmpty)|.tup M=>.ok (!M.isEmpty)|_=>.no
def As(f:FE):FT:=λ δ=>(f δ).bind λw=>Bz w.d
def Kn{G:Hp}{vs:List V}{M:List D}(r:aB K G vs M):(!M.isEmpty)= !vs.isEmpty:=by cases r<;>rfl
def WL{G H:Hp}{d:D}{k:Bool}(g:aA G H)(r:aP K G v d)(e:Bz d=.ok k):yW K v H k:=by cases r with|aK=>cases e;rfl|bl b=>cases e;rfl|int i=>cases e;rfl|str x=>have e:(if x.length<=16777216 then R.ok ((x.length:Int) !=0) else .no)=.ok k:=e;split at e;rename_i hz;cases e;exact⟨by rw[D9];exact hz,rfl⟩;cases e|lst h r=>cases e;exact .inl ⟨_,g.seq h,Kn r⟩|tup h r=>cases e;exact .inr (.inl ⟨_,aA.tupS g h,Kn r⟩)|jF _ _=>cases e|jE _ _ _ _ _=>cases e|aF _ _ _=>cases e|obj _ _ _ _=>cases e
def Fs(ha:ED X EX a f)(he:∀whole,isTrue a X.env whole=(do let v<-whole;standAt a.pos;holding [v] (truthy v)):=by intro _;rfl):TD X EX a (As f):=
 PT.imp (aaS ha he) λ Y H Q ⟨G,δ,g0,s0,o⟩=>by
  refine⟨G,δ,g0,s0,?_⟩;unfold As at o;cases e:f δ with
  |ok w=>
   rw[e]at o;simp only[R.aD]at o;refine WP.intro λv G' O st r=>?_;cases e2:Bz w.d with
   |ok k=>rw[e2]at o;exact⟨k,WL st.gh r e2,o G' O st⟩
   |ex x=>rw[e2]at o;exfalso;revert e2;cases w.d<;>simp only[Bz]<;>intro e2<;>first|cases e2|(split at e2<;>cases e2)
   |no=>rw[e2]at o;exact o.elim
  |ex x=>rw[e]at o;exact o
  |no=>rw[e]at o;exact o
variable{e:Expr}{es:List Expr}{fa:FA}
def Ad:FA:=λ_=>.ok []
def Ab(f:FE)(fa:FA):FA:=λ δ=>(f δ).bind λw=>(fa δ).bind λM=>.ok (w.d::M)
def Ak:AD X EX [] Ad:=PA.imp jq λ Y H Q ⟨G,δ,g0,s0,o⟩=>o [] G H (Step.refl g0) .nil
def Af(ha:ED X EX e f)(hr:AD X EX es fa)(hs:starEach (e::es) X.env=(false,eval e X.env)::starEach es X.env:=by rfl):AD X EX (e::es) (Ab f fa):=PA.imp (Hi ha hr hs) λ Y H Q ⟨G,δ,g0,s0,o⟩=>by refine⟨G,δ,g0,s0,?_⟩;unfold Ab at o;cases S:f δ with|ok w=>rw[S]at o;simp only[R.aD]at o;refine WP.intro λv G' O st r=>⟨G',δ,st.gh,s0.mono st.gg,?_⟩;(cases e2:fa δ with|ok M=>rw[e2]at o;exact λvs G2 H2 aV r2=>o (v::vs) G2 H2 (st.trans aV) (.cons (r.mono aV.gg) r2)|ex x=>rw[e2]at o;exact(EX Y).mono _ _ _ _ _ st o|no=>rw[e2]at o;exact o)|ex x=>rw[S]at o;exact o|no=>rw[S]at o;exact o
def rA(fa:FA):FE:=λ δ=>(fa δ).bind λM=>if M.length<=16777216 then .ok (.sh (.tup M)) else .no
def Cc(fa:FA):FE:=λ δ=>(fa δ).bind λM=>if M.length<=16777216 then .ok (.ow (.lst M)) else .no
def HG{x1}(ha:AD X EX es fa):ED X EX (.Tuple es x1 pos) (rA fa):=PE.imp (HM ha) λ Y H Q ⟨G,δ,g0,s0,o⟩=>dR.seq g0 s0 o λM vs G' O _ st r o'=>by split at o';rename_i hz;refine⟨by rw[r.length,D9];exact hz,λp hp=>o' (.ref p) _ _ (Step.new st.gh hp _) (.tup (cQ.of Bo) (r.mono (iV (st.gh.free hp) _)))⟩;exact o'.elim
def jo(ha:AD X EX es fa):ED X EX (.List es pos) (Cc fa):=PE.imp (wW ha) λ Y H Q ⟨G,δ,g0,s0,o⟩=>dR.seq g0 s0 o λM vs G' O _ st r o'=>by split at o';rename_i hz;refine⟨by rw[r.length,D9];exact hz,λp hp=>qh o' st.gh r p hp⟩;exact o'.elim
def rDc(K:Frag)(fn:AF):List V->Hp->VK->Prop:=λvs H Q=>∃(EX:iY) (G:Hp) (M:List D),aA G H/\aB K G vs M/\Out K EX G H (fn M) Q
abbrev ki(X:Cx)(v:Value)(fn:AF):Prop:=bL X v (rDc X.K fn)
def Al(fn:AF)(fa:FA):FE:=λ δ=>(fa δ).bind fn
def Jd{fn:AF}{Y:Sg}{Q:VK}(q:tD K EX (Al fn fa) Y H Q):Ql (rDc K fn) (dR K EX fa) Y H Q:=by obtain⟨G,δ,g0,s0,o⟩:=q;exact dR.seq g0 s0 o λM vs G' O _ st r o'=>⟨_,G',M,st.gh,r,o'⟩
variable{x:Str}{pp:Pos}{id T:String}{fn:AF}
def Dk(hc:ki X (.builtin id) fn)(hg:Gl X x)(hm:X.mg x=none)(hv:bootBuiltins x=some (.builtin id))(ha:AD X EX (e::es) fa)(hn:x≠"__name__" :=by decide)(cL:AG x:=by decide)(he:starEach (e::es) X.env=(false,eval e X.env)::starEach es X.env:=by rfl) (bM:(backTo pos (starEach es X.env)).any (·.1)=false:=by rfl):ED X EX (.Call (.Name x pp) (e::es) [] pos) (Al fn fa):=PE.imp (sS hc hg hm hv ha hn cL he bM) λ_ _ _ q=>Jd q
def pR(hc:ki X (.type T) fn)(hg:Gl X x)(hm:X.mg x=none)(hv:bootBuiltins x=some (.type T))(ha:AD X EX (e::es) fa)(hn:x≠"__name__" :=by decide)(cL:AG x:=by decide)(he:starEach (e::es) X.env=(false,eval e X.env)::starEach es X.env:=by rfl) (bM:(backTo pos (starEach es X.env)).any (·.1)=false:=by rfl):ED X EX (.Call (.Name x pp) (e::es) [] pos) (Al fn fa):=PE.imp (acb hc hg hm hv ha hn cL he bM) λ_ _ _ q=>Jd q
def Bf:D->D->R W
 |.lst M,.int i=>match dP M i with|some d=>.ok (.sh d)|none=>.no
 |.tup M,.int i=>match dP M i with|some d=>.ok (.sh d)|none=>.no
 |.str z,.int i=>if z.length<=16777216 then(match dP z.cps.toList i with|some c=>.ok (.sh (.str ⟨#[c]⟩))|none=>.no) else .no|_,_=>.no
theorem aB.dP{G:Hp}{vs:List V}{M:List D}{i:Int}{d:D}(r:aB K G vs M)(h:L2.dP M i=some d):∃v,L2.dP vs i=some v/\aP K G v d:=by unfold L2.dP at h⊢;rw[r.length];cases e:iS M.length i with|none=>rw[e]at h;cases h|some j=>rw[e]at h;exact r.get h
def Ur:qR X (rD X.K Bf):=by
 intro value slice Z s Y H x y v u Q I rx ry h hs;obtain⟨EX,G,a,b,g,ra,rb,o⟩:=h;cases ra with
 |lst h r=>cases rb with|int i=>simp only[Bf]at o;split at o;rename_i d e;obtain⟨v,S,r1⟩:=aB.dP r e;exact Zn value slice Z s Y H _ _ _ _ Q I rx ry ⟨_,_,i,v,rfl,rfl,g.seq h,S,WP.use o g r1⟩ hs;exact o.elim|_=>exact False.elim o
 |tup h r=>cases rb with|int i=>simp only[Bf]at o;split at o;rename_i d e;obtain⟨v,S,r1⟩:=aB.dP r e;exact WS value slice Z s Y H _ _ _ _ Q I rx ry ⟨_,_,i,v,rfl,rfl,aA.tupS g h,S,WP.use o g r1⟩ hs;exact o.elim|_=>exact False.elim o
 |str z=>cases rb with|int i=>simp only[Bf]at o;split at o;rename_i hz;split at o;rename_i c e;exact WR value slice Z s Y H _ _ _ _ Q I rx ry ⟨z,i,c,rfl,rfl,by rw[D9];exact hz,e,WP.use o g (.str _)⟩ hs;exact o.elim;exact o.elim|_=>exact False.elim o
 |_=>exact False.elim o
def Cv(ha:ED X EX a f)(J:ED X EX b g)(hs:Ji b:=by intro _ _;rfl):ED X EX (.Subscript a b pos) (Ag Bf f g):=PE.imp (Vr Ur ha J hs) λ_ _ _ q=>two q
end
end L3
namespace L2
open PySem PySem.Spec PyProof.Rows
section
variable{κ:Type} [DecidableEq κ]
noncomputable def Cf(kvs:List (κ×V))(k:κ):Option V:=(kvs.find? λkv=>decide (kv.1=k)).map (·.2)
noncomputable def Gq(kvs:List (κ×V))(k:κ)(v:V):List (κ×V):=if(kvs.any λkv=>decide (kv.1=k))=true then kvs.map (λkv=>if kv.1=k then(kv.1,v) else kv) else kvs++[(k,v)]
noncomputable def Hz(kvs:List (κ×V))(k:κ):List (κ×V):=kvs.filter λkv=>decide (kv.1≠k)
def kY{p:κ×V}{r:List (κ×V)}{k:κ}(e:p.1=k):Cf (p::r) k=some p.2:=by simp[Cf,N9,e]
def kE{p:κ×V}{r:List (κ×V)}{k:κ}(e:¬p.1=k):Cf (p::r) k=Cf r k:=by simp[Cf,N9,e]
theorem mr(k:κ):∀kvs:List (κ×V),(kvs.any λkv=>decide (kv.1=k))=(Cf kvs k).isSome|[]=>rfl|p::r=>by rw[S9];by_cases e:p.1=k;simp only[kY e,F4 e,PV,Option.isSome_some];rw[kE e,L8 e,Bool.false_or];exact mr k r
theorem Km(k j:κ)(y:V):∀kvs:List (κ×V),Cf (kvs.map λkv=>if kv.1=k then(kv.1,y) else kv) j=(Cf kvs j).map λx=>if j=k then y else x|[]=>rfl|p::r=>by have ih:=Km k j y r;rw[B6];by_cases h:p.1=k;rw[if_pos h];by_cases e:p.1=j;rw[kY (p:=(p.1,y)) e,kY e,J8,if_pos (e.symm.trans h)];rw[kE (p:=(p.1,y)) e,kE e,ih];rw[if_neg h];by_cases e:p.1=j;rw[kY (p:=p) e,kY e,J8,if_neg (λz=>h (e.trans z))];rw[kE (p:=p) e,kE e,ih]
theorem LN(k j:κ)(y:V):∀kvs:List (κ×V),Cf kvs k=none->Cf (kvs++[(k,y)]) j=if j=k then some y else Cf kvs j
 |[],_=>by by_cases e:k=j;rw[if_pos e.symm];exact kY (p:=(k,y)) e;rw[if_neg (λz=>e z.symm)];exact kE (p:=(k,y)) e|p::r,hn=>by
  rw[V8];have hk:¬p.1=k:=λz=>by rw[kY z]at hn;cases hn
  rw[kE hk]at hn;have ih:=LN k j y r hn;by_cases e:p.1=j;rw[kY e,kY e,if_neg (λz=>hk (e.trans z))];rw[kE e,kE e,ih]
def aaK(kvs:List (κ×V))(k j:κ)(y:V):Cf (Gq kvs k y) j=if j=k then some y else Cf kvs j:=by
 unfold Gq;by_cases a:(kvs.any λkv=>decide (kv.1=k))=true;rw[if_pos a,Km];rw[mr]at a;by_cases e:j=k;obtain⟨x,hx⟩:=S8.mp a;rw[if_pos e,e,hx,J8,if_pos rfl];rw[if_neg e];cases Cf kvs j with|none=>rfl|some x=>rw[J8,if_neg e]
 rw[if_neg a];refine LN k j y kvs ?_;rw[mr]at a;cases q:Cf kvs k with|none=>rfl|some x=>rw[q]at a;exact(a rfl).elim
def yN(kvs:List (κ×V))(k:κ)(v:V):(Gq kvs k v).length<=kvs.length+1:=by unfold Gq;split;rw[A4];lia;rw[A6,B7,Q4];lia
def bN.bT{o:Option V}{u:Option Value}(r:bN o u):o.isSome=u.isSome:=by
 cases o with
 |none=>cases u with|none=>rfl|some _=>exact(show False from r).elim
 |some _=>cases u with|none=>exact(show False from r).elim|some _=>rfl
theorem bN.getD{o:Option V}{u:Option Value}{d:V}{d':Value}(r:bN o u)(rd:RelV d d'):RelV (o.getD d) (u.getD d'):=by
 cases o with
 |none=>cases u with|none=>exact rd|some _=>exact(show False from r).elim
 |some _=>cases u with|none=>exact(show False from r).elim|some _=>exact r
def KV.val{kvs:List (κ×V)}{vs:List (κ×Value)}(r:KV kvs vs)(k:κ):bN (Cf kvs k) (valueAt vs k):=by
 unfold KV at r;induction r with
 |nil=>exact True.intro| @cons p q ps qs h t ih=>
  obtain⟨h1,h2⟩:=h;by_cases e:p.1=k;have e':q.1=k:=h1.symm.trans e;have b:valueAt (q::qs) k=some q.2:=by simp[valueAt,N9,e']
  rw[kY e,b];exact h2;have e':¬q.1=k:=λz=>e (h1.trans z);have b:valueAt (q::qs) k=valueAt qs k:=by simp[valueAt,N9,e']
  rw[kE e,b];exact ih
theorem KV.any{kvs:List (κ×V)}{vs:List (κ×Value)}(r:KV kvs vs)(k:κ):(kvs.any λkv=>decide (kv.1=k))=vs.any λkv=>decide (kv.1=k):=by unfold KV at r;induction r with|nil=>rfl|cons h t ih=>rw[S9,S9,ih,h.1]
def KV.vO{kvs:List (κ×V)}{vs:List (κ×Value)}(r:KV kvs vs)(k:κ){y:V}{u:Value}(ry:RelV y u):KV (kvs.map λkv=>if kv.1=k then(kv.1,y) else kv) (vs.map λkv=>if kv.1=k then(kv.1,u) else kv):=by unfold KV at r⊢;induction r with|nil=>exact .nil| @cons p q ps qs h t ih=>rw[B6,B6];refine .cons ?_ ih;obtain⟨h1,h2⟩:=h;by_cases e:p.1=k;rw[if_pos e,if_pos (h1.symm.trans e)];exact⟨h1,ry⟩;rw[if_neg e,if_neg (λz=>e (h1.trans z))];exact⟨h1,h2⟩
def KV.put{kvs:List (κ×V)}{vs:List (κ×Value)}(r:KV kvs vs)(k:κ){y:V}{u:Value}(ry:RelV y u):KV (Gq kvs k y) (stored vs k u):=by unfold Gq stored;rw[r.any k];by_cases e:(vs.any λkv=>decide (kv.1=k))=true;rw[if_pos e,if_pos e];exact r.vO k ry;rw[if_neg e,if_neg e];exact Paired.snoc r ⟨rfl,ry⟩
def KV.drop{kvs:List (κ×V)}{vs:List (κ×Value)}(r:KV kvs vs)(k:κ):KV (Hz kvs k) (without vs k):=by
 unfold KV at r⊢;unfold Hz without;induction r with
 |nil=>exact .nil| @cons p q ps qs h t ih=>
  obtain⟨h1,h2⟩:=h;rw[O0,O0];by_cases e:p.1=k;have a:¬decide (p.1≠k)=true:=by simp[e]
  have b:¬decide (q.1≠k)=true:=by simp[h1.symm.trans e]
  rw[if_neg a,if_neg b];exact ih;have e':¬q.1=k:=λz=>e (h1.trans z);have a:decide (p.1≠k)=true:=by simp[e]
  have b:decide (q.1≠k)=true:=by simp[e']
  rw[if_pos a,if_pos b];exact .cons ⟨h1,h2⟩ ih
def KV.keys{kvs:List (κ×V)}{vs:List (κ×Value)}(r:KV kvs vs):kvs.map (·.1)=vs.map (·.1):=by unfold KV at r;induction r with|nil=>rfl|cons h t ih=>rw[B6,B6,ih,h.1]
theorem KV.length{kvs:List (κ×V)}{vs:List (κ×Value)}(r:KV kvs vs):kvs.length=vs.length:=V0 r
def aaJ(kvs:List (κ×V))(k:κ):(Hz kvs k).length<=kvs.length:=X9 _ _
end
def fD{P:Program}{w:World}{k:Am}{u:Value}(r:RelV (kV k) u):(Gm P w).is k u=true:=by cases k with|inl i=>obtain⟨t,e⟩:=(show∃t,u=Value.int i t from r);subst e;exact adP P w i t|inr x=>obtain⟨t,e⟩:=(show∃t,u=Value.str x t from r);subst e;exact adO P w x t
theorem LM{P:Program}{w:World}:∀{L:List Am}{us:List Value},Vals (L.map kV) us->ItemsAre (Gm P w) L us|[],_,r=>by rw[N8]at r;cases r;exact .nil|k::L,_,r=>by rw[B6]at r;cases r with|cons h t=>exact .cons (fD h) (LM t)
abbrev KT(H:Hp):List (List Am×V)->List (List Am×Addr×Value)->Prop:=Paired λp q=>p.1=q.1/\H q.2.1=some (.tup (p.1.map kV))/\RelV p.2 q.2.2
def KT.val{kvs:List (List Am×V)}{xs:List (List Am×Addr×Value)}(r:KT H kvs xs)(k:List Am):bN (Cf kvs k) ((atKey xs k).map (·.2)):=by
 induction r with
 |nil=>exact True.intro| @cons p q ps qs h t ih=>
  obtain⟨h1,_,h2⟩:=h;by_cases e:p.1=k;have e':q.1=k:=h1.symm.trans e;have b:atKey (q::qs) k=some q.2:=by simp[atKey,N9,e']
  rw[kY e,b];exact h2;have e':¬q.1=k:=λz=>e (h1.trans z);have b:atKey (q::qs) k=atKey qs k:=by simp[atKey,N9,e']
  rw[kE e,b];exact ih
def KT.vO{kvs:List (List Am×V)}{xs:List (List Am×Addr×Value)}(r:KT H kvs xs)(k:List Am){y:V}{u:Value}(ry:RelV y u):KT H (kvs.map λkv=>if kv.1=k then(kv.1,y) else kv) (xs.map (putAt k u)):=by induction r with|nil=>exact .nil| @cons p q ps qs h t ih=>rw[B6,B6];refine .cons ?_ ih;obtain⟨h1,h2,h3⟩:=h;unfold putAt;by_cases e:p.1=k;rw[if_pos e,if_pos (h1.symm.trans e)];exact⟨h1,h2,ry⟩;rw[if_neg e,if_neg (λz=>e (h1.trans z))];exact⟨h1,h2,h3⟩
def KT.put{kvs:List (List Am×V)}{xs:List (List Am×Addr×Value)}(r:KT H kvs xs)(k:List Am){b:Addr}{y:V}{u:Value}(J:H b=some (.tup (k.map kV)))(ry:RelV y u):KT H (Gq kvs k y) (storedH xs k b u):=by
 have e:(kvs.any λkv=>decide (kv.1=k))=(atKey xs k).isSome:=by rw[mr,(r.val k).bT,Q0]
 unfold Gq storedH;rw[e];by_cases q:(atKey xs k).isSome=true;rw[if_pos q,if_pos q];exact r.vO k ry;rw[if_neg q,if_neg q];exact Paired.snoc r ⟨rfl,J,ry⟩
def KT.keeps{H O:Hp}{kvs:List (List Am×V)}{xs:List (List Am×Addr×Value)}(r:KT H kvs xs)(ht:∀b ys,H b=some (.tup ys)->O b=some (.tup ys)):KT O kvs xs:=Paired.vR r λ_ _ z=>⟨z.1,ht _ _ z.2.1,z.2.2⟩
section
variable{P:Program}{w:World}{H:Hp}{h:Heap}{a:Addr}
def FZ{u:HO}(ok:cF P w H h)(e:Rd H a u):aW P w H h a u:=e.ok ok
def Fv{kvs:List (Am×V)}(ok:cF P w H h)(e:Rd H a (.dK kvs)):kvs.length<=sizeLine/\(a ==sysModules)=false/\∃vs,KV kvs vs/\h.DictOf (Gm P w) a vs:=
 show aW P w H h a (.dK kvs) from FZ ok e
def rR{kvs:List (Am×V)}(ok:cF P w H h)(e:H a=some (.dK kvs)):kvs.length<=sizeLine/\(a ==sysModules)=false/\∃vs,KV kvs vs/\h.DictOf (Gm P w) a vs:=Fv ok (.inl e)
def lY{L:List Am}(ok:cF P w H h)(e:H a=some (.tup (L.map kV))):(tupleKind (Gm P w)).is h L a:=by obtain⟨_,its,r,o,h1,h2,n,h3⟩:=(show aW P w H h a (.tup (L.map kV)) from ok a _ e);exact⟨o,its.toArray,n,h1,h2,h3,by simpa using LM r⟩
def jN{kvs:List (List Am×V)}(ok:cF P w H h)(e:Rd H a (.dT kvs)):kvs.length<=sizeLine/\(a ==sysModules)=false/\∃xs,KT H kvs xs/\h.DictOfH (tupleKind (Gm P w)) a xs:=by
 obtain⟨z,y,xs,r,o,es,ep,h1,h2,h3,h4,h5⟩:=(show aW P w H h a (.dT kvs) from FZ ok e);refine⟨z,y,xs,r,o,es,ep,h1,h2,h3,h4,λx hx=>?_,h5⟩;have all:∀{l:List (List Am×V)}{m:List (List Am×Addr×Value)},KT H l m->∀x∈m,(tupleKind (Gm P w)).is h x.1 x.2.1:=by
  intro l m q;induction q with
  |nil=>intro x hx;exact nomatch hx
  | @cons p q ps qs hq t ih=>intro x hx;rcases C5.mp hx with e|hx;subst e;exact lY ok (by rw[<-hq.1];exact hq.2.1);exact ih x hx
 exact all r x hx
def Vo{kvs:List (List Am×V)}(ok:cF P w H h)(e:H a=some (.dT kvs)):kvs.length<=sizeLine/\(a ==sysModules)=false/\∃xs,KT H kvs xs/\h.DictOfH (tupleKind (Gm P w)) a xs:=jN ok (.inl e)
end
def cM(H:Hp)(a:Addr)(y:V)(r:Option V):Prop:=(∃kvs k,Rd H a (.dK kvs)/\y=kV k/\r=Cf kvs k)\/∃kvs k b,Rd H a (.dT kvs)/\y=.ref b/\H b=some (.tup (k.map kV))/\r=Cf kvs k
def fK(H:Hp)(a:Addr)(y v:V)(O:Hp):Prop:=(∃kvs k,H a=some (.dK kvs)/\y=kV k/\kvs.length<sizeLine/\O=upd H a (.dK (Gq kvs k v)))\/∃kvs k b,H a=some (.dT kvs)/\y=.ref b/\H b=some (.tup (k.map kV))/\kvs.length<sizeLine/\O=upd H a (.dT (Gq kvs k v))
def cM.t{a b:Addr}{kvs:List (List Am×V)}{k:List Am}(e:H a=some (.dT kvs))(eb:H b=some (.tup (k.map kV))):cM H a (.ref b) (Cf kvs k):=.inr ⟨kvs,k,b,.inl e,rfl,eb,rfl⟩
theorem fK.k{a:Addr}{kvs:List (Am×V)}{k:Am}(e:H a=some (.dK kvs))(hl:kvs.length<sizeLine):fK H a (kV k) v (upd H a (.dK (Gq kvs k v))):=.inl ⟨kvs,k,e,rfl,hl,rfl⟩
def fK.t{a b:Addr}{kvs:List (List Am×V)}{k:List Am}(e:H a=some (.dT kvs))(eb:H b=some (.tup (k.map kV)))(hl:kvs.length<sizeLine):fK H a (.ref b) v (upd H a (.dT (Gq kvs k v))):=.inr ⟨kvs,k,b,e,rfl,eb,hl,rfl⟩
section
variable{X:Cx}{Z:AE}{Y:St}{H:Hp}{s:Shared}{a:Addr}{y v:V}{u r:Value}{o:Option V}{A:Around}{E:AA}
def Inv.big(I:Inv X Z Y H s):sysModules<s.heap.objs.size:=by have h:mainGlobals<s.heap.objs.size:=(I.mod.glob.keeps I.bk).lt;exact Nat.lt_trans ⋯ h
def abV{Q:AA}(hu:A.units+1<cLine)(I:Inv X Z Y H s)(g:cM H a y (some v))(ry:RelV y u)(h:∀w' s',Inv X Z Y H s'->RelV v w'->Q w' s'):wpAny (model X.prog X.w) A (getItem (.ref a) u) Q E s:=by rcases g with⟨kvs,k,e,ey,l⟩|⟨kvs,k,b,e,ey,eb,l⟩;subst ey;obtain⟨z,hd,vs,rel,dd⟩:=Fv I.aJ e;obtain⟨w',hw,iZ⟩:=bN.some_of (v:=v) (o:=valueAt vs k) (by rw[l];exact rel.val k);exact wpAny_getItem_of (fD ry) dd.mapOf hw (h w' _ (I.tok _) iZ);subst ey;cases(show u=Value.ref b from ry);obtain⟨z,hd,xs,rel,dd⟩:=jN I.aJ e;obtain⟨w',hw,iZ⟩:=bN.some_of (v:=v) (o:=(atKey xs k).map (·.2)) (by rw[l];exact rel.val k);obtain⟨p,hp,qC⟩:=F0.mp hw;refine wpAny_getItem_heap (U5 hu) (lY I.aJ eb) dd hp ?_;rw[qC];exact h w' _ (I.tok _) iZ
def acf{Q:AA}(hu:A.units+1<cLine)(I:Inv X Z Y H s)(g:cM H a y o)(ry:RelV y u)(h:∀s',Inv X Z Y H s'->Q (.bool o.isSome) s'):wpAny (model X.prog X.w) A (compareOp .In u (.ref a)) Q E s:=by rcases g with⟨kvs,k,e,ey,l⟩|⟨kvs,k,b,e,ey,eb,l⟩;subst ey;obtain⟨z,hd,vs,rel,dd⟩:=Fv I.aJ e;refine wpAny_in_of (fD ry) hd dd.mapOf ?_;rw[<-(rel.val k).bT,<-l];exact h _ (I.tok _);subst ey;cases(show u=Value.ref b from ry);obtain⟨z,hd,xs,rel,dd⟩:=jN I.aJ e;refine wpAny_in_heap (U5 hu) (lY I.aJ eb) hd dd ?_;have q:=(rel.val k).bT;rw[Q0]at q;rw[<-q,<-l];exact h _ (I.tok _)
def Zi{Q:AA}(hu:A.units+1<cLine)(I:Inv X Z Y H s)(g:cM H a y o)(ry:RelV y u)(h:∀s',Inv X Z Y H s'->Q (.bool (!o.isSome)) s'):wpAny (model X.prog X.w) A (compareOp .NotIn u (.ref a)) Q E s:=by rcases g with⟨kvs,k,e,ey,l⟩|⟨kvs,k,b,e,ey,eb,l⟩;subst ey;obtain⟨z,hd,vs,rel,dd⟩:=Fv I.aJ e;refine wpAny_notIn_of (fD ry) hd dd.mapOf ?_;rw[<-(rel.val k).bT,<-l];exact h _ (I.tok _);subst ey;cases(show u=Value.ref b from ry);obtain⟨z,hd,xs,rel,dd⟩:=jN I.aJ e;refine wpAny_notIn_heap (U5 hu) (lY I.aJ eb) hd dd ?_;have q:=(rel.val k).bT;rw[Q0]at q;rw[<-q,<-l];exact h _ (I.tok _)
def sG{h':Heap}{t':Nat}{ob:HO}(I:Inv X Z Y H s)(mu:ER (H a))(hs:Heap.SameBut a s.heap h')(he:∃q,h'.get? a=some q)(new:aW X.prog X.w (upd H a ob) h' a ob):Inv X Z Y (upd H a ob) {s with heap:=h',toks:=t'}:=I.write (x:=a) (e:=a) mu (.inl rfl) (λb q J z=>(hs.2 b J).trans z) he new
def wU{P:Program}{w:World}{O:Hp}{h':Heap}{kvs:List (Am×V)}{vs:List (Am×Value)}(z:kvs.length<=sizeLine)(hd:(a ==sysModules)=false)(rel:KV kvs vs)(dd:h'.DictOf (Gm P w) a vs):aW P w O h' a (.dK kvs):=⟨z,hd,vs,rel,dd⟩
def abU{O:Hp}{Q:Unit->Shared->Prop}(hu:A.units+1<cLine)(I:Inv X Z Y H s)(g:fK H a y v O)(ry:RelV y u)(rv:RelV v r)(h:∀s',Inv X Z Y O s'->Q .unit s'):wpAny (model X.prog X.w) A (setItem (.ref a) u r) Q E s:=by
 rcases g with⟨kvs,k,e,ey,l,eH⟩|⟨kvs,k,b,e,ey,eb,l,eH⟩;subst ey eH;obtain⟨z,hd,vs,rel,dd⟩:=rR I.aJ e;have hz:vs.length<=sizeLine:=by rw[<-rel.length];exact z
 have hl:(Gq kvs k v).length<=sizeLine:=by have:=yN kvs k v;lia
 refine wpAny_setItem_pairs (hsz:=hz) (fD ry) dd λh' nr hs=>h _ ?_;have he:∃q,h'.get? a=some q:=let⟨q,_,_,hq,_⟩:=nr;⟨q,hq⟩;exact sG I (by rw[e];exact True.intro) hs he (wU hl hd (rel.put k rv) nr);subst ey eH;cases(show u=Value.ref b from ry);obtain⟨z,hd,xs,rel,dd⟩:=Vo I.aJ e;have hz:xs.length<=sizeLine:=by rw[<-V0 rel];exact z
 have hl:(Gq kvs k v).length<=sizeLine:=by have:=yN kvs k v;lia
 refine wpAny_setItem_heap (hsz:=hz) (U5 hu) (lY I.aJ eb) dd λh' nr hs=>h _ ?_;obtain⟨q,es,ep,hq,h2,h3,h4,_,h5⟩:=nr;refine sG I (by rw[e];exact True.intro) hs ⟨q,hq⟩ ⟨hl,hd,_,(rel.put k eb rv).keeps λc ys ec=>?_,q,es,ep,hq,h2,h3,h4,h5⟩;rw[Ax (VL ec e (λz=>nomatch z))];exact ec
end
section
variable{X:Cx}{Z:AE}{Y:St}{H:Hp}{s:Shared}{a:Addr}{kvs:List (Am×V)}{k:Am}{u:Value}{A:Around}{E:AA}
def Vn{more:List Value}{Q:AA}(I:Inv X Z Y H s)(e:H a=some (.dK kvs))(ry:RelV (kV k) u)(l:Cf kvs k=some v)(hm:more=[]\/∃x,more=[x])(h:∀w' s',Inv X Z Y (upd H a (.dK (Hz kvs k))) s'->RelV v w'->Q w' s'):wpAny (model X.prog X.w) A (call (.builtin "dict.pop") (.ref a::u::more)) Q E s:=by
 obtain⟨z,hd,vs,rel,dd⟩:=rR I.aJ e;obtain⟨w',hw,iZ⟩:=bN.some_of (v:=v) (o:=valueAt vs k) (by rw[<-l];exact rel.val k);have hp:(keyPart u).isSome=true:=by cases k with|inl i=>obtain⟨t,q⟩:=(show∃t,u=Value.int i t from ry);subst q;rfl|inr x=>obtain⟨t,q⟩:=(show∃t,u=Value.str x t from ry);subst q;rfl
 have ha:argsOk "dict.pop" ⟨.ref a::u::more,[]⟩:=by rcases hm with q|⟨x,q⟩;subst q;exact PySem.F.args_dict_pop_2 _ _;subst q;exact ZC4 _ _ _
 refine Z6 Y0 dd.typeIs ZD6 ha (meets_dict_pop_there (Gm X.prog X.w) a (fD ry) more hm hp) ⟨vs,w',dd,by rw[<-rel.length];exact z,hw,λh' nr hs=>h w' _ ?_ iZ⟩;have he:∃q,h'.get? a=some q:=let⟨q,_,_,hq,_⟩:=nr;⟨q,hq⟩;exact sG I (by rw[e];exact True.intro) hs he (wU (D2 (aaJ kvs k) z) hd (rel.drop k) nr)
def WK{r:Value}{Q:AA}(I:Inv X Z Y H s)(e:H a=some (.dK kvs))(ry:RelV (kV k) u)(l:Cf kvs k=none)(h:∀s',Inv X Z Y H s'->Q r s'):wpAny (model X.prog X.w) A (call (.builtin "dict.pop") [.ref a,u,r]) Q E s:=by
 obtain⟨z,hd,vs,rel,dd⟩:=rR I.aJ e;have hn:valueAt vs k=none:=bN.none_of (by rw[<-l];exact rel.val k);have hp:(keyPart u).isSome=true:=by cases k with|inl i=>obtain⟨t,q⟩:=(show∃t,u=Value.int i t from ry);subst q;rfl|inr x=>obtain⟨t,q⟩:=(show∃t,u=Value.str x t from ry);subst q;rfl
 exact Z6 Y0 dd.typeIs ZD6 (ZC4 _ _ _) (meets_dict_pop_default (Gm X.prog X.w) a (fD ry) hd hp r) ⟨vs,dd,hn,h _ (I.tok _)⟩
def Vm{Q:AA}(I:Inv X Z Y H s)(e:Rd H a (.dK kvs))(h:∀t s',Inv X Z Y H s'->Q (.int kvs.length t) s'):wpAny (model X.prog X.w) A (call (.builtin "len") [.ref a]) Q E s:=by obtain⟨z,hd,vs,rel,dd⟩:=Fv I.aJ e;refine call_len_dict hd dd (by rw[<-rel.length];rw[D9]at z;lia) ?_;rw[<-rel.length];exact h _ _ (I.tok _)
end
def pv(i:Expr):Prop:=∀ov iv,subscripted i false ov iv=operate [ov,iv] (getItem ov iv)
def Zh{prog:Program}{w:World}{A:Around}{E:AA}{s:Shared}{env:Env}{value slice:Expr}{T id:String}{Q:AA}(hl:typeLookup (.type T) "__getitem__"=pure (some (.builtin id))) (hs:pv slice)(h:wpAny (model prog w) A (eval value env) (λo s₁=>wpAny (model prog w) A (eval slice env) (λi s₂=>s₂.TypeIs o T/\wpAny (model prog w) A (getItem o i) Q E s₂) E s₁) E s):wpAny (model prog w) A (eval (.Subscript value slice pos) env) Q E s:=by
 refine Subscript_ (F5 h (λo s₁ h₁=>F5 h₁ (λi s₂ h₂=>?_) λ_ _ x=>x) λ_ _ x=>x);obtain⟨hT,h₂⟩:=h₂;unfold subscriptTail;refine A8 ?_;rw[getitemInPython_of_ne hT.not_modules];refine A8 (wpAny_specialOf hT hl ?_);have fin:wpAny (model prog w) A (subscripted slice false o i) (λr s₃=>wpAny (model prog w) A (letTemporaryGo value o r >>=λ_=>pure r) Q E s₃) E s₂:=by rw[hs o i];exact wpAny_operating (F5 h₂ (λr s₃ h₃=>A8 (wpAny_letTemporaryGo (E9 h₃))) λ_ _ x=>x)
 first
  |exact E9 (A8 fin)
  |exact A8 (E9 (A8 fin))
  |exact A8 fin
def adM{Z:AE}{Y:St}{s:Shared}{a:Addr}{y:V}{o:Option V}(I:Inv X Z Y H s)(g:cM H a y o):s.TypeIs (.ref a) "dict" :=by rcases g with⟨kvs,k,e,_,_⟩|⟨kvs,k,b,e,_,_,_⟩;obtain⟨_,_,vs,_,dd⟩:=Fv I.aJ e;exact dd.typeIs;obtain⟨_,_,xs,_,dd⟩:=jN I.aJ e;exact dd.typeIs
def Vl(td ty:TE):TE:=λ Y H Q=>td Y H λx H1=>ty Y H1 λy H2=>∃a v,x=.ref a/\cM H2 a y (some v)/\Q v H2
def Vk(td ty tv:TE):TS:=λD Y H=>tv Y H λv H1=>td Y H1 λx H2=>ty Y H2 λy H3=>∃a H4,x=.ref a/\fK H3 a y v H4/\D.nx Y H4
section
variable{X:Cx}{o i e value:Expr}{pos pos' zh:Pos}{td ty tv:TE}
def xM(hu:X.A.units+1<cLine)(ho:PE X o td)(hi:PE X i ty)(hs:pv i):PE X (.Subscript o i pos) (Vl td ty):=by intro Z s Y H Q I h;refine Zh PySem.F.slot_dict_getitem.lookup hs (Bb (ho Z s Y H _ I h) λu s1 ⟨x,H1,I1,rx,q1⟩=>Bb (hi Z s1 Y H1 _ I1 q1) λiv s2 ⟨y,H2,I2,ry,a,v,ex,g,q2⟩=>?_);subst ex;obtain rfl:u=Value.ref a:=rx;exact⟨adM I2 g,abV hu I2 g ry λw' s3 I3 iZ=>⟨v,H2,I3,iZ,q2⟩⟩
def xK(hu:X.A.units+1<cLine)(ho:PE X o td)(hi:PE X i ty)(hv:PE X value tv)(hs:swapsWith value (some (.Subscript o i pos')) pos.line X.env=pure false):PS X (.Assign [.Subscript o i pos'] value pos) (Vk td ty tv):=by intro Z s Y H D I h;refine wpAny_Assign_Subscript (Bb (hv Z s Y H _ I h) λr s1 ⟨v,H1,I1,rv,q1⟩=>Bb (ho Z s1 Y H1 _ I1 q1) λu s2 ⟨x,H2,I2,rx,q2⟩=>Bb (hi Z s2 Y H2 _ I2 q2) λiv s3 ⟨y,H3,I3,ry,a,H4,ex,g,q3⟩=>?_) hs;subst ex;obtain rfl:u=Value.ref a:=rx;exact abU hu I3 g ry rv λs4 I4=>⟨Y,H4,I4,q3⟩
end
def aaI{P:Program}{w:World}(h:Heap)(J:sysModules<h.objs.size):aW P w H (h.push {cls:=.type "dict",data:=.dict #[]}) h.objs.size (.dK []):=⟨L1 _,P3.mpr (Ne.symm (D6 J)),[],.nil,Heap.DictOf.new h⟩
def WJ:TE:=λ_ H Q=>∀p,H p=none->Q (.ref p) (upd H p (.dK []))
section
variable{X:Cx}{pos:Pos}
def Kl:PE X (.Dict [] [] pos) WJ:=λZ s Y H Q I h=>wpAny_Dict_empty ⟨.ref s.heap.objs.size,_,I.laid (a:=s.heap.objs.size) (o:=.dK []) (t':=s.toks) (λ_ _ q=>A5 _ q) (A9 _) (aaI s.heap I.big),rfl,h _ (I.aJ.fresh (A9 _))⟩
end
structure M1(X:Cx)(o:Expr)(m:Str)(zg:Pos)(e:Expr)(zf:Pos):Prop where
 base:attributeBase o m X.env (eval o X.env)=eval o X.env
 qL:((backTo zf (starEach [e] X.env)).all (λx=>!x.1)&&(backToKw zf (keywordEach [] X.env)).all (λx=>x.1.isSome)&&decide (([e]:List Expr).length+([]:List Keyword).length+(if([]:List Keyword).isEmpty then 0 else 1)<30))=true
 line:(zg.endLine ==zf.line)=true
 trees:backTo zf (starEach [e] X.env)=[(false,eval e X.env)]
structure M2(X:Cx)(o:Expr)(m:Str)(zg:Pos)(e f:Expr)(zf:Pos):Prop where
 base:attributeBase o m X.env (eval o X.env)=eval o X.env
 qL:((backTo zf (starEach [e,f] X.env)).all (λx=>!x.1)&&(backToKw zf (keywordEach [] X.env)).all (λx=>x.1.isSome)&&decide (([e,f]:List Expr).length+([]:List Keyword).length+(if([]:List Keyword).isEmpty then 0 else 1)<30))=true
 line:(zg.endLine ==zf.line)=true
 trees:backTo zf (starEach [e,f] X.env)=[(false,eval e X.env),(false,eval f X.env)]
def Qe(H:Hp)(a:Addr):Prop:=(∃kvs,Rd H a (.dK kvs))\/∃kvs,Rd H a (.dT kvs)
def wR{Z:AE}{Y:St}{s:Shared}{a:Addr}(I:Inv X Z Y H s)(d:Qe H a):s.TypeIs (.ref a) "dict" /\(∀b,Value.ref a=.ref b->∃ob,s.heap.get? b=some ob/\ob.dict=none)/\(a ==sysModules)=false:=by rcases d with⟨kvs,e⟩|⟨kvs,e⟩;obtain⟨_,hd,vs,_,dd⟩:=Fv I.aJ e;refine⟨dd.typeIs,λb q=>?_,hd⟩;cases q;obtain⟨ob,_,_,h1,h2,_⟩:=dd;exact⟨ob,h1,h2.2.1⟩;obtain⟨_,hd,xs,_,dd⟩:=jN I.aJ e;refine⟨dd.typeIs,λb q=>?_,hd⟩;cases q;obtain⟨ob,_,_,h1,h2,_⟩:=dd;exact⟨ob,h1,h2.2.1⟩
section
variable{X:Cx}{Z:AE}{Y:St}{H:Hp}{s:Shared}{a:Addr}{y d:V}{u r:Value}{o:Option V}{A:Around}{E:AA}
def WI{Q:AA}(hu:A.units+1<cLine)(I:Inv X Z Y H s)(g:cM H a y o)(ry:RelV y u)(rd:RelV d r)(h:∀w' s',Inv X Z Y H s'->RelV (o.getD d) w'->Q w' s'):wpAny (model X.prog X.w) A (call (.builtin "dict.get") [.ref a,u,r]) Q E s:=by rcases g with⟨kvs,k,e,ey,l⟩|⟨kvs,k,b,e,ey,eb,l⟩;subst ey;obtain⟨z,hd,vs,rel,dd⟩:=Fv I.aJ e;refine Z6 Y1 dd.typeIs ZD7 (ZC5 _ _ _) (meets_dict_get_default (Gm X.prog X.w) a (fD ry) hd r) ⟨_,dd.mapOf,h _ _ (I.tok _) ?_⟩;rw[l];exact(rel.val k).getD rd;subst ey;cases(show u=Value.ref b from ry);obtain⟨z,hd,xs,rel,dd⟩:=jN I.aJ e;refine Z6 Y1 dd.typeIs ZD7 (ZC5 _ _ _) (meetsH_dict_get_default (tupleKind (Gm X.prog X.w)) a b hd r) ⟨U5 hu,k,xs,lY I.aJ eb,dd,h _ _ (I.tok _) ?_⟩;rw[l];exact(rel.val k).getD rd
end
def WH(td ty tx:TE):TE:=λ Y H Q=>td Y H λx H1=>∃a,x=.ref a/\Qe H1 a/\ty Y H1 λy H2=>tx Y H2 λz H3=>∃o,cM H3 a y o/\Q (o.getD z) H3
def WG(td ty tx:TE):TE:=λ Y H Q=>td Y H λx H1=>∃a,x=.ref a/\Qe H1 a/\ty Y H1 λy H2=>tx Y H2 λz H3=>∃kvs k,H3 a=some (.dK kvs)/\y=kV k/\(∀v,Cf kvs k=some v->Q v (upd H3 a (.dK (Hz kvs k))))/\(Cf kvs k=none->Q z H3)
section
variable{X:Cx}{o e f:Expr}{zg zf:Pos}{td ty tx:TE}
def aaH(hu:X.A.units+1<cLine)(ho:PE X o td)(he:PE X e ty)(hf:PE X f tx)(m:M2 X o "get" zg e f zf):PE X (.Call (.Attribute o "get" zg) [e,f] [] zf) (WH td ty tx):=by intro Z s Y H Q I h;refine SV m.base m.qL m.line W9 Y1 PySem.F.type_dict_get (Bb (ho Z s Y H _ I h) λu s1 ⟨x,H1,I1,rx,a,ex,d,q1⟩=>?_);subst ex;obtain rfl:u=Value.ref a:=rx;obtain⟨t1,t2,_⟩:=wR I1 d;refine⟨t1,t2,?_⟩;rw[m.trees];refine Q5 rfl (V3 (M3 (Bb (he Z s1 Y H1 _ I1 q1) λiv s2 ⟨y,H2,I2,ry,q2⟩=>M3 (Bb (hf Z s2 Y H2 _ I2 q2) λfv s3 ⟨z,H3,I3,rz,ov,g,q3⟩=>P9 ?_))));exact WI hu I3 g ry rz λw' s4 I4 iZ=>⟨_,H3,I4,iZ,q3⟩
def aaG(ho:PE X o td)(he:PE X e ty)(hf:PE X f tx)(m:M2 X o "pop" zg e f zf):PE X (.Call (.Attribute o "pop" zg) [e,f] [] zf) (WG td ty tx):=by intro Z s Y H Q I h;refine SV m.base m.qL m.line W9 Y0 PySem.F.type_dict_pop (Bb (ho Z s Y H _ I h) λu s1 ⟨x,H1,I1,rx,a,ex,d,q1⟩=>?_);subst ex;obtain rfl:u=Value.ref a:=rx;obtain⟨t1,t2,_⟩:=wR I1 d;refine⟨t1,t2,?_⟩;rw[m.trees];refine Q5 rfl (V3 (M3 (Bb (he Z s1 Y H1 _ I1 q1) λiv s2 ⟨y,H2,I2,ry,q2⟩=>M3 (Bb (hf Z s2 Y H2 _ I2 q2) λfv s3 ⟨z,H3,I3,rz,kvs,k,ea,ey,q3,q4⟩=>P9 ?_))));subst ey;cases l:Cf kvs k with|some v=>exact Vn I3 ea ry l (.inr ⟨fv,rfl⟩) λw' s4 I4 iZ=>⟨v,_,I4,iZ,q3 v l⟩|none=>exact WK I3 ea ry l λs4 I4=>⟨z,H3,I4,rz,q4 l⟩
end
section
variable{X:Cx}{Z:AE}{Y:St}{H:Hp}{s:Shared}{a:Addr}{kvs:List (Am×V)}{A:Around}{E:AA}
end
section
variable{X:Cx}{Z:AE}{Y:St}{H:Hp}{s:Shared}{a:Addr}{y:V}{u:Value}{A:Around}{E:AA}
end
section
variable{X:Cx}
end
section
variable{κ:Type} [DecidableEq κ]
def aaF{kvs:List (κ×V)}{k:κ}(h:Cf kvs k=none):¬k∈kvs.map (·.1):=by intro m;obtain⟨p,hp,e⟩:=D3.mp m;have q:(kvs.any λkv=>decide (kv.1=k))=true:=T5.mpr ⟨p,hp,F4 e⟩;rw[mr,h]at q;exact absurd q (by simp)
def abT{p:κ×V}{r:List (κ×V)}{k:κ}(e:p.1=k):Hz (p::r) k=Hz r k:=by unfold Hz;rw[O0,if_neg (by simp[e])]
def LL{p:κ×V}{r:List (κ×V)}{k:κ}(e:¬p.1=k):Hz (p::r) k=p::Hz r k:=by unfold Hz;rw[O0,if_pos (by simp[e])]
theorem Kk:∀{kvs:List (κ×V)}{k:κ},¬k∈kvs.map (·.1)->Hz kvs k=kvs
 |[],_,_=>rfl|p::r,k,h=>by
  have h':¬k∈r.map (·.1):=λm=>by obtain⟨q,hq,e⟩:=D3.mp m;exact h (D3.mpr ⟨q,C5.mpr (Or.inr hq),e⟩)
  rw[LL λe=>h (D3.mpr ⟨p,C5.mpr (Or.inl rfl),e⟩),Kk h']
end
end L2
namespace L3
open PySem PySem.Spec PyProof.Rows L2
variable{K:Frag}{fd:FuncData}{mg:AB}{us:List Value}{base:Heap}{H:Hp}{X:Cx}{pos:Pos}{v:V}
section
variable{X:Cx}
def Cw{EX:iY}{G H:Hp}{Q:VK}{d:D}(o:Out K EX G H (.ok (.sh d)) Q)(g:aA G H)(r:aP K G v d):Q v H:=WP.use o g r
def Vj(K:Frag):R2:=λx y H Q=>∃l b xs zs,x=.ref l/\y=.ref b/\bQ K H l xs/\bQ K H b zs/\xs.length+zs.length<=sizeLine/\∀p,H p=none->Q (.ref p) (upd H p (.lst (xs++zs)))
def Zg:cG X (binaryOp .Add) (Vj X.K):=by
 intro Z s Y H x y v u Q I rx ry h;obtain⟨l,b,xs,zs,rfl,rfl,hH,hB,hz,q⟩:=h;cases rx;cases ry;obtain⟨its,r,⟨o,n,e,c,dd,dat⟩,z⟩:=I.list hH;obtain⟨gO,r2,⟨o2,n2,e2,c2,dd2,HW⟩,z2⟩:=I.list hB;have hl:=r.length;have QV:=r2.length;obtain⟨cls,nr,data,sl⟩:=o;obtain⟨jg,jj,data2,va⟩:=o2;simp only at c dd dat c2 dd2 HW;subst c dd dat c2 dd2 HW;refine concat_meets ⟨_,e,rfl⟩ ⟨_,e2,rfl⟩ noFill_list_add seq_list_add PySem.F.slot_list_add PySem.F.entry_list_add (PySem.F.args_list_add_2 _ _) (list_addW l b its.toArray gO.toArray n n2 none none sl va (by rw[C1,C1];lia)) ⟨e,e2,?_⟩;have ea:its.toArray++gO.toArray=(its++gO).toArray:=by simp
 rw[ea];exact⟨.ref _,_,I.vT (t':=s.toks) (r.append r2) (by rw[A6];lia),rfl,q _ I.fresh⟩
def Bl:D->D->R W|.int i,.int j=>.ok (.sh (.int (i+j)))|.str x,.str y=>if x.length+y.length<=16777216 then .ok (.sh (.str (x++y))) else .no|.lst a,.lst b=>if a.length+b.length<=16777216 then .ok (.ow (.lst (a++b))) else .no|_,_=>.no
def Bw:Fo X (binaryOp .Add) Bl:=by
 intro Z s Y H x y v u Q I rx ry h;obtain⟨EX,G,a,b,g,ra,rb,o⟩:=h;cases ra with
 |int i=>cases rb with|int j=>exact Xa Z s Y H _ _ _ _ Q I rx ry ⟨i,j,rfl,rfl,Cw o g (.int _)⟩|_=>exact False.elim o
 |str x=>cases rb with|str y=>simp only[Bl]at o;split at o;rename_i hz;exact adg Z s Y H _ _ _ _ Q I rx ry ⟨x,y,rfl,rfl,by rw[D9];exact hz,Cw o g (.str _)⟩;exact o.elim|_=>exact False.elim o
 |lst h1 r1=>cases rb with|lst h2 r2=>simp only[Bl]at o;split at o;rename_i hz;exact Zg Z s Y H _ _ _ _ Q I rx ry ⟨_,_,_,_,rfl,rfl,g.seq h1,g.seq h2,by rw[r1.length,r2.length,D9];exact hz,qh o g (r1.append r2)⟩;exact o.elim|_=>exact False.elim o
 |_=>exact False.elim o
def intD(C:Int->Int->Bool)(f:Int->Int->Int):D->D->R W|.int i,.int j=>if C i j=true then .ok (.sh (.int (f i j))) else .no|_,_=>.no
def oR{fn:Value->Value->Sem Value}{C:Int->Int->Bool}{P:Int->Int->Prop}{f:Int->Int->Int}(h:cG X fn (rI P λi j=>.int (f i j)))(hC:∀i j,C i j=true->P i j):Fo X fn (intD C f):=by
 intro Z s Y H x y v u Q I rx ry q;obtain⟨EX,G,a,b,g,ra,rb,o⟩:=q;cases ra with
 |int i=>cases rb with|int j=>simp only[intD]at o;split at o;rename_i hc;exact h Z s Y H _ _ _ _ Q I rx ry ⟨i,j,rfl,rfl,hC i j hc,Cw o g (.int _)⟩;exact o.elim|_=>exact False.elim o
 |_=>exact False.elim o
def jz:D->D->R W:=intD (λ_ _=>true) (λi j=>i-j)
def Fh(i j:Int):Bool:=decide (i.natAbs<18446744073709551616\/j.natAbs<18446744073709551616)
def Dm:D->D->R W:=intD Fh (λi j=>i*j)
def divC(_ j:Int):Bool:=decide (0<j/\j.natAbs<1361129467683753853853498429727072845824)
def Gd:D->D->R W:=intD divC (λi j=>i/j)
def FF(_ j:Int):Bool:=decide (0<j)
def Dc:D->D->R W:=intD FF (λi j=>i%j)
noncomputable def powC(i j:Int):Bool:=decide (0<=j/\j.natAbs<=1000000/\i.natAbs<18446744073709551616)
def qX:D->D->R W:=intD powC (λi j=>i^j.toNat)
def oQ:Fo X (binaryOp .Sub) jz:=oR (P:=λ_ _=>True) (BR λ_ _ _ _ _ _ _ _ q=>sub_int q) λ_ _ _=>trivial
def Fx:Fo X (binaryOp .Mult) Dm:=oR WZ λi j h=>by have h:=E8 h;rcases h with h|h;exact .inl ⟨by lia,by lia⟩;exact .inr ⟨by lia,by lia⟩
def fU:Fo X (binaryOp .FloorDiv) Gd:=oR (P:=λ_ j=>0<j/\j.natAbs<1361129467683753853853498429727072845824) (BR λi j _ _ _ _ _ hc q=>by
 have h1:(0:Int)<j:=hc.1;have h2:=hc.2;refine floordiv_int () ?_ (.inl (PyProof.noPylong_of_log2 ?_));rw[Int.fdiv_eq_ediv_of_nonneg i ()];exact q;have:j.natAbs<2^130:=by
  have e:(2:Nat)^130=1361129467683753853853498429727072845824:=by decide
  lia
 have l:j.natAbs.log2<130:=(Nat.log2_lt ()).mpr this;lia) λi j h=>E8 h
def Ef:Fo X (binaryOp .Mod) Dc:=oR WY λi j h=>E8 h
def Zf{i j:Int}(h:powC i j=true):NU i j:=by
 obtain⟨h1,h2,h3⟩:=E8 h;refine⟨h1,by lia,?_⟩;have e:(2:Nat)^64=18446744073709551616:=by decide
 lia
def Ze:Fo X (binaryOp .Pow) qX:=oR WX λi j h=>Zf h
def nH(f:Int->Int->Bool):D->D->R W|.int i,.int j=>.ok (.sh (.bl (f i j)))|_,_=>.no
def sF{fn:Value->Value->Sem Value}{f:Int->Int->Bool}(h:cG X fn (tY λi j=>.bl (f i j))):Fo X fn (nH f):=by
 intro Z s Y H x y v u Q I rx ry q;obtain⟨EX,G,a,b,g,ra,rb,o⟩:=q;cases ra with
 |int i=>cases rb with|int j=>exact h Z s Y H _ _ _ _ Q I rx ry ⟨i,j,rfl,rfl,Cw o g (.bl _)⟩|_=>exact False.elim o
 |_=>exact False.elim o
def CF:D->D->R W:=nH λi j=>decide (i<j)
def vp:D->D->R W:=nH λi j=>decide (i<=j)
def DF:D->D->R W:=nH λi j=>decide (j<i)
def Rt:D->D->R W:=nH λi j=>decide (j<=i)
def wQ:Fo X (compareOp .Lt) CF:=sF Vx
def ot:Fo X (compareOp .LtE) vp:=sF Vw
def wO:Fo X (compareOp .Gt) DF:=sF Vv
def WE:Fo X (compareOp .GtE) Rt:=sF Vu
mutual
noncomputable def Dt:D->PyData|.aK=>.none|.bl b=>.bool b|.int i=>.int i|.str x=>.str x|.lst M=>.list (Eg M)|.tup M=>.tuple (Eg M)|.aF _=>.dict []|.uy _ _ _=>.dict []|.obj _ _ _=>.dict []
noncomputable def Eg:List D->List PyData|[]=>[]|d::M=>Dt d::Eg M
end
def aP.reads(hK:X.K=K){Z:AE}{Y:Sg}{s:Shared}(I:Inv X Z Y H s){G:Hp}(g:aA G H){d:D}{u:Value}(c:(Dt d).canLay0=true)(h:aP K G v d)(r:RelV v u):∃as,Reads s.heap u (Dt d) as:=by refine aP.rec (motive_1:=λv d _=>∀u,(Dt d).canLay0=true->RelV v u->∃as,Reads s.heap u (Dt d) as) (motive_2:=λvs M _=>∀us,PyData.canLayAll0 (Eg M)=true->Vals vs us->∃as,ReadsAll s.heap us (Eg M) as) (λu _ r=>?_) (λb u _ r=>?_) (λi u _ r=>?_) (λx u _ r=>?_) (λh _ r u c q=>?_) (λh _ r u c q=>?_) (λ_ _ _ c _=>absurd c B5) (λ_ _ _ _ _ _ _ c _=>absurd c B5) (λ_ _ _ _ _ c _=>absurd c B5) (λ_ _ _ _ _ _ c _=>absurd c B5) (λus _ r=>?_) (λ_ _ h t us c r=>?_) h u c r;cases r;exact⟨_,.none⟩;cases r;exact⟨_,.bool b⟩;obtain⟨t,rfl⟩:=r;exact⟨_,.int i t⟩;obtain⟨t,rfl⟩:=r;exact⟨_,.str x t⟩;cases q;obtain⟨its,rv,⟨o,n,e,c',_,dat⟩,_⟩:=I.list (by rw[hK];exact g.seq h);obtain⟨as,z⟩:=r _ c rv;exact⟨_,.list e c' dat z⟩;cases q;obtain⟨its,rv,⟨o,e,c',n,dat⟩,_⟩:=I.tuple (by rw[hK];exact aA.tupS g h);obtain⟨as,z⟩:=r _ c rv;exact⟨_,.tuple e c' dat z⟩;cases r;exact⟨_,.nil⟩;cases r with|cons r1 r2=>have c':(PyData.canLay0 (Dt _)&&PyData.canLayAll0 (Eg _))=true:=c;rw[C6]at c';obtain⟨a1,z1⟩:=h _ c'.1 r1;obtain⟨a2,z2⟩:=t _ c'.2 r2;exact⟨_,.cons z1 z2⟩
def kG(a b:D):Bool:=(Dt a).canLay0&&(Dt b).canLay0&&decide ((Dt a).depth<=60)
def Gu(a b:D):Bool:=(Dt a).eqv (Dt b)
def Ds(a b:D):R W:=match a,b with|.str x,.str y=>.ok (.sh (.bl (decide (x=y))))|a,b=>if kG a b=true then .ok (.sh (.bl (Gu a b))) else .no
def Gz(a b:D):R W:=match a,b with|.str x,.str y=>.ok (.sh (.bl (!decide (x=y))))|a,b=>if kG a b=true then .ok (.sh (.bl (!Gu a b))) else .no
def Kj(x y:Str):decide (V.str x=V.str y)=decide (x=y):=by by_cases e:x=y;subst e;simp;rw[L8 e,L8 (λz=>e (by injection z))]
def Gj(hu:X.A.units+64<cLine):Fo X (compareOp .Eq) Ds:=by intro Z s Y H x y v u Q I rx ry q;obtain⟨EX,G,a,b,g,ra,rb,o⟩:=q;unfold Ds at o;split at o;rename_i x y;cases ra;cases rb;exact Vz Z s Y H _ _ _ _ Q I rx ry ⟨rfl,by rw[Kj];exact Cw o g (.bl _)⟩;split at o;rename_i hc;unfold kG at hc;rw[C6,C6]at hc;obtain⟨⟨h1,h2⟩,h3⟩:=hc;have h3:=E8 h3;obtain⟨as,za⟩:=aP.reads rfl I g h1 ra rx;obtain⟨bs,zb⟩:=aP.reads rfl I g h2 rb ry;refine PySem.SeqAt.compareEq_reads za zb h1 h2 ?_ ⟨.bl _,H,I,rfl,Cw o g (.bl _)⟩;have:=Nat.min_le_left (Dt a).depth (Dt b).depth;lia;exact o.elim
def iC(hu:X.A.units+64<cLine):Fo X (compareOp .NotEq) Gz:=by intro Z s Y H x y v u Q I rx ry q;obtain⟨EX,G,a,b,g,ra,rb,o⟩:=q;unfold Gz at o;split at o;rename_i x y;cases ra;cases rb;exact Vy Z s Y H _ _ _ _ Q I rx ry ⟨rfl,by rw[Kj];exact Cw o g (.bl _)⟩;split at o;rename_i hc;unfold kG at hc;rw[C6,C6]at hc;obtain⟨⟨h1,h2⟩,h3⟩:=hc;have h3:=E8 h3;obtain⟨as,za⟩:=aP.reads rfl I g h1 ra rx;obtain⟨bs,zb⟩:=aP.reads rfl I g h2 rb ry;refine PySem.SeqAt.compareNe_reads za zb h1 h2 ?_ ⟨.bl _,H,I,rfl,Cw o g (.bl _)⟩;have:=Nat.min_le_left (Dt a).depth (Dt b).depth;lia;exact o.elim
def Av:D->Bool|.aK=>true|.bl _=>true|.int _=>true|.str _=>true|_=>false
def uw:D->V|.bl b=>.bl b|.int i=>.int i|.str x=>.str x|_=>.aK
def aP.fl{G:Hp}{d:D}(r:aP K G v d)(f:Av d=true):v=uw d/\Hm v=true:=by cases r with|aK=>exact⟨rfl,rfl⟩|bl b=>exact⟨rfl,rfl⟩|int i=>exact⟨rfl,rfl⟩|str x=>exact⟨rfl,rfl⟩|lst _ _=>cases f|tup _ _=>cases f|jF _ _=>cases f|jE _ _ _ _ _=>cases f|aF _ _ _=>cases f|obj _ _ _ _=>cases f
def aP.jB{G G':Hp}{d:D}(r:aP K G v d)(f:Av d=true):aP K G' v d:=by cases r with|aK=>exact .aK|bl b=>exact .bl b|int i=>exact .int i|str x=>exact .str x|lst _ _=>cases f|tup _ _=>cases f|jF _ _=>cases f|jE _ _ _ _ _=>cases f|aF _ _ _=>cases f|obj _ _ _ _=>cases f
theorem aB.fl{G:Hp}:∀{vs:List V}{M:List D},aB K G vs M->M.all Av=true->vs=M.map uw/\vs.all Hm=true|_,_,.nil,_=>⟨rfl,rfl⟩|_,_,.cons h r,f=>by rw[Q6,C6]at f;obtain⟨S,e2⟩:=h.fl f.1;obtain⟨e3,e4⟩:=aB.fl r f.2;exact⟨by rw[B6,<-S,<-e3],by rw[Q6,e2,e4];rfl⟩
def RD(a b:D):Bool:=qM (uw a) (uw b)
def Dz(d:D)(M:List D):Bool:=M.any λy=>RD y d
def Jc(d:D)(M:List D):OW (uw d) (M.map uw)=Dz d M:=by unfold OW Dz;rw[List.any_map];rfl
def inD(neg:Bool):D->D->R W|.str i,.str j=>.ok (.sh (.bl (if neg then !(!(Builtin.Str.occurrences j i 0 j.length 1).isEmpty) else !(Builtin.Str.occurrences j i 0 j.length 1).isEmpty)))|d,.lst M=>if(Av d&&M.all Av)=true then .ok (.sh (.bl (if neg then !Dz d M else Dz d M))) else .no|d,.tup M=>if(Av d&&M.all Av)=true then .ok (.sh (.bl (if neg then !Dz d M else Dz d M))) else .no|_,_=>.no
def Jb{EX:iY}{G H:Hp}{x y:V}{d:D}{e:D}{Q:VK}{neg:Bool}(g:aA G H)(ra:aP X.K G x d)(rb:aP X.K G y e)(hd:∀i j,d=.str i->e=.str j->False)(o:Out X.K EX G H (inD neg d e) Q):Qv X.K neg x y H Q:=by
 cases rb with
 |lst h r=>
  rename_i M;have o':Out X.K EX G H (if(Av d&&M.all Av)=true then .ok (.sh (.bl (if neg then !Dz d M else Dz d M))) else .no) Q:=by cases d<;>exact o
  split at o';rename_i f;rw[C6]at f;obtain⟨S,e2⟩:=ra.fl f.1;obtain⟨e3,e4⟩:=r.fl f.2;refine⟨_,_,rfl,.inl (g.seq h),e2,e4,?_⟩;rw[S,e3,Jc];exact Cw o' g (.bl _);exact o'.elim
 |tup h r=>
  rename_i M;have o':Out X.K EX G H (if(Av d&&M.all Av)=true then .ok (.sh (.bl (if neg then !Dz d M else Dz d M))) else .no) Q:=by cases d<;>exact o
  split at o';rename_i f;rw[C6]at f;obtain⟨S,e2⟩:=ra.fl f.1;obtain⟨e3,e4⟩:=r.fl f.2;refine⟨_,_,rfl,.inr (aA.tupS g h),e2,e4,?_⟩;rw[S,e3,Jc];exact Cw o' g (.bl _);exact o'.elim
 |str j=>cases d with|str i=>exact(hd i j rfl rfl).elim|_=>exact False.elim o
 |_=>cases d<;>exact False.elim o
def wN:Fo X (compareOp .In) (inD false):=by intro Z s Y H x y v u Q I rx ry q;obtain⟨EX,G,a,b,g,ra,rb,o⟩:=q;by_cases hs:∃i j,a=.str i/\b=.str j;obtain⟨i,j,rfl,rfl⟩:=hs;cases ra;cases rb;exact acj Z s Y H _ _ _ _ Q I rx ry ⟨i,j,rfl,rfl,Cw o g (.bl _)⟩;exact aca Z s Y H _ _ _ _ Q I rx ry (Jb g ra rb (λi j S e2=>hs ⟨i,j,S,e2⟩) o)
def yA:Fo X (compareOp .NotIn) (inD true):=by intro Z s Y H x y v u Q I rx ry q;obtain⟨EX,G,a,b,g,ra,rb,o⟩:=q;by_cases hs:∃i j,a=.str i/\b=.str j;obtain⟨i,j,rfl,rfl⟩:=hs;cases ra;cases rb;exact aey Z s Y H _ _ _ _ Q I rx ry ⟨i,j,rfl,rfl,Cw o g (.bl _)⟩;exact aez Z s Y H _ _ _ _ Q I rx ry (Jb g ra rb (λi j S e2=>hs ⟨i,j,S,e2⟩) o)
def Dd:List D->R W|[.str x]=>if x.length<=16777216 then .ok (.sh (.int x.length)) else .no|[.lst M]=>.ok (.sh (.int M.length))|[.tup M]=>.ok (.sh (.int M.length))|_=>.no
def Ew:ki X (.builtin "len") Dd:=by intro Z s Y H vs us Q I rv q;obtain⟨EX,G,M,g,r,o⟩:=q;cases r with|nil=>exact False.elim o|cons h t=>cases h with|str x=>(cases t with|cons _ _=>exact False.elim o|nil=>simp only[Dd]at o;split at o;rename_i hz;exact aex Z s Y H _ _ Q I rv ⟨x,rfl,by rw[D9];exact hz,Cw o g (.int _)⟩;exact o.elim)|lst h r=>(cases t with|cons _ _=>exact False.elim o|nil=>exact Nk Z s Y H _ _ Q I rv ⟨_,_,rfl,.inl (g.seq h),by rw[r.length];exact Cw o g (.int _)⟩)|tup h r=>(cases t with|cons _ _=>exact False.elim o|nil=>exact Nk Z s Y H _ _ Q I rv ⟨_,_,rfl,.inr (aA.tupS g h),by rw[r.length];exact Cw o g (.int _)⟩)|_=>exact False.elim o
def maxD:List D->R W|[.int i,.int j]=>.ok (.sh (.int (if j>i then j else i)))|_=>.no
def minD:List D->R W|[.int i,.int j]=>.ok (.sh (.int (if j<i then j else i)))|_=>.no
def Ki{G:Hp}{vs:List V}{M:List D}(r:aB K G vs M){P:Prop}(h:∀i j,vs=[.int i,.int j]->M=[.int i,.int j]->P)(n:(∀i j,M≠ [.int i,.int j])->P):P:=by
 by_cases e:∃i j,M=[.int i,.int j];obtain⟨i,j,rfl⟩:=e;cases r with|cons a t=>cases t with|cons b t2=>cases t2;cases a;cases b;exact h i j rfl rfl
 exact n λi j z=>e ⟨i,j,z⟩
def Zd{M:List D}(h:∀i j,M≠ [.int i,.int j]):maxD M=.no:=by unfold maxD;split;rename_i i j;exact absurd rfl (h i j);rfl
def Zc{M:List D}(h:∀i j,M≠ [.int i,.int j]):minD M=.no:=by unfold minD;split;rename_i i j;exact absurd rfl (h i j);rfl
def LK(hc:X.calm=true):ki X (.builtin "max") maxD:=by intro Z s Y H vs us Q I rv q;obtain⟨EX,G,M,g,r,o⟩:=q;refine Ki r (λi j S e2=>?_) λn=>?_;subst S e2;exact aci hc Z s Y H _ _ Q I rv ⟨i,j,rfl,Cw o g (.int _)⟩;rw[Zd n]at o;exact o.elim
def abS(hc:X.calm=true):ki X (.builtin "min") minD:=by intro Z s Y H vs us Q I rv q;obtain⟨EX,G,M,g,r,o⟩:=q;refine Ki r (λi j S e2=>?_) λn=>?_;subst S e2;exact ach hc Z s Y H _ _ Q I rv ⟨i,j,rfl,Cw o g (.int _)⟩;rw[Zc n]at o;exact o.elim
def rQ:List D->R W|[.int i]=>.ok (.sh (.int i))|[.bl k]=>.ok (.sh (.int (if k then 1 else 0)))|_=>.no
def acW:ki X (.type "int") rQ:=by intro Z s Y H vs us Q I rv q;obtain⟨EX,G,M,g,r,o⟩:=q;cases r with|nil=>exact False.elim o|cons h t=>cases h with|int i=>(cases t with|cons _ _=>exact False.elim o|nil=>exact LX Z s Y H _ _ Q I rv (.inl ⟨i,rfl,Cw o g (.int _)⟩))|bl k=>(cases t with|cons _ _=>exact False.elim o|nil=>exact LX Z s Y H _ _ Q I rv (.inr ⟨k,rfl,Cw o g (.int _)⟩))|_=>exact False.elim o
def pI:List D->R W|[.lst M]=>.ok (.ow (.lst M))|[.tup M]=>.ok (.ow (.lst M))|_=>.no
def vo:ki X (.type "list") pI:=by intro Z s Y H vs us Q I rv q;obtain⟨EX,G,M,g,r,o⟩:=q;cases r with|nil=>exact False.elim o|cons h t=>cases h with|lst h r=>(cases t with|cons _ _=>exact False.elim o|nil=>exact Nj Z s Y H _ _ Q I rv ⟨_,_,rfl,.inl (g.seq h),qh o g r⟩)|tup h r=>(cases t with|cons _ _=>exact False.elim o|nil=>exact Nj Z s Y H _ _ Q I rv ⟨_,_,rfl,.inr (aA.tupS g h),qh o g r⟩)|_=>exact False.elim o
def wx:List D->R W|[.lst M]=>.ok (.sh (.tup M))|[.tup M]=>.ok (.sh (.tup M))|_=>.no
def acV:ki X (.type "tuple") wx:=by intro Z s Y H vs us Q I rv q;obtain⟨EX,G,M,g,r,o⟩:=q;cases r with|nil=>exact False.elim o|cons h t=>cases h with|lst h r=>(cases t with|cons _ _=>exact False.elim o|nil=>refine ND Z s Y H _ _ Q I rv ⟨_,_,rfl,.inl ⟨g.seq h,λp hp=>?_⟩⟩;exact o (.ref p) _ _ (Step.new g hp _) (.tup (cQ.of Bo) (r.mono (iV (g.free hp) _))))|tup h r=>(cases t with|cons _ _=>exact False.elim o|nil=>exact ND Z s Y H _ _ Q I rv ⟨_,_,rfl,.inr ⟨aA.tupS g h,Cw o g (.tup h r)⟩⟩)|_=>exact False.elim o
end
structure aC(c:Bool)(k:Nat)(A:Around):Prop where
 hd:c=true->A.handled=none
 dp:A.depth+3*k+5<recursionLimit
 un:A.units+16*k+200<cLine
def aC.mono{c:Bool}{j k:Nat}{A:Around}(r:aC c k A)(h:j<=k):aC c j A:=⟨r.hd,by have:=r.dp;lia,by have:=r.un;lia⟩
theorem aC.deeper{c:Bool}{k:Nat}{A:Around}(r:aC c (k+1) A)(env:Env):aC c k (A.deeper env):=⟨r.hd,by have:=r.dp;show A.depth+1+3*k+5<_;lia,by have:=r.un;show A.units+3+16*k+200<_;lia⟩
def aC.make{c:Bool}{k:Nat}{A:Around}(r:aC c (k+1) A)(C:Addr)(us:List Value)(kw:List (Str×Value)):aC c k (A.under (.builtin "type.__call__" ⟨.ref C::us,kw⟩)):=⟨r.hd,by have:=r.dp;rw[adb];lia,by have:=r.un;rw[ada];lia⟩
def aC.loose{c:Bool}{k:Nat}{A:Around}(r:aC c k A):aC false k A:=⟨λz=>absurd z B5,r.dp,r.un⟩
theorem aC.mark{c:Bool}{k:Nat}{A:Around}(r:aC c k A)(h:Option Value):aC false k (A.mark h):=⟨λz=>absurd z B5,r.dp,r.un⟩
def aC.of{k:Nat}{A:Around}(r:dY k A):aC true k A:=⟨λ_=>r.hd,r.dp,r.un⟩
structure bF(P:Program)(w:World)(K:Frag)(mg:AB)(base:Heap)(c:Bool)(k:Nat)(f:Addr)(fd:FuncData)(ps:List Str)(sp:Sp):Prop where
 len:∀vs H Q E,sp vs H Q E->vs.length=ps.length
 run:∀(A:Around) (outer:List Env) (s:Shared) (H:Hp) (args:Args) (us:List Value) (vs:List V) (Q:VK) (E:XK),aC c k A->dE P w K mg base A outer s H->BindsTo s fd args (ps.zip us)->Vals vs us->sp vs H Q E->codeAny (model P w) A (.call (.ref f) args) (CR (kK P w) outer P w H s Q E) s
abbrev Fb(c:Bool)(P:Program)(w:World)(K:Frag)(mg:AB)(base:Heap)(N:List Str)(qual:Str)(scope:Scope)(f:Addr)(cd:Value)(A:Around)(outer:List Env)(s:Shared)(H:Hp)(E:XK):Cx:={Gc (kK P w) P w K mg base N qual scope f cd A outer s H E with calm:=c}
def acU{c:Bool}{P:Program}{w:World}{N ps:List Str}{qual:Str}{scope:Scope}{f:Addr}{cd:Value}{A:Around}{outer:List Env}{s s1:Shared}{E:XK}{vs:List V}(e1:aS N ps scope) (hd:c=true->A.handled=none) (e0:dE P w K mg base A outer s H) (hl:vs.length=ps.length) (r:Vals vs us)(x:InCallC s s.heap.objs.size (bindL (envOfC qual scope s.heap.objs.size f cd).kindOf (ps.zip us) λ_=>none) (cellsFrom (s.heap.objs.size+1) scope.names []) (bindC (envOfC qual scope s.heap.objs.size f cd).kindOf (ps.zip us) λ_=>none) s1):Inv (Fb c P w K mg base N qual scope f cd A outer s H E) [] (Gg N vs) H s1:=by have I:=acd (CX:=kK P w) (E:=E) (qual:=qual) (f:=f) (cd:=cd) (A:={A with handled:=none}) e1 rfl ⟨e0.frames,e0.mod,e0.bs,e0.iX,e0.bV,e0.lr,e0.aJ,e0.bare,e0.tb⟩ hl r x;exact⟨⟨I.ok.mod,I.ok.kind,I.ok.glob,I.ok.blt,I.ok.above,I.ok.inj,I.ok.has,I.ok.qO,hd,Y8 e0.frames,I.ok.tV,I.ok.AL,I.ok.bs,I.ok.iX,I.ok.eU,I.ok.gQ,I.ok.bV,I.ok.lr,I.ok.tb⟩,I.os,I.bare,I.base,I.loc,I.cell,I.free,I.bD,I.pin,I.aJ,I.len⟩
def HF{c:Bool}{P:Program}{w:World}{k:Nat}{f:Addr}{name qual:Str}{params:Arguments}{body:List Stmt}{scope:Scope}{dV kV doc pm zn ct oc:Value}{an od:Option Addr}{pN:Array (Option Value)} {N ps:List Str} {sp:Sp} (lk:K.lookup f=some ⟨oc,od,.func (fnOf name qual params body scope dV kV doc pm an zn ct),pN⟩) (bI:codeIn K zn qual=true) (e1:aS N ps scope)(len:∀vs H Q E,sp vs H Q E->vs.length=ps.length)(zj:∀(A:Around) (outer:List Env) (s:Shared) (H:Hp) (vs:List V) (Q:VK) (E:XK),aC c k (A.deeper (envOfC qual scope s.heap.objs.size f zn))->sp vs H Q E->∃t,gI (Fb c P w K mg base N qual scope f zn A outer s H E) body t/\t {nx:=λ_ O=>Q .aK O,rt:=Q} (Gg N vs) H):bF P w K mg base c (k+1) f (fnOf name qual params body scope dV kV doc pm an zn ct) ps sp:=by
 refine⟨len,λA outer s H args us vs Q E hr e0 J r um=>?_⟩;have hl:=len _ _ _ _ um;have KX:K.In s.heap:=e0.mod.kC.keeps λb o e=>(e0.bs b o e).1;have lim:s.heap.NoLimit:=e0.mod.nolimit.keeps λb o e=>(e0.bs b o e).1;have di:∀y∈ps.zip us,scope.names.lookup y.1=some .local\/(scope.names.lookup y.1=some .cell/\((cellsFrom (s.heap.objs.size+1) scope.names []).lookup y.1).isSome=true):=λ⟨n,v⟩ hy=>by rcases e1.par n (SM hy).1 with q|q;exact .inl q;exact .inr ⟨q,ZE8 _ _ _ (.inl q)⟩
 have dp:A.depth<recursionLimit:=by have:=hr.dp;lia
 refine codeAny_call_function dp (KX _ _ lk) rfl e1.co e1.gen rfl (codeRec_of KX bI) (J _ _ _ _ ?_);refine wpAny_newFunctionEnv_cells e1.kind di λenv he s1 x=>?_;subst he;refine⟨lim.keeps x.toInCall.keep,codeAny_func ?_⟩;obtain⟨t,ht,hq⟩:=zj A outer s H vs Q E (hr.deeper _) um;have I:Inv (Fb c P w K mg base N qual scope f zn A outer s H E) [] (Gg N vs) H s1:=acU e1 hr.hd e0 hl r x;refine F5 (ht [] s1 (Gg N vs) H _ I hq) (λfl s' hs=>?_) λe s' hs=>hs;have fin:∀{σ':Sg} {O:Hp} {v:V} {u:Value},Inv (Fb c P w K mg base N qual scope f zn A outer s H E) [] σ' O s'->RelV v u->Q v O->CE outer P w H s Q u s':=λ{σ' O v u} hb rv q=>⟨v,O,hb.os,hb.bare,hb.base,hb.aJ,rv,q⟩;cases fl with|ret u=>obtain⟨v,σ',O,hb,rv,q⟩:=hs;exact fin hb rv q|next=>obtain⟨σ',O,hb,q⟩:=hs;exact fin (v:=V.aK) (u:=Value.none) hb rfl q|brk=>obtain⟨_,_,_,q⟩:=hs;exact False.elim q|cont=>obtain⟨_,_,_,q⟩:=hs;exact False.elim q
def aY.BS{c:Bool}{P:Program}{w:World}{x qual:Str}{st:Stmt}{f:Addr}{N ps:List Str}{k:Nat}{sp:Sp}(F:aY K x qual st f fd)(e1:aS N ps (Bt st))(len:∀vs H Q E,sp vs H Q E->vs.length=ps.length)(zj:∀(zn:Value) (A:Around) (outer:List Env) (s:Shared) (H:Hp) (vs:List V) (Q:VK) (E:XK),aC c k (A.deeper (envOfC qual (Bt st) s.heap.objs.size f zn))->sp vs H Q E->∃t,gI (Fb c P w K mg base N qual (Bt st) f zn A outer s H E) (Fg st) t/\t {nx:=λ_ O=>Q .aK O,rt:=Q} (Gg N vs) H):bF P w K mg base c (k+1) f fd ps sp:=by obtain⟨oc,od,kV,doc,pm,an,zn,ct,pN,rfl,lk,bI⟩:=F.ex;exact HF lk bI e1 len λA outer s H vs Q E hr um=>zj zn A outer s H vs Q E hr um
def Lk(X:Cx)(EX:Be):Prop:=∀(Z:AE) (Y:Sg) (H:Hp) (s:Shared) (e:Value) (s':Shared),Inv X Z Y H s->kK X.prog X.w X.stack H s (nz X.K (EX Y)) e s'->X.xe e s'
def kB:Lk X Cl:=λZ Y H s e s' I c=>by obtain⟨a,C,dx,T,O,_,_,_,_,_,_,_,_,_,_,x,G,_,_,q⟩:=c;exact False.elim q
def oq{c:Bool}{P:Program}{w:World}{N:List Str}{qual:Str}{scope:Scope}{f:Addr}{cd:Value}{A:Around}{outer:List Env}{s:Shared}{E:XK}:Lk (Fb c P w K mg base N qual scope f cd A outer s H E) (λ_=>bK K E):=λZ Y H s e s' I h=>abX I h λcls dx O q=>q.of
def Bj(K:Frag)(n:Nat)(F:AF):Sp:=λvs H Q E=>vs.length=n/\∃G M,aA G H/\aB K G vs M/\Out K (bK K E) G H (F M) Q
def Az(n:Nat)(F:AF)(fa:FA):FE:=λ δ=>(fa δ).bind λM=>if M.length=n then F M else .no
def AY(P:Program)(w:World)(K:Frag)(mg:AB)(base:Heap)(c:Bool)(x:Str)(k:Nat)(ps:List Str)(F:AF):Prop:=∃f fd,bF P w K mg base c k f fd ps (Bj K ps.length F)/\mg x=some (.ref f)/\keepIn K (.ref f)=true/\Binds K fd ps []
section
variable{X:Cx}{EX:Be}{e:Expr}{es:List Expr}{fa:FA}{x:Str}{pp pos:Pos}{c:Bool}{k k':Nat}{ps:List Str}{F:AF}
def oP{Z:AE}{Y:Sg}{s:Shared}{Q:VK}{vs:List V}{f:Addr}{sp:Sp}(F:bF X.prog X.w X.K X.mg X.base c k f fd ps sp)(hr:aC c k X.A)(J:Binds X.K fd ps [])(lk:Lk X EX)(I:Inv X Z Y H s) (r:Vals vs us) (h:sp vs H Q (nz X.K (EX Y))):wpAny (model X.prog X.w) X.A (call (.ref f) us) (EP X Z Y Q) X.xe s:=by
 have hl:us.length=ps.length:=by rw[<-r.length];exact F.len _ _ _ _ h
 have cR:=J s us I.bU (by rw[G6];exact hl);rw[G6]at cR;refine Y4 (U4 (F.run X.A X.stack s H ⟨us,[]⟩ us vs Q _ hr I.vX cR r h) λr s' hq=>?_);cases r with|error e=>exact lk Z Y H s e s' I hq|ok fl=>cases fl with|ret u=>exact I.after hq|next=>exact False.elim hq|brk=>exact False.elim hq|cont=>exact False.elim hq
def Bc(hr:aC c k' X.A)(lk:Lk X EX)(h:AY X.prog X.w X.K X.mg X.base c x k ps F)(ha:AD X EX (e::es) fa)(hk:k<=k':=by decide)(hg:Gl X x:=by rfl)(cL:AG x:=by decide)(he:starEach (e::es) X.env=(false,eval e X.env)::starEach es X.env:=by rfl) (bM:(backTo pos (starEach es X.env)).any (·.1)=false:=by rfl):ED X EX (.Call (.Name x pp) (e::es) [] pos) (Az ps.length F fa):=by
 obtain⟨f,fd,ok,hm,kp,J⟩:=h;intro Z s Y H Q I q;obtain⟨G,δ,g0,s0,o⟩:=q;refine N1 (pJ I hg hm ?_ cL);have ta:dR X.K EX fa Y H λvs H1=>Bj X.K ps.length F vs H1 Q (nz X.K (EX Y)):=by
  refine dR.seq g0 s0 o λM vs G' O _ st r o'=>?_;split at o';rename_i hl;refine⟨by rw[r.length];exact hl,G',M,st.gh,r,?_⟩;cases q:F M with|ok w=>rw[q]at o';exact o'|ex x=>rw[q]at o';exact bK.in o'|no=>rw[q]at o';exact o'.elim
  exact o'.elim
 refine W7 (h₀:=X.base) I.ok.mod.kC kp (Bb (ha pos Z s Y H _ I ta) λus s1 ⟨vs,H1,I1,r,q⟩=>⟨I1.bU,?_⟩) he bM;exact oP ok (hr.mono hk) J lk I1 r q
end
inductive Sl where|no|sh (d:D)|ow (d:D)|tr (t:Tn)|lk (d:D)|lt (t:Tn)
abbrev SE:=List Sl
inductive Fl where|nx (B:SE)|rt (w:W)|bk (B:SE)|ct (B:SE)|ex (x:Xn) (B:SE)|rv (d:D) (B:SE)|no
abbrev FS:=SE->Fl
def Sl.qp:Sl->Option D|.sh d=>some d|_=>none
def Sl.any:Sl->Option D|.sh d=>some d|.ow d=>some d|.tr t=>some t.d|.lk d=>some d|.lt t=>some t.d|.no=>none
def Sl.give:Sl->Sl|.ow d=>.sh d|.tr t=>.sh t.d|s=>s
def Sl.own:Sl->Option Tn|.ow d=>some (Tn.of d)|.tr t=>some t|.lk d=>some (Tn.of d)|.lt t=>some t|_=>none
def Ay(B:SE):DE:=B.map Sl.qp
def At(B:SE):DE:=B.map Sl.any
def bZ(B:SE):SE:=B.map Sl.give
abbrev OS:=Nat->AS
structure HB where
 h:Hp
 b:Nat->Addr
structure Ev(K:Frag)(H0:HB)(G0 G H:Hp)(Y:Sg)(B:SE)(A:OS):Prop where
 st:Step G0 H0.h G H
 len:Y.length=B.length
 sh:∀(i:Nat) (d:D),B[i]?=some (.sh d)->∃v,Y[i]?=some (some v)/\aP K G v d
 ow:∀(i:Nat) (s:Sl) (t:Tn),B[i]?=some s->s.own=some t->∃v,Y[i]?=some (some v)/\Ow K G H v t (A i)
 out:∀(i:Nat) (a:Addr),A i a->G a=none/\H0.h a=none/\H a≠none
 dj:∀(i j:Nat) (a:Addr),A i a->A j a->i=j
 lk:∀(i:Nat) (d:D),B[i]?=some (.lk d)->Y[i]?=some (some (.ref (H0.b i)))
 lt:∀(i:Nat) (t:Tn),B[i]?=some (.lt t)->Y[i]?=some (some (.ref (H0.b i)))
def Fa(G H:Hp)(A:OS):Hp:=Ca G H λb=>∃i,A i b
structure bS(e1:AS)(G H G' O:Hp):Prop where
 hh:∀b o,¬e1 b->H b=some o->O b=some o
 al:∀b,H b≠none->O b≠none
 gh:aA G' O
 gg:aA G G'
 nw:∀b,G b=none->H b≠none->G' b=none
structure dM(e1:AS)(G H G' O:Hp):Prop where
 hh:∀b o,¬e1 b->H b=some o->O b=some o
 gh:aA G' O
 gg:aA G G'
 nw:∀b,¬e1 b->G b=none->H b≠none->G' b=none
def bS.weak{e1:AS}{G H G' O:Hp}(m:bS e1 G H G' O):dM e1 G H G' O:=⟨m.hh,m.gh,m.gg,λb _=>m.nw b⟩
def Step.m{e1:AS}{G H G' O:Hp}(s:Step G H G' O):bS e1 G H G' O:=⟨λb o _ q=>s.hh b o q,λb n z=>n (s.hh.free z),s.gh,s.gg,s.nw⟩
def bS.andThen{e1:AS}{G H G1 H1 G2 H2:Hp}(a:bS e1 G H G1 H1)(b:Step G1 H1 G2 H2):bS e1 G H G2 H2:=⟨λc o n q=>b.hh c o (a.hh c o n q),λc n z=>a.al c n (b.hh.free z),b.gh,a.gg.trans b.gg,λc e n=>b.nw c (a.nw c e n) (a.al c n)⟩
def bS.write{e1:AS}{G H:Hp}(g:aA G H){a:Addr}(hs:e1 a)(n:G a=none)(o:HO):bS e1 G H G (L2.upd H a o):=⟨λb o' nb q=>by rw[Ax (λz=>nb (by rw[z];exact hs))];exact q,λb nb=>by
  by_cases z:b=a;subst z;rw[Bo];simp;rw[Ax z];exact nb,λb o' q=>by
  by_cases z:b=a;subst z;rw[n]at q;cases q;rw[Ax z];exact g b o' q,aA.refl _,λ_ e _=>e⟩
def Gb(A:OS)(i:Nat)(e1:AS):OS:=λj=>if j=i then e1 else A j
def jw{A:OS}{i:Nat}{e1:AS}:Gb A i e1 i=e1:=if_pos rfl
def Gf{A:OS}{i j:Nat}{e1:AS}(h:j≠i):Gb A i e1 j=A j:=if_neg h
section
variable{K:Frag}{H0:HB}{G0 G H G' O:Hp}{Y:Sg}{B:SE}{A:OS}
def Ev.eA(E:Ev K H0 G0 G H Y B A):aT K G Y (Ay B):=⟨by rw[E.len];unfold Ay;rw[A4],λi d q=>by unfold Ay at q;rw[B3]at q;cases e:B[i]? with|none=>rw[e]at q;cases q|some z=>rw[e]at q;cases z with|sh d'=>cases q;exact E.sh i d e|_=>cases q⟩
def Ev.aH(E:Ev K H0 G0 G H Y B A):aA (Fa G H A) H:=λb o q=>by unfold Fa Ca at q;split at q;exact q;exact E.st.gh b o q
def Ev.aG(E:Ev K H0 G0 G H Y B A):aA G (Fa G H A):=λb o q=>by unfold Fa Ca;split;rename_i J;obtain⟨i,J⟩:=J;rw[(E.out i b J).1]at q;cases q;exact q
def Ev.Ob(E:Ev K H0 G0 G H Y B A):Step G0 H0.h (Fa G H A) H:=⟨E.st.hh,E.aH,E.st.gg.trans E.aG,λb n z=>by unfold Fa Ca;split;rename_i J;obtain⟨i,J⟩:=J;exact absurd (E.out i b J).2.1 z;exact E.st.nw b n z⟩
def Ev.PN{A:OS}{G H:Hp}{i:Nat}{b:Addr}{o:HO}(J:A i b)(q:H b=some o):Fa G H A b=some o:=by unfold Fa Ca;rw[if_pos ⟨i,J⟩];exact q
def Ev.bZ(E:Ev K H0 G0 G H Y B A):aT K (Fa G H A) Y (At B):=⟨by rw[E.len];unfold At;rw[A4],λi d q=>by unfold At at q;rw[B3]at q;cases e:B[i]? with|none=>rw[e]at q;cases q|some z=>rw[e]at q;cases z with|sh d'=>cases q;obtain⟨v,S,r⟩:=E.sh i d e;exact⟨v,S,r.mono E.aG⟩|ow d'=>cases q;obtain⟨v,S,t⟩:=E.ow i _ _ e rfl;have r:=t.has E.aG λb o J q=>Ev.PN J q;rw[Tn.dW]at r;exact⟨v,S,r⟩|tr t'=>cases q;obtain⟨v,S,t⟩:=E.ow i _ _ e rfl;exact⟨v,S,t.has E.aG λb o J q=>Ev.PN J q⟩|lk d'=>cases q;obtain⟨v,S,t⟩:=E.ow i _ _ e rfl;have r:=t.has E.aG λb o J q=>Ev.PN J q;rw[Tn.dW]at r;exact⟨v,S,r⟩|lt t'=>cases q;obtain⟨v,S,t⟩:=E.ow i _ _ e rfl;exact⟨v,S,t.has E.aG λb o J q=>Ev.PN J q⟩|no=>cases q⟩
def Ev.grow(E:Ev K H0 G0 G H Y B A)(s:Step G H G' O):Ev K H0 G0 G' O Y B A:=⟨E.st.trans s,E.len,λi d e=>let⟨v,S,r⟩:=E.sh i d e;⟨v,S,r.mono s.gg⟩,λi z d e z'=>let⟨v,S,t⟩:=E.ow i z d e z';⟨v,S,t.mono s.gg (λb o _ q=>s.hh b o q) λ_ q=>q⟩,λi a ha=>let⟨h1,h2,h3⟩:=E.out i a ha;⟨s.nw a h1 h3,h2,λz=>h3 (s.hh.free z)⟩,E.dj,E.lk,E.lt⟩
def Ev.keep(E:Ev K H0 G0 G H Y B A)(s:aA H O):Ev K H0 G0 G O Y B A:=E.grow ⟨s,E.st.gh.trans s,aA.refl _,λ_ n _=>n⟩
def Gs{α:Type}{l:List α}{i j:Nat}{x y:α}(h:(l.set i x)[j]?=some y):(i=j/\y=x)\/(i≠j/\l[j]?=some y):=by by_cases e:i=j;subst e;rw[List.getElem?_set]at h;simp only[if_true]at h;split at h;exact .inl ⟨rfl,(L9 h).symm⟩;cases h;rw[D4 e]at h;exact .inr ⟨e,h⟩
def wM{α:Type}{l:List α}{i:Nat}{x y:α}(h:(l.set i x)[i]?=some y):i<l.length:=by by_cases hh:i<l.length;exact hh;rw[K8 (by rw[F7];lia)]at h;cases h
def Ev.put(E:Ev K H0 G0 G H Y B A){i:Nat}{d:D}(r:aP K G v d):Ev K H0 G0 G H (Y.set i (some v)) (B.set i (.sh d)) A:=by refine⟨E.st,by rw[F7,F7];exact E.len,λj d' e=>?_,λj z d' e zo=>?_,E.out,E.dj,λj d' e=>?_,λj d' e=>?_⟩;rcases Gs e with⟨rfl,q⟩|⟨n,q⟩;cases q;exact⟨v,by rw[K2 (by rw[E.len];exact wM e)],r⟩;obtain⟨v',S,r'⟩:=E.sh j d' q;exact⟨v',by rw[D4 n];exact S,r'⟩;rcases Gs e with⟨rfl,q⟩|⟨n,q⟩;subst q;cases zo;obtain⟨v',S,t⟩:=E.ow j z d' q zo;exact⟨v',by rw[D4 n];exact S,t⟩;rcases Gs e with⟨rfl,q⟩|⟨n,q⟩;cases q;rw[D4 n];exact E.lk j d' q;rcases Gs e with⟨rfl,q⟩|⟨n,q⟩;cases q;rw[D4 n];exact E.lt j d' q
def Ev.lz(E:Ev K H0 G0 G H Y B A){i:Nat}{z:Sl}{d:Tn}{e1:AS}(fr:∀a,e1 a->H0.h a=none/\G a=none/\H a≠none)(zo:z.own=some d)(zl:∀d,z≠.lk d)(t:Ow K G H v d e1)(nw:∀j a,A j a->¬e1 a)(zt:∀d,z=.lt d->v=.ref (H0.b i):=by intro _ z;cases z):Ev K H0 G0 G H (Y.set i (some v)) (B.set i z) (Gb A i e1):=by refine⟨E.st,by rw[F7,F7];exact E.len,λj d' e'=>?_,λj z' d' e' pH=>?_,λj a ha=>?_,λj j' a h1 h2=>?_,λj d' e'=>?_,λj d' e'=>?_⟩;rcases Gs e' with⟨rfl,q⟩|⟨nn,q⟩;subst q;cases zo;obtain⟨v',S,r'⟩:=E.sh j d' q;exact⟨v',by rw[D4 nn];exact S,r'⟩;rcases Gs e' with⟨rfl,q⟩|⟨nn,q⟩;subst q;rw[zo]at pH;cases pH;exact⟨v,by rw[K2 (by rw[E.len];exact wM e')],by rw[jw];exact t⟩;obtain⟨v',S,x⟩:=E.ow j z' d' q pH;exact⟨v',by rw[D4 nn];exact S,by rw[Gf (Ne.symm nn)];exact x⟩;by_cases z:j=i;subst z;rw[jw]at ha;obtain⟨a1,a2,a3⟩:=fr a ha;exact⟨a2,a1,a3⟩;rw[Gf z]at ha;exact E.out j a ha;by_cases z:j=i;by_cases z':j'=i;rw[z,z'];rw[z,jw]at h1;rw[Gf z']at h2;exact absurd h1 (nw j' a h2);by_cases z':j'=i;rw[Gf z]at h1;rw[z',jw]at h2;exact absurd h2 (nw j a h1);rw[Gf z]at h1;rw[Gf z']at h2;exact E.dj j j' a h1 h2;rcases Gs e' with⟨rfl,q⟩|⟨nn,q⟩;exact absurd q.symm (zl d');rw[D4 nn];exact E.lk j d' q;rcases Gs e' with⟨rfl,q⟩|⟨nn,q⟩;rw[K2 (by rw[E.len];exact wM e'),zt d' q.symm];rw[D4 nn];exact E.lt j d' q
def Ev.dB(E:Ev K H0 G0 G H Y B A){i:Nat}{z:Sl}{d':Tn}{e1:AS}(zo:z.own=some d')(zl:∀d,z≠.lk d)(zt:∀d,z=.lt d->Y[i]?=some (some (.ref (H0.b i))))(ms:dM (A i) G H G' O)(s:Y[i]?=some (some v))(fr:∀a,e1 a->(A i a\/H a=none)/\G' a=none/\O a≠none)(t:Ow K G' O v d' e1):Ev K H0 G0 G' O Y (B.set i z) (Gb A i e1):=by
 have st:Step G0 H0.h G' O:=⟨λb o q=>ms.hh b o (λJ=>by rw[(E.out i b J).2.1]at q;cases q) (E.st.hh b o q),ms.gh,E.st.gg.trans ms.gg,λb n z=>ms.nw b (λJ=>z (E.out i b J).2.1) (E.st.nw b n z) λq=>z (E.st.hh.free q)⟩;refine⟨st,by rw[F7];exact E.len,λj d2 e'=>?_,λj z' d2 e' pH=>?_,λj a ha=>?_,λj j' a h1 h2=>?_,λj d2 e'=>?_,λj d2 e'=>?_⟩;rcases Gs e' with⟨rfl,q⟩|⟨nn,q⟩;subst q;cases zo;obtain⟨v',S,r'⟩:=E.sh j d2 q;exact⟨v',S,r'.mono ms.gg⟩;rcases Gs e' with⟨rfl,q⟩|⟨nn,q⟩;subst q;rw[zo]at pH;cases pH;exact⟨v,s,by rw[jw];exact t⟩;obtain⟨v',S,x⟩:=E.ow j z' d2 q pH;rw[Gf (Ne.symm nn)];exact⟨v',S,x.mono ms.gg (λb o J q=>ms.hh b o (λhi=>nn (E.dj i j b hi J)) q) λ_ q=>q⟩;by_cases z:j=i;subst z;rw[jw]at ha;obtain⟨a1,a2,a3⟩:=fr a ha;refine⟨a2,?_,a3⟩;rcases a1 with a1|a1;exact(E.out j a a1).2.1;exact E.st.hh.free a1;rw[Gf z]at ha;obtain⟨h1,h2,h3⟩:=E.out j a ha;have hn:¬A i a:=λJ=>z (E.dj j i a ha J);refine⟨ms.nw a hn h1 h3,h2,λq=>?_⟩;cases e:H a with|none=>exact h3 e|some o=>rw[ms.hh a o hn e]at q;cases q
 have own:∀k,k≠i->A k a->¬e1 a:=λk nk hk hs=>by rcases(fr a hs).1 with q|q;exact nk (E.dj k i a hk q);exact(E.out k a hk).2.2 q
 by_cases z:j=i;by_cases z':j'=i;rw[z,z'];rw[z,jw]at h1;rw[Gf z']at h2;exact absurd h1 (own j' z' h2);by_cases z':j'=i;rw[Gf z]at h1;rw[z',jw]at h2;exact absurd h2 (own j z h1);rw[Gf z]at h1;rw[Gf z']at h2;exact E.dj j j' a h1 h2;rcases Gs e' with⟨rfl,q⟩|⟨nn,q⟩;exact absurd q.symm (zl d2);exact E.lk j d2 q;rcases Gs e' with⟨rfl,q⟩|⟨nn,q⟩;exact zt d2 q.symm;exact E.lt j d2 q
def Ev.step(E:Ev K H0 G0 G H Y B A){i:Nat}{z:Sl}{d':Tn}{e1:AS}(zo:z.own=some d')(zl:∀d,z≠.lk d)(ms:bS (A i) G H G' O)(s:Y[i]?=some (some v))(fr:∀a,e1 a->(A i a\/H a=none)/\G' a=none/\O a≠none)(t:Ow K G' O v d' e1)(zt:∀d,z≠.lt d:=by intro _ z;cases z):Ev K H0 G0 G' O Y (B.set i z) (Gb A i e1):=E.dB zo zl (λd e=>absurd e (zt d)) ms.weak s fr t
def Ev.dJ(E:Ev K H0 G0 G H Y B A){i:Nat}{a:Addr}{vs:List V}{M:List D}(s:Y[i]?=some (some (.ref a)))(m:A i a)(r:aB K G vs M):Ev K H0 G0 G (upd H a (.lst vs)) Y (B.set i (.ow (.lst M))) (Gb A i (A i)):=
 have ms:=bS.write E.st.gh m (E.out i a m).1 (.lst vs)
 E.step rfl (λ_ z=>by cases z) ms s (λb J=>⟨.inl J,(E.out i b J).1,ms.al b (E.out i b J).2.2⟩) (Ow.list Bo m r)
def Ev.zr(E:Ev K H0 G0 G H Y B A){i:Nat}{a:Addr}{kvs:List (Am×V)}{aL:List (Am×D)}(s:Y[i]?=some (some (.ref a)))(m:A i a)(hk:kvs.map (·.1)=aL.map (·.1))(r:aB K G (kvs.map (·.2)) (aL.map (·.2))):Ev K H0 G0 G (upd H a (.dK kvs)) Y (B.set i (.ow (.aF aL))) (Gb A i (A i)):=
 have ms:=bS.write E.st.gh m (E.out i a m).1 (.dK kvs)
 E.step rfl (λ_ z=>by cases z) ms s (λb J=>⟨.inl J,(E.out i b J).1,ms.al b (E.out i b J).2.2⟩) (Ow.dict Bo hk m r)
end
def eE(B:SE)(j:Nat):SE:=match B[j]? with|some s=>B.set j s.give|none=>B
def aE(js:List Nat)(B:SE):SE:=js.foldl eE B
section
variable{K:Frag}{H0:HB}{G0 G H:Hp}{Y:Sg}{B:SE}{A:OS}
def uS{α:Type}{l:List α}{j:Nat}{x:α}(h:l[j]?=some x):l.set j x=l:=by apply S3;intro i;by_cases e:j=i;subst e;have cK:j<l.length:=(A7.mp h).1;rw[K2 cK,h];rw[D4 e]
def Ev.uM(E:Ev K H0 G0 G H Y B A){j:Nat}{z:Sl}{t:Tn}(e:B[j]?=some z)(zo:z.own=some t):aA G (Ca G H (A j))/\Ev K H0 G0 (Ca G H (A j)) H Y (B.set j (.sh t.d)) (Gb A j λ_=>False):=by obtain⟨v,s1,t⟩:=E.ow j z t e zo;have sg:aA G (Ca G H (A j)):=λb o q=>(by unfold Ca;split;rename_i J;rw[(E.out j b J).1]at q;cases q;exact q);have gh:aA (Ca G H (A j)) H:=λb o q=>(by unfold Ca at q;split at q;exact q;exact E.st.gh b o q);refine⟨sg,⟨E.st.hh,gh,E.st.gg.trans sg,λb h1 h2=>?_⟩,by rw[F7];exact E.len,λi d' e'=>?_,λi z' d' e' pH=>?_,λi b J=>?_,λi i' b h1 h2=>?_,λi d' e'=>?_,λi d' e'=>?_⟩;unfold Ca;split;rename_i J;exact absurd (E.out j b J).2.1 h2;exact E.st.nw b h1 h2;rcases Gs e' with⟨rfl,q⟩|⟨n,q⟩;cases q;refine⟨v,s1,t.has sg λb o J q=>?_⟩;unfold Ca;rw[if_pos J];exact q;obtain⟨v',S,r⟩:=E.sh i d' q;exact⟨v',S,r.mono sg⟩;rcases Gs e' with⟨rfl,q⟩|⟨n,q⟩;subst q;cases pH;obtain⟨v',S,t'⟩:=E.ow i z' d' q pH;rw[Gf (Ne.symm n)];exact⟨v',S,t'.mono sg (λb o _ q=>q) λ_ q=>q⟩;by_cases z:i=j;subst z;rw[jw]at J;exact J.elim;rw[Gf z]at J;obtain⟨k1,k2,k3⟩:=E.out i b J;refine⟨?_,k2,k3⟩;unfold Ca;rw[if_neg λq=>z (E.dj i j b J q)];exact k1;by_cases z:i=j;subst z;rw[jw]at h1;exact h1.elim;by_cases z':i'=j;subst z';rw[jw]at h2;exact h2.elim;rw[Gf z]at h1;rw[Gf z']at h2;exact E.dj i i' b h1 h2;rcases Gs e' with⟨rfl,q⟩|⟨n,q⟩;cases q;exact E.lk i d' q;rcases Gs e' with⟨rfl,q⟩|⟨n,q⟩;cases q;exact E.lt i d' q
def Ev.uN(E:Ev K H0 G0 G H Y B A){j:Nat}{z:Sl}{t:Tn}(e:B[j]?=some z)(zo:z.own=some t):∃G' A',aA G G'/\Ev K H0 G0 G' H Y (B.set j (.sh t.d)) A':=⟨_,_,E.uM e zo⟩
theorem Ev.eE(E:Ev K H0 G0 G H Y B A)(j:Nat):∃G' A',aA G G'/\Ev K H0 G0 G' H Y (L3.eE B j) A':=by unfold L3.eE;cases e:B[j]? with|none=>exact⟨G,A,aA.refl _,E⟩|some s=>cases s with|no=>exact⟨G,A,aA.refl _,by show Ev K H0 G0 G H Y (B.set j .no) A;rw[uS e];exact E⟩|sh d=>exact⟨G,A,aA.refl _,by show Ev K H0 G0 G H Y (B.set j (.sh d)) A;rw[uS e];exact E⟩|ow d=>have:=E.uN e (t:=Tn.of d) rfl;rw[Tn.dW]at this;exact this|tr t=>exact E.uN e rfl|lk d=>exact⟨G,A,aA.refl _,by show Ev K H0 G0 G H Y (B.set j (.lk d)) A;rw[uS e];exact E⟩|lt t=>exact⟨G,A,aA.refl _,by show Ev K H0 G0 G H Y (B.set j (.lt t)) A;rw[uS e];exact E⟩
theorem Ev.aE:∀(js:List Nat) {G:Hp}{B:SE}{A:OS},Ev K H0 G0 G H Y B A->∃G' A',aA G G'/\Ev K H0 G0 G' H Y (L3.aE js B) A'|[],G,B,A,E=>⟨G,A,aA.refl _,E⟩|j::js,G,B,A,E=>by obtain⟨G1,A1,s1,E1⟩:=E.eE j;obtain⟨G2,A2,s2,E2⟩:=Ev.aE js E1;exact⟨G2,A2,s1.trans s2,E2⟩
end
def Fin(K:Frag)(EX:Be)(H0:HB)(G0 G1:Hp)(D:Ends):Fl->Prop|.nx B=>∀Y G H H',Ev K H0 G0 G H Y B H'->aA G1 G->D.nx Y H|.bk B=>∀Y G H H',Ev K H0 G0 G H Y B H'->aA G1 G->D.bk Y H|.ct B=>∀Y G H H',Ev K H0 G0 G H Y B H'->aA G1 G->D.ct Y H|.rt w=>WP K G0 H0.h w D.rt|.rv d B=>∀v Y G H H',Ev K H0 G0 G H Y B H'->aA G1 G->aP K G v d->D.rt v H|.ex x B=>∀Y G H H',Ev K H0 G0 G H Y B H'->aA G1 G->(EX Y).p x G H|.no=>False
def Fin.mono{EX:Be}{H0:HB}{G0 G1 G2:Hp}{D:Ends}{r:Fl}(s:aA G1 G2)(h:Fin K EX H0 G0 G1 D r):Fin K EX H0 G0 G2 D r:=by cases r with|nx B=>exact λ Y G H H' E q=>h Y G H H' E (s.trans q)|bk B=>exact λ Y G H H' E q=>h Y G H H' E (s.trans q)|ct B=>exact λ Y G H H' E q=>h Y G H H' E (s.trans q)|rt w=>exact h|rv d B=>exact λv Y G H H' E q=>h v Y G H H' E (s.trans q)|ex x B=>exact λ Y G H H' E q=>h Y G H H' E (s.trans q)|no=>exact h
def tS(K:Frag)(EX:Be)(g:FS):TS:=λD Y H=>∃H0 G0 G B H',Ev K H0 G0 G H Y B H'/\Fin K EX H0 G0 G D (g B)
abbrev SD(X:Cx)(EX:Be)(st:Stmt)(g:FS):Prop:=PS X st (tS X.K EX g)
abbrev BD(X:Cx)(EX:Be)(st:List Stmt)(g:FS):Prop:=gI X st (tS X.K EX g)
section
variable{X:Cx}{EX:Be}{st:Stmt}{sts:List Stmt}{g h:FS}{pos:Pos}{e:Expr}{f:FE}{p:FT}
def Bi:FS:=λ B=>.nx B
def Ae(g h:FS):FS:=λ B=>match g B with|.nx Δ'=>h Δ'|r=>r
def De:BD X EX [] Bi:=gI.imp Zw λD Y H ⟨H0,G0,G,B,H',E,q⟩=>q Y G H H' E (aA.refl _)
def Aq(h1:SD X EX st g):BD X EX [st] g:=sH h1
def Ao(h1:SD X EX st g)(h2:BD X EX sts h):BD X EX (st::sts) (Ae g h):=gI.imp (aaW h1 h2) λD Y H ⟨H0,G0,G,B,H',E,q⟩=>by refine⟨H0,G0,G,B,H',E,?_⟩;unfold Ae at q;cases e:g B with|nx Δ'=>rw[e]at q;exact λ σ' G' O O' E' sm=>⟨H0,G0,G',Δ',O',E',Fin.mono sm q⟩|bk Δ'=>rw[e]at q;exact q|ct Δ'=>rw[e]at q;exact q|rt w=>rw[e]at q;exact q|rv d Δ'=>rw[e]at q;exact q|ex x Δ'=>rw[e]at q;exact q|no=>rw[e]at q;exact q
def Pw(js:List Nat)(f:FE)(B:SE):Fl:=match f (Ay (aE js B))with|.ex x=>.ex x (aE js B)|_=>.no
def DL(js:List Nat)(p:FT)(B:SE):Fl:=match p (Ay (aE js B))with|.ex x=>.ex x (aE js B)|_=>.no
def Kh{H0:HB}{G0 G G1 H:Hp}{Y:Sg}{B:SE}{H':OS}{D:Ends}{js:List Nat}{Q:VK}(E:Ev K H0 G0 G H Y B H')(sg:aA G1 G)(q:Fin K EX H0 G0 G1 D (Pw js f B)):tD K EX f Y H Q:=by obtain⟨G',O',s',E'⟩:=E.aE js;refine⟨G',Ay (aE js B),E'.st.gh,E'.eA,?_⟩;unfold Pw at q;cases e:f (Ay (aE js B))with|ok w=>rw[e]at q;exact q.elim|ex x=>rw[e]at q;exact q Y G' H O' E' (sg.trans s')|no=>rw[e]at q;exact q.elim
def aaE{H0:HB}{G0 G G1 H:Hp}{Y:Sg}{B:SE}{H':OS}{D:Ends}{js:List Nat}{Q:Bool->Hp->Prop}(E:Ev K H0 G0 G H Y B H')(sg:aA G1 G)(q:Fin K EX H0 G0 G1 D (DL js p B)):dQ K EX p Y H Q:=by obtain⟨G',O',s',E'⟩:=E.aE js;refine⟨G',Ay (aE js B),E'.st.gh,E'.eA,?_⟩;unfold DL at q;cases e:p (Ay (aE js B))with|ok w=>rw[e]at q;exact q.elim|ex x=>rw[e]at q;exact q Y G' H O' E' (sg.trans s')|no=>rw[e]at q;exact q.elim
def Au(js:List Nat)(f:FE):FS:=λ B=>match f (At B)with|.ok w=>.rt w|.ex _=>Pw js f B|.no=>.no
def Bm(js:List Nat)(he:ED X EX e f):SD X EX (.Return (some e) pos) (Au js f):=PS.imp (wX he) λD Y H ⟨H0,G0,G,B,H',E,q⟩=>by unfold Au at q;cases S:f (At B)with|ok w=>rw[S]at q;exact⟨Fa G H H',At B,E.aH,E.bZ,by rw[S];exact WP.mono E.Ob q⟩|ex x=>rw[S]at q;exact Kh E (aA.refl _) q|no=>rw[S]at q;exact q.elim
noncomputable def Bq(i:Nat):FS:=λ B=>match B[i]? with|some (.sh d)=>.rt (.sh d)|some (.ow d)=>.rt (.ow d)|some (.tr t)=>.rt (.tr t)|_=>.no
def ky(i:Nat){x:Str}{pos pos':Pos}(hN:X.N[i]?=some x:=by rfl)(hv:Ff X.env.scope x:=by trivial)(hd:AG x:=by decide)(bI:(x ==("__classdict__" :Str))=false:=by decide):SD X EX (.Return (some (.Name x pos)) pos') (Bq i):=PS.imp (wX (Fp hN hv hd bI)) λD Y H ⟨H0,G0,G,B,H',E,q⟩=>by unfold Bq at q;split at q;rename_i d e;obtain⟨v,S,r⟩:=E.sh i d e;exact⟨v,S,(WP.mono (w:=.sh d) (Q:=D.rt) E.st q).use E.st.gh r⟩;rename_i d e;obtain⟨v,S,t⟩:=E.ow i _ _ e rfl;exact⟨v,S,q v (H' i) G H E.st (λa ha=>let⟨h1,h2,h3⟩:=E.out i a ha;⟨h2,h1,h3⟩) t⟩;rename_i d e;obtain⟨v,S,t⟩:=E.ow i _ _ e rfl;exact⟨v,S,q v (H' i) G H E.st (λa ha=>let⟨h1,h2,h3⟩:=E.out i a ha;⟨h2,h1,h3⟩) t⟩;exact q.elim
noncomputable def Dy(i:Nat)(B:SE):R W->Fl|.ok (.sh d)=>.nx (B.set i (.sh d))|.ok (.ow d)=>.nx (B.set i (.ow d))|.ok (.tr t)=>.nx (B.set i (.tr t))|.ex x=>.ex x B|.no=>.no
def Ah(i:Nat)(js:List Nat)(f:FE):FS:=λ B=>match f (Ay B)with|.ok (.sh d)=>.nx (B.set i (.sh d))|.ok (.ow d)=>.nx (B.set i (.ow d))|.ok (.tr t)=>.nx (B.set i (.tr t))|.ex x=>.ex x B|.no=>match f (At B)with|.ex _=>Dy i (aE js B) (f (Ay (aE js B)))|.no=>.no|.ok w=>if Av w.d=true then .nx (B.set i (.sh w.d)) else Dy i (aE js B) (f (Ay (aE js B)))
def sE{H0:HB}{G0 G G1 H:Hp}{Y:Sg}{B:SE}{H':OS}{D:Ends}{i:Nat}(E:Ev K H0 G0 G H Y B H')(sg:aA G1 G)(q:Fin K EX H0 G0 G1 D (Dy i B (f (Ay B)))):nA (tD K EX f) (nZ i) D Y H:=by
 refine⟨G,Ay B,E.st.gh,E.eA,?_⟩;unfold Dy at q;cases S:f (Ay B)with
 |ok w=>rw[S]at q;cases w with|sh d=>exact λv G' O st r=>q _ G' O H' ((E.grow st).put r) (sg.trans st.gg)|ow d=>intro v e1 G' O st fr t;exact q _ G' O _ ((E.grow st).lz (λa ha=>⟨E.st.hh.free (fr a ha).1,(fr a ha).2⟩) rfl (λ_ z=>by cases z) t λj a hj hs=>(E.out j a hj).2.2 (fr a hs).1) (sg.trans st.gg)|tr d=>intro v e1 G' O st fr t;exact q _ G' O _ ((E.grow st).lz (λa ha=>⟨E.st.hh.free (fr a ha).1,(fr a ha).2⟩) rfl (λ_ z=>by cases z) t λj a hj hs=>(E.out j a hj).2.2 (fr a hs).1) (sg.trans st.gg)
 |ex x=>rw[S]at q;exact q Y G H H' E sg|no=>rw[S]at q;exact q
def Kg{D:Ends}{Y:Sg}{i:Nat}{js:List Nat}(q:tS K EX (Ah i js f) D Y H):nA (tD K EX f) (nZ i) D Y H:=by obtain⟨H0,G0,G,B,H',E,q⟩:=q;unfold Ah at q;cases S:f (Ay B)with|ok w=>rw[S]at q;refine sE E (aA.refl _) ?_;unfold Dy;rw[S];cases w<;>exact q|ex x=>rw[S]at q;refine sE E (aA.refl _) ?_;unfold Dy;rw[S];exact q|no=>rw[S]at q;cases e2:f (At B)with|ok w=>simp only[e2]at q;split at q;rename_i fl;refine⟨Fa G H H',At B,E.aH,E.bZ,?_⟩;rw[e2];exact WP.intro λv G' O st r=>q _ G O H' ((E.keep st.hh).put (r.jB fl)) (aA.refl _);obtain⟨G',O',sg,E'⟩:=E.aE js;exact sE E' sg q|ex x=>simp only[e2]at q;obtain⟨G',O',sg,E'⟩:=E.aE js;exact sE E' sg q|no=>simp only[e2]at q;exact q.elim
def Bg{i:Nat}(js:List Nat){x:Str}{pos':Pos}(he:ED X EX e f)(hN:X.N.Nodup)(hi:X.N[i]?=some x:=by rfl)(hx:Loc X.env.scope x:=by trivial)(hs:swapsWith e (some (.Name x pos')) pos.line X.env=pure false:=by rfl)(hf:X.fn x=true\/X.env.scope.names.lookup x=some .local:=by trivial):SD X EX (.Assign [.Name x pos'] e pos) (Ah i js f):=PS.imp (oB hN hi hx he hs hf) λD Y H q=>Kg q
def Di(js:List Nat)(f:FE):FS:=λ B=>match f (At B)with|.ok _=>.nx B|.ex _=>Pw js f B|.no=>.no
def oO(js:List Nat)(he:ED X EX e f)(hs:swapsWith e none pos.line X.env=pure false:=by rfl):SD X EX (.Expr e pos) (Di js f):=PS.imp (jW he hs) λD Y H ⟨H0,G0,G,B,H',E,q⟩=>by unfold Di at q;cases S:f (At B)with|ok w=>rw[S]at q;exact⟨Fa G H H',At B,E.aH,E.bZ,by rw[S];exact WP.intro λv G' O st r=>q Y G O H' (E.keep st.hh) (aA.refl _)⟩|ex x=>rw[S]at q;exact Kh E (aA.refl _) q|no=>rw[S]at q;exact q.elim
def Bx(js:List Nat)(p:FT)(g h:FS):FS:=λ B=>match p (At B)with|.ok b=>if b=true then g B else h B|.ex _=>DL js p B|.no=>.no
def LJ{H0:HB}{G0 G H:Hp}{Y:Sg}{B:SE}{H':OS}{D:Ends}{k:Bool->Fl}{P:Bool->Hp->Prop}{js:List Nat}(E:Ev K H0 G0 G H Y B H'){G1:Hp}(sg:aA G1 G) (q:Fin K EX H0 G0 G1 D (match p (At B)with|.ok b=>k b|.ex _=>DL js p B|.no=>.no)) (i:∀b O,p (At B)=.ok b->Ev K H0 G0 G O Y B H'->Fin K EX H0 G0 G1 D (k b)->P b O):dQ K EX p Y H P:=by cases S:p (At B)with|ok b=>rw[S]at q;exact⟨Fa G H H',At B,E.aH,E.bZ,by rw[S];exact λG' O st=>i b O S (E.keep st.hh) q⟩|ex x=>rw[S]at q;exact aaE E sg q|no=>rw[S]at q;exact q.elim
def Ci(js:List Nat){c:Expr}{as bs:List Stmt}(hc:TD X EX c p)(ha:BD X EX as g)(J:BD X EX bs h):SD X EX (.If c as bs pos) (Bx js p g h):=PS.imp (VD hc ha J) λD Y H ⟨H0,G0,G,B,H',E,q⟩=>LJ (k:=λb=>if b=true then g B else h B) E (aA.refl _) q λb O _ E' q'=>by cases b with|true=>rw[if_pos rfl];exact⟨H0,G0,G,B,H',E',q'⟩|false=>rw[if_neg B5];exact⟨H0,G0,G,B,H',E',q'⟩
def Fq(js:List Nat)(p:FT)(g:FS):Nat->FS|0=>λ_=>.no|n+1=>λ B=>match p (At B)with|.ok b=>if b=true then(match g B with|.nx Δ'=>Fq js p g n Δ'|.ct Δ'=>Fq js p g n Δ'|.bk Δ'=>.nx Δ'|r=>r) else .nx B|.ex _=>DL js p B|.no=>.no
def yi(js:List Nat)(n:Nat){c:Expr}{body:List Stmt}(hp:PassesOwn (model X.prog X.w) X.A X.env X.xe)(hc:TD X EX c p)(J:BD X EX body g):SD X EX (.While c body [] pos) (Fq js p g n):=PS.imp (aaV hp hc J) λD Y H ⟨H0,G0,G1,B,H',E,q⟩=>by refine⟨λm Y H=>∃G B H',Ev X.K H0 G0 G H Y B H'/\aA G1 G/\Fin X.K EX H0 G0 G1 D (Fq js p g m B),⟨n,G1,B,H',E,aA.refl _,q⟩,?_⟩;rintro m Y H ⟨G,B,H',E,sg,q⟩;cases m with|zero=>exact False.elim q|succ m=>refine LJ (k:=λb=>if b=true then(match g B with|.nx Δ'=>Fq js p g m Δ'|.ct Δ'=>Fq js p g m Δ'|.bk Δ'=>.nx Δ'|r=>r) else .nx B) E sg q λb O _ E' q'=>?_;cases b with|false=>rw[if_neg B5];exact q' Y G O H' E' sg|true=>rw[if_pos rfl];rw[if_pos rfl]at q';refine⟨λ σ' O=>∃G B H',Ev X.K H0 G0 G O σ' B H'/\aA G1 G/\Fin X.K EX H0 G0 G1 D (Fq js p g m B),λ σ' O w=>⟨m,Q8 _,w⟩,H0,G0,G,B,H',E',?_⟩;cases S:g B with|nx Δ'=>rw[S]at q';exact λ σ' G' O O' E2 s2=>⟨G',Δ',O',E2,sg.trans s2,q'⟩|ct Δ'=>rw[S]at q';exact λ σ' G' O O' E2 s2=>⟨G',Δ',O',E2,sg.trans s2,q'⟩|bk Δ'=>rw[S]at q';exact Fin.mono (r:=.nx Δ') sg q'|rt w=>rw[S]at q';exact q'|rv d Δ'=>rw[S]at q';exact Fin.mono (r:=.rv d Δ') sg q'|ex x Δ'=>rw[S]at q';exact Fin.mono (r:=.ex x Δ') sg q'|no=>rw[S]at q';exact q'
end
noncomputable def Bh(n:Nat)(M:List D):SE:=M.map Sl.sh++List.replicate (n-M.length) .no
def Aj(n:Nat)(g:FS)(M:List D):R W:=match g (Bh n M)with|.nx _=>.ok (.sh .aK)|.rt w=>.ok w|.ex x _=>.ex x|_=>.no
def Kf{G H:Hp}{vs:List V}{M:List D}{N:List Str}(g:aA G H)(r:aB K G vs M):Ev K ⟨H,λ_=>0⟩ G G H (Gg N vs) (Bh N.length M) (λ_ _=>False):=by
 refine⟨Step.refl g,?_,λi d e=>?_,λi z d e zo=>?_,λ_ _ ha=>ha.elim,λ_ _ _ ha=>ha.elim,λi d e=>?_,λi d e=>?_⟩;unfold Gg Bh;simp only[A6,A4,M6,r.length];unfold Bh at e;by_cases hi:i<M.length;rw[C7 (by rw[A4];exact hi),B3]at e;cases q:M[i]? with|none=>rw[q]at e;cases e|some d'=>rw[q]at e;cases e;obtain⟨v,S,h⟩:=r.get q;refine⟨v,?_,h⟩;unfold Gg;rw[C7 (by rw[A4,r.length];exact hi),B3,S];rfl
 rw[D7 (by rw[A4];lia),J6]at e;split at e<;>cases e;exfalso;unfold Bh at e;by_cases hi:i<M.length;rw[C7 (by rw[A4];exact hi),B3]at e;cases q:M[i]? with|none=>rw[q]at e;cases e|some d'=>rw[q]at e;cases e;cases zo
 rw[D7 (by rw[A4];lia),J6]at e;split at e;cases e;cases zo;cases e;exfalso;unfold Bh at e;by_cases hi:i<M.length;rw[C7 (by rw[A4];exact hi),B3]at e;cases q:M[i]? with|none=>rw[q]at e;cases e|some d'=>rw[q]at e;cases e
 rw[D7 (by rw[A4];lia),J6]at e;split at e<;>cases e;exfalso;unfold Bh at e;by_cases hi:i<M.length;rw[C7 (by rw[A4];exact hi),B3]at e;cases q:M[i]? with|none=>rw[q]at e;cases e|some d'=>rw[q]at e;cases e
 rw[D7 (by rw[A4];lia),J6]at e;split at e<;>cases e
def UD{c:Bool}{P:Program}{w:World}{x qual:Str}{st:Stmt}{f:Addr}{N ps:List Str}{k:Nat}{g:FS}(F:aY K x qual st f fd)(e1:aS N ps (Bt st))(zj:∀(zn:Value) (A:Around) (outer:List Env) (s:Shared) (H:Hp) (E:XK),aC c k (A.deeper (envOfC qual (Bt st) s.heap.objs.size f zn))->BD (Fb c P w K mg base N qual (Bt st) f zn A outer s H E) (λ_=>bK K E) (Fg st) g):bF P w K mg base c (k+1) f fd ps (Bj K ps.length (Aj N.length g)):=by refine aY.BS F e1 (λvs H Q E h=>h.1) λzn A outer s H vs Q E hr h=>⟨_,zj zn A outer s H E hr,?_⟩;obtain⟨hl,G,M,g0,r,o⟩:=h;refine⟨⟨H,λ_=>0⟩,G,G,_,_,Kf g0 r,?_⟩;unfold Aj at o;cases e:g (Bh N.length M)with|nx B=>rw[e]at o;exact λ Y G' O H' E' _=>(WP.mono (w:=.sh .aK) (Q:=Q) E'.st o).use E'.st.gh .aK|rt w=>rw[e]at o;exact o|rv d B=>rw[e]at o;exact o.elim|ex x B=>rw[e]at o;exact λ Y G' O H' E' _=>(bK K E).mono _ _ _ _ _ E'.st o|bk B=>rw[e]at o;exact o.elim|ct B=>rw[e]at o;exact o.elim|no=>rw[e]at o;exact o
def sd{c:Bool}{P:Program}{w:World}{x:Str}{st:Stmt}{f:Addr}{ps:List Str}{k:Nat}{Fn:AF}(F:aY K x x st f fd)(hm:mg x=some (.ref f))(J:Binds K fd ps [])(ok:bF P w K mg base c k f fd ps (Bj K ps.length Fn)):AY P w K mg base c x k ps Fn:=⟨f,fd,ok,hm,F.kp,J⟩
def wu(x:Str):It:=⟨λi _=>i<x.cps.size,λi H v O=>O=H/\∃c,x.cps[i]?=some c/\v=.str ⟨#[c]⟩,λi _=>i=x.cps.size⟩
def acT{P:Program}{w:World}{tg:Expr}{it:Addr}{n:Nat}{Pv:Nat->Value->Prop}{St:Nat->Heap->Prop}{hb:It}(W:∀A':Around,A'.handled=none->Walks P w A' it [it] [it] n Pv St)(bo:∀i h,St i h->∃o nm vs,h.get? it=some o/\o.cls=.type nm/\o.data=.fields vs/\ ["enumerate","zip","dict_itemiterator","dict_reverseitemiterator","odict_iterator","itertools.zip_longest","itertools.pairwise"].contains nm=false)(dm:∀(i:Nat) (h h':Heap),St i h->(∀b∈ [it],∀o,h.get? b=some o->h'.get? b=some o)->St i h') (dw:∀(A:Around) (i:Nat) (s:Shared) (Q E:AA),St i s.heap->Q (.ref it) s->wpAny (model P w) A (pyIter (.ref it)) Q E s)(hgo:∀i H,hb.go i H->i<n) (dA:∀i H,hb.stop i H->i=n) (hy:∀i H u,Pv i u->∃x,RelV x u/\hb.zG i H x H):Turn P w K tg hb [it] it St where
 mem:=by simp
 obj:=λi h st b J=>by
  have e:b=it:=by simpa using J
  subst e;obtain⟨o,nm,vs,e,c,d,_⟩:=bo i h st;exact⟨o,e,λv z=>by rw[d]at z;cases z⟩
 keep:=dm
 item:=by intro X hP hw hK hc i Z s Y H E I hf st hg;subst hP hw hK;obtain⟨f0,f1,f2,f3,f4,f5⟩:=hf it (by simp);refine(W X.A (I.ok.hd hc)).item i s _ _ (hgo i H hg) st λv h' tk hv bJ kk=>?_;have I1:Inv X Z Y H {s with heap:=h',toks:=tk}:=I.turned (λb o J e=>kk b o (by simpa using J) e) f0 f1 f3 f4 f5;obtain⟨x,rx,yx⟩:=hy i H v hv;obtain⟨o,nm,vs,e,c,d,hn⟩:=bo (i+1) h' bJ;exact⟨v,rfl,nY (s:={s with heap:=h',toks:=tk}) e c d hn ⟨x,H,I1,rx,yx,bJ,λb J=>(hf b J).1⟩⟩
 done:=by intro X hP hw hK hc i Z s Y H E I hf st hg;subst hP hw hK;obtain⟨f0,f1,f2,f3,f4,f5⟩:=hf it (by simp);obtain rfl:=dA i H hg;exact(W X.A (I.ok.hd hc)).done s _ _ st λh' tk kk=>⟨rfl,I.turned (λb o J e=>kk b o (by simpa using J) e) f0 f1 f3 f4 f5⟩
 self:=dw
def kJ(K:Frag)(G1:Hp)(hb:It)(M:List D):Prop:=∀G H,aA G1 G->aA G H->∀i,(∀d,M[i]?=some d->hb.go i H/\∀x O,hb.zG i H x O->∃G',Step G H G' O/\aP K G' x d)/\(M.length=i->hb.stop i H)
abbrev FI:=DE->R (List D)
def tI(K:Frag)(EX:Be)(fi:FI):TI:=λ Y H Q=>∃G δ,aA G H/\aT K G Y δ/\match fi δ with|.ok M=>∀hb G' O,Step G H G' O->kJ K G' hb M->Q hb O|.ex x=>(EX Y).p x G H|.no=>False
abbrev ID(X:Cx)(EX:Be)(tg iter:Expr)(fi:FI):Prop:=PI X tg iter (tI X.K EX fi)
def PI.imp{tg e:Expr}{t t':TI}(h:PI X tg e t)(i:∀Y H Q,t' Y H Q->t Y H Q):PI X tg e t':=λZ s Y H Q I q=>h Z s Y H Q I (i Y H Q q)
section
variable{X:Cx}{EX:Be}{tg e a b:Expr}{f:FE}{fa:FA}{p pos:Pos}
def dR.Uc{G H:Hp}{Y:Sg}{δ:DE}{k:List D->R (List D)}{Q:It->Hp->Prop}{P:List V->Hp->Prop}(g:aA G H)(s:aT K G Y δ)(h:match(fa δ).bind k with|.ok M=>∀hb G' O,Step G H G' O->kJ K G' hb M->Q hb O|.ex x=>(EX Y).p x G H|.no=>False)(i:∀M vs G' O,Step G H G' O->aB K G' vs M->(match k M with|.ok M=>∀hb G2 H2,Step G' O G2 H2->kJ K G2 hb M->Q hb H2|.ex x=>(EX Y).p x G' O|.no=>False)->P vs O):dR K EX fa Y H P:=by
 refine⟨G,δ,g,s,?_⟩;cases e:fa δ with
 |ok M=>rw[e]at h;simp only[R.aD]at h;refine λvs G' O st r=>i M vs G' O st r ?_;cases e2:k M with|ok ds'=>rw[e2]at h;exact λhb G2 H2 aV it=>h hb G2 H2 (st.trans aV) it|ex x=>rw[e2]at h;exact(EX Y).mono _ _ _ _ _ st h|no=>rw[e2]at h;exact h
 |ex x=>rw[e]at h;exact h|no=>rw[e]at h;exact h
def Eh(lo:Int)(n:Nat):List D:=(List.range n).map λ(k:Nat)=>D.int (lo+(k:Int))
def abR{lo:Int}{n i:Nat}{d:D}(h:(Eh lo n)[i]?=some d):i<n/\d=.int (lo+(i:Int)):=by unfold Eh at h;rw[B3]at h;by_cases hi:i<n;rw[N5 hi]at h;cases h;exact⟨hi,rfl⟩;rw[K8 (by rw[M7];lia)]at h;cases h
def vg(lo:Int)(n:Nat):(Eh lo n).length=n:=by unfold Eh;rw[A4,M7]
def abQ{G:Hp}(lo:Int)(n:Nat):kJ K G (Qd lo n) (Eh lo n):=λG' H _ g i=>by refine⟨λd e=>?_,λe=>?_⟩;obtain⟨hi,rfl⟩:=abR e;refine⟨hi,λx O y=>?_⟩;obtain⟨S,e2⟩:=y;subst S e2;exact⟨G',Step.refl g,.int _⟩;rw[vg]at e;exact V7 e
def Du:List D->R (List D)|[.int j]=>if j.natAbs<4611686018427387904 then .ok (Eh 0 j.toNat) else .no|_=>.no
def Bk(k:List D->R (List D))(fa:FA):FI:=λ δ=>(fa δ).bind k
def lh(hm:X.mg "range"=none)(ha:AD X EX [a] fa)(hg:Gl X "range" :=by rfl)(hs:starEach [a] X.env=[(false,eval a X.env)]:=by rfl):ID X EX tg (.Call (.Name "range" p) [a] [] pos) (Bk Du fa):=PI.imp (acm hg hm ha hs) λ Y H Q ⟨G,δ,g0,s0,o⟩=>dR.Uc g0 s0 o λM vs G' O st r o'=>by cases r with|nil=>exact False.elim o'|cons h t=>cases h with|int j=>(cases t with|cons _ _=>exact False.elim o'|nil=>by_cases hc:j.natAbs<4611686018427387904;rw[show Du [.int j]=.ok (Eh 0 j.toNat) from if_pos hc]at o';exact⟨j,rfl,by lia,by lia,o' _ G' O (Step.refl st.gh) (abQ 0 j.toNat)⟩;rw[show Du [.int j]=.no from if_neg hc]at o';exact o'.elim)|_=>exact False.elim o'
def Eo(x:Str):List D:=x.cps.toList.map λc=>.str ⟨#[c]⟩
def Fu:D->R (List D)|.lst M=>.ok M|.tup M=>.ok M|.str x=>.ok (Eo x)|_=>.no
def Db(f:FE):FI:=λ δ=>(f δ).bind λw=>Fu w.d
def Us(K:Frag)(tl:TE):TI:=λ Y H Q=>tl Y H λx H1=>(∃a,x=.ref a/\(∃xs,bQ K H1 a xs)/\Q (Tw K a) H1)\/(∃a,x=.ref a/\(∃xs,cQ K H1 a xs)/\Q (Tv K a) H1)\/(∃z,x=.str z/\Q (wu z) H1)
def WD{l:Expr}{tl:TE}(hl:PE X l tl):PI X tg l (Us X.K tl):=by
 intro Z s Y H Q I h;refine Bb (hl Z s Y H _ I h) λv s1 ⟨x,H1,I1,r1,q1⟩=>?_;rcases q1 with⟨a,e,⟨xs,hq⟩,q⟩|⟨a,e,⟨xs,hq⟩,q⟩|⟨z,e,q⟩;subst e;cases r1;obtain⟨its,rv,p,hz⟩:=I1.list hq;refine SU p.isList ?_;refine⟨s1.heap.objs.size,[s1.heap.objs.size],_,_,H1,rfl,I1.kept (t':=s1.toks) λb o e=>A5 _ e,acn a _,⟨_,D0 _ rfl,rfl,rfl⟩,λb J=>?_,q⟩;have e:b=s1.heap.objs.size:=by simpa using J
 subst e;exact I1.gP (A9 _) (I1.aJ.fresh (A9 _));subst e;cases r1;obtain⟨its,rv,p,hz⟩:=I1.tuple hq;refine wpAny_pyIter_tuple (show s1.heap.IsTuple a its.toArray from p) ?_;refine⟨s1.heap.objs.size,[s1.heap.objs.size],_,_,H1,rfl,I1.kept (t':=s1.toks) λb o e=>A5 _ e,adj a _,⟨_,D0 _ rfl,rfl,rfl⟩,λb J=>?_,q⟩;have e:b=s1.heap.objs.size:=by simpa using J
 subst e;exact I1.gP (A9 _) (I1.aJ.fresh (A9 _));subst e;obtain⟨t,rfl⟩:=r1;have fin:∀(nm:String) (St:Nat->Heap->Prop),(∀i h,St i h↔h.IsStrIter s1.heap.objs.size nm z t i)->(∀A':Around,A'.handled=none->Walks X.prog X.w A' s1.heap.objs.size [s1.heap.objs.size] [s1.heap.objs.size] z.cps.size (SignAt z) St)->["enumerate","zip","dict_itemiterator","dict_reverseitemiterator","odict_iterator","itertools.zip_longest","itertools.pairwise"].contains nm=false->(∀(A:Around) (i:Nat) (s:Shared) (Q E:AA),s.heap.IsStrIter s1.heap.objs.size nm z t i->Q (.ref s1.heap.objs.size) s->wpAny (model X.prog X.w) A (pyIter (.ref s1.heap.objs.size)) Q E s)->Tf X Z Y tg Q (.ref s1.heap.objs.size) {s1 with heap:=s1.heap.push {cls:=.type nm,data:=.fields #[.str z t,.int 0 0]}}:=by
  intro nm St hS W hn Ut;refine⟨s1.heap.objs.size,[s1.heap.objs.size],St,wu z,H1,rfl,I1.kept (t':=s1.toks) λb o e=>A5 _ e,acT W (λi h st=>?_) (λi h h' st k=>?_) (λA i s Q E st h=>Ut A i s Q E ((hS _ _).mp st) h) (λi H g=>g) (λi H g=>?_) (λi H u hu=>?_),(hS _ _).mpr ⟨_,D0 _ rfl,rfl,rfl⟩,λb J=>?_,q⟩;obtain⟨o,ho,hc,hd⟩:=(hS _ _).mp st;exact⟨o,nm,_,ho,hc,hd,hn⟩;obtain⟨o,ho,r⟩:=(hS _ _).mp st;exact(hS _ _).mpr ⟨o,k _ (by simp) o ho,r⟩;exact g;obtain⟨c,u',S,e2⟩:=hu;subst e2;exact⟨.str ⟨#[c]⟩,⟨u',rfl⟩,rfl,c,S,rfl⟩;have e:b=s1.heap.objs.size:=by simpa using J
  subst e;exact I1.gP (A9 _) (I1.aJ.fresh (A9 _))
 cases ha:z.cps.all (· <128);exact wpAny_pyIter_wide ha (fin "str_iterator" _ (λ_ _=>Iff.rfl) (λA' hA=>Walks.strWide hA _ z t) ⋯ λA i s Q E st h=>wpAny_pyIter_striter_wide st h);exact wpAny_pyIter_ascii ha (fin "str_ascii_iterator" _ (λ_ _=>Iff.rfl) (λA' hA=>Walks.strAscii hA _ z t) ⋯ λA i s Q E st h=>wpAny_pyIter_striter_ascii st h)
def aaD{G:Hp}{a:Addr}{vs:List V}{M:List D}(h:bQ K G a vs)(r:aB K G vs M):kJ K G (Tw K a) M:=λG' H g1 g i=>by refine⟨λd e=>?_,λe=>?_⟩;obtain⟨v,S,hv⟩:=r.get e;refine⟨⟨vs,v,(g1.trans g).seq h,S⟩,λx O y=>?_⟩;obtain⟨e2,y⟩:=y;subst e2;have e3:=y vs ((g1.trans g).seq h);rw[S]at e3;cases e3;exact⟨G',Step.refl g,hv.mono g1⟩;exact⟨vs,(g1.trans g).seq h,by rw[r.length];exact V7 e⟩
def Zb{G:Hp}{a:Addr}{vs:List V}{M:List D}(h:cQ K G a vs)(r:aB K G vs M):kJ K G (Tv K a) M:=λG' H g1 g i=>by refine⟨λd e=>?_,λe=>?_⟩;obtain⟨v,S,hv⟩:=r.get e;refine⟨⟨vs,v,aA.tupS (g1.trans g) h,S⟩,λx O y=>?_⟩;obtain⟨e2,y⟩:=y;subst e2;have e3:=y vs (aA.tupS (g1.trans g) h);rw[S]at e3;cases e3;exact⟨G',Step.refl g,hv.mono g1⟩;exact⟨vs,aA.tupS (g1.trans g) h,by rw[r.length];exact V7 e⟩
def Za{G:Hp}(z:Str):kJ K G (wu z) (Eo z):=λG' H g1 g i=>by
 refine⟨λd e=>?_,λe=>?_⟩;unfold Eo at e;rw[B3]at e;cases q:z.cps.toList[i]? with
 |none=>rw[q]at e;cases e|some c=>
  rw[q]at e;cases e;have hi:i<z.cps.size:=by have:=(A7.mp q).1;simpa using this
  refine⟨hi,λx O y=>?_⟩;obtain⟨e2,c',e3,e4⟩:=y;subst e2 e4;have:z.cps.toList[i]?=some c':=by simpa using e3
  rw[q]at this;cases this;exact⟨G',Step.refl g,.str _⟩
 unfold Eo at e;rw[A4]at e;show i=z.cps.size;simp at e;lia
def Fz(he:ED X EX e f):ID X EX tg e (Db f):=PI.imp (WD he) λ Y H Q ⟨G,δ,g0,s0,o⟩=>by refine⟨G,δ,g0,s0,?_⟩;unfold Db at o;cases S:f δ with|ok w=>rw[S]at o;simp only[R.aD]at o;refine WP.intro λv G' O st r=>?_;revert r o;(cases w.d with|lst M=>intro o r;(cases r with|lst h r=>exact .inl ⟨_,rfl,⟨_,st.gh.seq h⟩,o _ G' O st (aaD h r)⟩)|tup M=>intro o r;(cases r with|tup h r=>exact .inr (.inl ⟨_,rfl,⟨_,aA.tupS st.gh h⟩,o _ G' O st (Zb h r)⟩))|str z=>intro o r;cases r;exact .inr (.inr ⟨z,rfl,o _ G' O st (Za z)⟩)|_=>intro o _;exact False.elim o)|ex x=>rw[S]at o;exact o|no=>rw[S]at o;exact o
end
abbrev FG:=D->SE->R SE
def tG(K:Frag)(EX:Be)(fg:FG):TG:=λv Y H Q=>∃H0 G0 G B H' d,Ev K H0 G0 G H Y B H'/\aP K G v d/\match fg d B with|.ok Δ'=>∀σ' G' O O',Ev K H0 G0 G' O σ' Δ' O'->aA G G'->Q σ' O|.ex _=>False|.no=>False
def PG.imp{tg:Expr}{t t':TG}(h:PG X tg t)(i:∀v Y H Q,t' v Y H Q->t v Y H Q):PG X tg t':=λZ s Y H v u Q I r q=>h Z s Y H v u Q I r (i v Y H Q q)
abbrev GD(X:Cx)(EX:Be)(tg:Expr)(fg:FG):Prop:=PG X tg (tG X.K EX fg)
section
variable{X:Cx}{EX:Be}{pos:Pos}
def gV(i:Nat):FG:=λd B=>.ok (B.set i (.sh d))
def gA{i:Nat}{x:Str}(hN:X.N.Nodup)(hi:X.N[i]?=some x:=by rfl)(hx:Loc X.env.scope x:=by trivial)(hf:X.fn x=true\/X.env.scope.names.lookup x=some .local:=by trivial):GD X EX (.Name x pos) (gV i):=PG.imp (mi hN hi hx hf) λv Y H Q ⟨H0,G0,G,B,H',d,E,r,q⟩=>q _ G H H' (E.put r) (aA.refl _)
def lq(i j:Nat):FG:=λd B=>match d with|.tup [a,b]=>.ok ((B.set i (.sh a)).set j (.sh b))|_=>.no
def oo{i j k:Nat}{x y:Str}{p1 p2:Pos}(hc:X.calm=true)(hN:X.N.Nodup)(hi:X.N[i]?=some x:=by rfl)(hj:X.N[j]?=some y:=by rfl)(hx:Loc X.env.scope x:=by trivial)(hy:Loc X.env.scope y:=by trivial)(hf:X.fn x=true\/X.env.scope.names.lookup x=some .local:=by trivial) (Rf:X.fn y=true\/X.env.scope.names.lookup y=some .local:=by trivial)(hn:(assignEach [.Name x p1,.Name y p2] X.env).length=2:=by rfl) (dA:(assignEach [.Name x p1,.Name y p2] X.env).findIdx? (·.1)=none:=by rfl)(hs:(assignEach [.Name x p1,.Name y p2] X.env).map (·.2)=assign (.Name x p1) X.env::(assignEach [.Name y p2] X.env).map (·.2):=by rfl) (dO:(assignEach [.Name y p2] X.env).map (·.2)=assign (.Name y p2) X.env::(assignEach [] X.env).map (·.2):=by rfl):GD X EX (.Tuple [.Name x p1,.Name y p2] k pos) (lq i j):=PG.imp (HU hc (sT (mi hN hi hx hf) (sT (mi hN hj hy Rf) Jn dO) hs) hn dA) λv Y H Q ⟨H0,G0,G,B,H',d,E,r,q⟩=>by cases r with|tup h r=>(cases r with|nil=>exact False.elim q|cons r1 r=>cases r with|nil=>exact False.elim q|cons r2 r=>cases r with|nil=>exact⟨_,_,rfl,aA.tupS E.st.gh h,rfl,_,_,rfl,_,_,rfl,rfl,q _ G H H' ((E.put r1).put r2) (aA.refl _)⟩|cons _ _=>exact False.elim q)|_=>exact False.elim q
def Dj(fg:FG)(g:FS):List D->FS|[]=>λ B=>.nx B|d::M=>λ B=>match fg d B with|.ok Δ1=>(match g Δ1 with|.nx Δ2=>Dj fg g M Δ2|.ct Δ2=>Dj fg g M Δ2|.bk Δ2=>.nx Δ2|r=>r)|.ex _=>.no|.no=>.no
def Do(js:List Nat)(fi:FI)(fg:FG)(g:FS):FS:=λ B=>match fi (Ay B)with|.ok M=>Dj fg g M B|.ex x=>.ex x B|.no=>match fi (Ay (aE js B))with|.ok M=>Dj fg g M (aE js B)|.ex x=>.ex x (aE js B)|.no=>.no
def sR{α:Type}{l:List α}{i:Nat}(h:i<l.length):∃x,l[i]?=some x/\l.drop i=x::l.drop (i+1):=⟨l[i],by simp[h],List.drop_eq_getElem_cons h⟩
def LI{fg:FG}{g:FS}{H0:HB}{G0 G1 H1:Hp}{hb:It}{M:List D}{B:SE}{H':OS}{Y:Sg}{D:Ends}(E:Ev K H0 G0 G1 H1 Y B H')(it:kJ K G1 hb M)(q:Fin K EX H0 G0 G1 D (Dj fg g M B)):∃W:Nat->Nat->Sg->Hp->Prop,(∃m,W 0 m Y H1)/\∀i m Y H,W i m Y H->(hb.stop i H/\D.nx Y H)\/(hb.go i H/\∃N:Sg->Hp->Prop,(∀σ' O,N σ' O->∃m',m'<m/\W (i+1) m' σ' O)/\∀x O,hb.zG i H x O->tG K EX fg x Y O λ σ2 H2=>tS K EX g {D with nx:=N,ct:=N,bk:=D.nx} σ2 H2):=by
 refine⟨λi m Y H=>m=M.length-i/\i<=M.length/\∃G B H',Ev K H0 G0 G H Y B H'/\aA G1 G/\Fin K EX H0 G0 G1 D (Dj fg g (M.drop i) B),⟨M.length,by simp,L1 _,G1,B,H',E,aA.refl _,q⟩,?_⟩;rintro i m Y H ⟨rfl,hi,G,B,H',E,sg,q⟩;obtain⟨i1,i2⟩:=it G H sg E.st.gh i;by_cases cK:i<M.length;obtain⟨d,S,e2⟩:=sR cK;obtain⟨go,yl⟩:=i1 d S;refine .inr ⟨go,λ σ' O=>∃G B H',Ev K H0 G0 G O σ' B H'/\aA G1 G/\Fin K EX H0 G0 G1 D (Dj fg g (M.drop (i+1)) B),λ σ' O w=>⟨M.length-(i+1),by lia,rfl,cK,w⟩,λx O y=>?_⟩;obtain⟨G',st,hx⟩:=yl x O y;rw[e2]at q;refine⟨H0,G0,G',B,H',d,E.grow st,hx,?_⟩;have q':Fin K EX H0 G0 G1 D (match fg d B with|.ok Δ1=>(match g Δ1 with|.nx Δ2=>Dj fg g (M.drop (i+1)) Δ2|.ct Δ2=>Dj fg g (M.drop (i+1)) Δ2|.bk Δ2=>.nx Δ2|r=>r)|.ex _=>.no|.no=>.no):=q;cases e3:fg d B with
 |ok Δ1=>rw[e3]at q';intro σ2 G2 H2 O2 E2 s2;have BO:aA G1 G2:=sg.trans (st.gg.trans s2);refine⟨H0,G0,G2,Δ1,O2,E2,?_⟩;cases e4:g Δ1 with|nx Δ2=>simp only[e4]at q';exact λ σ3 G3 H3 O3 E3 s3=>⟨G3,Δ2,O3,E3,BO.trans s3,q'⟩|ct Δ2=>simp only[e4]at q';exact λ σ3 G3 H3 O3 E3 s3=>⟨G3,Δ2,O3,E3,BO.trans s3,q'⟩|bk Δ2=>simp only[e4]at q';exact λ σ3 G3 H3 O3 E3 s3=>q' σ3 G3 H3 O3 E3 (BO.trans s3)|rt w=>simp only[e4]at q';exact q'|rv d Δ2=>simp only[e4]at q';exact λv σ3 G3 H3 O3 E3 s3=>q' v σ3 G3 H3 O3 E3 (BO.trans s3)|ex x Δ2=>simp only[e4]at q';exact λ σ3 G3 H3 O3 E3 s3=>q' σ3 G3 H3 O3 E3 (BO.trans s3)|no=>simp only[e4]at q';exact q'
 |ex x=>rw[e3]at q';exact q'|no=>rw[e3]at q';exact q'
 have e:M.length=i:=by lia
 refine .inl ⟨i2 e,?_⟩;rw[O8 ()]at q;exact q Y G H H' E sg
def Go{tg iter:Expr}{body:List Stmt}{fi:FI}{fg:FG}{g:FS}(js:List Nat)(hp:PassesOwn (model X.prog X.w) X.A X.env X.xe)(hc:X.calm=true)(hi:ID X EX tg iter fi)(hg:GD X EX tg fg)(J:BD X EX body g)(hs:∀x,foldedSetIterable iter X.env x=pure x:=by intro _;rfl):SD X EX (.For tg iter body [] pos) (Do js fi fg g):=PS.imp (Xb hp hc hi hg J hs) λD Y H ⟨H0,G0,G,B,H',E,q⟩=>by unfold Do at q;cases S:fi (Ay B)with|ok M=>rw[S]at q;refine⟨G,Ay B,E.st.gh,E.eA,?_⟩;rw[S];exact λhb G' O st it=>LI (E.grow st) it (Fin.mono st.gg q)|ex x=>rw[S]at q;exact⟨G,Ay B,E.st.gh,E.eA,by rw[S];exact q Y G H H' E (aA.refl _)⟩|no=>rw[S]at q;obtain⟨G1,O1,sg,E1⟩:=E.aE js;refine⟨G1,Ay (aE js B),E1.st.gh,E1.eA,?_⟩;cases e2:fi (Ay (aE js B))with|ok M=>simp only[e2]at q;exact λhb G' O st it=>LI (E1.grow st) it (Fin.mono (sg.trans st.gg) q)|ex x=>simp only[e2]at q;exact q Y G1 H O1 E1 sg|no=>simp only[e2]at q;exact q
def Co(i:Nat)(f:FE):FS:=λ B=>match B[i]? with|some (.ow (.lst M))=>if M.length<16777216 then(match f (Ay B)with|.ok w=>.nx (B.set i (.ow (.lst (M++[w.d]))))|.ex x=>.ex x B|.no=>match f (At B)with|.ok w=>if Av w.d=true then .nx (B.set i (.ow (.lst (M++[w.d])))) else .no|_=>.no) else .no|_=>.no
def fG{i:Nat}{x:Str}{e:Expr}{f:FE}{p1 zg zf:Pos}(he:ED X EX e f)(hN:X.N[i]?=some x:=by rfl)(hv:Ff X.env.scope x:=by trivial)(hd:AG x:=by decide)(bI:(x ==("__classdict__" :Str))=false:=by decide) (pU:swapsWith (.Call (.Attribute (.Name x p1) "append" zg) [e] [] zf) none pos.line X.env=pure false:=by rfl)(af:attributeBase (.Name x p1) "append" X.env (eval (.Name x p1) X.env)=eval (.Name x p1) X.env:=by rfl)(az:((backTo zf (starEach [e] X.env)).all (λx=>!x.1)&&(backToKw zf (keywordEach [] X.env)).all (λx=>x.1.isSome)&&decide ([e].length+([]:List Keyword).length+(if([]:List Keyword).isEmpty then 0 else 1)<30))=true:=by rfl)(ae:(zg.endLine ==zf.line)=true:=by rfl) (hs:starEach [e] X.env=(false,eval e X.env)::starEach [] X.env:=by rfl) (aa:(backTo zf (starEach [] X.env)).any (·.1)=false:=by rfl):SD X EX (.Expr (.Call (.Attribute (.Name x p1) "append" zg) [e] [] zf) pos) (Co i f):=PS.imp (jW (rS T6 ZB4 ZB5 yB (Fp hN hv hd bI) (Hi he jq hs) af az ae hs aa) pU) λD Y H ⟨H0,G0,G,B,H',E,q⟩=>by
  unfold Co at q;split at q;rename_i M S;split at q;rename_i hz;obtain⟨v0,s1,t⟩:=E.ow i _ _ S rfl;obtain⟨a,vs,rfl,m,hH,rl⟩:=t.bY;skip;refine⟨.ref a,s1,.inl ⟨rfl,_,bQ.of hH⟩,?_⟩;have fin:∀{G' O:Hp}{v:V}{d:L3.D},Ev X.K H0 G0 G' O Y B H'->aA G G'->O a=some (.lst vs)->aB X.K G' vs M->aP X.K G' v d->Fin X.K EX H0 G0 G D (.nx (B.set i (.ow (.lst (M++[d])))))->xN (.ref a) [v] O λ_ H1=>D.nx Y H1:=λ{G' O v d} E' sg lj r' QO q'=>⟨a,vs,v,rfl,rfl,lj,by rw[r'.length,D9];exact hz,q' Y G' _ _ (E'.dJ s1 m (r'.append (.cons QO .nil))) sg⟩;cases e2:f (Ay B)with|ok w=>simp only[e2]at q;refine⟨G,Ay B,E.st.gh,E.eA,?_⟩;rw[e2];exact WP.intro λv G' O st r=>fin (E.grow st) st.gg (st.hh _ _ hH) (rl.mono st.gg) r q|ex x=>simp only[e2]at q;exact⟨G,Ay B,E.st.gh,E.eA,by rw[e2];exact q Y G H H' E (aA.refl _)⟩|no=>simp only[e2]at q;refine⟨Fa G H H',At B,E.aH,E.bZ,?_⟩;cases e3:f (At B)with|ok w=>simp only[e3]at q;split at q;rename_i fl;exact WP.intro λv G' O st r=>fin (E.keep st.hh) (aA.refl _) (st.hh _ _ hH) rl (r.jB fl) q;exact q.elim|ex x=>simp only[e3]at q;exact q.elim|no=>simp only[e3]at q;exact q
  exact q.elim;exact q.elim
end
noncomputable def mD(X:Cx)(scope:Scope)(cl:List (Str×Addr))(N':List Str)(C:Addr)(s0:Shared)(H0:Hp)(fp:List Addr)(pn:AE):Cx where
 prog:=X.prog
 w:=X.w
 K:=X.K
 mg:=X.mg
 base:=X.base
 A:=X.A
 N:=N'
 s₀:=s0
 H₀:=H0
 env:=compEnvC scope cl C X.env
 outer:=X.stack
 stack:=X.stack
 ex:=fp
 fn:=λ_=>false
 calm:=X.calm
 pn:=pn
 xe:=λ_ _=>False
abbrev fW:=D->DE->R DE
def tGc(K:Frag)(EX:Be)(fg:fW):TG:=λv Y H Q=>∃G δ d,aA G H/\aT K G Y δ/\aP K G v d/\match fg d δ with|.ok δ'=>∀σ',aT K G σ' δ'->aT K G σ' δ->Q σ' H|.ex x=>(EX Y).p x G H|.no=>False
abbrev GC(X:Cx)(EX:Be)(tg:Expr)(fg:fW):Prop:=PG X tg (tGc X.K EX fg)
def Qh(X:Cx)(EX:Be)(ifs:List Expr)(p:FT):Prop:=∀(Z:AE) (s:Shared) (Y:Sg) (H:Hp) (Q:Bool->Hp->Prop),Inv X Z Y H s->dQ X.K EX p Y H Q->wpAny (model X.prog X.w) X.A (forIn ifs true λc r=>if r=true then do let ok<-isTrue c X.env (eval c X.env);pure (ForInStep.yield ok) else pure (ForInStep.yield r)) (TP X Z Y Q) X.xe s
section
variable{X:Cx}{EX:Be}{pos:Pos}
noncomputable def gC(i:Nat):fW:=λd δ=>match δ[i]? with|some none=>.ok (δ.set i (some d))|_=>.no
def aT.put{G:Hp}{Y:Sg}{δ:DE}{d:D}(h:aT K G Y δ)(r:aP K G v d)(i:Nat):aT K G (Y.set i (some v)) (δ.set i (some d)):=by
 refine⟨by rw[F7,F7];exact h.len,λj d' e=>?_⟩;rcases Gs e with⟨rfl,q⟩|⟨n,q⟩;cases q;have cK:i<δ.length:=by by_cases hh:i<δ.length;exact hh;rw[K8 (by rw[F7];lia)]at e;cases e
 exact⟨v,by rw[K2 (by rw[h.len];exact cK)],r⟩;obtain⟨v',S,r'⟩:=h.get j d' q;exact⟨v',by rw[D4 n];exact S,r'⟩
def YZ{i:Nat}{x:Str}(hN:X.N.Nodup)(hi:X.N[i]?=some x:=by rfl)(hx:Loc X.env.scope x:=by trivial)(hf:X.fn x=true\/X.env.scope.names.lookup x=some .local:=by trivial):GC X EX (.Name x pos) (gC i):=PG.imp (mi hN hi hx hf) λv Y H Q ⟨G,δ,d,g,s,r,q⟩=>by unfold gC at q;cases e:δ[i]? with|none=>rw[e]at q;exact q.elim|some o=>rw[e]at q;cases o with|some _=>exact q.elim|none=>refine q _ (s.put r i) ⟨by rw[F7];exact s.len,λj d' e'=>?_⟩;obtain⟨v',S,r'⟩:=s.get j d' e';refine⟨v',?_,r'⟩;rw[D4];exact S;rintro rfl;rw[e]at e';cases e'
def fZ:Qh X EX [] (λ_=>.ok true):=λZ s Y H Q I ⟨G,δ,g,h,q⟩=>wpAny_tests_nil ⟨H,I,q G H (Step.refl g)⟩
def lX{c:Expr}{p:FT}(h:TD X EX c p):Qh X EX [c] p:=λZ s Y H Q I q=>wpAny_tests_one (h Z s Y H Q I q)
def eJ(fg:fW)(p:FT)(f:FE)(δ:DE):List D->R (List D)|[]=>.ok []|d::M=>(fg d δ).bind λ δ1=>(p δ1).bind λb=>if b=true then(f δ1).bind λw=>(eJ fg p f δ M).bind λrs=>.ok (w.d::rs) else eJ fg p f δ M
def R.calm{α:Type}:R α->R α|.ok w=>.ok w|_=>.no
@[simp] theorem R.tF{α:Type}(a:α):(R.ok a).calm=.ok a:=rfl
@[simp] theorem R.tJ{α:Type}(x:Xn):(R.ex x:R α).calm=.no:=rfl
@[simp] theorem R.tH{α:Type}:(R.no:R α).calm=.no:=rfl
def Bn(m:Nat)(fi:FI)(fg:fW)(p:FT)(f:FE):FE:=λ δ=>((fi δ).bind λM=>if M.length<=16777216 then(eJ fg p f (δ++List.replicate m none) M).bind λrs=>.ok (.ow (.lst rs)) else .no).calm
def R.ke{α:Type}{r:R α}{x:Xn}(h:r.calm=.ex x):False:=by cases r<;>cases h
def Ke{m:Nat}{fi:FI}{fg:fW}{p:FT}{f:FE}{δ:DE}{x:Xn}(h:Bn m fi fg p f δ=.ex x):False:=R.ke h
@[reducible] def WC(prog:Program)(w:World)(A:Around)(env:Env)(tg elt:Expr)(ifs:List Expr)(it zm:Value)(bad:AA)(fin more:Shared->Prop):Option Value->Shared->Prop|none=>fin|some v=>wpAny (model prog w) A (letOwnedTupleGo tg it v) (λ_=>wpAny (model prog w) A (assign tg env v) (λ_=>wpAny (model prog w) A (forIn ifs true λc r=>if r=true then do let ok<-isTrue c env (eval c env);pure (ForInStep.yield ok) else pure (ForInStep.yield r)) (λok=>if ok=true then wpAny (model prog w) A (eval elt env) (λx=>wpAny (model prog w) A (call (.builtin "list.append") [zm,x]) (λ_=>more) bad) bad else more) bad) bad) bad
def acS{prog:Program}{w:World}{A:Around}{R:Result->Shared->Prop}{s:Shared}{elt target iter:Expr}{ifs:List Expr}{scope:Scope}{it zm:Value}{env:Env}(I:Nat->Shared->Prop)(turn:∀n s,I n s->wpAny (model prog w) A (pyNext it) (WC prog w A env target elt ifs it zm (notedBy (model prog w) A env λe=>R (.error e)) (R (.ok .next)) λs'=>∃m,m<n/\I m s') (notedBy (model prog w) A env λe=>R (.error e)) s)(n:Nat) (h:I n s):codeAny (model prog w) A (.compLoop (.ListComp elt [⟨target,iter,ifs,0⟩] scope pos) 0 it zm env) R s:=by refine codeAny_loop rfl I (λk t hk=>wpAny_noted (env:=env) (m:=compTurn (.ListComp elt [⟨target,iter,ifs,0⟩] scope pos) 0 it zm env) (compTurn_list .. ▸ ?_)) n h;refine A8 (S7 (A8 (Bb (turn k t hk) ?_)));rintro (_|v) t1 g1;exact E9 g1;refine A8 (Bb g1 λ_ t2 g2=>A8 (Bb g2 λ_ t3 g3=>A8 (Bb g3 ?_)));rintro (_|_) t4 g4;exact E9 ⟨rfl,g4⟩;exact A8 (A8 (Bb g4 λ_ t5 g5=>A8 (Bb g5 λ_ t6 g6=>E9 (E9 ⟨rfl,g6⟩))))
structure Od(X:Cx)(scope:Scope)(cl:List (Str×Addr))(N':List Str):Prop where
 jH:closureFor scope X.env=pure cl
 cell:∀y∈scope.names,y.2≠.cell
 kind:scope.kind=.function
 names:∀y∈scope.names,y.2=.local->scope.names.lookup y.1=some .local
 sub:∀x c,cl.lookup x=some c->X.env.cells.lookup x=some c
 has:∀x,((relabel scope X.env).names.lookup x=some .cell\/(relabel scope X.env).names.lookup x=some .free)->∃c,cl.lookup x=some c
 old:∀(i:Nat) (x:Str),N'[i]?=some x->i<X.N.length->Ff (relabel scope X.env) x->X.N[i]?=some x/\(X.env.scope.names.lookup x=some .cell\/X.env.scope.names.lookup x=some .free)/\(∃c,cl.lookup x=some c)/\((relabel scope X.env).names.lookup x=some .cell\/(relabel scope X.env).names.lookup x=some .free)
noncomputable def Ez(cells:List (Str×Addr)):List (Str×NameKind)->List (Str×Addr)->List (Str×Addr)|[],zm=>zm|(x,k)::r,zm=>Ez cells r (if k=.free then(x,(cells.lookup x).getD 0)::zm else zm)
def NC{scope:Scope}{env:Env}(h:∀p∈scope.names,p.2=.free->∃c,env.cells.lookup p.1=some c):closureFor scope env=pure (Ez env.cells scope.names []):=by
 have all:∀(names:List (Str×NameKind)) (zm:List (Str×Addr)),(∀p∈names,p.2=.free->∃c,env.cells.lookup p.1=some c)->(forIn names zm λ(x:Str×NameKind) (r:List (Str×Addr))=>if(x.2 ==.free)=true then do let a<-cellOf env x.1;pure (ForInStep.yield ((x.1,a)::r)) else pure (ForInStep.yield r):Sem (List (Str×Addr)))=pure (Ez env.cells names zm):=by intro names;induction names with|nil=>intro zm _;rfl|cons p r ih=>intro zm hp;obtain⟨x,k⟩:=p;rw[List.forIn_cons];by_cases hk:k=.free;subst hk;obtain⟨c,e⟩:=hp (x,.free) K7 rfl;have S:cellOf env x=pure c:=(by unfold cellOf;rw[show env.cells.lookup x=some c from e]);simp only[P6,if_true,S,pure_bind];rw[ih _ λq hq=>hp q (D5 _ hq)];show _=pure (Ez env.cells r (if NameKind.free=.free then(x,(env.cells.lookup x).getD 0)::zm else zm));rw[if_pos rfl,show env.cells.lookup x=some c from e];rfl;have J:(k ==NameKind.free)=false:=(by simpa using hk);simp only[J,F6,L5,pure_bind];rw[ih _ λq hq=>hp q (D5 _ hq)];show _=pure (Ez env.cells r (if k=.free then(x,(env.cells.lookup x).getD 0)::zm else zm));rw[if_neg hk]
 unfold closureFor;have:=all scope.names [] h;simpa using this
theorem yh{cells:List (Str×Addr)}{q:Str×Addr}:∀{names:List (Str×NameKind)}{zm:List (Str×Addr)},q∈Ez cells names zm->q∈zm\/((q.1,NameKind.free)∈names/\q.2=(cells.lookup q.1).getD 0)|[],zm,h=>.inl h|(x,k)::r,zm,h=>by rcases yh (names:=r) h with h|⟨h1,h2⟩;split at h;rename_i hk;rcases C5.mp h with rfl|h;exact .inr ⟨by rw[hk];exact K7,rfl⟩;exact .inl h;exact .inl h;exact .inr ⟨D5 _ h1,h2⟩
theorem Kd{cells:List (Str×Addr)}{x:Str}:∀{names:List (Str×NameKind)}{zm:List (Str×Addr)},(zm.lookup x).isSome=true->((Ez cells names zm).lookup x).isSome=true|[],zm,h=>h|(y,k)::r,zm,h=>by refine Kd (names:=r) ?_;split;rw[K9];split;rfl;exact h;exact h
theorem yg{cells:List (Str×Addr)}{x:Str}:∀{names:List (Str×NameKind)}{zm:List (Str×Addr)},(x,NameKind.free)∈names->((Ez cells names zm).lookup x).isSome=true|(y,k)::r,zm,h=>by rcases C5.mp h with h|h;cases h;refine Kd (names:=r) ?_;rw[if_pos rfl,K9];simp;exact yg (names:=r) h
theorem Qi{env:Env}:∀(names:List (Str×NameKind)) (x:Str),(names.map λ(n,k)=>if(k ==NameKind.free&&env.scope.kind ==.function&&env.kindOf n ==some .cell) then(n,NameKind.cell) else(n,k)).lookup x=(names.lookup x).map λk=>if(k ==NameKind.free&&env.scope.kind ==.function&&env.kindOf x ==some .cell)=true then NameKind.cell else k|[],x=>rfl|(n,k)::r,x=>by have ih:=Qi (env:=env) r x;show List.lookup x ((if(k ==NameKind.free&&env.scope.kind ==.function&&env.kindOf n ==some .cell)=true then(n,NameKind.cell) else(n,k))::_)=_;cases hx:x ==n with|true=>have e:x=n:=eq_of_beq hx;subst e;by_cases hc:(k ==NameKind.free&&env.scope.kind ==.function&&env.kindOf x ==some .cell)=true;rw[if_pos hc];simp only[K9,P6,J8];rw[if_pos hc];rw[if_neg hc];simp only[K9,P6,J8];rw[if_neg hc]|false=>by_cases hc:(k ==NameKind.free&&env.scope.kind ==.function&&env.kindOf n ==some .cell)=true;rw[if_pos hc];simp only[K9,hx];exact ih;rw[if_neg hc];simp only[K9,hx];exact ih
noncomputable def jM(inner outer:List (Str×NameKind))(N N':List Str):Bool:=(inner.all λp=>p.2 !=.cell&&(p.2 !=.local||inner.lookup p.1 ==some .local)&&(p.2 !=.free||(outer.lookup p.1 ==some .cell||outer.lookup p.1 ==some .free)))&&(List.range N.length).all λi=>match N'[i]? with|some x=>(match inner.lookup x with|some .free=>N[i]?==some x&&(outer.lookup x ==some .cell||outer.lookup x ==some .free)|some .local=>false|some .cell=>false|_=>true)|none=>true
def yf{scope:Scope}{N':List Str}(ok:X.Ok)(hk:scope.kind=.function)(J:jM scope.names X.env.scope.names X.N N'=true):Od X scope (Ez X.env.cells scope.names []) N':=by
 unfold jM at J;rw[C6]at J;obtain⟨h1,h2⟩:=J;have h1:=F9.mp h1;have h2:=F9.mp h2;have fr:∀p∈scope.names,p.2=.free->∃c,X.env.cells.lookup p.1=some c:=λp hp hf=>by have z:=h1 p hp;simp only[hf,C6,U8,bne_iff_ne,N4]at z;exact ok.has p.1 (by rcases z.2 with z|z;exact absurd rfl z;exact z)
 have inn:∀x k,scope.names.lookup x=some k->(x,k)∈scope.names:=λx k e=>L6 e;have bc:∀p∈scope.names,p.2≠.cell:=λp hp hc=>by have z:=h1 p hp;rw[hc]at z;simp at z
 have ff:∀x,scope.names.lookup x=some .free->∃c,(Ez X.env.cells scope.names []).lookup x=some c:=λx e=>S8.mp (yg (inn x _ e));have gj:∀x,((relabel scope X.env).names.lookup x=some .cell\/(relabel scope X.env).names.lookup x=some .free)->scope.names.lookup x=some .free:=λx h=>by unfold relabel at h;rw[Qi]at h;cases e:scope.names.lookup x with|none=>rw[e]at h;simp at h|some k=>rw[e]at h;have nc:=bc (x,k) (inn x k e);cases k with|free=>rfl|cell=>exact absurd rfl nc|«local»=>simp at h|globalExplicit=>simp at h|globalImplicit=>simp at h
 refine⟨NC fr,bc,hk,λy hy hl=>?_,λx c e=>?_,λx h=>ff x (gj x h),λi x e hi hv=>?_⟩;have z:=h1 y hy;simp only[hl,C6,U8,bne_iff_ne,N4]at z;rcases z.1.2 with z|z;exact absurd rfl z;exact z;rcases yh (L6 e)with z|⟨z1,z2⟩;exact absurd z (by simp);obtain⟨c',e'⟩:=fr (x,.free) z1 rfl;have z2:c=(X.env.cells.lookup x).getD 0:=z2;have e':X.env.cells.lookup x=some c':=e';rw[e']at z2⊢;cases z2;rfl;have z:=h2 i (J9.mpr hi);rw[e]at z;dsimp only at z;have look:scope.names.lookup x=some .free/\(((relabel scope X.env).names.lookup x=some .cell\/(relabel scope X.env).names.lookup x=some .free)):=by unfold Ff relabel at hv;unfold relabel;rw[Qi]at hv⊢;cases q:scope.names.lookup x with|none=>rw[q]at hv;simp at hv|some k=>rw[q]at hv z;cases k with|free=>refine⟨rfl,?_⟩;by_cases hc:(X.env.scope.kind ==.function&&X.env.kindOf x ==some .cell)=true;left;simp[Bool.and_assoc,hc];right;simp[Bool.and_assoc,hc]|cell=>simp at z|«local»=>simp at z|globalExplicit=>simp at hv|globalImplicit=>simp at hv
 rw[look.1]at z;simp only[C6,U8,N4]at z;exact⟨z.1,z.2,ff x look.1,look.2⟩
structure kO(P:Program)(w:World)(K:Frag)(tg:Expr)(hb:It)(fp:List Addr)(it:Addr)(tn:Nat->Heap->Prop)(Δ:Cx->Prop):Prop where
 obj:∀i h,tn i h->∀b∈fp,∃o,h.get? b=some o/\∀v,o.data≠.cell v
 keep:∀i h h',tn i h->(∀b∈fp,∀o,h.get? b=some o->h'.get? b=some o)->tn i h'
 item:∀(X:Cx),X.prog=P->X.w=w->X.K=K->∀(i:Nat) (Z:AE) (s:Shared) (Y:Sg) (H:Hp) (E:AA),Δ X->Inv X Z Y H s->(∀b∈fp,Cm X Z H b)->tn i s.heap->hb.go i H->wpAny (model P w) X.A (pyNext (.ref it)) (λr s1=>∃u,r=some u/\wpAny (model P w) X.A (letOwnedTupleGo tg (.ref it) u) (λ_ s2=>∃x O,Inv X Z Y O s2/\RelV x u/\hb.zG i H x O/\tn (i+1) s2.heap/\∀b∈fp,O b=none) E s1) E s
 done:∀(X:Cx),X.prog=P->X.w=w->X.K=K->∀(i:Nat) (Z:AE) (s:Shared) (Y:Sg) (H:Hp) (E:AA),Δ X->Inv X Z Y H s->(∀b∈fp,Cm X Z H b)->tn i s.heap->hb.stop i H->wpAny (model P w) X.A (pyNext (.ref it)) (λr s1=>r=none/\Inv X Z Y H s1) E s
 self:∀(A:Around) (i:Nat) (s:Shared) (Q:AA) (E:AA),tn i s.heap->Q (.ref it) s->wpAny (model P w) A (pyIter (.ref it)) Q E s
def jL:Cx->Prop:=λX=>X.calm=true
def Turn.z{P:Program}{w:World}{tg:Expr}{hb:It}{fp:List Addr}{it:Addr}{tn:Nat->Heap->Prop}(T:Turn P w K tg hb fp it tn):kO P w K tg hb fp it tn jL:=⟨T.obj,T.keep,λX a b c i Z s Y H E hc=>T.item X a b c hc i Z s Y H E,λX a b c i Z s Y H E hc=>T.done X a b c hc i Z s Y H E,T.self⟩
def BX:Cx->Prop:=λX=>X.A.handled=none\/∃(x:Addr) (o:Obj) (u:HO) (us:Array Value),X.A.handled=some (.ref x)/\X.H₀ x=some (.cY o u)/\o.data=.fields us/\us[2]?=some .none
def BX.ne{Z:AE}{s:Shared}{Y:Sg}{a:Addr}(b:BX X)(I:Inv X Z Y H s)(n:H a=none):X.A.handled≠some (.ref a):=λz=>by rcases b with b|⟨x,o,u,us,e,h,_⟩;rw[b]at z;cases z;rw[e]at z;injection z with z;injection z with z;rw[<-z,I.base.cH x o u h]at n;cases n
def PIZ(X:Cx)(Δ:Cx->Prop)(tg iter:Expr)(wi:TI):Prop:=∀(Z:AE) (s:Shared) (Y:Sg) (H:Hp) (R:It->Hp->Prop),Inv X Z Y H s->wi Y H R->wpAny (model X.prog X.w) X.A (eval iter X.env) (λv s1=>wpAny (model X.prog X.w) X.A (pyIter v) (λmX s2=>∃(it:Addr) (fp:List Addr) (tn:Nat->Heap->Prop) (hb:It) (O:Hp),mX=.ref it/\Inv X Z Y O s2/\kO X.prog X.w X.K tg hb fp it tn Δ/\tn 0 s2.heap/\(∀b∈fp,Cm X Z O b)/\R hb O) X.xe s1) X.xe s
theorem PI.z{tg iter:Expr}{wi:TI}(h:PI X tg iter wi):PIZ X jL tg iter wi:=λZ s Y H R I q=>F5 (h Z s Y H R I q) (λv s1 h1=>F5 h1 (λmX s2 ⟨it,fp,tn,hb,O,e,I2,T,r⟩=>⟨it,fp,tn,hb,O,e,I2,Turn.z T,r⟩) λ_ _ z=>z) λ_ _ z=>z
def abP{elt iter tg:Expr}{ifs:List Expr}{scope:Scope}{N':List Str}{fi:FI}{fg:fW}{p:FT}{f:FE}{m:Nat}(uk:∀e s,¬X.xe e s){Δ:Cx->Prop}(hk:scope.kind=.function)(J:jM scope.names X.env.scope.names X.N N'=true)
  (hm:N'.length=X.N.length+m)
  (zV:∀C s0 H0 fp pn,GC (mD X scope (Ez X.env.cells scope.names []) N' C s0 H0 fp pn) Cl tg fg/\Qh (mD X scope (Ez X.env.cells scope.names []) N' C s0 H0 fp pn) Cl ifs p/\ED (mD X scope (Ez X.env.cells scope.names []) N' C s0 H0 fp pn) Cl elt f)
  {Z:AE} {s:Shared} {Y:Sg} {δ:DE} (I:Inv X Z Y H s) {zc:Hp->Hp->Prop} (hZ:∀G2 H2,zc G2 H2->aA G2 H2/\aT X.K G2 Y δ) (hB:∀C s0 H0 fp pn,Inv X Z Y H0 s0->Δ (mD X scope (Ez X.env.cells scope.names []) N' C s0 H0 fp pn))
  (hit:wpAny (model X.prog X.w) X.A (eval iter X.env) (λxv s₁=>wpAny (model X.prog X.w) X.A (pyIter xv) (λmX s₂=>∃(it:Addr) (fp:List Addr) (tn:Nat->Heap->Prop) (hb:It) (H2:Hp) (M:List D) (G2:Hp),mX=.ref it/\Inv X Z Y H2 s₂/\kO X.prog X.w X.K tg hb fp it tn Δ/\tn 0 s₂.heap/\(∀b∈fp,Cm X Z H2 b)/\fi δ=.ok M/\zc G2 H2/\kJ X.K G2 hb M) X.xe s₁) X.xe s)
  {RR:Value->Addr->Result->Shared->Prop}
  (o:match Bn m fi fg p f δ with|.ok _=>True|.ex x=>False|.no=>False)
  (Rm:∀(Da C:Addr) (s1:Shared) (G2 H2 G' O:Hp) (vs:List V) (rs:List D),Bn m fi fg p f δ=.ok (.ow (.lst rs))->Inv X Z Y O s1->(∃m,s1.heap.Ns C m)->Cm X Z O C->zc G2 H2->Step G2 H2 G' O->H2 Da=none->O Da=some (.lst vs)->G' Da=none->aB X.K G' vs rs->RR (.ref Da) C (.ok .next) s1):
  wpAny (model X.prog X.w) X.A (eval iter X.env) (λx s₁=>wpAny (model X.prog X.w) X.A (pyIter x) (λit s₂=>wpAny (model X.prog X.w) X.A (newList []) (λzm s₃=>
   wpAny (model X.prog X.w) X.A (newFunctionEnv scope X.env.globals (Ez X.env.cells scope.names []) [] X.env.qual none .none (some X.env)) (λnR s₄=>
    codeAny (model X.prog X.w) X.A (.compStart (.ListComp elt [⟨tg,iter,ifs,0⟩] scope pos) 0 it zm {nR with scope:=relabel scope X.env}) (RR zm nR.locals) s₄) X.xe s₃) X.xe s₂) X.xe s₁) X.xe s:=by
 have n:=yf I.ok hk J;generalize agf:Ez X.env.cells scope.names []=cl at n zV hB⊢;have du:∀M,fi δ=.ok M->M.length<=16777216/\(match eJ fg p f (δ++List.replicate m none) M with|.ok rs=>Bn m fi fg p f δ=.ok (.ow (.lst rs))|.ex x=>False|.no=>False):=λM e=>by
  unfold Bn at o⊢;simp only[e,R.aD]at o⊢
  by_cases hz:M.length<=16777216
  ·refine⟨hz,?_⟩;rw[if_pos hz]at o⊢;cases e2:eJ fg p f (δ++List.replicate m none) M with
   |ok rs=>rfl
   |ex x=>rw[e2]at o;exact o
   |no=>rw[e2]at o;exact o
  ·rw[if_neg hz]at o;exact o.elim
 
 refine F5 hit (λxv s₁ h₁=>F5 h₁ (λmX s₂ h₂=>?_) λ_ _ e=>(uk _ _ e).elim) λ_ _ e=>(uk _ _ e).elim;obtain⟨it,fp,tn,hb,H2,M,G2,rfl,I2,T,aV,f2,e2,OY,QJ⟩:=h₂;obtain⟨ve,h0⟩:=hZ G2 H2 OY;obtain⟨hz,o⟩:=du M e2
 
 have CU:H2 s₂.heap.objs.size=none:=I2.aJ.fresh (A9 _);refine SW (wpAny_newFunctionEnv n.cell (by intro y hy;simp at hy) (λh₁ hns₁ hsb₁=>?_) n.kind);dsimp only at hns₁ hsb₁⊢;generalize Rn:s₂.heap.objs.size=Da at CU;have hDn: @Eq Nat s₂.heap.objs.size Da:=Rn;have I3:Inv X Z Y (upd H2 Da (.lst [])) {s₂ with heap:=s₂.heap.push {cls:=.type "list",dict:=none,data:=.seq ([]:List Value).toArray}}:=by
  rw[<-Rn];exact I2.vT (t':=s₂.toks) .nil (L1 _)
 generalize hH3:s₂.heap.push {cls:=.type "list",dict:=none,data:=.seq ([]:List Value).toArray}=kF at hns₁ hsb₁ I3⊢;have hC:kF.objs.size=Da+1:=by rw[<-hH3,N7,Rn]
 generalize hCe:kF.objs.size=C at hns₁ hsb₁ hC;have hCn: @Eq Nat kF.objs.size C:=hCe;have hC2: @Eq Nat C (Da+1):=hC;have gn:∀b o,s₂.heap.get? b=some o->kF.get? b=some o:=λb o e=>by rw[<-hH3];exact A5 _ e
 have up:∀b o,kF.get? b=some o->h₁.get? b=some o:=λb o e=>hsb₁.extBut b o (D6 (show @LT.lt Nat _ b C by rw[<-hCn];exact B2 e)) (A5 _ e)
 
 have Rw:∀b∈fp,b<s₂.heap.objs.size:=λb J=>by
  obtain⟨o,e,_⟩:=T.obj _ _ aV b J;exact B2 e
 have uu:∀x c,cl.lookup x=some c->c<kF.objs.size/\c∉fp/\(upd H2 Da (.lst [])) c=none:=λx c e=>by
  have e':=n.sub x c e;obtain⟨v,hv⟩:=I3.cell x c e';exact⟨hv.lt,λz=>(f2 c z).2.2.2.2.1 x c e' rfl,I3.bD x c e'⟩
 let X':=mD X scope cl N' C {s₂ with heap:=kF} (upd H2 Da (.lst [])) fp (X.pn++Z)
 have Qx:X'.Ok:=by
  refine⟨I.ok.mod,n.kind,I.ok.glob,I.ok.blt,V7 hCe,λx y c h1 h2=>I.ok.inj x y c (n.sub x c h1) (n.sub y c h2),λx hx=>n.has x hx,λx c z=>?_,I.ok.hd,I.ok.frames,.inl rfl,λb J=>⟨?_,λx c e z=>?_⟩,λb o e=>?_,?_,λb o e J=>?_,λb J z=>?_,I3.stack,I3.dF,I3.tab⟩
  ·exact absurd z B5
  ·exact D6 (C9 (Rw b J) (show @LE.le Nat _ s₂.heap.objs.size C by lia))
  ·subst z;exact(uu x c e).2.1 J
  ·exact I3.bs b o e
  ·exact D2 I.ok.iX I3.sz
  ·rcases(f2 b J).2.2.2.1 with z|z
   ·exact I.ok.eU b o e z
   ·exact absurd (B2 (I.ok.bs b o e).1) (Nat.not_lt_of_le z)
  ·rcases C5.mp (I3.cN b z)with z|z
   ·exact(f2 b J).2.1 z
   ·exact(f2 b J).2.2.1 z
 have lenσ:Y.length=X.N.length:=I.len;have I4:Inv X' [] (Y++List.replicate m none) (upd H2 Da (.lst [])) {s₂ with heap:=h₁,toks:=s₂.toks+([]:List (Str×Value)).length}:=by
  refine⟨Qx,rfl,I2.bare,Un.kept up,⟨_,hns₁,λi x v S e2 e3=>?_⟩,λx c e=>?_,?_,λx c e=>(uu x c e).2.2,λp hp=>?_,I3.aJ.kept up,?_⟩
  ·have hi:i<Y.length:=by
    by_cases hh:i<Y.length
    ·exact hh
    ·rw[D7 (),J6]at e2
     split at e2<;>cases e2
   rw[C7 hi]at e2;obtain⟨n1,n2,⟨c,n3⟩,n4⟩:=n.old i x S () e3;obtain⟨mm,qD,hl⟩:=I3.loc;obtain⟨u,r,l⟩:=hl i x v n1 e2 (.inr n2);refine⟨u,r,.inr ⟨n4,c,n3,?_⟩⟩;have QE:=n.sub x c n3;rcases l with⟨k1,k2⟩|⟨k1,c',k2,k3⟩
   ·exfalso;have qy:X.env.scope.names.lookup x=some .local:=k1;rcases n2 with n2|n2
    ·rw[n2]at qy;cases qy
    ·rw[n2]at qy;cases qy
   ·rw[QE]at k2;cases k2;exact k3.keeps up
  ·obtain⟨v,hv⟩:=I3.cell x c (n.sub x c e);exact⟨v,hv.keeps up⟩
  ·show upd H2 Da (.lst []) C=none;exact I3.aJ.fresh (by show kF.objs.size<=C;lia)
  ·have CO:p∈X.pn++Z:=by
    have qC:p∈(X.pn++Z)++[]:=hp
    rwa[G6]at qC
   obtain⟨z1,z2,z3,z4,z5⟩:=I3.pin p CO;refine⟨up _ _ z1,z2,?_,λz=>?_,z5⟩
   ·exact D6 (show @LT.lt Nat _ p.1 C by rw[<-hCn];exact B2 z1)
   ·rcases C5.mp (I3.cN p.1 z)with z|z
    ·exact z3 z
    ·exact z4 z
  ·rw[A6,M6,lenσ];exact hm.symm
 obtain⟨hgc,hct,hel⟩:=zV C {s₂ with heap:=kF} (upd H2 Da (.lst [])) fp (X.pn++Z);have hS4:aT X.K G2 (Y++List.replicate m none) (δ++List.replicate m none):=by
  refine⟨by rw[A6,A6,M6,M6,h0.len],λi d e=>?_⟩
  by_cases hh:i<δ.length
  ·rw[C7 hh]at e;obtain⟨v,S,r⟩:=h0.get i d e;exact⟨v,by rw[C7 (by rw[h0.len];exact hh)];exact S,r⟩
  ·rw[D7 (),J6]at e
   split at e<;>cases e
 generalize hδ:δ++List.replicate m none=δ' at hS4 o;have Qm:tn 0 h₁:=T.keep 0 _ _ aV λb J o e=>up b o (gn b o e);have fpn:∀b∈fp,(upd H2 Da (.lst [])) b=none:=λb J=>by
  rw[Ax (D6 (show @LT.lt Nat _ b Da by rw[<-hDn];exact Rw b J))];exact(f2 b J).1
 have dn:∀{pl:AE} {O:Hp},pl=[]->(∀b∈fp,O b=none)->∀b∈fp,Cm X' pl O b:=λ{pl O} bM hn b J=>by
  subst bM;refine⟨hn b J,?_,λz=>?_,.inl J,λx c e z=>?_,λp hp z=>?_⟩
  ·exact D6 (C9 (Rw b J) (show @LE.le Nat _ s₂.heap.objs.size C by lia))
  ·rcases C5.mp (I3.cN b z)with z|z
   ·exact(f2 b J).2.1 z
   ·exact(f2 b J).2.2.1 z
  ·subst z;exact(uu x c e).2.1 J
  ·have CO:p∈X.pn++Z:=by
    have qC:p∈(X.pn++Z)++[]:=hp
    rwa[G6]at qC
   exact(f2 b J).2.2.2.2.2 p CO z
 have loop:∀s4:Shared,Inv X' [] (Y++List.replicate m none) (upd H2 Da (.lst [])) s4->tn 0 s4.heap->codeAny (model X.prog X.w) X.A (.compLoop (.ListComp elt [⟨tg,iter,ifs,0⟩] scope pos) 0 (.ref it) (.ref Da) (compEnvC scope cl C X.env)) (RR (.ref Da) C) s4:=by
  intro s4 I4 tn4;refine acS (λk s'=>∃i σ' O G' vs rs,k=M.length-i/\i<=M.length/\Inv X' [] σ' O s'/\tn i s'.heap/\(∀b∈fp,O b=none)/\aT X.K G' σ' δ'/\Step G2 H2 G' O/\aA G2 G'/\O Da=some (.lst vs)/\G' Da=none/\
   aB X.K G' vs rs/\rs.length<=i/\(match eJ fg p f δ' (M.drop i)with|.ok OA=>Bn m fi fg p f δ=.ok (.ow (.lst (rs++OA)))|.ex x=>False|.no=>False)) ?_ M.length
   ⟨0,_,_,G2,[],[],by simp,L1 _,I4,tn4,fpn,hS4,Step.own ve CU _,aA.refl _,Bo,ve.free CU,.nil,L1 _,by simpa using o⟩
  rintro k s' ⟨i,σ',O,G',vs,rs,rfl,hi,I',tni,fn',hS,st,sg,hD,gD,rl,hl,o'⟩
  obtain⟨i1,i2⟩:=QJ G' O sg st.gh i
  by_cases cK:i<M.length
  ·obtain⟨d,S,e2⟩:=sR cK;obtain⟨go,yl⟩:=i1 d S;refine Bb (T.item X' rfl rfl rfl i [] s' σ' O _ (hB _ _ _ _ _ I3) I' (dn rfl fn') tni go) λr s1 ⟨u,hr,h1⟩=>?_;subst hr;refine Bb h1 λ_ s5 ⟨x,H5,I5,r5,y5,uY,Rv⟩=>?_;obtain⟨G5,au,hx5⟩:=yl x H5 y5;have Tx:=I5.pinned (dn rfl Rv) (T.obj _ _ uY);rw[e2]at o';have o1:match((fg d δ').bind λ δ1=>(p δ1).bind λb=>if b=true then(f δ1).bind λw=>(eJ fg p f δ' (M.drop (i+1))).bind λrs=>.ok (w.d::rs) else eJ fg p f δ' (M.drop (i+1)))with|.ok OA=>Bn m fi fg p f δ=.ok (.ow (.lst (rs++OA)))|.ex x=>False|.no=>False:=o'
   have hS5:aT X.K G5 σ' δ':=hS.mono au.gg;refine F5 (hgc _ s5 σ' H5 x u (λ σ6 H6=>∃δ1,fg d δ'=.ok δ1/\H6=H5/\aT X.K G5 σ6 δ1/\aT X.K G5 σ6 δ') Tx r5 ⟨G5,δ',d,au.gh,hS5,hx5,?_⟩) (λ_ s6 ⟨σ6,H6,I6,δ1,e6,eH,hS6,Uu⟩=>?_) λ_ _ z=>False.elim z
   ·cases e6:fg d δ' with
    |ok δ1=>exact λ σ6 h6 h6'=>⟨δ1,rfl,rfl,h6,h6'⟩
    |ex x=>rw[e6]at o1;exact o1
    |no=>rw[e6]at o1;exact o1
   subst eH;rw[e6]at o1;simp only[R.aD]at o1;refine F5 (hct _ s6 σ6 H6 (λb H7=>∃G7,p δ1=.ok b/\Step G5 H6 G7 H7) I6 ⟨G5,δ1,au.gh,hS6,?_⟩) (λb s7 ⟨H7,I7,G7,e7,dH⟩=>?_) λ_ _ z=>False.elim z
   ·cases e7:p δ1 with
    |ok b=>exact λG7 H7 st7=>⟨G7,rfl,st7⟩
    |ex x=>rw[e7]at o1;exact o1
    |no=>rw[e7]at o1;exact o1
   rw[e7]at o1;simp only[R.aD]at o1
   
   have gD7:G7 Da=none:=(au.trans dH).nw Da gD (by rw[hD];simp);have Ro:H7 Da=some (.lst vs):=(au.trans dH).hh _ _ hD;have cj:∀{σ9:Sg} {H9:Hp} {s9:Shared},Inv X' ([]++oA fp s5.heap) σ9 H9 s9->tn (i+1) s9.heap/\∀b∈fp,H9 b=none:=λ{σ9 H9 s9} I9=>
    ⟨T.keep _ _ _ uY λb J o e=>(I9.pin (b,o) (B8 _ (B8 _ (tj J e)))).1,λb J=>by
     obtain⟨o,e,d⟩:=T.obj _ _ uY b J;exact(I9.pin (b,o) (B8 _ (B8 _ (tj J e)))).2.1⟩
   have hSk:∀{G9:Hp},aA G7 G9->aT X.K G9 σ6 δ':=λ{G9} sm=>Uu.mono (dH.gg.trans sm);cases b with
   |false=>
    rw[if_neg B5]at o1⊢;exact⟨M.length-(i+1),by lia,i+1,σ6,H7,G7,vs,rs,rfl,cK,I7.cE,(cj I7).1,(cj I7).2,hSk (aA.refl _),st.trans (au.trans dH),sg.trans (au.gg.trans dH.gg),Ro,gD7,rl.mono (au.gg.trans dH.gg),by lia,o1⟩
   |true=>
    rw[if_pos rfl]at o1⊢;refine F5 (hel _ s7 σ6 H7 (λv H8=>∃w G8,f δ1=.ok w/\Step G7 H7 G8 H8/\aP X.K G8 v w.d) I7 ⟨G7,δ1,dH.gh,hS6.mono dH.gg,?_⟩) (λu8 s8 ⟨v8,H8,I8,r8,w8,G8,e8,jA,hv8⟩=>?_) λ_ _ z=>False.elim z
    ·cases e8:f δ1 with
     |ok w=>exact WP.intro λv G8 H8 st8 r8=>⟨w,G8,rfl,st8,r8⟩
     |ex x=>rw[e8]at o1;exact o1
     |no=>rw[e8]at o1;exact o1
    rw[e8]at o1;simp only[R.aD]at o1;have gD8:G8 Da=none:=jA.nw Da gD7 (by rw[Ro];simp);have hD8:H8 Da=some (.lst vs):=jA.hh _ _ Ro;have rl8:aB X.K G8 vs rs:=rl.mono (au.gg.trans (dH.gg.trans jA.gg));refine F5 (yB (X:=X') _ s8 σ6 H8 (.ref Da) [v8] (.ref Da) [u8] (λ_ H9=>H9=upd H8 Da (.lst (vs++[v8]))) I8 rfl (.cons r8 .nil) ⟨Da,vs,v8,rfl,rfl,hD8,by rw[rl.length,D9];lia,rfl⟩) (λ_ s9 ⟨_,H9,I9,_,e9⟩=>?_) λ_ _ z=>False.elim z;subst e9;have Qn:=st.trans (au.trans (dH.trans jA));refine⟨M.length-(i+1),by lia,i+1,σ6,_,G8,vs++[v8],rs++[w8.d],rfl,cK,I9.cE,(cj I9).1,(cj I9).2,hSk jA.gg,⟨λb o z=>?_,λb o z=>?_,Qn.gg,Qn.nw⟩,sg.trans (au.gg.trans (dH.gg.trans jA.gg)),Bo,gD8,rl8.append (.cons hv8 .nil),by rw[A6,F8];lia,?_⟩
    ·rw[Ax (Eu z CU)];exact Qn.hh b o z
    ·rw[Ax (Eu z gD8)];exact jA.gh b o z
    ·cases RI:eJ fg p f δ' (M.drop (i+1))with
     |ok OA=>
      rw[RI]at o1;simp only[R.aD]at o1⊢;rw[J7];exact o1
     |ex x=>rw[RI]at o1;exact o1
     |no=>rw[RI]at o1;exact o1
  ·have e:M.length=i:=by lia
   refine Bb (T.done X' rfl rfl rfl i [] s' σ' O _ (hB _ _ _ _ _ I3) I' (dn rfl fn') tni (i2 e)) λr s1 ⟨hr,I1⟩=>?_;subst hr;rw[O8 ()]at o';have o1:Bn m fi fg p f δ=.ok (.ow (.lst (rs++[]))):=o';rw[G6]at o1;obtain⟨mm,qD,_⟩:=I1.loc;have fw:Inv X Z Y O s1:=I3.uO (s':=s1) (ch:=fp) I1.os I1.base I1.aJ I1.bare λb J=>by
    obtain⟨f0,f1',f2',f3,f4,f5⟩:=f2 b J;exact⟨f3,f1',f4,f5⟩
   exact Rm Da C s1 G2 H2 G' O vs rs o1 fw ⟨mm,qD⟩ (I3.gP (by show kF.objs.size<=C;lia) I1.free) OY st CU hD gD rl
 exact codeAny_compStart_list (loop _ I4 Qm) (T.self X.A 0 _ _ _ Qm (loop _ I4 Qm))
structure dN(X:Cx)(scope:Scope)(N':List Str)(m:Nat)(tg:Expr)(ifs:List Expr)(elt:Expr)(fg:fW)(p:FT)(f:FE):Prop where
 hk:scope.kind=.function
 J:jM scope.names X.env.scope.names X.N N'=true
 hm:N'.length=X.N.length+m
 zV:∀C s0 H0 fp pn,GC (mD X scope (Ez X.env.cells scope.names []) N' C s0 H0 fp pn) Cl tg fg/\Qh (mD X scope (Ez X.env.cells scope.names []) N' C s0 H0 fp pn) Cl ifs p/\ED (mD X scope (Ez X.env.cells scope.names []) N' C s0 H0 fp pn) Cl elt f
def jX(X:Cx)(Δ:Cx->Prop)(tg iter:Expr)(fi:FI):Prop:=∀(Z:AE) (s:Shared) (Y:Sg) (G H:Hp) (δ:DE) (M:List D),Inv X Z Y H s->aA G H->aT X.K G Y δ->fi δ=.ok M->∃zc:Hp->Hp->Prop,(∀G2 H2,zc G2 H2->aA G2 H2/\aT X.K G2 Y δ)/\wpAny (model X.prog X.w) X.A (eval iter X.env) (λxv s₁=>wpAny (model X.prog X.w) X.A (pyIter xv) (λmX s₂=>∃(it:Addr) (fp:List Addr) (tn:Nat->Heap->Prop) (hb:It) (H2 G2:Hp),mX=.ref it/\Inv X Z Y H2 s₂/\kO X.prog X.w X.K tg hb fp it tn Δ/\tn 0 s₂.heap/\(∀b∈fp,Cm X Z H2 b)/\zc G2 H2/\kJ X.K G2 hb M) X.xe s₁) X.xe s/\∀(Da C:Addr) (s1:Shared) (G2 H2 G' O:Hp) (vs:List V) (rs:List D),Inv X Z Y O s1->Cm X Z O C->zc G2 H2->Step G2 H2 G' O->H2 Da=none->O Da=some (.lst vs)->G' Da=none->aB X.K G' vs rs->∃G' O,Inv X Z Y O s1/\Cm X Z O C/\Step G H G' O/\H Da=none/\O Da=some (.lst vs)/\G' Da=none/\aB X.K G' vs rs
def aaC{iter tg:Expr}{fi:FI}{Δ:Cx->Prop}(hi:PIZ X Δ tg iter (tI X.K Cl fi)):jX X Δ tg iter fi:=λZ s Y G H δ M I g0 h0 ed=>by refine⟨Step G H,λG2 H2 z=>⟨z.gh,h0.mono z.gg⟩,F5 (hi Z s Y H (λhb H2=>∃G2,Step G H G2 H2/\kJ X.K G2 hb M) I ⟨G,δ,g0,h0,?_⟩) (λxv s₁ h₁=>F5 h₁ (λmX s₂ h₂=>?_) λ_ _ e=>e) (λ_ _ e=>e),λDa C s1 G2 H2 G' O vs rs Io fc z st h1 h2 h3 rl=>⟨G',O,Io,fc,z.trans st,z.hh.free h1,h2,h3,rl⟩⟩;rw[ed];exact λhb G2 H2 st it=>⟨G2,st,it⟩;obtain⟨it,fp,tn,hb,H2,rfl,I2,T,aV,f2,G2,stp,QJ⟩:=h₂;exact⟨it,fp,tn,hb,H2,G2,rfl,I2,T,aV,f2,stp,QJ⟩
def Ft{iter tg:Expr}{fi:FI}(hi:ID X Cl tg iter fi):jX X jL tg iter fi:=aaC (PI.z hi)
section
variable{elt iter tg:Expr}{ifs:List Expr}{scope:Scope}{N':List Str}{fi:FI}{fg:fW}{p:FT}{f:FE}{m:Nat}
def Mu(uk:∀e s,¬X.xe e s){Δ:Cx->Prop}(src:jX X Δ tg iter fi)(ho:dN X scope N' m tg ifs elt fg p f){Z:AE}{s:Shared}{Y:Sg}{G H:Hp}{δ:DE}(I:Inv X Z Y H s) (g0:aA G H) (h0:aT X.K G Y δ) (hB:∀C s0 H0 fp pn,Inv X Z Y H0 s0->Δ (mD X scope (Ez X.env.cells scope.names []) N' C s0 H0 fp pn)) {RR:Value->Addr->Result->Shared->Prop}(o:match Bn m fi fg p f δ with|.ok _=>True|.ex x=>False|.no=>False)(Rm:∀(Da C:Addr) (s1:Shared) (G' O:Hp) (vs:List V) (rs:List D),Bn m fi fg p f δ=.ok (.ow (.lst rs))->Inv X Z Y O s1->(∃m,s1.heap.Ns C m)->Cm X Z O C->Step G H G' O->H Da=none->O Da=some (.lst vs)->G' Da=none->aB X.K G' vs rs->RR (.ref Da) C (.ok .next) s1):wpAny (model X.prog X.w) X.A (eval iter X.env) (λx s₁=>wpAny (model X.prog X.w) X.A (pyIter x) (λit s₂=>wpAny (model X.prog X.w) X.A (newList []) (λzm s₃=>wpAny (model X.prog X.w) X.A (newFunctionEnv scope X.env.globals (Ez X.env.cells scope.names []) [] X.env.qual none .none (some X.env)) (λnR s₄=>codeAny (model X.prog X.w) X.A (.compStart (.ListComp elt [⟨tg,iter,ifs,0⟩] scope pos) 0 it zm {nR with scope:=relabel scope X.env}) (RR zm nR.locals) s₄) X.xe s₃) X.xe s₂) X.xe s₁) X.xe s:=by
 obtain⟨M,ed⟩:∃M,fi δ=.ok M:=by unfold Bn at o;cases e:fi δ with|ok M=>exact⟨M,rfl⟩|ex x=>rw[e]at o;exact o.elim|no=>rw[e]at o;exact o.elim
 obtain⟨zc,z1,z2,z3⟩:=src Z s Y G H δ M I g0 h0 ed;refine abP uk (Δ:=Δ) ho.hk ho.J ho.hm ho.zV I (zc:=zc) z1 hB (F5 z2 (λ_ _ h=>F5 h (λ_ _ ⟨it,fp,tn,hb,H2,G2,a,b,c,d,e,z,i⟩=>⟨it,fp,tn,hb,H2,M,G2,a,b,c,d,e,ed,z,i⟩) λ_ _ e=>e) λ_ _ e=>e) o λDa C s1 G2 H2 G' O vs rs e Io qE fc z st h1 h2 h3 rl=>?_;obtain⟨G'',H'',x1,x2,x3,x4,x5,x6,x7⟩:=z3 Da C s1 G2 H2 G' O vs rs Io fc z st h1 h2 h3 rl;exact Rm Da C s1 G'' H'' vs rs e x1 qE x2 x3 x4 x5 x6 x7
def abO(uk:∀e s,¬X.xe e s){Δ:Cx->Prop}(hB:∀Z Y C s0 H0 fp pn,Inv X Z Y H0 s0->Δ (mD X scope (Ez X.env.cells scope.names []) N' C s0 H0 fp pn))(src:jX X Δ tg iter fi)(ho:dN X scope N' m tg ifs elt fg p f)(hs:∀x,foldedSetIterable iter X.env x=pure x:=by intro _;rfl):ED X Cl (.ListComp elt [⟨tg,iter,ifs,0⟩] scope pos) (Bn m fi fg p f):=by
 intro Z s Y H Q I q;obtain⟨G,δ,g0,h0,o⟩:=q;rw[eval_ListComp];have n:=yf I.ok ho.hk ho.J;refine ZB6 (use:=none) rfl hs n.jH n.kind n.names (Mu (RR:=λzm C=>compPost (model X.prog X.w) X.A X.xe none (EP X Z Y Q) zm C) uk src ho I g0 h0 (hB _ _) ?_ λDa C s1 G' O vs rs e Io qE fc st h1 h2 h3 rl=>?_);cases e:Bn m fi fg p f δ with|ok w=>trivial|ex x=>rw[e]at o;exact o|no=>rw[e]at o;exact o
 rw[e]at o;obtain⟨mm,qD⟩:=qE;obtain⟨c0,c1,c2,c3,c4,c5⟩:=fc;exact⟨mm,qD,λh' sb=>⟨.ref Da,O,Io.turned (t':=s1.toks) (λb ob J e=>(sb.2 b J).trans e) c0 c1 c3 c4 c5,rfl,o (.ref Da) (λb=>b=Da) G' O st (λa e=>by subst e;exact⟨h1,h3,by rw[h2];simp⟩) (.list h2 rfl rl)⟩⟩
def fS(hc:X.calm=true)(src:jX X.mV jL tg iter fi)(ho:dN X scope N' m tg ifs elt fg p f)(hs:∀x,foldedSetIterable iter X.env x=pure x:=by intro _;rfl):ED X EX (.ListComp elt [⟨tg,iter,ifs,0⟩] scope pos) (Bn m fi fg p f):=PE.imp (PE.mV (abO (X:=X.mV) (λ_ _ z=>z) (Δ:=jL) (λ_ _ _ _ _ _ _ _=>hc) src ⟨ho.hk,ho.J,ho.hm,ho.zV⟩ hs)) λ Y H Q ⟨G,δ,g0,h0,o⟩=>by refine⟨G,δ,g0,h0,?_⟩;cases e:Bn m fi fg p f δ with|ok w=>rw[e]at o;exact o|ex x=>exact(Ke e).elim|no=>rw[e]at o;exact o
end
theorem PS.mV{st:Stmt}{t:TS}(h:PS X.mV st t):PS X st t:=λZ s Y H D I hw=>F5 (h Z s Y H D (I.dG _) hw) (λ_ _ q=>q.bW) λ_ _ z=>False.elim z
def YY{i:Nat}{js:List Nat}{f:FE}(h:∀δ x,f δ≠.ex x){B Δ':SE}{x:Xn}(e:Ah i js f B=.ex x Δ'):False:=by
 unfold Ah at e;have hp:∀Δ2,Dy i Δ2 (f (Ay Δ2))=.ex x Δ'->False:=λ Δ2 e2=>by unfold Dy at e2;cases q:f (Ay Δ2)with|ok w=>rw[q]at e2;cases w<;>cases e2|ex y=>exact h _ _ q|no=>rw[q]at e2;cases e2
 cases q:f (Ay B)with|ok w=>rw[q]at e;cases w<;>cases e|ex y=>exact h _ _ q|no=>rw[q]at e;cases q2:f (At B)with|ok w=>simp only[q2]at e;split at e;cases e;exact hp _ e|ex y=>exact h _ _ q2|no=>simp only[q2]at e;cases e
def aaB{elt iter tg:Expr}{ifs:List Expr}{scope:Scope}{N':List Str}{fi:FI}{fg:fW}{p:FT}{f:FE}{m i:Nat}{y:Str}{py bx:Pos}(uk:∀e s,¬X.xe e s)(hc:X.calm=true)(src:jX X jL tg iter fi)(ho:dN X scope N' m tg ifs elt fg p f)(hN:X.N.Nodup) (hy:X.N[i]?=some y) (hx:Loc X.env.scope y) (hf:X.fn y=true\/X.env.scope.names.lookup y=some .local)(pU:swapsWith (.ListComp elt [⟨tg,iter,ifs,0⟩] scope pos) (some (.Name y py)) bx.line X.env=pure true)(hs:∀x,foldedSetIterable iter X.env x=pure x):PS X (.Assign [.Name y py] (.ListComp elt [⟨tg,iter,ifs,0⟩] scope pos) bx) (nA (tD X.K Cl (Bn m fi fg p f)) (nZ i)):=by
 intro Z s Y H D I q;obtain⟨G,δ,g0,h0,o⟩:=q;have n:=yf I.ok ho.hk ho.J;rw[exec_Assign_Name_used _ _ _ _ pU];refine A8 (S7 (A8 ?_));show wpAny _ X.A (do let _<-comprehension (.ListComp elt [⟨tg,iter,ifs,0⟩] scope pos) scope X.env _ (newList []) false (eval iter X.env) (some (assign (.Name y py) X.env))) _ _ s;refine A8 (F5 (ZB6 (use:=some (assign (.Name y py) X.env)) (Q:=λ_ s'=>SP X Z D .next s') rfl hs n.jH n.kind n.names (Mu (RR:=λzm C=>compPost (model X.prog X.w) X.A X.xe (some (assign (.Name y py) X.env)) (λ_ s'=>SP X Z D .next s') zm C) uk src ho I g0 h0 (λ_ _ _ _ _ _=>hc) ?_ λDa C s1 G' O vs rs e Io qE fc st h1 h2 h3 rl=>?_)) (λ_ s' hq=>E9 (E9 hq)) λ_ _ e=>e);cases e:Bn m fi fg p f δ with|ok w=>trivial|ex x=>rw[e]at o;exact o|no=>rw[e]at o;exact o
 rw[e]at o;obtain⟨mm,qD⟩:=qE;obtain⟨c0,c1,c2,c3,c4,c5⟩:=fc;show wpAny _ X.A (assign (.Name y py) X.env (.ref Da)) _ _ _;refine wpAny_assign_Name (LY Io hN hy hx (v:=.ref Da) rfl (λs2 I2 ⟨a,sb,ha⟩=>?_) hf);have hCa:C≠a:=by rcases ha with rfl|ha;exact c1;exact λz=>c4 y a ha z.symm
 refine⟨mm,qD.sameBut sb hCa,λh' sb'=>⟨_,O,I2.turned (t':=s2.toks) (λb ob J e=>(sb'.2 b J).trans e) c0 c1 c3 c4 c5,?_⟩⟩;exact o (.ref Da) (λb=>b=Da) G' O st (λa e=>by subst e;exact⟨h1,h3,by rw[h2];simp⟩) (.list h2 rfl rl)
def oN(js:List Nat){elt iter tg:Expr}{ifs:List Expr}{scope:Scope}{N':List Str}{fi:FI}{fg:fW}{p:FT}{f:FE}{m i:Nat}{y:Str}{py bx:Pos}(hc:X.calm=true)(src:jX X.mV jL tg iter fi)(ho:dN X scope N' m tg ifs elt fg p f)(hN:X.N.Nodup) (hy:X.N[i]?=some y:=by rfl) (hx:Loc X.env.scope y:=by trivial) (hf:X.fn y=true\/X.env.scope.names.lookup y=some .local:=by trivial)(pU:swapsWith (.ListComp elt [⟨tg,iter,ifs,0⟩] scope pos) (some (.Name y py)) bx.line X.env=pure true:=by rfl)(hs:∀x,foldedSetIterable iter X.env x=pure x:=by intro _;rfl):SD X EX (.Assign [.Name y py] (.ListComp elt [⟨tg,iter,ifs,0⟩] scope pos) bx) (Ah i js (Bn m fi fg p f)):=PS.imp (PS.mV (aaB (X:=X.mV) (λ_ _ z=>z) hc src ⟨ho.hk,ho.J,ho.hm,ho.zV⟩ hN hy hx hf pU hs)) λD Y H ⟨H0,G0,G,B,H',E,q⟩=>by refine Kg (EX:=Cl) (js:=js) ⟨H0,G0,G,B,H',E,?_⟩;cases e:Ah i js (Bn m fi fg p f) B with|ex x Δ'=>exact(YY (λ_ _ z=>Ke z) e).elim|_=>rw[e]at q;exact q
end
def yz:bootBuiltins "bool"=some (.type "bool"):=by decide +kernel
def lg{k:Nat}{scope:Scope}{cl:List (Str×Addr)}{N':List Str}{C:Addr}{s0:Shared}{H0:Hp}{fp:List Addr}{pn:AE}{c:Bool}(h:aC c k (Cx.A X)):aC c k (Cx.A (mD X scope cl N' C s0 H0 fp pn)):=h
def abN{scope:Scope}{cl:List (Str×Addr)}{N':List Str}{C:Addr}{s0:Shared}{H0:Hp}{fp:List Addr}{pn:AE}(h:Cx.calm X=true):Cx.calm (mD X scope cl N' C s0 H0 fp pn)=true:=h
section
variable{X:Cx}{EX:Be}{a b e:Expr}{es:List Expr}{f g:FE}{fa:FA}{pos p2:Pos}
abbrev FO:=DE->R (Option Int)
def BG(K:Frag)(EX:Be)(fo:FO):TO:=λ Y H Q=>∃G δ,aA G H/\aT K G Y δ/\match fo δ with|.ok i=>∀G' O,Step G H G' O->Q i O|.ex x=>(EX Y).p x G H|.no=>False
abbrev OD(X:Cx)(EX:Be)(e:Option Expr)(fo:FO):Prop:=PO X e (BG X.K EX fo)
def Df:FO:=λ_=>.ok none
def Ea:D->R (Option Int)|.int i=>.ok (some i)|_=>.no
def Cz(f:FE):FO:=λ δ=>(f δ).bind λw=>Ea w.d
def PO.imp{e:Option Expr}{t t':TO}(h:PO X e t)(i:∀Y H Q,t' Y H Q->t Y H Q):PO X e t':=λZ s Y H Q I q=>h Z s Y H Q I (i Y H Q q)
def oM:OD X EX none Df:=PO.imp Zp λ Y H Q ⟨G,δ,g,s,o⟩=>o G H (Step.refl g)
def oK(h:ED X EX e f):OD X EX (some e) (Cz f):=PO.imp (Zo h) λ Y H Q ⟨G,δ,g,s,o⟩=>by
 refine⟨G,δ,g,s,?_⟩;unfold Cz at o;cases S:f δ with
 |ok w=>rw[S]at o;simp only[R.aD]at o;refine WP.intro λv G' O st r=>?_;revert r o;cases w.d with|int i=>intro o r;cases r;exact⟨i,rfl,o G' O st⟩|_=>intro o _;exact False.elim o
 |ex x=>rw[S]at o;exact o|no=>rw[S]at o;exact o
def Ey{α:Type}(xs:List α)(lo hi:Option Int):List α:=(xs.drop (HT.cJ xs.length 0 lo)).take (HT.cJ xs.length xs.length hi-HT.cJ xs.length 0 lo)
def lW:D->Option Int->Option Int->R W|.lst M,lo,hi=>.ok (.ow (.lst (Ey M lo hi)))|.str x,lo,hi=>if x.length<=16777216 then .ok (.sh (.str (Txt.slice x lo hi))) else .no|_,_,_=>.no
def WB:uF X (λx lo hi H Q=>∃z,x=.str z/\z.length<=sizeLine/\Q (.str (Txt.slice z lo hi)) H):=by
 intro Z s Y H x v vl vu lo hi sl Q I rx hs pl pu h;obtain⟨z,rfl,hz,q⟩:=h;obtain⟨t,rfl⟩:=rx;refine⟨"str",_,PySem.F.slot_str_getitem.lookup,typeIs_str _ _ _,?_⟩;obtain⟨o,ho,hc,hd⟩:=hs;have fin:∀t' k,EP X Z Y Q (.str (Txt.slice z lo hi) t') {s with toks:=k}:=λt' k=>⟨.str _,H,I.tok _,⟨_,rfl⟩,q⟩;cases pl with
 |none=>cases pu with|none=>exact T7 (l:=none) (u:=none) (st:=none) ⟨o,ho,hc,hd⟩ rfl (Z1 ⟨D2 (PU z _ _) hz,fin⟩)|int j uj=>exact T7 (l:=none) (u:=some (j,uj)) (st:=none) ⟨o,ho,hc,hd⟩ rfl (Z1 ⟨D2 (PU z _ _) hz,fin⟩)
 |int i ui=>cases pu with|none=>exact T7 (l:=some (i,ui)) (u:=none) (st:=none) ⟨o,ho,hc,hd⟩ rfl (Z1 ⟨D2 (PU z _ _) hz,fin⟩)|int j uj=>exact T7 (l:=some (i,ui)) (u:=some (j,uj)) (st:=none) ⟨o,ho,hc,hd⟩ rfl (Z1 ⟨D2 (PU z _ _) hz,fin⟩)
def Ug(K:Frag):V->Option Int->Option Int->Hp->VK->Prop:=λx lo hi H Q=>∃(EX:iY) (G:Hp) (d:D),aA G H/\aP K G x d/\Out K EX G H (lW d lo hi) Q
def TZ:uF X (Ug X.K):=by
 intro Z s Y H x v vl vu lo hi sl Q I rx hs pl pu h;obtain⟨EX,G,d,g,r,o⟩:=h;cases r with
 |lst h r=>
  rename_i vs M;refine Zm Z s Y H _ v vl vu lo hi sl Q I rx hs pl pu ⟨_,_,rfl,g.seq h,λp hp=>?_⟩;have gm:aB X.K G (lF vs lo hi) (Ey M lo hi):=by unfold lF Ey;rw[r.length];exact(r.drop _).take _
  exact qh o g gm p hp
 |str z=>simp only[lW]at o;split at o;rename_i hz;exact WB Z s Y H _ v vl vu lo hi sl Q I rx hs pl pu ⟨z,rfl,by rw[D9];exact hz,Cw o g (.str _)⟩;exact o.elim|_=>exact False.elim o
def By(f:FE)(lo hi:FO):FE:=λ δ=>(f δ).bind λw=>(lo δ).bind λl=>(hi δ).bind λu=>lW w.d l u
def BG.seq{G H:Hp}{Y:Sg}{δ:DE}{fo:FO}{k:Option Int->R W}{Q:VK}{P:Option Int->Hp->Prop}(g:aA G H)(s:aT K G Y δ)(h:Out K (EX Y) G H ((fo δ).bind k) Q)(i:∀b G' O,fo δ=.ok b->Step G H G' O->Out K (EX Y) G' O (k b) Q->P b O):BG K EX fo Y H P:=by refine⟨G,δ,g,s,?_⟩;cases e:fo δ with|ok w=>rw[e]at h;exact λG' O st=>i w G' O e st (Out.mono st h)|ex x=>rw[e]at h;exact h|no=>rw[e]at h;exact h
def oZ{lo hi:Option Expr}{fl fh:FO}(he:ED X EX e f)(hl:OD X EX lo fl)(hu:OD X EX hi fh):ED X EX (.Subscript e (.Slice lo hi none p2) pos) (By f fl fh):=PE.imp (aaP TZ he hl hu) λ Y H Q ⟨G,δ,g0,s0,o⟩=>tD.seq g0 s0 o λw v G1 H1 _ bH r1 o1=>BG.seq bH.gh (s0.mono bH.gg) o1 λl G2 H2 _ aV o2=>BG.seq aV.gh (s0.mono (bH.gg.trans aV.gg)) o2 λu G3 H3 _ fQ o3=>⟨_,G3,w.d,fQ.gh,r1.mono (aV.gg.trans fQ.gg),o3⟩
def uU(T:String):D->Bool|.str _=>T =="str"|.int _=>T =="int"|.lst _=>T =="list"|_=>false
def Vi{G H:Hp}{T:String}{d:D}(g:aA G H)(r:aP K G v d)(h:uU T d=true):BE K T v H:=by cases r with|str x=>exact eq_of_beq h|int i=>exact eq_of_beq h|lst hq r=>exact .inl ⟨eq_of_beq h,_,g.seq hq⟩|_=>cases h
def rDm(K:Frag)(fn:D->AF):V->List V->Hp->VK->Prop:=λx vs H Q=>∃(EX:iY) (G:Hp) (d:D) (M:List D),aA G H/\aP K G x d/\aB K G vs M/\Out K EX G H (fn d M) Q
abbrev PZ(X:Cx)(id:String)(fn:D->AF):Prop:=vL X id (rDm X.K fn)
def iF(T:String)(fn:D->AF)(f:FE)(fa:FA):FE:=λ δ=>(f δ).bind λw=>if uU T w.d=true then(fa δ).bind λM=>fn w.d M else .no
variable{o:Expr}{name:Str}{zg zf:Pos}{T id:String}{fn:D->AF}
def xJ(pa:PlainAttrs T)(slot:Slot T name id)(CM:typeOf (.builtin id)=pure (.type "method_descriptor"))(hm:PZ X id fn)(ho:ED X EX o f)(ha:AD X EX (e::es) fa)(af:attributeBase o name X.env (eval o X.env)=eval o X.env:=by rfl)(az:((backTo zf (starEach (e::es) X.env)).all (λx=>!x.1)&&(backToKw zf (keywordEach [] X.env)).all (λx=>x.1.isSome)&&decide ((e::es).length+([]:List Keyword).length+(if([]:List Keyword).isEmpty then 0 else 1)<30))=true:=by rfl)(ae:(zg.endLine ==zf.line)=true:=by rfl) (hs:starEach (e::es) X.env=(false,eval e X.env)::starEach es X.env:=by rfl) (aa:(backTo zf (starEach es X.env)).any (·.1)=false:=by rfl):ED X EX (.Call (.Attribute o name zg) (e::es) [] zf) (iF T fn f fa):=PE.imp (rS pa slot CM hm ho ha af az ae hs aa) λ Y H Q ⟨G,δ,g0,s0,o⟩=>tD.seq g0 s0 o λw v G1 H1 _ bH r1 o1=>by split at o1;rename_i ht;exact⟨Vi bH.gh r1 ht,dR.seq bH.gh (s0.mono bH.gg) o1 λM vs G2 H2 _ aV r2 o2=>⟨_,G2,w.d,M,aV.gh,r1.mono aV.gg,r2,o2⟩⟩;exact o1.elim
def zy(T:String)(fn:D->AF)(f:FE):FE:=λ δ=>(f δ).bind λw=>if uU T w.d=true then fn w.d [] else .no
def om:D->List D->R W|.str x,[.str y]=>.ok (.sh (.int (Txt.count x y)))|_,_=>.no
def Ja{G:Hp}{d:D}{vs:List V}{M:List D}(r:aP K G v d)(rl:aB K G vs M){P:Prop}(h:∀x y,v=.str x->d=.str x->vs=[.str y]->M=[.str y]->P)(n:(∀x y,¬(d=.str x/\M=[.str y]))->P):P:=by
 by_cases e:∃x y,d=.str x/\M=[.str y];obtain⟨x,y,rfl,rfl⟩:=e;cases r;cases rl with|cons a t=>cases a;cases t;exact h x y rfl rfl rfl rfl
 exact n λx y z=>e ⟨x,y,z⟩
def abM:PZ X "str.count" om:=by
 intro Z s Y H x vs v us Q I rx rv h;obtain⟨EX,G,d,M,g,r,rl,o⟩:=h;refine Ja r rl (λx y S e2 e3 e4=>?_) λn=>?_;subst S e2 e3 e4;obtain⟨t,rfl⟩:=rx;obtain⟨u,rfl,t',rfl⟩:=rv.one;exact SC.count ⟨.int _,H,I.tok _,⟨_,rfl⟩,Cw o g (.int _)⟩;have e:om d M=.no:=by unfold om;split;rename_i x y;exact absurd ⟨rfl,rfl⟩ (n x y);rfl
 rw[e]at o;exact o.elim
def nX:D->List D->R W|.str x,[.str y]=>.ok (.sh (.int (Txt.find x y)))|_,_=>.no
def aaA:PZ X "str.find" nX:=by
 intro Z s Y H x vs v us Q I rx rv h;obtain⟨EX,G,d,M,g,r,rl,o⟩:=h;refine Ja r rl (λx y S e2 e3 e4=>?_) λn=>?_;subst S e2 e3 e4;obtain⟨t,rfl⟩:=rx;obtain⟨u,rfl,t',rfl⟩:=rv.one;exact SC.find ⟨.int _,H,I.tok _,⟨_,rfl⟩,Cw o g (.int _)⟩;have e:nX d M=.no:=by unfold nX;split;rename_i x y;exact absurd ⟨rfl,rfl⟩ (n x y);rfl
 rw[e]at o;exact o.elim
def lN:List D->Option (List Str)|[]=>some []|.str x::M=>(lN M).map (x:: ·)|_=>none
theorem Kc{G:Hp}:∀{vs:List V}{M:List D}{us:List Value}{ys:List Str},aB K G vs M->Vals vs us->lN M=some ys->StrsAre us ys|_,_,_,_,.nil,r,e=>by cases r;cases e;exact .nil|_,_,_,_,.cons h t,r,e=>by cases r with|cons r1 r2=>cases h with|str x=>obtain⟨t',rfl⟩:=r1;simp only[lN]at e;obtain⟨zs,q,rfl⟩:=F0.mp e;exact .cons x t' (Kc t r2 q)|_=>cases e
def nW:D->List D->R W
 |.str x,[.lst M]=>match lN M with|some ys=>if(ys.map (·.length)).sum+ys.length*x.length<=16777216 then .ok (.sh (.str (Txt.join x ys))) else .no|none=>.no
 |_,_=>.no
def aaz:PZ X "str.join" nW:=by
 intro Z s Y H x vs v us Q I rx rv h;obtain⟨EX,G,d,M,g,r,rl,o⟩:=h;cases r with
 |str x=>cases rl with|nil=>exact False.elim o|cons a t=>cases a with|lst h r=>(cases t with|cons _ _=>exact False.elim o|nil=>obtain⟨t,rfl⟩:=rx;obtain⟨u,rfl,ru⟩:=rv.one;cases ru;simp only[nW]at o;split at o;rename_i ys e;split at o;rename_i hz;obtain⟨its,jm,pl,_⟩:=I.list (g.seq h);exact join_list pl.isList (by simpa using Kc r jm e) hz λt' k=>⟨.str _,H,I.tok _,⟨_,rfl⟩,Cw o g (.str _)⟩;exact o.elim;exact o.elim)|_=>exact False.elim o
 |_=>exact False.elim o
def Dh(T:String):D->Option Bool|.aK=>some false|.bl _=>some (T =="bool"||T =="int")|.int _=>some (T =="int")|.str _=>some (T =="str")|.lst _=>some (T =="list")|.tup _=>some (T =="tuple")|_=>none
def qb(T:String)(f:FE):FE:=λ δ=>(f δ).bind λw=>match Dh T w.d with|some k=>.ok (.sh (.bl k))|none=>.no
structure dD(K:Frag)(T:String):Prop where
 aK:kitOne K (.type "NoneType") (.type T)=some false
 bl:kitOne K (.type "bool") (.type T)=some (T =="bool"||T =="int")
 int:kitOne K (.type "int") (.type T)=some (T =="int")
 str:kitOne K (.type "str") (.type T)=some (T =="str")
 lst:kitOne K (.type "list") (.type T)=some (T =="list")
 tup:kitOne K (.type "tuple") (.type T)=some (T =="tuple")
def Kb{T:String}(k:dD X.K T):bL X (.builtin "isinstance") (λxs H Q=>∃G x d b,xs=[x,.ty T]/\aA G H/\aP X.K G x d/\Dh T d=some b/\Q (.bl b) H):=by intro Z s Y H xs us Q I rv h;obtain⟨G,x,d,b,rfl,g,r,e,q⟩:=h;obtain⟨u,u2,rfl,r1,r2⟩:=rv.two;cases r2;have fin:∀tk,EP X Z Y Q (.bool b) {s with toks:=tk}:=λtk=>⟨.bl b,H,I.tok _,rfl,q⟩;cases r with|aK=>cases r1;exact kia_one kitx_none I.bU True.intro (k.aK.trans e) (λz=>nomatch z) fin|bl y=>cases r1;exact kia_one kitx_bool I.bU True.intro (k.bl.trans e) (λz=>nomatch z) fin|int i=>obtain⟨t,rfl⟩:=r1;exact kia_one kitx_int I.bU True.intro (k.int.trans e) (λz=>nomatch z) fin|str y=>obtain⟨t,rfl⟩:=r1;exact kia_one kitx_str I.bU True.intro (k.str.trans e) (λz=>nomatch z) fin|lst h r=>cases r1;obtain⟨its,_,⟨ob,n,S,c,_,_⟩,_⟩:=I.list (g.seq h);exact kia_one kitx_list I.bU ⟨ob,S,c⟩ (k.lst.trans e) (λz=>nomatch z) fin|tup h r=>cases r1;obtain⟨its,_,⟨ob,S,c,_⟩,_⟩:=I.tuple (aA.tupS g h);exact kia_one kitx_tuple I.bU ⟨ob,S,c⟩ (k.tup.trans e) (λz=>nomatch z) fin|jF _ _=>cases e|jE _ _ _ _ _=>cases e|aF _ _ _=>cases e|obj _ _ _ _=>cases e
def iB{Tn:Str}{T:String}{pp p3:Pos}(k:dD X.K T)(ha:ED X EX a f)(hm:X.mg "isinstance"=none)(QU:X.mg Tn=none)(QN:bootBuiltins Tn=some (.type T))(hg:Gl X "isinstance" :=by rfl)(Rb:Gl X Tn:=by rfl)(hn:Tn≠"__name__" :=by decide) (ng:AG Tn:=by decide)(he:starEach [a,.Name Tn p3] X.env=(false,eval a X.env)::starEach [.Name Tn p3] X.env:=by rfl) (bM:(backTo pos (starEach [.Name Tn p3] X.env)).any (·.1)=false:=by rfl)(hs:starEach [.Name Tn p3] X.env=(false,eval (.Name Tn p3) X.env)::starEach [] X.env:=by rfl):ED X EX (.Call (.Name "isinstance" pp) [a,.Name Tn p3] [] pos) (qb T f):=PE.imp (sS (Kb k) hg hm SK (Hi ha (Hi (Jo (v:=.ty T) Rb QU QN rfl hn ng) jq hs) he) ⋯ ⋯ he bM) λ Y H Q ⟨G,δ,g0,s0,o⟩=>tD.seq g0 s0 o λw v G1 H1 _ bH r1 o1=>by split at o1;rename_i b e;exact⟨G1,v,w.d,b,rfl,bH.gh,r1,e,Cw o1 bH.gh (.bl b)⟩;exact o1.elim
end
def oj(K:Frag):Sp:=λvs H Q _=>∃(a:Addr) (ns:List Int),vs=[.ref a]/\bQ K H a (ns.map V.int)/\ns.length<=63/\∀O,Q (.bl true) O
theorem IZ{G:Hp}:∀ns:List Int,aB K G (ns.map V.int) (ns.map D.int)|[]=>.nil|n::ns=>.cons (.int n) (IZ ns)
def WA{P:Program}{w:World}{k:Nat}{f:Addr}{x:Str}{F:AF}(h:bF P w K mg base true k f fd [x] (Bj K 1 F))(hF:∀ns:List Int,ns.length<=63->∃v,F [.lst (ns.map D.int)]=.ok v/\v.d=.bl true):pz P w K mg base Qg k f fd [x] (oj K):=by
 have hs:∀vs H Q E,oj K vs H Q E->Bj K 1 F vs H Q λ_ _ _=>False:=λvs H Q E q=>by obtain⟨a,ns,rfl,hS,hl,q⟩:=q;obtain⟨v,e,ev⟩:=hF ns hl;refine⟨rfl,H,[.lst (ns.map D.int)],aA.refl _,.cons (.lst hS (IZ ns)) .nil,?_⟩;rw[e];refine WP.intro λu G' O st r=>?_;rw[ev]at r;cases r;exact q O
 refine⟨λvs H Q E q=>(hs vs H Q E q).1,λA outer s H args us vs Q E hr e0 J hv q=>U4 (h.run A outer s H args us vs Q _ (aC.of hr) e0 J hv (hs vs H Q E q)) λr s' hq=>?_⟩;cases r with|error e=>obtain⟨a,C,dx,T,O,_,_,_,_,_,_,_,_,_,_,z⟩:=hq;exact z|ok fl=>cases fl<;>exact hq
def ew_0{l:PySem.W.OpenLaw}{q:Program}{loose:List Str}{XP:(AB)->Heap->Prop}{YP:World->Heap->Prop}{d:DefRec}{K:Params->Frag}{x:Str}{k:Nat}(hn:l.most=some 63)(CV:d.params.defaults=[])(hr:dY k callerA)(hY:∀(w:World) (h:Heap),YP w h->(K w.params).In h) (hT:∀(w:World) (h:Heap),YP w h->∀c P,PySem.W.tabIn (K w.params) "numbers_by_bucket"=some (c,P)->isCodeTable h P/\h.get? P=some {cls:=.none,data:=.fields #[]}/\(K w.params).lookup P=none)(F:∀(w:World) (mg:AB) (fa:Addr) (h:Heap),(K w.params).In h->h.Ns mainGlobals mg->mg d.name=some (.ref fa)->∃fd:FuncData,(∀(s:Shared) (u:Value),BindsTo s fd ⟨[u],[]⟩ [(x,u)])/\∀base:Heap,(K w.params).In base->base.Ns mainGlobals mg->pz l.prog w (K w.params) mg base Qg k fa fd [x] (oj (K w.params))):PySem.W.WalkO q loose XP YP l.row.toRowW d [] (λf vs=>PySem.call f vs):=Zk (n:=63) (k:=k) (x:=x) (CX:=λ_=>Qg) (sp:=λw=>oj (K w.params)) hn ⋯ CV hr hY hT F (λ_ _ a ns hl _ hS=>⟨a,ns,rfl,hS,hl,λ_=>rfl⟩) λ_ _ _ _ _ z=>z
def Inv.pair{Z:AE}{Y:Sg}{s:Shared}{e it:Addr}{h':Heap}{tk:Nat}{its:List Value}{vs:List V}(I:Inv X Z Y H s)(fe:Cm X Z H e)(fi:Cm X Z H it)(k:∀b o,b≠e->b≠it->s.heap.get? b=some o->h'.get? b=some o) (he:∃o,h'.get? e=some o) (hi:∃o,h'.get? it=some o) (ht:h'.get? s.heap.objs.size=some {cls:=.type "tuple",data:=.seq its.toArray}) (rv:Vals vs its) (hz:vs.length<=sizeLine):Inv X Z Y (upd H s.heap.objs.size (.tup vs)) {s with heap:=h',toks:=tk}:=by
 have hn:H s.heap.objs.size=none:=I.aJ.fresh (A9 _);obtain⟨e0,S,e2,e3,e4,e5⟩:=fe;obtain⟨i0,i1,i2,i3,i4,i5⟩:=fi;have qt:∀b u,H b=some u->b≠e/\b≠it:=λb u q=>⟨λz=>(by rw[z,e0]at q;cases q),λz=>(by rw[z,i0]at q;cases q)⟩;have lt:∀b o,s.heap.get? b=some o->b≠s.heap.objs.size:=λb o q=>D6 (B2 q);refine I.step (g':=s.gens) (d':=s.drawn) (ch:=[e,it]) (λb J=>?_) (λb o _ _ hc q _=>k b o (λz=>hc (by simp[z])) (λz=>hc (by simp[z])) q) (λb o _ _ hc q _=>⟨o.slots,k b o (λz=>hc (by simp[z])) (λz=>hc (by simp[z])) q⟩) (λb o _ q n=>by rw[Ax (lt b o q)];exact n) (λb o hc q=>⟨o,k b o (λz=>hc (by simp[z])) (λz=>hc (by simp[z])) q⟩) (λb xs q=>by rw[Ax (Eu q hn)];exact q) (λb o u q=>by rw[Ax (Eu q hn)];exact q) (λb ps q=>⟨#[],by rw[Ax (Eu q hn),q];simp⟩) (λm hm=>?_) (λb u q=>?_) I.bare;have cR:b=e\/b=it:=by simpa using J
 rcases cR with rfl|rfl;exact⟨e3,S,e4,e5⟩;exact⟨i3,i1,i4,i5⟩;obtain⟨o,es,ep,ho,r⟩:=hm;exact⟨o,es,ep,k _ o (Ne.symm S) (Ne.symm i1) ho,r⟩;by_cases z:b=s.heap.objs.size;subst z;rw[Bo]at q;cases q;exact⟨hz,its,rv,⟨_,ht,rfl,0,rfl⟩⟩;rw[Ax z]at q;refine(I.aJ b u q).cU (λc v hc r=>?_) (λc r=>by rw[Ax (Eu r hn)];exact r) (λc xs r=>by rw[Ax (Eu r hn)];exact r) λc o r=>by rw[Ax (Eu r hn)];exact r
 rcases hc with rfl|hc;exact k c v (qt c u q).1 (qt c u q).2 r;exact k c v (qt c _ hc).1 (qt c _ hc).2 r
def Inv.kP{Z:AE}{Y:Sg}{s:Shared}{e it:Addr}{h':Heap}{tk:Nat}(I:Inv X Z Y H s)(fe:Cm X Z H e)(fi:Cm X Z H it)(k:∀b o,b≠e->b≠it->s.heap.get? b=some o->h'.get? b=some o):Inv X Z Y H {s with heap:=h',toks:=tk}:=by
 obtain⟨e0,S,e2,e3,e4,e5⟩:=fe;obtain⟨i0,i1,i2,i3,i4,i5⟩:=fi;have qt:∀b u,H b=some u->b≠e/\b≠it:=λb u q=>⟨λz=>(by rw[z,e0]at q;cases q),λz=>(by rw[z,i0]at q;cases q)⟩;refine I.step (g':=s.gens) (d':=s.drawn) (ch:=[e,it]) (λb J=>?_) (λb o _ _ hc q _=>k b o (λz=>hc (by simp[z])) (λz=>hc (by simp[z])) q) (λb o _ _ hc q _=>⟨o.slots,k b o (λz=>hc (by simp[z])) (λz=>hc (by simp[z])) q⟩) (λb o _ q n=>n) (λb o hc q=>⟨o,k b o (λz=>hc (by simp[z])) (λz=>hc (by simp[z])) q⟩) (λb xs q=>q) (λb o u q=>q) (λb ps q=>⟨#[],by rw[q];simp⟩) (λm hm=>?_) (λb u q=>?_) I.bare;have cR:b=e\/b=it:=by simpa using J
 rcases cR with rfl|rfl;exact⟨e3,S,e4,e5⟩;exact⟨i3,i1,i4,i5⟩;obtain⟨o,es,ep,ho,r⟩:=hm;exact⟨o,es,ep,k _ o (Ne.symm S) (Ne.symm i1) ho,r⟩;refine(I.aJ b u q).cU (λc v hc r=>?_) (λc r=>r) λc xs r=>r;rcases hc with rfl|hc;exact k c v (qt c u q).1 (qt c u q).2 r;exact k c v (qt c _ hc).1 (qt c _ hc).2 r
def Py(K:Frag)(l:Addr):It:=⟨λi H=>∃xs x,bQ K H l xs/\xs[i]?=some x,λi H v O=>∃p,H p=none/\v=.ref p/\∀xs x,bQ K H l xs->xs[i]?=some x->O=upd H p (.tup [.int (i:Int),x]),λi H=>∃xs,bQ K H l xs/\xs.length=i⟩
def Px(z:Str):It:=⟨λi _=>i<z.cps.size,λi H v O=>∃p c,H p=none/\v=.ref p/\z.cps[i]?=some c/\O=upd H p (.tup [.int (i:Int),.str ⟨#[c]⟩]),λi _=>i=z.cps.size⟩
def aay{P:Program}{w:World}{elts:List Expr}{x1:Nat}(e it l:Addr)(qG:e≠it):Turn P w K (.Tuple elts x1 pos) (Py K l) [e,it] e (λi h=>(∃old,IsEnum h e it (i:Int) old)/\h.IsListIter it l i) where
 mem:=by simp
 obj:=λi h st b J=>by
  have cR:b=e\/b=it:=by simpa using J
  rcases cR with rfl|rfl;obtain⟨⟨old,q⟩,_⟩:=st;exact⟨_,q,λv z=>by cases z⟩;obtain⟨_,⟨o,q,c,d⟩⟩:=st;exact⟨o,q,λv z=>by rw[d]at z;cases z⟩
 keep:=λi h h' st k=>by obtain⟨⟨old,q⟩,r⟩:=st;exact⟨⟨old,k e (by simp) _ q⟩,r.at λo z=>k it (by simp) o z⟩
 item:=by
  intro X hP hw hK hc i Z s Y H E I hf st hg;subst hP hw hK;obtain⟨xs,x,hq,hx⟩:=hg;obtain⟨its,rv,p,hz⟩:=I.list hq;obtain⟨u,hu,ru⟩:=rv.get hx;obtain⟨⟨old,he⟩,hit⟩:=st;have fe:=hf e (by simp);have fi:=hf it (by simp);have pl:=p.isList;have nle:l≠e:=λz=>by subst z;obtain⟨o,ho,la,_⟩:=pl;rw[show s.heap.get? l=_ from he]at ho;cases ho;exact absurd la (by simp)
  have QA:l≠it:=λz=>by subst z;obtain⟨o,ho,la,_⟩:=pl;obtain⟨o',gE,qI,_⟩:=hit;rw[ho]at gE;cases gE;rw[la]at qI;exact absurd qI (by simp)
  have cK:i<its.toArray.size:=by have:=(A7.mp hu).1;simpa using this
  refine ZC6 (Draws.list (A:=X.A.in1) (I.ok.hd hc) it l QA its.toArray) he ⟨hit,pl⟩ cK qG (by simp[qG,Ne.symm nle]) λy h' tk hy ho dA df hsz kk=>?_;have ey:y=u:=by have:its.toArray[i]?=some u:=(by simpa using hu);rw[this]at hy;exact(L9 hy).symm
  subst ey;refine⟨_,rfl,ZA3 ho λRr bw sb=>?_⟩;have bh:∃old,IsEnum Rr e it ((i+1:Nat):Int) old:=⟨_,by have S:((i+1:Nat):Int)=(i:Int)+1:=(by lia);rw[S];exact bw⟩;refine⟨.ref s.heap.objs.size,upd H s.heap.objs.size (.tup [.int (i:Int),x]),?_,rfl,⟨_,I.aJ.fresh (A9 _),rfl,λys y' QK ey'=>?_⟩,⟨bh,?_⟩,λb J=>?_⟩;have ne:s.heap.objs.size≠e:=λz=>absurd (B2 he) (by rw[<-z];exact F3 _);refine Inv.pair (its:=[.int (i:Int) tk,y]) I fe fi (λb o h1 h2 q=>(sb.2 b h1).trans (kk b o h1 h2 q)) ⟨_,bw⟩ ?_ ((sb.2 _ ne).trans df) (.cons ⟨_,rfl⟩ (.cons ru .nil)) (by show 2<=sizeLine;decide);obtain⟨⟨o,q,_⟩,_⟩:=dA;exact⟨o,(sb.2 it (Ne.symm qG)).trans q⟩;have:=I.iI QK hq;subst this;rw[hx]at ey';cases ey';rfl;exact dA.1.at λo z=>(sb.2 it (Ne.symm qG)).trans z;have cR:b=e\/b=it:=by simpa using J
  have qJ:b<s.heap.objs.size:=by rcases cR with rfl|rfl;exact B2 he;obtain⟨o,q,_⟩:=hit;exact B2 q
  rw[Ax (D6 qJ)];exact(hf b J).1
 done:=by
  intro X hP hw hK hc i Z s Y H E I hf st hg;subst hP hw hK;obtain⟨xs,hq,hx⟩:=hg;obtain⟨its,rv,p,hz⟩:=I.list hq;obtain⟨⟨old,he⟩,hit⟩:=st;have hl:=rv.length;have pl:=p.isList;have QA:l≠it:=λz=>by subst z;obtain⟨o,ho,la,_⟩:=pl;obtain⟨o',gE,qI,_⟩:=hit;rw[ho]at gE;cases gE;rw[la]at qI;exact absurd qI (by simp)
  have en:i=its.toArray.size:=by simp;lia
  refine ZD9 (Draws.list (A:=X.A.in1) (I.ok.hd hc) it l QA its.toArray) he (by rw[<-en];exact⟨hit,pl⟩) λh' eb=>⟨rfl,?_⟩;exact Inv.kP (tk:=s.toks) I (hf e (by simp)) (hf it (by simp)) λb o h1 h2 q=>eb b o h2 q
 self:=λA i s Q E st h=>by obtain⟨⟨old,he⟩,_⟩:=st;exact X0 he h
def LH{prog:Program}{w:World}{A:Around}(hh:A.handled=none)(it:Addr)(x:Str)(t:Tok):Draws prog w A it [it] x.cps.size (λi v=>∃c u,x.cps[i]?=some c/\v=.str ⟨#[c]⟩ u) (λi h=>h.IsStrIter it (strIterType x) x t i):=by unfold strIterType;cases ha:x.cps.all (· <128);exact Draws.strWide hh it x t;exact Draws.strAscii hh it x t
def aax{P:Program}{w:World}{elts:List Expr}{x1:Nat}(e it:Addr)(z:Str)(t:Tok)(qG:e≠it):Turn P w K (.Tuple elts x1 pos) (Px z) [e,it] e (λi h=>(∃old,IsEnum h e it (i:Int) old)/\h.IsStrIter it (strIterType z) z t i) where
 mem:=by simp
 obj:=λi h st b J=>by
  have cR:b=e\/b=it:=by simpa using J
  rcases cR with rfl|rfl;obtain⟨⟨old,q⟩,_⟩:=st;exact⟨_,q,λv z=>by cases z⟩;obtain⟨_,⟨o,q,c,d⟩⟩:=st;exact⟨o,q,λv z=>by rw[d]at z;cases z⟩
 keep:=λi h h' st k=>by obtain⟨⟨old,q⟩,⟨o,r,c⟩⟩:=st;exact⟨⟨old,k e (by simp) _ q⟩,⟨o,k it (by simp) o r,c⟩⟩
 item:=by
  intro X hP hw hK hc i Z s Y H E I hf st hg;subst hP hw hK;obtain⟨⟨old,he⟩,hit⟩:=st;have fe:=hf e (by simp);have fi:=hf it (by simp);refine ZC6 (LH (A:=X.A.in1) (I.ok.hd hc) it z t) he hit hg qG (by simp[qG]) λy h' tk hy ho dA df hsz kk=>?_;obtain⟨c,uc,hcx,rfl⟩:=hy;refine⟨_,rfl,ZA3 ho λRr bw sb=>?_⟩;have bh:∃old,IsEnum Rr e it ((i+1:Nat):Int) old:=⟨_,by have S:((i+1:Nat):Int)=(i:Int)+1:=(by lia);rw[S];exact bw⟩;refine⟨.ref s.heap.objs.size,upd H s.heap.objs.size (.tup [.int (i:Int),.str ⟨#[c]⟩]),?_,rfl,⟨_,c,I.aJ.fresh (A9 _),rfl,hcx,rfl⟩,⟨bh,?_⟩,λb J=>?_⟩;have ne:s.heap.objs.size≠e:=λz=>absurd (B2 he) (by rw[<-z];exact F3 _);refine Inv.pair (its:=[.int (i:Int) tk,.str ⟨#[c]⟩ uc]) I fe fi (λb o h1 h2 q=>(sb.2 b h1).trans (kk b o h1 h2 q)) ⟨_,bw⟩ ?_ ((sb.2 _ ne).trans df) (.cons ⟨_,rfl⟩ (.cons ⟨_,rfl⟩ .nil)) (by show 2<=sizeLine;decide);obtain⟨o,q,_⟩:=dA;exact⟨o,(sb.2 it (Ne.symm qG)).trans q⟩;obtain⟨o,q,r⟩:=dA;exact⟨o,(sb.2 it (Ne.symm qG)).trans q,r⟩;have cR:b=e\/b=it:=by simpa using J
  have qJ:b<s.heap.objs.size:=by rcases cR with rfl|rfl;exact B2 he;obtain⟨o,q,_⟩:=hit;exact B2 q
  rw[Ax (D6 qJ)];exact(hf b J).1
 done:=by intro X hP hw hK hc i Z s Y H E I hf st hg;subst hP hw hK;obtain⟨⟨old,he⟩,hit⟩:=st;have en:i=z.cps.size:=hg;refine ZD9 (LH (A:=X.A.in1) (I.ok.hd hc) it z t) he (by rw[<-en];exact hit) λh' eb=>⟨rfl,?_⟩;exact Inv.kP (tk:=s.toks) I (hf e (by simp)) (hf it (by simp)) λb o h1 h2 q=>eb b o h2 q
 self:=λA i s Q E st h=>by obtain⟨⟨old,he⟩,_⟩:=st;exact X0 he h
def Dx(k:Nat):List D->List D|[]=>[]|d::M=>.tup [.int (k:Int),d]::Dx (k+1) M
theorem vf:∀{M:List D}{k i:Nat}{d:D},(Dx k M)[i]?=some d->∃d',M[i]?=some d'/\d=.tup [.int ((k+i:Nat):Int),d']|[],_,_,_,h=>by simp[Dx]at h|x::M,k,0,d,h=>by simp[Dx]at h;exact⟨x,rfl,h.symm⟩|x::M,k,i+1,d,h=>by obtain⟨d',S,e2⟩:=vf (M:=M) (k:=k+1) (i:=i) (by simpa[Dx] using h);exact⟨d',by simpa using S,by rw[e2,show k+1+i=k+(i+1) by lia]⟩
theorem yy:∀(M:List D) (k:Nat),(Dx k M).length=M.length|[],_=>rfl|_::M,k=>by simp[Dx,yy M (k+1)]
def wL:D->R (List D)|.lst M=>.ok (Dx 0 M)|.str x=>.ok (Dx 0 (Eo x))|_=>.no
def fC(f:FE):FI:=λ δ=>(f δ).bind λw=>wL w.d
section
variable{X:Cx}{EX:Be}{a:Expr}{f:FE}{elts:List Expr}{x1:Nat}{tp p pos:Pos}
def iEn(K:Frag)(t:TA):TI:=λ Y H Q=>t Y H λvs H1=>(∃l,vs=[.ref l]/\(∃xs,bQ K H1 l xs)/\Q (Py K l) H1)\/(∃z,vs=[.str z]/\Q (Px z) H1)
def YX{ta:TA}(hg:Gl X "enumerate")(hm:X.mg "enumerate"=none)(ha:PA X [a] ta)(hs:starEach [a] X.env=[(false,eval a X.env)]:=by rfl):PI X (.Tuple elts x1 tp) (.Call (.Name "enumerate" p) [a] [] pos) (iEn X.K ta):=by
 intro Z s Y H Q I h;refine Call_ (mR I hg hm PyProof.Rows.boot_enumerate (L4 (Bb (ha pos Z s Y H _ I h) λus s1 ⟨vs,H1,I1,r1,q1⟩=>?_) hs rfl));rcases q1 with⟨l,rfl,⟨xs,hq⟩,q⟩|⟨z,rfl,q⟩;obtain⟨u,rfl,ru⟩:=r1.one;cases ru;obtain⟨its,rv,pl,hz⟩:=I1.list hq;refine call_enumerate_list pl.isList λh' he hit hsz kk=>X0 he ?_;refine⟨s1.heap.objs.size+1,[s1.heap.objs.size+1,s1.heap.objs.size],_,Py X.K l,H1,rfl,I1.kept (t':=s1.toks) kk,aay _ _ l (Nat.succ_ne_self _),⟨⟨_,he⟩,hit⟩,λb J=>?_,q⟩;have cR:b=s1.heap.objs.size+1\/b=s1.heap.objs.size:=by simpa using J
 have qJ:s1.heap.objs.size<=b:=by rcases cR with rfl|rfl;exact P4 _;exact A9 _
 exact I1.gP qJ (I1.aJ.fresh qJ);obtain⟨u,rfl,t,rfl⟩:=r1.one;refine call_enumerate_str λh' he hit hsz kk=>X0 he ?_;refine⟨s1.heap.objs.size+1,[s1.heap.objs.size+1,s1.heap.objs.size],_,Px z,H1,rfl,I1.kept (t':=s1.toks) kk,aax _ _ z t (Nat.succ_ne_self _),⟨⟨_,he⟩,hit⟩,λb J=>?_,q⟩;have cR:b=s1.heap.objs.size+1\/b=s1.heap.objs.size:=by simpa using J
 have qJ:s1.heap.objs.size<=b:=by rcases cR with rfl|rfl;exact P4 _;exact A9 _
 exact I1.gP qJ (I1.aJ.fresh qJ)
def YW{G:Hp}{l:Addr}{vs:List V}{M:List D}(h:bQ K G l vs)(r:aB K G vs M):kJ K G (Py K l) (Dx 0 M):=λG' H g1 g i=>by refine⟨λd e=>?_,λe=>?_⟩;obtain⟨d',S,rfl⟩:=vf e;obtain⟨v,e2,hv⟩:=r.get S;refine⟨⟨vs,v,(g1.trans g).seq h,e2⟩,λx O y=>?_⟩;obtain⟨p,hp,rfl,y⟩:=y;have:=y vs v ((g1.trans g).seq h) e2;subst this;refine⟨_,Step.new g hp _,.tup (cQ.of Bo) (.cons (by rw[O9];exact .int _) (.cons (hv.mono (g1.trans (iV (g.free hp) _))) .nil))⟩;rw[yy]at e;exact⟨vs,(g1.trans g).seq h,by rw[r.length];exact e⟩
def YV{G:Hp}(z:Str):kJ K G (Px z) (Dx 0 (Eo z)):=λG' H g1 g i=>by
 refine⟨λd e=>?_,λe=>?_⟩;obtain⟨d',S,rfl⟩:=vf e;unfold Eo at S;rw[B3]at S;cases q:z.cps.toList[i]? with
 |none=>rw[q]at S;cases S|some c=>
  rw[q]at S;cases S;have hi:i<z.cps.size:=by have:=(A7.mp q).1;simpa using this
  refine⟨hi,λx O y=>?_⟩;obtain⟨p,c',hp,rfl,hc,rfl⟩:=y;have:z.cps.toList[i]?=some c':=by simpa using hc
  rw[q]at this;cases this;refine⟨_,Step.new g hp _,.tup (cQ.of Bo) (.cons (by rw[O9];exact .int _) (.cons (.str _) .nil))⟩
 rw[yy]at e;unfold Eo at e;rw[A4]at e;show i=z.cps.size;simp at e;lia
def sD(hm:X.mg "enumerate"=none)(he:ED X EX a f)(hg:Gl X "enumerate" :=by rfl)(hs:starEach [a] X.env=[(false,eval a X.env)]:=by rfl)(jv:starEach [a] X.env=(false,eval a X.env)::starEach [] X.env:=by rfl):ID X EX (.Tuple elts x1 tp) (.Call (.Name "enumerate" p) [a] [] pos) (fC f):=PI.imp (YX hg hm (Hi he jq jv) hs) λ Y H Q ⟨G,δ,g0,s0,o⟩=>by refine⟨G,δ,g0,s0,?_⟩;unfold fC at o;cases S:f δ with|ok w=>rw[S]at o;simp only[R.aD]at o;refine WP.intro λv G' O st r=>?_;revert r o;(cases w.d with|lst M=>intro o r;(cases r with|lst h r=>exact .inl ⟨_,rfl,⟨_,st.gh.seq h⟩,o _ G' O st (YW h r)⟩)|str z=>intro o r;cases r;exact .inr ⟨z,rfl,o _ G' O st (YV z)⟩|_=>intro o _;exact False.elim o)|ex x=>rw[S]at o;exact o|no=>rw[S]at o;exact o
end
def C3(i j c:Int):Prop:=0<=i/\i.natAbs<1073741824/\j.natAbs<1073741824/\0<c/\c.natAbs<1073741824
instance (i j c:Int):Decidable (C3 i j c):=by unfold C3;exact inferInstance
section
variable{X:Cx}{EX:Be}{tg a b c:Expr}{fa:FA}{ta:TA}{p pos:Pos}
end
section
variable{X:Cx}{EX:Be}{a:Expr}{f:FE}{pos:Pos}
def FD:D->R W|.int i=>.ok (.sh (.int (-i)))|_=>.no
def vY(f:FE):FE:=λ δ=>(f δ).bind λw=>FD w.d
def Wz(ha:ED X EX a f):ED X EX (.UnaryOp .USub a pos) (vY f):=PE.imp (VA WW ha) λ Y H Q ⟨G,δ,g0,s0,o⟩=>tD.seq g0 s0 o λw v G1 H1 _ bH r1 o1=>by revert r1 o1;cases w.d with|int i=>intro r1 o1;cases r1;exact⟨i,rfl,Cw o1 bH.gh (.int _)⟩|_=>intro _ o1;exact False.elim o1
def lV:List D->Option (List Bool)|[]=>some []|.bl b::M=>(lV M).map (b:: ·)|_=>none
def oU:List D->R W
 |[.lst M]=>match lV M with|some bs=>.ok (.sh (.bl (bs.all id)))|none=>.no
 |_=>.no
theorem Ka{G:Hp}:∀{vs:List V}{M:List D}{us:List Value}{bs:List Bool},aB K G vs M->Vals vs us->lV M=some bs->us=bs.map Value.bool|_,_,_,_,.nil,r,e=>by cases r;cases e;rfl|_,_,_,_,.cons h t,r,e=>by cases r with|cons r1 r2=>cases h with|bl x=>cases r1;simp only[lV]at e;obtain⟨zs,q,rfl⟩:=F0.mp e;rw[B6,Ka t r2 q]|_=>cases e
def abL(bs:List Bool):(List.range bs.length).all (λi=>bs.getD i true)=bs.all id:=by rw[U6,F9,F9];constructor;intro h b J;obtain⟨i,hi,e⟩:=W2 J;have:=h i (J9.mpr hi);simp[hi]at this;rw[<-e];exact this;intro h i hi;have hi:=J9.mp hi;simp[hi];exact h _ (V9 hi)
def abK(hc:X.calm=true):ki X (.builtin "all") oU:=by intro Z s Y H vs us Q I rv q;obtain⟨EX,G,M,g,r,o⟩:=q;cases r with|nil=>exact False.elim o|cons h t=>cases h with|lst h r=>(cases t with|cons _ _=>exact False.elim o|nil=>rename_i l _ _;simp only[oU]at o;split at o;rename_i bs e;obtain⟨u,rfl,ru⟩:=rv.one;cases ru;obtain⟨its,jm,pl,hz⟩:=I.list (g.seq h);have eb:=Ka r jm e;subst eb;have nl:l≠s.heap.objs.size:=λz=>(by obtain⟨o',ho,_⟩:=pl.isList;exact absurd (B2 ho) (by rw[<-z];exact F3 _));refine call_all_walk (SU pl.isList ⟨s.heap.objs.size,_,_,_,_,_,λi=>bs.getD i true,rfl,Walks.list (A:=X.A.in1) (I.ok.hd hc) s.heap.objs.size l nl (bs.map Value.bool).toArray,⟨⟨_,D0 _ rfl,rfl,rfl⟩,?_⟩,λi v s' Q' E' hP hQ=>?_,λh' tk kk=>?_⟩);exact pl.isList.at λo z=>A5 _ z;have DB:(bs.map Value.bool)[i]?=some v:=(by simpa using hP);rw[B3]at DB;(cases q:bs[i]? with|none=>rw[q]at DB;cases DB|some b=>rw[q]at DB;cases DB;have:bs.getD i true=b:=(by simp[List.getD,q]);dsimp only at hQ;rw[this]at hQ;exact R9 hQ);have en:(bs.map Value.bool).toArray.size=bs.length:=(by simp);rw[en,abL];refine⟨.bl _,H,I.kept (t':=tk) λb o' z=>kk b o' (by have J:b≠s.heap.objs.size:=D6 (B2 z);simpa using J) (A5 _ z),rfl,Cw o g (.bl _)⟩;exact o.elim)|_=>exact False.elim o
end
section
variable{prog:Program}{w:World}{A:Around}{E:AA}{s:Shared}
def afy{env:Env}{elts:List Expr}{x1}{t:Addr}{items:Array Value}{Q:Unit->Shared->Prop}(hh:A.handled=none)(ht:s.heap.IsList t items)(hn:(assignEach elts env).length=items.size) (eg:(assignEach elts env).findIdx? (·.1)=none)(h:∀h',Heap.ExtBut s.heap.objs.size s.heap h'->wpAny (model prog w) A (assignInOrder ((assignEach elts env).map (·.2)) items.toList) Q E {s with heap:=h'}):wpAny (model prog w) A (assign (.Tuple elts x1 pos) env (.ref t)) Q E s:=by rw[assign_Tuple,unpack,hn,eg];exact A8 (S7 (A8 (S6 (kun_itemsOf hh ht h))))
end
section
variable{X:Cx}{EX:Be}{pos:Pos}
def Ux(K:Frag)(n:Nat)(t:qQ):TG:=λv Y H Q=>∃a xs,v=.ref a/\(cQ K H a xs\/bQ K H a xs)/\xs.length=n/\t xs Y H Q
def Wy{es:List Expr}{k:Nat}{t:qQ}{n:Nat}(hc:X.calm=true)(h:EO X es t)(hn:(assignEach es X.env).length=n:=by rfl) (dA:(assignEach es X.env).findIdx? (·.1)=none:=by rfl):PG X (.Tuple es k pos) (Ux X.K n t):=by intro Z s Y H v u Q I r hw;obtain⟨a,xs,S,hq,hl,hw⟩:=hw;rcases hq with hq|hq;exact HU hc h hn dA Z s Y H v u Q I r ⟨a,xs,S,hq,hl,hw⟩;subst S;cases r;obtain⟨its,rv,ht,hz⟩:=I.list hq;refine afy (I.ok.hd hc) ht.isList (by simp[hn,<-hl,rv.length]) dA λh' hx=>?_;have I1:Inv X Z Y H {s with heap:=h'}:=I.kept (t':=s.toks) λb o e=>hx b o (D6 (B2 e)) e;exact h Z _ Y H xs _ Q I1 (by simpa using rv) hw
def aT.skip{G:Hp}{Y:Sg}{δ:DE}{i:Nat}(h:aT K G Y δ)(e:δ[i]?=some none):aT K G (Y.set i (some v)) δ:=by refine⟨by rw[F7];exact h.len,λj d' e'=>?_⟩;obtain⟨v',S,r'⟩:=h.get j d' e';refine⟨v',?_,r'⟩;rw[D4];exact S;rintro rfl;rw[e]at e';cases e'
def Ru(i j:Nat):fW:=λd δ=>match d with|.tup [a,b]=>(gC i a δ).bind λ δ1=>gC j b δ1|.lst [a,b]=>(gC i a δ).bind λ δ1=>gC j b δ1|_=>.no
def JZ(i:Nat)(d:D)(δ:DE):(δ[i]?=some none/\gC i d δ=.ok (δ.set i (some d)))\/gC i d δ=.no:=by unfold gC;cases e:δ[i]? with|none=>exact .inr rfl|some o=>cases o with|some _=>exact .inr rfl|none=>exact .inl ⟨rfl,rfl⟩
def aaw{δ:DE}{i j:Nat}{d:D}(h:(δ.set i (some d))[j]?=some none):δ[j]?=some none:=by rcases Gs h with⟨_,q⟩|⟨_,q⟩;cases q;exact q
def FY{G:Hp}{Y:Sg}{δ:DE}{i j:Nat}{v1 v2:V}{a b:D}{Q:Sg->Hp->Prop}(s:aT K G Y δ)(r1:aP K G v1 a)(r2:aP K G v2 b)(q:match(gC i a δ).bind λ δ1=>gC j b δ1 with|.ok δ'=>∀σ',aT K G σ' δ'->aT K G σ' δ->Q σ' H|.ex x=>(EX Y).p x G H|.no=>False):Q ((Y.set i (some v1)).set j (some v2)) H:=by rcases JZ i a δ with⟨n1,S⟩|S;rw[S]at q;simp only[R.aD]at q;rcases JZ j b (δ.set i (some a))with⟨n2,e2⟩|e2;rw[e2]at q;exact q _ ((s.put r1 i).put r2 j) ((s.skip n1).skip (aaw n2));rw[e2]at q;exact q.elim;rw[S]at q;exact q.elim
def Wx{i j k:Nat}{x y:Str}{p1 p2:Pos}(hc:X.calm=true)(hN:X.N.Nodup)(hi:X.N[i]?=some x:=by rfl)(hj:X.N[j]?=some y:=by rfl)(hx:Loc X.env.scope x:=by trivial)(hy:Loc X.env.scope y:=by trivial)(hf:X.fn x=true\/X.env.scope.names.lookup x=some .local:=by trivial) (Rf:X.fn y=true\/X.env.scope.names.lookup y=some .local:=by trivial)(hn:(assignEach [.Name x p1,.Name y p2] X.env).length=2:=by rfl) (dA:(assignEach [.Name x p1,.Name y p2] X.env).findIdx? (·.1)=none:=by rfl)(hs:(assignEach [.Name x p1,.Name y p2] X.env).map (·.2)=assign (.Name x p1) X.env::(assignEach [.Name y p2] X.env).map (·.2):=by rfl) (dO:(assignEach [.Name y p2] X.env).map (·.2)=assign (.Name y p2) X.env::(assignEach [] X.env).map (·.2):=by rfl):GC X EX (.Tuple [.Name x p1,.Name y p2] k pos) (Ru i j):=PG.imp (Wy hc (sT (mi hN hi hx hf) (sT (mi hN hj hy Rf) Jn dO) hs) hn dA) λv Y H Q ⟨G,δ,d,g,s,r,q⟩=>by cases r with|tup h r=>(cases r with|nil=>exact False.elim q|cons r1 r=>cases r with|nil=>exact False.elim q|cons r2 r=>cases r with|nil=>exact⟨_,_,rfl,.inl (aA.tupS g h),rfl,_,_,rfl,_,_,rfl,rfl,FY s r1 r2 q⟩|cons _ _=>exact False.elim q)|lst h r=>(cases r with|nil=>exact False.elim q|cons r1 r=>cases r with|nil=>exact False.elim q|cons r2 r=>cases r with|nil=>exact⟨_,_,rfl,.inr (g.seq h),rfl,_,_,rfl,_,_,rfl,rfl,FY s r1 r2 q⟩|cons _ _=>exact False.elim q)|_=>exact False.elim q
end
section
variable{X:Cx}{EX:Be}
def nD:D->Bool|.aK=>true|_=>false
def nE(neg:Bool):D->D->R W|d,.aK=>.ok (.sh (.bl (if neg then !nD d else nD d)))|_,_=>.no
def Ww{G:Hp}{d:D}(r:aP K G v d):decide (v=.aK)=nD d:=by cases r<;>rfl
def IY:Fo X (compareOp .Is) (nE false):=by intro Z s Y H x y v u Q I rx ry q;obtain⟨EX,G,a,b,g,ra,rb,o⟩:=q;cases rb with|aK=>exact WV Z s Y H _ _ _ _ Q I rx ry ⟨rfl,by rw[Ww ra];exact Cw o g (.bl _)⟩|_=>exact False.elim o
def hG(i:Nat)(fi fe:FE):FS:=λ B=>match B[i]? with|some (.ow (.lst M))=>(match fe (At B)with|.ok w=>if Av w.d=true then(match fi (At B)with|.ok z=>(match z.d with|.int k=>(match iS M.length k with|some j=>.nx (B.set i (.ow (.lst (M.set j w.d))))|none=>.no)|_=>.no)|_=>.no) else .no|_=>.no)|_=>.no
def xI{i:Nat}{x:Str}{e ie:Expr}{fe fi:FE}{p1 zh pos:Pos}(he:ED X EX e fe)(hi:ED X EX ie fi)(hN:X.N[i]?=some x:=by rfl)(hv:Ff X.env.scope x:=by trivial)(hd:AG x:=by decide)(bI:(x ==("__classdict__" :Str))=false:=by decide)(ha:∀v,assign (.Subscript (.Name x p1) ie zh) X.env v=(do
   let ov<-holding [v] (eval (.Name x p1) X.env)
   let iv<-holding [v,ov] (eval ie X.env)
   standAt zh
   holding [v,ov,iv] (setItem ov iv v)
   release [v,ov,iv] []):=by intro _;rfl)
  (hs:swapsWithSole [.Subscript (.Name x p1) ie zh] e pos.line X.env=pure false:=by rfl) (hw:swappedStores [.Subscript (.Name x p1) ie zh] e X.env=pure none:=by rfl)
  (h1:(assignEach [.Subscript (.Name x p1) ie zh] X.env).map (·.2)=[assign (.Subscript (.Name x p1) ie zh) X.env]:=by rfl):
  SD X EX (.Assign [.Subscript (.Name x p1) ie zh] e pos) (hG i fi fe):=
 PS.imp (HR he (HS (Fp hN hv hd bI) hi Kq ha) hs hw h1) λD Y H ⟨H0,G0,G,B,H',E,q⟩=>by
  unfold hG at q
  split at q
  rename_i M S;obtain⟨v0,s1,t⟩:=E.ow i _ _ S rfl;obtain⟨a,vs,rfl,m,hH,rl⟩:=t.bY
  skip
  refine⟨Fa G H H',At B,E.aH,E.bZ,?_⟩;cases e2:fe (At B)with
  |ex x=>rw[e2]at q;exact q.elim
  |no=>rw[e2]at q;exact q.elim
  |ok w=>
   simp only[e2]at q
   split at q
   rename_i fl;refine WP.intro λv G' O st r=>?_;have E1:=E.keep st.hh;refine⟨.ref a,s1,Fa G O H',At B,E1.aH,E1.bZ,?_⟩;cases e3:fi (At B)with
   |ex x=>simp only[e3]at q;exact q.elim
   |no=>simp only[e3]at q;exact q.elim
   |ok z=>
    simp only[e3]at q;refine WP.intro λv2 G2 H2 aV r2=>?_;revert q r2;cases z.d with
    |int k=>
     intro q r2;cases r2;cases e4:iS M.length k with
     |none=>simp only[e4]at q;exact q.elim
     |some j=>
      simp only[e4]at q;have DC:H2 a=some (.lst vs):=aV.hh _ _ (st.hh _ _ hH);refine⟨a,vs,k,j,rfl,rfl,DC,by rw[rl.length];exact e4,?_⟩;exact q Y G _ _ ((E1.keep aV.hh).dJ s1 m (aB.set (r.jB fl) j rl)) (aA.refl _)
    |_=>intro q _;exact False.elim q
   exact q.elim
  exact q.elim
end
def Qc(K:Frag)(a:Addr)(xs:List V):It:=⟨λi H=>bQ K H a xs/\i<xs.length,λi H x O=>O=H/\xs[xs.length-1-i]?=some x,λi _=>i=xs.length⟩
def aav{P:Program}{w:World}{tg:Expr}(a it:Addr)(xs:List V):Turn P w K tg (Qc K a xs) [it] it (λi h=>h.IsRevIter it a ((xs.length:Int)-1-(i:Int))) where
 mem:=by simp
 obj:=λi h st b J=>by
  have e:b=it:=by simpa using J
  subst e;obtain⟨o,e,c,d⟩:=st;exact⟨o,e,λv z=>by rw[d]at z;cases z⟩
 keep:=λi h h' st k=>st.at λo e=>k it (by simp) o e
 item:=by
  intro X hP hw hK hc i Z s Y H E I hf st hg;subst hP hw hK;obtain⟨hq,cK⟩:=hg;obtain⟨its,rv,p,hz⟩:=I.list hq;obtain⟨f0,f1,f2,f3,f4,f5⟩:=hf it (by simp);have e:(xs.length:Int)-1-(i:Int)=((xs.length-1-i:Nat):Int):=by lia
  rw[e]at st;obtain⟨x,hx⟩:∃x,xs[xs.length-1-i]?=some x:=⟨_,B1 ()⟩;obtain⟨u,hu,ru⟩:=rv.get hx;refine wpAny_pyNext_rev_item st p.isList (x:=u) (by simpa using hu) λh' bJ sb=>?_;have I1:Inv X Z Y H {s with heap:=h'}:=I.turned (t':=s.toks) (λb o J e=>(sb.2 b J).trans e) f0 f1 f3 f4 f5;have e2:((xs.length-1-i:Nat):Int)-1=(xs.length:Int)-1-((i+1:Nat):Int):=by lia
  rw[e2]at bJ;obtain⟨o,e,c,d⟩:=id bJ;exact⟨u,rfl,nY (s:={s with heap:=h'}) e c d ⋯ ⟨x,H,I1,ru,⟨rfl,hx⟩,bJ,λb J=>(hf b J).1⟩⟩
 done:=by
  intro X hP hw hK hc i Z s Y H E I hf st hg;subst hP hw hK;have hg:i=xs.length:=hg;subst hg;obtain⟨f0,f1,f2,f3,f4,f5⟩:=hf it (by simp);have e:(xs.length:Int)-1-(xs.length:Int)= -1:=by lia
  rw[e]at st;exact wpAny_pyNext_rev_end (I.ok.hd hc) st λh' eb=>⟨rfl,I.turned (t':=s.toks) (λb o J e=>eb b o J e) f0 f1 f3 f4 f5⟩
 self:=λ_ _ _ _ _ st h=>wpAny_pyIter_revIter st h
def Vh:D->R (List D)|.lst M=>.ok M.reverse|_=>.no
def Hr(f:FE):FI:=λ δ=>(f δ).bind λw=>Vh w.d
def YU{G:Hp}{l:Addr}{vs:List V}{M:List D}(h:bQ K G l vs)(r:aB K G vs M):kJ K G (Qc K l vs) M.reverse:=λG' H g1 g i=>by
 have hl:=r.length;refine⟨λd e=>?_,λe=>?_⟩;have hi:i<M.length:=by have:=(A7.mp e).1;simpa using this
 rw[List.getElem?_reverse hi]at e;obtain⟨v,e2,hv⟩:=r.get e;refine⟨⟨(g1.trans g).seq h,by lia⟩,λx O y=>?_⟩;obtain⟨e3,y⟩:=y;subst e3;rw[hl,e2]at y;cases y;exact⟨G',Step.refl g,hv.mono g1⟩;rw[M5]at e;show i=vs.length;lia
section
variable{X:Cx}{EX:Be}{tg a b:Expr}{f g:FE}{fa:FA}{p pos:Pos}
def iRv(K:Frag)(t:TA):TI:=λ Y H Q=>t Y H λvs H1=>∃l xs,vs=[.ref l]/\bQ K H1 l xs/\Q (Qc K l xs) H1
def Wv{ta:TA}(hg:Gl X "reversed")(hm:X.mg "reversed"=none)(ha:PA X [a] ta)(hs:starEach [a] X.env=[(false,eval a X.env)]:=by rfl):PI X tg (.Call (.Name "reversed" p) [a] [] pos) (iRv X.K ta):=by
 intro Z s Y H Q I h;refine Call_ (mR I hg hm PyProof.Rows.boot_reversed (L4 (Bb (ha pos Z s Y H _ I h) λus s1 ⟨vs,H1,I1,r1,q1⟩=>?_) hs rfl));obtain⟨l,xs,rfl,hq,q⟩:=q1;obtain⟨u,rfl,ru⟩:=r1.one;cases ru;obtain⟨its,rv,pl,hz⟩:=I1.list hq;have hl:=rv.length;refine call_reversed_list pl.isList ?_;refine wpAny_pyIter_revIter (i:=(its.toArray.size:Int)-1) ⟨_,D0 _ rfl,rfl,rfl⟩ ?_;refine⟨s1.heap.objs.size,[s1.heap.objs.size],_,Qc X.K l xs,H1,rfl,I1.kept (t':=s1.toks) λb o e=>A5 _ e,aav l _ xs,⟨_,D0 _ rfl,rfl,?_⟩,λb J=>?_,q⟩;have e:(xs.length:Int)-1-((0:Nat):Int)=(its.toArray.size:Int)-1:=by simp;lia
 rw[e];rfl;have e:b=s1.heap.objs.size:=by simpa using J
 subst e;exact I1.gP (A9 _) (I1.aJ.fresh (A9 _))
def oi(hm:X.mg "reversed"=none)(he:ED X EX a f)(hg:Gl X "reversed" :=by rfl)(hs:starEach [a] X.env=[(false,eval a X.env)]:=by rfl)(jv:starEach [a] X.env=(false,eval a X.env)::starEach [] X.env:=by rfl):ID X EX tg (.Call (.Name "reversed" p) [a] [] pos) (Hr f):=PI.imp (Wv hg hm (Hi he jq jv) hs) λ Y H Q ⟨G,δ,g0,s0,o⟩=>by refine⟨G,δ,g0,s0,?_⟩;unfold Hr at o;cases S:f δ with|ok w=>rw[S]at o;simp only[R.aD]at o;refine WP.intro λv G' O st r=>?_;revert r o;(cases w.d with|lst M=>intro o r;(cases r with|lst h r=>exact⟨_,_,rfl,st.gh.seq h,o _ G' O st (YU h r)⟩)|_=>intro o _;exact False.elim o)|ex x=>rw[S]at o;exact o|no=>rw[S]at o;exact o
theorem aB.rep{G:Hp}{vs:List V}{M:List D}(r:aB K G vs M):∀n:Nat,aB K G (List.replicate n vs).flatten (List.replicate n M).flatten|0=>.nil|n+1=>by rw[L7,L7,O6,O6];exact r.append (aB.rep r n)
def qW(M:List D):D->R W|.int k=>if k.natAbs<4611686018427387904/\M.length*k.toNat<=16777216 then .ok (.ow (.lst (List.replicate k.toNat M).flatten)) else .no|_=>.no
def GH(fa:FA)(f:FE):FE:=λ δ=>(fa δ).bind λM=>if M.length<=16777216 then(f δ).bind λw=>qW M w.d else .no
def Wu{es:List Expr}{jd:Pos}(ha:AD X EX es fa)(J:ED X EX b f):ED X EX (.BinOp (.List es jd) .Mult b pos) (GH fa f):=PE.imp (GG WM (wW ha) J) λ Y H Q ⟨G,δ,g0,s0,o⟩=>dR.seq g0 s0 o λM vs G' O _ st r o'=>by
  split at o';rename_i hz;refine⟨by rw[r.length,D9];exact hz,λq hq=>?_⟩;have so:=Step.own st.gh hq (.lst vs);refine tD.seq so.gh (s0.mono st.gg) (Out.mono so o') λw v G2 H2 _ aV r2 o2=>?_;revert r2 o2;cases w.d with|int k=>intro r2 o2;cases r2;simp only[qW]at o2;split at o2;rename_i hk;exact⟨q,k,vs,rfl,rfl,aV.hh _ _ Bo,by have:=hk.1;lia,by have:=hk.1;lia,by rw[r.length,D9];exact hk.2,qh o2 aV.gh ((r.mono aV.gg).rep k.toNat)⟩;exact o2.elim|_=>intro _ o2;exact False.elim o2
  exact o'.elim
def Fk:List D->Option (List Int)|[]=>some []|.int i::M=>(Fk M).map (i:: ·)|_=>none
def nB:List D->R W
 |[.lst M]=>match Fk M with|some is=>.ok (.sh (.int is.sum))|none=>.no
 |_=>.no
theorem IX{G:Hp}:∀{vs:List V}{M:List D}{us:List Value}{is:List Int},aB K G vs M->Vals vs us->Fk M=some is->us.length=is.length/\∀(j:Nat) (v:Value),us[j]?=some v->∃t,v=.int (is.getD j 0) t|_,_,_,_,.nil,r,e=>by cases r;cases e;exact⟨rfl,λj v h=>by simp at h⟩|_,_,_,_,.cons h t,r,e=>by cases r with|cons r1 r2=>cases h with|int x=>obtain⟨tk,rfl⟩:=r1;simp only[Fk]at e;obtain⟨zs,q,rfl⟩:=F0.mp e;obtain⟨h1,h2⟩:=IX t r2 q;refine⟨by simp[h1],λj v hj=>?_⟩;(cases j with|zero=>simp at hj;subst hj;exact⟨tk,rfl⟩|succ j=>obtain⟨t',e'⟩:=h2 j v (by simpa using hj);exact⟨t',by rw[e'];simp⟩)|_=>cases e
theorem MZ(is:List Int):∀j,preSum (λi=>is.getD i 0) j=(is.take j).sum|0=>by simp[preSum]|j+1=>by rw[preSum,MZ is j,PySem.sum_take_succ]
def abJ(hc:X.calm=true):ki X (.builtin "sum") nB:=by intro Z s Y H vs us Q I rv q;obtain⟨EX,G,M,g,r,o⟩:=q;cases r with|nil=>exact False.elim o|cons h t=>cases h with|lst h r=>(cases t with|cons _ _=>exact False.elim o|nil=>rename_i l _ _;simp only[nB]at o;split at o;rename_i is e;obtain⟨u,rfl,ru⟩:=rv.one;cases ru;obtain⟨its,jm,pl,hz⟩:=I.list (g.seq h);obtain⟨el,ev⟩:=IX r jm e;have nl:l≠s.heap.objs.size:=λz=>(by obtain⟨o',ho,_⟩:=pl.isList;exact absurd (B2 ho) (by rw[<-z];exact F3 _));have ll:l<s.heap.objs.size:=(by obtain⟨o',ho,_⟩:=pl.isList;exact B2 ho);refine call_sum_walkAnyS (SU pl.isList ⟨s.heap.objs.size,_,_,_,_,_,_,λi=>is.getD i 0,rfl,(Walks.list (A:=X.A.in1) (I.ok.hd hc) s.heap.objs.size l nl its.toArray).toS,⟨⟨_,D0 _ rfl,rfl,rfl⟩,?_⟩,λb J=>?_,λi v hP=>ev i v (by simpa using hP),λs' t' mv=>?_⟩);exact pl.isList.at λo z=>A5 _ z;rw[N7];have cR:b=s.heap.objs.size\/b=l:=(by simpa using J);rcases cR with rfl|rfl;exact Q8 _;exact X1 ll;have en:its.toArray.size=is.length:=(by simp[el]);rw[en,MZ,T8];obtain⟨m1,m2,m3,m4,m5⟩:=mv;have e':s'={s with heap:=s'.heap,toks:=s'.toks}:=(by cases s';simp only at m2 m3 m4;subst m2 m3 m4;rfl);rw[e'];refine⟨.int _,H,I.kept (t':=s'.toks) λb o' z=>m1 b o' (by have J:b≠s.heap.objs.size:=D6 (B2 z);simpa using J) (A5 _ z),⟨t',rfl⟩,Cw o g (.int _)⟩;exact o.elim)|_=>exact False.elim o
def abI{G:Hp}(lo:Int):∀n:Nat,aB K G ((List.range n).map λ(k:Nat)=>V.int (lo+(k:Int))) (Eh lo n):=by intro n;unfold Eh;generalize List.range n=l;induction l with|nil=>exact .nil|cons a l ih=>exact .cons (.int _) ih
def Vg{n:Nat}{lo:Int}{zm:Array Value}(h:PySem.ItemsOf (λi v=>∃t,v=.int (lo+i*1) t) zm n):Vals ((List.range n).map λ(k:Nat)=>V.int (lo+(k:Int))) zm.toList:=by
 obtain⟨h1,h2⟩:=h;have all:∀(l:List Value) (k:Nat),(∀(j:Nat) v,l[j]?=some v->∃t,v=.int (lo+((k+j:Nat):Int)) t)->Vals ((List.range' k l.length).map λ(k:Nat)=>V.int (lo+(k:Int))) l:=by intro l;induction l with|nil=>intro k _;exact .nil|cons a l ih=>intro k h;rw[B7,SQ,B6];refine .cons ?_ (ih (k+1) λj v hj=>?_);obtain⟨t,e⟩:=h 0 a rfl;exact⟨t,by rw[e];rfl⟩;obtain⟨t,e⟩:=h (j+1) v (by simpa using hj);exact⟨t,by rw[e,show k+(j+1)=k+1+j by lia]⟩
 have:=all zm.toList 0 λj v hj=>by obtain⟨t,e⟩:=h2 j v (by simpa using hj);exact⟨t,by rw[e];simp⟩
 rw[show zm.toList.length=n by simpa using h1]at this;rw[List.range_eq_range'];exact this
def adL{Z:AE}{s:Shared}{Y:Sg}{Q:VK}{lo hi:Int}{t u v:Tok}{tk:Nat}(hc:X.calm=true)(I:Inv X Z Y H s)(h1:-(2^62)<=lo)(h2:lo<2^62)(h3:-(2^62)<=hi)(h4:hi<2^62)(hz:(hi-lo).toNat<=16777216)(q:∀p,H p=none->Q (.ref p) (upd H p (.lst ((List.range (hi-lo).toNat).map λ(k:Nat)=>V.int (lo+(k:Int)))))):wpAny (model X.prog X.w) X.A (call (.type "list") [.ref s.heap.objs.size]) (EP X Z Y Q) X.xe {s with heap:=s.heap.push {cls:=.type "range",data:=.fields #[.int lo t,.int hi u,.int 1 v]},toks:=tk}:=by
 have I1:Inv X Z Y H {s with heap:=s.heap.push {cls:=.type "range",data:=.fields #[.int lo t,.int hi u,.int 1 v]},toks:=tk}:=I.kept λb o e=>A5 _ e;have en:Builtin.Range.rangeSize lo hi 1=(((hi-lo).toNat:Nat):Int):=by rw[rangeSize_one];split<;>lia
 refine PySem.call_list_range (I1.ok.hd hc) (IsRange.new ..) (small_one h1 h2 h3 h4) en hz λh' tk' zm c kk nh it=>?_;have rv:=Vg it;have fr:=I1.aJ.fresh (A9 _);refine⟨.ref _,upd H _ (.lst _),I1.laid (t':=tk') kk (A9 _) ⟨?_,zm.toList,c,rv,by simpa using nh⟩,rfl,q _ fr⟩;rw[rv.length,D9];have:=it.1;simp;lia
def gR(k:List D->R (List D))(fa:FA):FE:=λ δ=>(fa δ).bind λas=>(k as).bind λM=>if M.length<=16777216 then .ok (.ow (.lst M)) else .no
def yV{p' pos':Pos}(hc:X.calm=true)(QT:X.mg "list"=none)(hm:X.mg "range"=none)(ha:AD X EX [a] fa)(Ra:Gl X "list" :=by rfl)(hg:Gl X "range" :=by rfl)(hs:starEach [a] X.env=[(false,eval a X.env)]:=by rfl)(dO:starEach [.Call (.Name "range" p') [a] [] pos'] X.env=(false,eval (.Call (.Name "range" p') [a] [] pos') X.env)::starEach [] X.env:=by rfl):ED X EX (.Call (.Name "list" p) [.Call (.Name "range" p') [a] [] pos'] [] pos) (gR Du fa):=by
 intro Z s Y H Q I q;obtain⟨G,δ,g0,s0,o⟩:=q;refine Call_ (mR I Ra QT K4 (L4 ?_ dO rfl));rw[dO];show wpAny _ _ (spliced ((false,eval (.Call (.Name "range" p') [a] [] pos') X.env)::backTo pos (starEach [] X.env))) _ _ s;refine M3 ?_;refine Call_ (mR I hg hm boot_range (L4 (Bb (ha pos' Z s Y H _ I (dR.seq g0 s0 o (P:=λvs H1=>∃j G1,aA G1 H1/\vs=[.int j]/\j.natAbs<4611686018427387904/\j.toNat<=16777216/\Out X.K (EX Y) G1 H1 (.ok (.ow (.lst (Eh 0 j.toNat)))) Q) λM vs G' O _ st r o'=>?_)) λus s1 ⟨vs,H1,I1,r1,q1⟩=>?_) hs rfl));cases r with|nil=>exact False.elim o'|cons h t=>cases h with|int j=>(cases t with|cons _ _=>exact False.elim o'|nil=>simp only[Du]at o';split at o';rename_i hj;simp only[R.aD,vg]at o';split at o';rename_i hl;exact⟨j,G',st.gh,rfl,hj,hl,o'⟩;exact o'.elim;exact o'.elim)|_=>exact False.elim o'
 obtain⟨j,G1,sg,rfl,hj,hl,o'⟩:=q1;obtain⟨u,rfl,t,rfl⟩:=r1.one;refine call_range_1 ?_;refine P9 ?_;have QW:(j-0).toNat<=16777216:=by simpa using hl
 refine adL hc I1 () () () () QW ?_;rw[Int.sub_zero];exact qh o' sg (abI 0 _)
def rP(i:Nat)(js:List Nat)(fi fe:FE):FS:=λ B=>match(aE js B)[i]? with|some (.ow (.lst M))=>(match fe (Ay (aE js B))with|.ok w=>(match fi (At (aE js B))with|.ok z=>(match z.d with|.int k=>(match iS M.length k with|some j=>.nx ((aE js B).set i (.ow (.lst (M.set j w.d))))|none=>.no)|_=>.no)|_=>.no)|_=>.no)|_=>.no
def YT{i:Nat}(js:List Nat){x:Str}{e ie:Expr}{fe fi:FE}{p1 zh pos:Pos}(he:ED X EX e fe)(hi:ED X EX ie fi)(hN:X.N[i]?=some x:=by rfl)(hv:Ff X.env.scope x:=by trivial)(hd:AG x:=by decide)(bI:(x ==("__classdict__" :Str))=false:=by decide)(ha:∀v,assign (.Subscript (.Name x p1) ie zh) X.env v=(do
   let ov<-holding [v] (eval (.Name x p1) X.env)
   let iv<-holding [v,ov] (eval ie X.env)
   standAt zh
   holding [v,ov,iv] (setItem ov iv v)
   release [v,ov,iv] []):=by intro _;rfl)
  (hs:swapsWithSole [.Subscript (.Name x p1) ie zh] e pos.line X.env=pure false:=by rfl) (hw:swappedStores [.Subscript (.Name x p1) ie zh] e X.env=pure none:=by rfl)
  (h1:(assignEach [.Subscript (.Name x p1) ie zh] X.env).map (·.2)=[assign (.Subscript (.Name x p1) ie zh) X.env]:=by rfl):
  SD X EX (.Assign [.Subscript (.Name x p1) ie zh] e pos) (rP i js fi fe):=
 PS.imp (HR he (HS (Fp hN hv hd bI) hi Kq ha) hs hw h1) λD Y H ⟨H0,G0,G,B,H',E,q⟩=>by
  obtain⟨G1,O1,sg,E1⟩:=E.aE js;unfold rP at q;generalize aE js B=Δ1 at q E1
  split at q
  rename_i M S;obtain⟨v0,s1,t⟩:=E1.ow i _ _ S rfl;obtain⟨a,vs,rfl,m,hH,rl⟩:=t.bY
  skip
  refine⟨G1,Ay Δ1,E1.st.gh,E1.eA,?_⟩;cases e2:fe (Ay Δ1)with
  |ex x=>rw[e2]at q;exact q.elim
  |no=>rw[e2]at q;exact q.elim
  |ok w=>
   simp only[e2]at q;refine WP.intro λv G' O st r=>?_;have E2:=E1.grow st;refine⟨.ref a,s1,Fa G' O O1,At Δ1,E2.aH,E2.bZ,?_⟩;cases e3:fi (At Δ1)with
   |ex x=>simp only[e3]at q;exact q.elim
   |no=>simp only[e3]at q;exact q.elim
   |ok z=>
    simp only[e3]at q;refine WP.intro λv2 G2 H2 aV r2=>?_;revert q r2;cases z.d with
    |int k=>
     intro q r2;cases r2;cases e4:iS M.length k with
     |none=>simp only[e4]at q;exact q.elim
     |some j=>
      simp only[e4]at q;have DC:H2 a=some (.lst vs):=aV.hh _ _ (st.hh _ _ hH);refine⟨a,vs,k,j,rfl,rfl,DC,by rw[rl.length];exact e4,?_⟩;exact q Y G' _ _ ((E2.keep aV.hh).dJ s1 m (aB.set r j (rl.mono st.gg))) (sg.trans st.gg)
    |_=>intro q _;exact False.elim q
  exact q.elim
end
@[elab_as_elim] theorem lU{P:List Value->Prop}{us:List Value}{n:Nat}(h:us.length=n)(k:∀y:Nat->Value,P ((List.range n).map y)):P us:=by
 have e:us=(List.range n).map λi=>us.getD i .none:=by apply S3;intro i;rw[B3];by_cases hi:i<n;rw[N5 hi,J8,B4,B1 ()];rfl;rw[K8 (),K8 (by rw[M7];lia)];rfl
 rw[e];exact k _
section
variable{K:Frag}{x qual:Str}{st:Stmt}{f:Addr}{fd:FuncData}{ps:List Str}
def aY.zF(F:aY K x qual st f fd)(hl:ps.length=1:=by rfl)(h:∀(kV doc pm:Value) (an:Option Addr) (zn ct a:Value),bindArgs (fnOf x qual (gB st) (Fg st) (Bt st) .none kV doc pm an zn ct) ⟨[a],[]⟩=pure (ps.zip [a]):=by intros;rfl):Binds K fd ps []:=F.binds λkV doc pm an zn ct us hu=>lU (hu.trans hl) λy=>h kV doc pm an zn ct (y 0)
def aY.zE(F:aY K x qual st f fd)(hl:ps.length=2:=by rfl)(h:∀(kV doc pm:Value) (an:Option Addr) (zn ct a b:Value),bindArgs (fnOf x qual (gB st) (Fg st) (Bt st) .none kV doc pm an zn ct) ⟨[a,b],[]⟩=pure (ps.zip [a,b]):=by intros;rfl):Binds K fd ps []:=F.binds λkV doc pm an zn ct us hu=>lU (hu.trans hl) λy=>h kV doc pm an zn ct (y 0) (y 1)
def aY.zD(F:aY K x qual st f fd)(hl:ps.length=3:=by rfl)(h:∀(kV doc pm:Value) (an:Option Addr) (zn ct a b c:Value),bindArgs (fnOf x qual (gB st) (Fg st) (Bt st) .none kV doc pm an zn ct) ⟨[a,b,c],[]⟩=pure (ps.zip [a,b,c]):=by intros;rfl):Binds K fd ps []:=F.binds λkV doc pm an zn ct us hu=>lU (hu.trans hl) λy=>h kV doc pm an zn ct (y 0) (y 1) (y 2)
def aY.zC(F:aY K x qual st f fd)(hl:ps.length=4:=by rfl)(h:∀(kV doc pm:Value) (an:Option Addr) (zn ct a b c d:Value),bindArgs (fnOf x qual (gB st) (Fg st) (Bt st) .none kV doc pm an zn ct) ⟨[a,b,c,d],[]⟩=pure (ps.zip [a,b,c,d]):=by intros;rfl):Binds K fd ps []:=F.binds λkV doc pm an zn ct us hu=>lU (hu.trans hl) λy=>h kV doc pm an zn ct (y 0) (y 1) (y 2) (y 3)
def aY.zB(F:aY K x qual st f fd)(hl:ps.length=5:=by rfl)(h:∀(kV doc pm:Value) (an:Option Addr) (zn ct a b c d e:Value),bindArgs (fnOf x qual (gB st) (Fg st) (Bt st) .none kV doc pm an zn ct) ⟨[a,b,c,d,e],[]⟩=pure (ps.zip [a,b,c,d,e]):=by intros;rfl):Binds K fd ps []:=F.binds λkV doc pm an zn ct us hu=>lU (hu.trans hl) λy=>h kV doc pm an zn ct (y 0) (y 1) (y 2) (y 3) (y 4)
def aY.zA(F:aY K x qual st f fd)(hl:ps.length=6:=by rfl)(h:∀(kV doc pm:Value) (an:Option Addr) (zn ct a b c d e g:Value),bindArgs (fnOf x qual (gB st) (Fg st) (Bt st) .none kV doc pm an zn ct) ⟨[a,b,c,d,e,g],[]⟩=pure (ps.zip [a,b,c,d,e,g]):=by intros;rfl):Binds K fd ps []:=F.binds λkV doc pm an zn ct us hu=>lU (hu.trans hl) λy=>h kV doc pm an zn ct (y 0) (y 1) (y 2) (y 3) (y 4) (y 5)
end
structure aga(z TI TO i1 i2:Addr):Prop where
 TIz:TI≠z
 TOz:TO≠z
 i1z:i1≠z
 i2z:i2≠z
 TITO:TI≠TO
 TIi1:TI≠i1
 TIi2:TI≠i2
 TOi1:TO≠i1
 TOi2:TO≠i2
 i12:i1≠i2
section
variable{X:Cx}{EX:Be}{a b:Expr}{fa:FA}{elts:List Expr}{x1:Nat}{tp p pos:Pos}
end
def met(is:List Int):List Int:=PyProof.Rows.firstMet (λi=>is.getD i 0) is.length
def sC:D->R W
 |.lst M=>match Fk M with|some is=>if is.length<=4000 then .ok (.sh (.int (met is).length)) else .no|none=>.no
 |_=>.no
def xH(f:FE):FE:=λ δ=>(f δ).bind λw=>sC w.d
theorem ye{G:Hp}:∀{vs:List V}{M:List D}{us:List Value}{is:List Int},aB K G vs M->Vals vs us->Fk M=some is->IntsAre us is|_,_,_,_,.nil,r,e=>by cases r;cases e;exact .nil|_,_,_,_,.cons h t,r,e=>by cases r with|cons r1 r2=>cases h with|int x=>obtain⟨tk,rfl⟩:=r1;simp only[Fk]at e;obtain⟨zs,q,rfl⟩:=F0.mp e;exact .cons x tk (ye t r2 q)|_=>cases e
section
variable{X:Cx}{EX:Be}{a:Expr}{f:FE}{p p' pos pos':Pos}
def abH(hc:X.calm=true)(QT:X.mg "len"=none)(hm:X.mg "set"=none)(ha:ED X EX a f)(Ra:Gl X "len" :=by rfl)(hg:Gl X "set" :=by rfl)(hs:starEach [a] X.env=(false,eval a X.env)::starEach [] X.env:=by rfl)(dO:starEach [.Call (.Name "set" p') [a] [] pos'] X.env=(false,eval (.Call (.Name "set" p') [a] [] pos') X.env)::starEach [] X.env:=by rfl) (bM:(backTo pos (starEach [] X.env)).any (·.1)=false:=by rfl) (gv:(backTo pos' (starEach [] X.env)).any (·.1)=false:=by rfl):ED X EX (.Call (.Name "len" p) [.Call (.Name "set" p') [a] [] pos'] [] pos) (xH f):=by
 intro Z s Y H Q I q;obtain⟨G,δ,g0,s0,o⟩:=q;refine Call_ (mR I Ra QT D8 (Y3 ?_ dO bM));rw[dO];show wpAny _ _ (spliced ((false,eval (.Call (.Name "set" p') [a] [] pos') X.env)::backTo pos (starEach [] X.env))) _ _ s;refine M3 ?_;refine Call_ (mR I hg hm PyProof.Rows.boot_set (L4 ?_ hs gv));rw[hs];show wpAny _ _ (spliced ((false,eval a X.env)::backTo pos' (starEach [] X.env))) _ _ s;refine M3 (Bb (ha Z s Y H _ I (tD.seq g0 s0 o (P:=λv H1=>∃l M vs is G1,aA G1 H1/\v=.ref l/\bQ X.K G1 l vs/\aB X.K G1 vs M/\Fk M=some is/\is.length<=4000/\Out X.K (EX Y) G1 H1 (.ok (.sh (.int (met is).length))) Q) λw v G' O _ st r o'=>?_)) λu s1 ⟨v,H1,I1,r1,q1⟩=>P9 ?_);revert r o';cases w.d with
 |lst M=>intro r o';cases r with|lst h r=>simp only[sC]at o';split at o';rename_i is e;split at o';rename_i hl;exact⟨_,M,_,is,G',st.gh,rfl,h,r,e,hl,o'⟩;exact o'.elim;exact o'.elim
 |_=>intro _ o';exact False.elim o'
 obtain⟨l,M,vs,is,G1,sg,rfl,hq,r,e,hl,o'⟩:=q1;cases r1;obtain⟨its,rv,pl,hz⟩:=I1.list (sg.seq hq);have ia:=ye r rv e;have il:its.length=is.length:=ia.length;refine PySem.call_set_list (ns:=is) (I1.ok.hd hc) pl.isList (by simpa using ia) (by rw[C1,il];show is.length+1<4096;lia) λh' tk so kk=>?_;refine P9 ?_;obtain⟨ob,es,ep,t,ho,hex,hd,_,_,J,hf,hn⟩:=so;have cR:es.size<4096:=J;refine PySem.call_len_set ho hex hd hf () ?_;rw[hn,C1,il];exact⟨.int _,H1,I1.kept (t':=_) λb ob hbo=>kk b ob (B2 hbo) hbo,⟨_,rfl⟩,Cw o' sg (.int _)⟩
end
noncomputable def Fm:D->Option Am|.int i=>some (.inl i)|.str x=>some (.inr x)|_=>none
def mO{G:Hp}{d:D}{k:Am}(r:aP K G v d)(e:Fm d=some k):v=kV k:=by cases r<;>first|(cases e;rfl)|cases e
section
variable{α:Type}
noncomputable def Bs(kvs:List (Am×α))(k:Am):Option α:=(kvs.find? λkv=>decide (kv.1=k)).map (·.2)
noncomputable def Cs(kvs:List (Am×α))(k:Am)(v:α):List (Am×α):=if(kvs.any λkv=>decide (kv.1=k))=true then kvs.map (λkv=>if kv.1=k then(kv.1,v) else kv) else kvs++[(k,v)]
noncomputable def Ge(kvs:List (Am×α))(k:Am):List (Am×α):=kvs.filter λkv=>decide (kv.1≠k)
def Dg(kvs:List (Am×α))(k:Am):Bool:=(Bs kvs k).isSome
end
def xG(kvs:List (Am×V))(k:Am)(v:V):Gq kvs k v=Cs kvs k v:=rfl
theorem oJ{G:Hp}:∀{kvs:List (Am×V)}{aL:List (Am×D)}(k:Am),kvs.map (·.1)=aL.map (·.1)->aB K G (kvs.map (·.2)) (aL.map (·.2))->(Cf kvs k).isSome=Dg aL k/\∀d,Bs aL k=some d->∃v,Cf kvs k=some v/\aP K G v d|[],[],k,_,_=>⟨rfl,λd e=>by cases e⟩|[],_::_,k,e,_=>by simp at e|_::_,[],k,e,_=>by simp at e|(x,v)::kvs,(y,d)::aL,k,e,r=>by simp only[B6,U9]at e;obtain⟨S,e2⟩:=e;subst S;cases r with|cons h r=>obtain⟨i1,i2⟩:=oJ (kvs:=kvs) (aL:=aL) k e2 r;by_cases q:x=k;have a1:Cf ((x,v)::kvs) k=some v:=kY q;have a2:Bs ((x,d)::aL) k=some d:=(by unfold Bs;rw[P1 (by simpa using q)];rfl);refine⟨by unfold Dg;rw[a1,a2];rfl,λd' e'=>?_⟩;rw[a2]at e';cases e';exact⟨v,a1,h⟩;have a1:Cf ((x,v)::kvs) k=Cf kvs k:=kE q;have a2:Bs ((x,d)::aL) k=Bs aL k:=(by unfold Bs;rw[P2 (by simpa using q)]);refine⟨by unfold Dg at i1⊢;rw[a1,a2];exact i1,λd' e'=>?_⟩;rw[a2]at e';rw[a1];exact i2 d' e'
theorem yd{α β:Type}:∀{kvs:List (Am×α)}{aL:List (Am×β)}(k:Am),kvs.map (·.1)=aL.map (·.1)->(kvs.any λkv=>decide (kv.1=k))=aL.any λkv=>decide (kv.1=k)|[],[],_,_=>rfl|[],_::_,k,e=>by simp at e|_::_,[],k,e=>by simp at e|(x,v)::kvs,(y,d)::aL,k,e=>by simp only[B6,U9]at e;obtain⟨S,e2⟩:=e;subst S;rw[S9,S9,yd k e2]
def IW{G:Hp}{kvs:List (Am×V)}{aL:List (Am×D)}(k:Am){d:D}(e:kvs.map (·.1)=aL.map (·.1))(r:aB K G (kvs.map (·.2)) (aL.map (·.2)))(h:aP K G v d):(Gq kvs k v).map (·.1)=(Cs aL k d).map (·.1)/\aB K G ((Gq kvs k v).map (·.2)) ((Cs aL k d).map (·.2)):=by
 rw[xG];unfold Cs;rw[yd k e];split;have all:∀{kvs:List (Am×V)}{aL:List (Am×D)},kvs.map (·.1)=aL.map (·.1)->aB K G (kvs.map (·.2)) (aL.map (·.2))->(kvs.map (λkv=>if kv.1=k then(kv.1,v) else kv)).map (·.1)=(aL.map (λkv=>if kv.1=k then(kv.1,d) else kv)).map (·.1)/\aB K G ((kvs.map (λkv=>if kv.1=k then(kv.1,v) else kv)).map (·.2)) ((aL.map (λkv=>if kv.1=k then(kv.1,d) else kv)).map (·.2)):=by intro kvs;induction kvs with|nil=>intro aL e r;(cases aL with|nil=>exact⟨rfl,.nil⟩|cons _ _=>simp at e)|cons p kvs ih=>intro aL e r;cases aL with|nil=>simp at e|cons q aL=>obtain⟨x,u⟩:=p;obtain⟨y,w⟩:=q;simp only[B6,U9]at e;obtain⟨S,e2⟩:=e;subst S;cases r with|cons h1 r=>obtain⟨i1,i2⟩:=ih e2 r;simp only[B6];by_cases z:x=k;simp only[z,if_true];exact⟨by rw[i1],.cons h i2⟩;simp only[z,L5];exact⟨by rw[i1],.cons h1 i2⟩
 exact all e r;refine⟨by rw[B9,B9,e];rfl,?_⟩;rw[B9,B9];exact r.append (.cons h .nil)
section
variable{X:Cx}{EX:Be}{pos:Pos}
def Hg:FE:=λ_=>.ok (.ow (.aF []))
def tR:ED X EX (.Dict [] [] pos) Hg:=PE.imp Kl λ Y H Q ⟨G,δ,g,s,o⟩=>λp hp=>o (.ref p) (λb=>b=p) G _ (Step.own g hp _) (λa e=>by subst e;exact⟨hp,g.free hp,by rw[Bo];simp⟩) (.dict Bo rfl rfl .nil)
def iT(neg:Bool):D->D->R W
 |d,.aF kvs=>match Fm d with|some k=>.ok (.sh (.bl (if neg then !Dg kvs k else Dg kvs k)))|none=>.no
 |_,_=>.no
def cM.rd{a:Addr}{kvs:List (Am×V)}{k:Am}(e:Rd H a (.dK kvs)):cM H a (kV k) (Cf kvs k):=.inl ⟨kvs,k,e,rfl,rfl⟩
def wK(hu:X.A.units+64<cLine):Fo X (compareOp .In) (iT false):=by intro Z s Y H x y v u Q I rx ry q;obtain⟨EX,G,a,b,g,ra,rb,o⟩:=q;cases rb with|aF h hk r=>simp only[iT]at o;split at o;rename_i k ek;have ex:=mO ra ek;subst ex;cases ry;refine acf () I (cM.rd (k:=k) (aA.mG g h)) rx λs' I'=>⟨.bl _,H,I',rfl,?_⟩;rw[(oJ k hk r).1];exact Cw o g (.bl _);exact o.elim|_=>exact False.elim o
def LG(hu:X.A.units+64<cLine):Fo X (compareOp .NotIn) (iT true):=by intro Z s Y H x y v u Q I rx ry q;obtain⟨EX,G,a,b,g,ra,rb,o⟩:=q;cases rb with|aF h hk r=>simp only[iT]at o;split at o;rename_i k ek;have ex:=mO ra ek;subst ex;cases ry;refine Zi () I (cM.rd (k:=k) (aA.mG g h)) rx λs' I'=>⟨.bl _,H,I',rfl,?_⟩;rw[(oJ k hk r).1];exact Cw o g (.bl _);exact o.elim|_=>exact False.elim o
def Dn:D->D->R W
 |.aF kvs,d=>match Fm d with|some k=>(match Bs kvs k with|some x=>.ok (.sh x)|none=>.no)|none=>.no
 |_,_=>.no
def mh{o i:Expr}{f g:FE}(hu:X.A.units+64<cLine)(ho:ED X EX o f)(hi:ED X EX i g)(hs:pv i:=by intro _ _;rfl):ED X EX (.Subscript o i pos) (Ag Dn f g):=PE.imp (xM () ho hi hs) λ Y H Q ⟨G,δ,g0,s0,o⟩=>tD.seq g0 s0 o λw v G1 H1 _ bH r1 o1=>tD.seq bH.gh (s0.mono bH.gg) o1 λw2 v2 G2 H2 _ aV r2 o2=>by have r1:=r1.mono aV.gg;revert r1 o2;cases w.d with|aF kvs=>intro o2 r1;simp only[Dn]at o2;split at o2;rename_i k ek;split at o2;rename_i x ex;(cases r1 with|aF h hk r=>obtain⟨u,S,e2⟩:=(oJ k hk r).2 x ex;have e3:=mO r2 ek;subst e3;refine⟨_,u,rfl,?_,Cw o2 aV.gh e2⟩;rw[<-S];exact cM.rd (aA.mG aV.gh h));exact o2.elim;exact o2.elim|_=>intro o2 _;exact False.elim o2
def rn:List D->R W|[.aF kvs]=>.ok (.sh (.int kvs.length))|_=>.no
def abG:ki X (.builtin "len") rn:=by intro Z s Y H vs us Q I rv q;obtain⟨EX,G,M,g,r,o⟩:=q;cases r with|nil=>exact False.elim o|cons h t=>cases h with|aF h hk r=>(cases t with|cons _ _=>exact False.elim o|nil=>rename_i kvs aL;obtain⟨u,rfl,ru⟩:=rv.one;cases ru;refine Vm I (aA.mG g h) λt s' I'=>⟨.int _,H,I',⟨t,rfl⟩,?_⟩;have hl:aL.length=kvs.length:=(by have:=K5 List.length hk;rw[A4,A4]at this;exact this.symm);rw[<-hl];exact Cw o g (.int _))|_=>exact False.elim o
def kh(i:Nat)(js:List Nat)(fk fe:FE):FS:=λ B=>match(aE js B)[i]? with|some (.ow (.aF kvs))=>(match fe (Ay (aE js B))with|.ok w=>(match fk (At (aE js B))with|.ok z=>(match Fm z.d with|some k=>if kvs.length<16777216 then .nx ((aE js B).set i (.ow (.aF (Cs kvs k w.d)))) else .no|none=>.no)|_=>.no)|_=>.no)|_=>.no
def mf{i:Nat}(js:List Nat){x:Str}{e ie:Expr}{fe fk:FE}{p1 zh pos:Pos}(hu:X.A.units+64<cLine)(he:ED X EX e fe)(hi:ED X EX ie fk)(hN:X.N[i]?=some x:=by rfl)(hv:Ff X.env.scope x:=by trivial)(hd:AG x:=by decide)(bI:(x ==("__classdict__" :Str))=false:=by decide) (hs:swapsWith e (some (.Subscript (.Name x p1) ie zh)) pos.line X.env=pure false:=by rfl):SD X EX (.Assign [.Subscript (.Name x p1) ie zh] e pos) (kh i js fk fe):=PS.imp (xK () (Fp hN hv hd bI) hi he hs) λD Y H ⟨H0,G0,G,B,H',E,q⟩=>by
  obtain⟨G1,O1,sg,E1⟩:=E.aE js;unfold kh at q;generalize aE js B=Δ1 at q E1;split at q;rename_i aL S;obtain⟨v0,s1,t⟩:=E1.ow i _ _ S rfl;obtain⟨a,kvs,rfl,m,hH,hk,rl⟩:=t.fO;refine⟨G1,Ay Δ1,E1.st.gh,E1.eA,?_⟩;cases e2:fe (Ay Δ1)with|ex x=>rw[e2]at q;exact q.elim|no=>rw[e2]at q;exact q.elim|ok w=>simp only[e2]at q;refine WP.intro λv G' O st r=>?_;have E2:=E1.grow st;refine⟨.ref a,s1,Fa G' O O1,At Δ1,E2.aH,E2.bZ,?_⟩;cases e3:fk (At Δ1)with|ex x=>simp only[e3]at q;exact q.elim|no=>simp only[e3]at q;exact q.elim|ok z=>simp only[e3]at q;refine WP.intro λv2 G2 H2 aV r2=>?_;split at q;rename_i k ek;split at q;rename_i hl;have e4:=mO r2 ek;subst e4;have DC:H2 a=some (.dK kvs):=aV.hh _ _ (st.hh _ _ hH);have hle:kvs.length=aL.length:=(by have:=K5 List.length hk;rwa[A4,A4]at this);obtain⟨p1,p2⟩:=IW k hk (rl.mono st.gg) r;exact⟨a,_,rfl,fK.k DC (by rw[hle,D9];exact hl),q Y G' _ _ ((E2.keep aV.hh).zr s1 m p1 p2) (sg.trans st.gg)⟩;exact q.elim;exact q.elim
  exact q.elim
end
section
variable{K:Frag}{H0 H1:HB}{G0 G H:Hp}{Y:Sg}{B:SE}{H':OS}
end
section
variable{X:Cx}{EX:Be}{pos:Pos}
end
section
variable{X:Cx}{EX:Be}{pos:Pos}
end
def Wt(t:Tn):Sl.any (.tr t)=some t.d:=rfl
section
variable{X:Cx}{EX:Be}{a b:Expr}{fa:FA}{p pos:Pos}
end
section
variable{K:Frag}{G H:Hp}
theorem aX.append:∀{vs us:List V}{ts rs:List Tn}{S1 S2 e1:AS},aX K G H vs ts S1->aX K G H us rs S2->(∀b,S1 b->S2 b->False)->(∀b,S1 b->e1 b)->(∀b,S2 b->e1 b)->aX K G H (vs++us) (ts++rs) e1
 |_,_,_,_,_,_,_,.nil,r,_,_,i2=>r.mono (aA.refl _) (λ_ _ _ q=>q) i2|_,_,_,_,S1,S2,e1,.cons (S1:=Sa) (S2:=Sb) h r dj s1 s2,q,d,i1,i2=>
  .cons (S2:=λb=>Sb b\/S2 b) h (aX.append r q (λb z1 z2=>d b (s2 b z1) z2) (λb z=>.inl z) λb z=>.inr z) (λb z1 z2=>by
   rcases z2 with z2|z2;exact dj b z1 z2;exact d b (s1 b z1) z2) (λb z=>i1 b (s1 b z)) λb z=>by
   rcases z with z|z;exact i1 b (s2 b z);exact i2 b z
end
section
variable{α:Type}
noncomputable def Cd:List (Am×α)->Am->α->List (Am×α)|[],_,_=>[]|(x,v)::r,k,v'=>if x=k then(x,v')::r else(x,v)::Cd r k v'
theorem sY:∀(l:List (Am×α)) (k:Am) (v:α),(Cd l k v).map (·.1)=l.map (·.1)|[],_,_=>rfl|(x,v0)::r,k,v=>by unfold Cd;split;rfl;rw[B6,B6,sY r k v]
end
noncomputable def qi:List (Am×Tn)->Option (List (Am×D))|[]=>some []|(k,.sh d)::r=>(qi r).map ((k,d):: ·)|_=>none
theorem yc:∀{kts:List (Am×Tn)}{aL:List (Am×D)},qi kts=some aL->kts=aL.map λp=>(p.1,Tn.sh p.2)|[],_,e=>by cases e;rfl|(k,t)::r,aL,e=>by cases t with|sh d=>simp only[qi]at e;(cases q:qi r with|none=>rw[q]at e;cases e|some l=>rw[q]at e;cases e;rw[yc q];rfl)|_=>cases e
theorem wJ:∀aL:List (Am×D),qi (aL.map λp=>(p.1,Tn.sh p.2))=some aL|[]=>rfl|(k,d)::r=>by show(qi (r.map λp=>(p.1,Tn.sh p.2))).map ((k,d):: ·)=_;rw[wJ r];rfl
section
variable{K:Frag}{G H:Hp}
theorem aX.cZ(k:Am):∀{kvs:List (Am×V)}{kts:List (Am×Tn)}{e1:AS}{t:Tn},kvs.map (·.1)=kts.map (·.1)->aX K G H (kvs.map (·.2)) (kts.map (·.2)) e1->Bs kts k=some t->∃v S1,Cf kvs k=some v/\Ow K G H v t S1/\(∀b,S1 b->e1 b)/\∀{O:Hp}{t':Tn},(∀b o,e1 b->¬S1 b->H b=some o->O b=some o)->Ow K G O v t' S1->aX K G O (kvs.map (·.2)) ((Cd kts k t').map (·.2)) e1|[],[],_,_,_,_,e=>by cases e|[],_::_,_,_,e,_,_=>by simp at e|_::_,[],_,_,e,_,_=>by simp at e|(x,v)::kvs,(y,t0)::kts,e1,t,e,r,h=>by simp only[B6,U9]at e;obtain⟨S,e2⟩:=e;subst S;cases r with|cons hh r dj s1 s2=>rename_i S1 S2;by_cases q:x=k;have a2:Bs ((x,t0)::kts) k=some t0:=(by unfold Bs;rw[P1 (by simpa using q)];rfl);rw[a2]at h;cases h;refine⟨v,S1,kY q,hh,s1,λ{O t'} f h'=>?_⟩;unfold Cd;rw[if_pos q];exact .cons h' (r.mono (aA.refl _) (λb o J z=>f b o (s2 b J) (λw=>dj b w J) z) λ_ z=>z) dj s1 s2;have a2:Bs ((x,t0)::kts) k=Bs kts k:=(by unfold Bs;rw[P2 (by simpa using q)]);rw[a2]at h;obtain⟨v',S',S,h',i',f'⟩:=aX.cZ k e2 r h;refine⟨v',S',by rw[kE q];exact S,h',λb z=>s2 b (i' b z),λ{O t'} f h2=>?_⟩;unfold Cd;rw[if_neg q];exact .cons (hh.mono (aA.refl _) (λb o J z=>f b o (s1 b J) (λw=>dj b J (i' b w)) z) λ_ z=>z) (f' (λb o J nb z=>f b o (s2 b J) nb z) h2) dj s1 s2
end
def Sl.tree:Sl->Option (Tn×Bool)|.ow d=>some (Tn.of d,false)|.tr t=>some (t,false)|.lt t=>some (t,true)|_=>none
def Sl.mk(b:Bool)(t:Tn):Sl:=if b then .lt t else .tr t
def Sl.bC{s:Sl}{t:Tn}{b:Bool}(e:s.tree=some (t,b)):s.own=some t:=by cases s<;>first|(cases e;rfl)|cases e
def Sl.fM(b:Bool)(t:Tn):(Sl.mk b t).own=some t:=by cases b<;>rfl
def Sl.kM(b:Bool)(t:Tn):∀d,Sl.mk b t≠.lk d:=by intro d;cases b<;>(intro z;cases z)
def Ev.kL{H0:HB}{G0 G H:Hp}{Y:Sg}{B:SE}{H':OS}(E:Ev K H0 G0 G H Y B H'){i:Nat}{s:Sl}{t:Tn}{b:Bool}(e:B[i]?=some s)(q:s.tree=some (t,b))(t':Tn):∀d,Sl.mk b t'=.lt d->Y[i]?=some (some (.ref (H0.b i))):=by intro d z;cases b with|false=>cases z|true=>cases s with|lt t0=>exact E.lt i t0 e|_=>cases q
def Ev.fN{H0:HB}{G0 G H:Hp}{Y:Sg}{B:SE}{H':OS}(E:Ev K H0 G0 G H Y B H'){i:Nat}{s:Sl}{t t':Tn}{b:Bool}{a:Addr}{o:HO}(e:B[i]?=some s)(q:s.tree=some (t,b))(s1:Y[i]?=some (some v))(m:H' i a)(t1:Ow K G (upd H a o) v t' (H' i)):Ev K H0 G0 G (upd H a o) Y (B.set i (Sl.mk b t')) (Gb H' i (H' i)):=
 have ms:=bS.write E.st.gh m (E.out i a m).1 o
 E.dB (Sl.fM b t') (Sl.kM b t') (E.kL e q t') ms.weak s1 (λb J=>⟨.inl J,(E.out i b J).1,ms.al b (E.out i b J).2.2⟩) t1
def Ow.cD{G H:Hp}{kts:List (Am×Tn)}{e1:AS}(t:Ow K G H v (.aF kts) e1):∃a kvs S1,v=.ref a/\e1 a/\H a=some (.dK kvs)/\kvs.map (·.1)=kts.map (·.1)/\(∀b,S1 b->e1 b/\b≠a)/\aX K G H (kvs.map (·.2)) (kts.map (·.2)) S1:=by cases t with|aF h hk ha sub r=>exact⟨_,_,_,rfl,ha,h,hk,sub,r⟩
section
variable{X:Cx}{EX:Be}{pos:Pos}
def nV(i:Nat)(f1 f2 fe:FE):FS:=λ B=>match(B[i]?).bind Sl.tree with|some (.aF kts,lk)=>(match fe (Ay B)with|.ok w=>(match f1 (At B)with|.ok z1=>(match Fm z1.d with|some k1=>(match Bs kts k1 with|some (.aF CJ)=>(match qi CJ with|some aL=>(match f2 (At B)with|.ok z2=>(match Fm z2.d with|some k2=>if aL.length<16777216 then .nx (B.set i (Sl.mk lk (.aF (Cd kts k1 (Tn.of (.aF (Cs aL k2 w.d))))))) else .no|none=>.no)|_=>.no)|none=>.no)|_=>.no)|none=>.no)|_=>.no)|_=>.no)|_=>.no
def YS{i:Nat}{x:Str}{e S e2:Expr}{fe f1 f2:FE}{p1 p2 zh pos:Pos}(hu:X.A.units+64<cLine)(he:ED X EX e fe)(h1:ED X EX S f1)(h2:ED X EX e2 f2)(hN:X.N[i]?=some x:=by rfl)(hv:Ff X.env.scope x:=by trivial)(hd:AG x:=by decide)(bI:(x ==("__classdict__" :Str))=false:=by decide) (vA:pv S:=by intro _ _;rfl) (hs:swapsWith e (some (.Subscript (.Subscript (.Name x p1) S p2) e2 zh)) pos.line X.env=pure false:=by rfl):SD X EX (.Assign [.Subscript (.Subscript (.Name x p1) S p2) e2 zh] e pos) (nV i f1 f2 fe):=PS.imp (xK () (xM () (Fp hN hv hd bI) h1 vA) h2 he hs) λD Y H ⟨H0,G0,G,B,H',E,q⟩=>by
  unfold nV at q;split at q;rename_i kts lk e0;obtain⟨s,S,dU⟩:=M9.mp e0;obtain⟨v0,s1,t⟩:=E.ow i _ _ S (Sl.bC dU);obtain⟨a,kvs,S1,rfl,m,hH,hk,sub,rl⟩:=t.cD;refine⟨G,Ay B,E.st.gh,E.eA,?_⟩;cases e2:fe (Ay B)with|ex x=>simp only[e2]at q;exact q.elim|no=>simp only[e2]at q;exact q.elim|ok w=>simp only[e2]at q;refine WP.intro λv G' O st r=>?_;have E2:=E.grow st;refine⟨.ref a,s1,Fa G' O H',At B,E2.aH,E2.bZ,?_⟩;cases e3:f1 (At B)with|ex x=>simp only[e3]at q;exact q.elim|no=>simp only[e3]at q;exact q.elim|ok z1=>simp only[e3]at q;refine WP.intro λv1 G1 H1 bH r1=>?_;split at q;rename_i k1 vG;split at q;rename_i CJ ev;split at q;rename_i aL eu;have vy:=mO r1 vG;subst vy;have E3:=E2.keep bH.hh;obtain⟨vb,iP,t3⟩:=E3.ow i _ _ S (Sl.bC dU);obtain⟨a',cf,Te,ea,m',lj,iU,bg,Qs⟩:=t3.cD;rw[s1]at iP;cases iP;cases ea;obtain⟨vc,Sc,ec,tc,ic,fc⟩:=aX.cZ k1 iU Qs ev;have uV:=tc;rw[yc eu]at uV;obtain⟨c,ug,rfl,mc,Pp,Pj,Qr⟩:=Ow.fO (aL:=aL) uV;refine⟨a,.ref c,rfl,?_,?_⟩;exact Or.inl ⟨cf,k1,.inl lj,rfl,ec.symm⟩;refine⟨Fa G' H1 H',At B,E3.aH,E3.bZ,?_⟩;(cases e4:f2 (At B)with|ex x=>simp only[e4]at q;exact q.elim|no=>simp only[e4]at q;exact q.elim|ok z2=>simp only[e4]at q;refine WP.intro λv2 G2 H2 aV r2=>?_;split at q;rename_i k2 RH;split at q;rename_i hl;have vw:=mO r2 RH;subst vw;have E4:=E3.keep aV.hh;have cq:H2 c=some (.dK ug):=aV.hh _ _ Pp;have hle:ug.length=aL.length:=(by have:=K5 List.length Pj;rwa[A4,A4]at this);obtain⟨p1,p2⟩:=IW k2 Pj Qr r;have CY:c≠a:=(bg c (ic c mc)).2;refine⟨c,_,rfl,fK.k cq (by rw[hle,D9];exact hl),q Y G' _ _ (E4.fN S dU s1 (bg c (ic c mc)).1 ?_) st.gg⟩;refine Ow.aF (S1:=Te) (by rw[Ax (Ne.symm CY)];exact aV.hh _ _ lj) (by rw[sY];exact iU) m' bg ?_;refine fc (λb o J nb z=>?_) (Ow.dict Bo p1 mc p2);rw[Ax (show b≠c from λw=>nb (by rw[w];exact mc))];exact aV.hh _ _ z;exact q.elim;exact q.elim);exact q.elim;exact q.elim;exact q.elim
  exact q.elim
end
theorem JY{G:Hp}(k:Am):∀{kvs:List (Am×V)}{aL:List (Am×D)},kvs.map (·.1)=aL.map (·.1)->aB K G (kvs.map (·.2)) (aL.map (·.2))->(Hz kvs k).map (·.1)=(Ge aL k).map (·.1)/\aB K G ((Hz kvs k).map (·.2)) ((Ge aL k).map (·.2))|[],[],_,_=>⟨rfl,.nil⟩|[],_::_,e,_=>by simp at e|_::_,[],e,_=>by simp at e|(x,v)::kvs,(y,d)::aL,e,r=>by simp only[B6,U9]at e;obtain⟨S,e2⟩:=e;subst S;cases r with|cons h r=>obtain⟨i1,i2⟩:=JY k (kvs:=kvs) (aL:=aL) e2 r;by_cases q:x=k;have a1:Hz ((x,v)::kvs) k=Hz kvs k:=abT q;have a2:Ge ((x,d)::aL) k=Ge aL k:=(by unfold Ge;rw[Q1 (by simpa using q)]);rw[a1,a2];exact⟨i1,i2⟩;have a1:Hz ((x,v)::kvs) k=(x,v)::Hz kvs k:=LL q;have a2:Ge ((x,d)::aL) k=(x,d)::Ge aL k:=(by unfold Ge;rw[Q2 (by simpa using q)]);rw[a1,a2];exact⟨by rw[B6,B6,i1],.cons h i2⟩
section
variable{X:Cx}{EX:Be}{pos:Pos}
def rO(i:Nat)(f1 f2:FE):FS:=λ B=>match(B[i]?).bind Sl.tree with|some (.aF kts,lk)=>(match f1 (At B)with|.ok z1=>(match Fm z1.d with|some k1=>(match Bs kts k1 with|some (.aF CJ)=>(match qi CJ with|some aL=>(match f2 (At B)with|.ok z2=>(match Fm z2.d with|some k2=>.nx (B.set i (Sl.mk lk (.aF (Cd kts k1 (Tn.of (.aF (Ge aL k2)))))))|none=>.no)|_=>.no)|none=>.no)|_=>.no)|none=>.no)|_=>.no)|_=>.no
def YR{i:Nat}{x:Str}{S e2:Expr}{f1 f2:FE}{j:Nat}{p1 p2 p3 zg zf pos:Pos}(hu:X.A.units+64<cLine)(h1:ED X EX S f1)(h2:ED X EX e2 f2)(hN:X.N[i]?=some x:=by rfl)(hv:Ff X.env.scope x:=by trivial)(hd:AG x:=by decide)(bI:(x ==("__classdict__" :Str))=false:=by decide) (vA:pv S:=by intro _ _;rfl) (hm:M2 X (.Subscript (.Name x p1) S p2) "pop" zg e2 (.Constant .none j p3) zf:=by exact⟨rfl,rfl,rfl,rfl⟩)(hs:swapsWith (.Call (.Attribute (.Subscript (.Name x p1) S p2) "pop" zg) [e2,.Constant .none j p3] [] zf) none pos.line X.env=pure false:=by rfl):SD X EX (.Expr (.Call (.Attribute (.Subscript (.Name x p1) S p2) "pop" zg) [e2,.Constant .none j p3] [] zf) pos) (rO i f1 f2):=PS.imp (jW (aaG (xM () (Fp hN hv hd bI) h1 vA) h2 HV hm) hs) λD Y H ⟨H0,G0,G,B,H',E,q⟩=>by
  unfold rO at q;split at q;rename_i kts lk e0;obtain⟨s,S,dU⟩:=M9.mp e0;obtain⟨v0,s1,t⟩:=E.ow i _ _ S (Sl.bC dU);obtain⟨a,kvs,S1,rfl,m,hH,hk,sub,rl⟩:=t.cD;refine⟨.ref a,s1,Fa G H H',At B,E.aH,E.bZ,?_⟩;cases e3:f1 (At B)with|ex x=>simp only[e3]at q;exact q.elim|no=>simp only[e3]at q;exact q.elim|ok z1=>simp only[e3]at q;refine WP.intro λv1 G1 H1 bH r1=>?_;split at q;rename_i k1 vG;split at q;rename_i CJ ev;split at q;rename_i aL eu;have vy:=mO r1 vG;subst vy;have E3:=E.keep bH.hh;obtain⟨vb,iP,t3⟩:=E3.ow i _ _ S (Sl.bC dU);obtain⟨a',cf,Te,ea,m',lj,iU,bg,Qs⟩:=t3.cD;rw[s1]at iP;cases iP;cases ea;obtain⟨vc,Sc,ec,tc,ic,fc⟩:=aX.cZ k1 iU Qs ev;have uV:=tc;rw[yc eu]at uV;obtain⟨c,ug,rfl,mc,Pp,Pj,Qr⟩:=Ow.fO (aL:=aL) uV;refine⟨a,.ref c,rfl,Or.inl ⟨cf,k1,.inl lj,rfl,ec.symm⟩,c,rfl,.inl ⟨ug,.inl Pp⟩,?_⟩;refine⟨Fa G H1 H',At B,E3.aH,E3.bZ,?_⟩;(cases e4:f2 (At B)with|ex x=>simp only[e4]at q;exact q.elim|no=>simp only[e4]at q;exact q.elim|ok z2=>simp only[e4]at q;refine WP.intro λv2 G2 H2 aV r2=>?_;split at q;rename_i k2 RH;have vw:=mO r2 RH;subst vw;have E4:=E3.keep aV.hh;have cq:H2 c=some (.dK ug):=aV.hh _ _ Pp;have CY:c≠a:=(bg c (ic c mc)).2;obtain⟨p1,p2⟩:=JY k2 Pj Qr;have fin:∀o:HO,o=.dK (Hz ug k2)->D.nx Y (upd H2 c o):=λo eo=>(by subst eo;refine q Y G _ _ (E4.fN S dU s1 (bg c (ic c mc)).1 ?_) (aA.refl _);refine Ow.aF (S1:=Te) (by rw[Ax (Ne.symm CY)];exact aV.hh _ _ lj) (by rw[sY];exact iU) m' bg ?_;refine fc (λb o J nb z=>?_) (Ow.dict Bo p1 mc p2);rw[Ax (show b≠c from λw=>nb (by rw[w];exact mc))];exact aV.hh _ _ z);refine⟨ug,k2,cq,rfl,λv _=>fin _ rfl,λen=>?_⟩;have:H2=upd H2 c (.dK (Hz ug k2)):=(by rw[Kk (aaF en)];funext b;by_cases z:b=c;rw[z,Bo,cq];rw[Ax z]);show D.nx Y H2;rw[this];exact fin _ rfl;exact q.elim);exact q.elim;exact q.elim;exact q.elim
  exact q.elim
def rN(i:Nat)(f1:FE):FS:=λ B=>match(B[i]?).bind Sl.tree with|some (.aF kts,lk)=>(match f1 (At B)with|.ok z1=>(match Fm z1.d with|some k1=>if(Bs kts k1).isSome then .no else if kts.length<16777216 then .nx (B.set i (Sl.mk lk (.aF (kts++[(k1,.aF [])])))) else .no|none=>.no)|_=>.no)|_=>.no
def YQ{i:Nat}{x:Str}{S:Expr}{f1:FE}{p1 p2 zh pos:Pos}(hu:X.A.units+64<cLine)(h1:ED X EX S f1)(hN:X.N[i]?=some x:=by rfl)(hv:Ff X.env.scope x:=by trivial)(hd:AG x:=by decide)(bI:(x ==("__classdict__" :Str))=false:=by decide) (hs:swapsWith (.Dict [] [] p2) (some (.Subscript (.Name x p1) S zh)) pos.line X.env=pure false:=by rfl):SD X EX (.Assign [.Subscript (.Name x p1) S zh] (.Dict [] [] p2) pos) (rN i f1):=PS.imp (xK () (Fp hN hv hd bI) h1 Kl hs) λD Y H ⟨H0,G0,G,B,H',E,q⟩=>by
  unfold rN at q;split at q;rename_i kts lk e0;obtain⟨s,S,dU⟩:=M9.mp e0;intro p hp;have E1:=E.keep (iV hp (.dK []));obtain⟨v0,s1,t⟩:=E1.ow i _ _ S (Sl.bC dU);obtain⟨a,kvs,S1,rfl,m,hH,hk,sub,rl⟩:=t.cD;refine⟨.ref a,s1,Fa G (upd H p (.dK [])) H',At B,E1.aH,E1.bZ,?_⟩;cases e3:f1 (At B)with|ex x=>simp only[e3]at q;exact q.elim|no=>simp only[e3]at q;exact q.elim|ok z1=>simp only[e3]at q;refine WP.intro λv1 G1 H1 bH r1=>?_;split at q;rename_i k1 vG;split at q;exact q.elim;rename_i CQ;split at q;rename_i hl;have vy:=mO r1 vG;subst vy;have E3:=E1.keep bH.hh;have hH1:H1 a=some (.dK kvs):=bH.hh _ _ hH;have vz:H1 p=some (.dK []):=bH.hh _ _ Bo;have hle:kvs.length=kts.length:=(by have:=K5 List.length hk;rwa[A4,A4]at this);have CC:∀j b,H' j b->b≠p:=λj b J z=>(E.out j b J).2.2 (by rw[z];exact hp);have mI:a≠p:=CC i a m;refine⟨a,_,rfl,fK.k hH1 (by rw[hle,D9];exact hl),?_⟩;have dh:(kvs.any λkv=>decide (kv.1=k1))=false:=(by rw[yd k1 hk];cases h:kts.any λkv=>decide (kv.1=k1)with|false=>rfl|true=>exfalso;apply CQ;unfold Bs;rw[Q0,List.find?_isSome];exact T5.mp h);have cu:Gq kvs k1 (.ref p)=kvs++[(k1,.ref p)]:=(by rw[xG];unfold Cs;rw[dh];rfl);rw[cu];have Gp:G p=none:=E.st.gh.free hp;have old:∀b o,H b=some o->H1 b=some o:=λb o z=>bH.hh _ _ (iV hp _ b o z);have ms:dM (H' i) G H G (upd H1 a (.dK (kvs++[(k1,.ref p)]))):=⟨λb o nb z=>by rw[Ax (λw=>nb (by rw[w];exact m))];exact old b o z,λb o z=>by have:b≠a:=λw=>(by rw[w,(E.out i a m).1]at z;cases z);rw[Ax this];exact old b o (E.st.gh b o z),aA.refl _,λb _ z _=>z⟩;refine q Y G _ _ (E.dB (e1:=λb=>H' i b\/b=p) (Sl.fM lk _) (Sl.kM lk _) (E.kL S dU _) ms s1 (λb J=>?_) ?_) (aA.refl _);rcases J with J|J;refine⟨.inl J,(E.out i b J).1,?_⟩;by_cases w:b=a;rw[w,Bo];simp;rw[Ax w];(cases e:H b with|none=>exact absurd e (E.out i b J).2.2|some o=>rw[old b o e];simp);subst J;exact⟨.inr hp,Gp,by rw[Ax (Ne.symm mI),vz];simp⟩;refine Ow.aF (S1:=λb=>S1 b\/b=p) Bo (by rw[B9,B9,hk];rfl) (.inl m) (λb J=>?_) ?_;rcases J with J|J;exact⟨.inl (sub b J).1,(sub b J).2⟩;subst J;exact⟨.inr rfl,Ne.symm mI⟩;rw[B9,B9];refine aX.append (S2:=λb=>b=p) (rl.mono (aA.refl _) (λb o J z=>?_) λ_ z=>z) (.cons (S1:=λb=>b=p) (S2:=λ_=>False) (.aF (S1:=λ_=>False) (by rw[Ax (Ne.symm mI)];exact vz) rfl rfl (λ_ z=>z.elim) .nil) .nil (λ_ _ z=>z) (λ_ z=>z) λ_ z=>z.elim) (λb z1 z2=>CC i b (sub b z1).1 z2) (λb z=>.inl z) λb z=>.inr z;rw[Ax (sub b J).2];exact bH.hh _ _ z;exact q.elim;exact q.elim
  exact q.elim
end
def kD:Am->D|.inl i=>.int i|.inr x=>.str x
def wI{G:Hp}(k:Am):aP K G (kV k) (kD k):=by cases k<;>constructor
theorem IV{G:Hp}:∀L:List Am,aB K G (L.map kV) (L.map kD)|[]=>.nil|k::L=>.cons (wI k) (IV L)
def wt{P:Program}{w:World}{k:Am}{u:Value}(h:(Gm P w).is k u=true):RelV (kV k) u:=by rcases pY h with⟨i,t,rfl,rfl⟩|⟨x,t,rfl,rfl⟩;exact⟨t,rfl⟩;exact⟨t,rfl⟩
theorem yw{P:Program}{w:World}:∀{kvs:List (Am×V)}{vs:List (Am×Value)}{us:List Value},KV kvs vs->us.length=vs.length->(∀(j:Nat) v,us[j]?=some v->∃k x,vs[j]?=some (k,x)/\(Gm P w).is k v=true)->Vals ((kvs.map (·.1)).map kV) us|[],vs,us,r,hl,_=>by have:=r.length;simp at this;have:us=[]:=U3 ();subst this;exact .nil|(k,v)::kvs,vs,us,r,hl,h=>by cases r with|cons h1 r=>rename_i q vs;obtain⟨k',x⟩:=q;cases us with|nil=>simp at hl|cons u us=>obtain⟨k2,x2,e,i⟩:=h 0 u rfl;have e:(k',x)=(k2,x2):=(by simpa using e);cases e;have S:k=k':=h1.1;subst S;exact .cons (wt i) (yw r (by simpa using hl) λj v e=>by obtain⟨a,b,c,d⟩:=h (j+1) v (by simpa using e);exact⟨a,b,by simpa using c,d⟩)
section
variable{X:Cx}{EX:Be}{pos:Pos}
def wq:List D->R W|[.aF kvs]=>.ok (.ow (.lst (kvs.map λp=>kD p.1)))|_=>.no
def acR(hc:X.calm=true):ki X (.type "list") wq:=by intro Z s Y H vs us Q I rv q;obtain⟨EX,G,M,g,r,o⟩:=q;cases r with|nil=>exact False.elim o|cons h t=>cases h with|aF h hk r=>(cases t with|cons _ _=>exact False.elim o|nil=>rename_i kvs aL;obtain⟨u,rfl,ru⟩:=rv.one;cases ru;obtain⟨z,lo,ws,kv,dd⟩:=Fv I.aJ (aA.mG g h);obtain⟨ep,da⟩:=dd.dictAt;refine kdl_call (kdl_dict lo) (I.ok.hd hc) da (by rw[<-kv.length];exact z) λh' tk zm c kk nh it=>?_;have jm:Vals ((kvs.map (·.1)).map kV) zm.toList:=yw kv (by rw[M4];exact it.1) λj v e=>it.2 j v (by rw[<-V1];exact e);have fr:=I.aJ.fresh (A9 _);refine⟨.ref _,upd H _ (.lst _),I.laid (t':=tk) kk (A9 _) ⟨?_,zm.toList,c,jm,by simpa using nh⟩,rfl,?_⟩;rw[A4,A4];exact z;have e:(aL.map λp=>kD p.1)=(kvs.map (·.1)).map kD:=(by rw[hk,D1];rfl);have o':Out X.K EX G H (.ok (.ow (.lst ((kvs.map (·.1)).map kD)))) Q:=(by rw[<-e];exact o);exact qh o' g (IV _) _ fr)|_=>exact False.elim o
def vQ:List D->R W|[.aF kvs]=>(match kvs with|[(.inl i,_)]=>.ok (.sh (.int i))|_=>.no)|_=>.no
def abF(hc:X.calm=true):ki X (.builtin "min") vQ:=by intro Z s Y H vs us Q I rv q;obtain⟨EX,G,M,g,r,o⟩:=q;cases r with|nil=>exact False.elim o|cons h t=>cases h with|aF h hk r=>(cases t with|cons _ _=>exact False.elim o|nil=>rename_i kvs aL;cases aL with|nil=>exact False.elim o|cons p aL=>obtain⟨k,d⟩:=p;cases k with|inr x=>exact False.elim o|inl i=>cases aL with|cons _ _=>exact False.elim o|nil=>obtain⟨u,rfl,ru⟩:=rv.one;cases ru;obtain⟨z,lo,ws,kv,dd⟩:=Fv I.aJ (aA.mG g h);obtain⟨ep,da⟩:=dd.dictAt;have pS:∃x,ws=[(.inl i,x)]:=(by have S:=kv.keys;rw[hk]at S;cases ws with|nil=>simp at S|cons q ws=>cases ws with|cons _ _=>simp at S|nil=>obtain⟨k',x⟩:=q;have:(.inl i:Am)=k':=(by simpa using S);subst this;exact⟨x,rfl⟩);obtain⟨x,rfl⟩:=pS;obtain⟨oI,St,hit,W,st⟩:=(kdl_dict (knd:=Gm X.prog X.w) lo).iter X.A.in1 s (I.ok.hd hc) da;refine call_min_walk (hit _ _ ⟨_,_,_,_,_,_,λa b=>decide ((λ_=>i) a<(λ_=>i) b),rfl,W,st,λb J=>?_,Nat.zero_lt_one,CmpOf.ints_lt (λ_=>i) (λj v hj=>?_),λv h' tk hP iU=>?_⟩);show b<(s.heap.push oI).objs.size;rw[N7];rcases C5.mp J with e|J;rw[e];exact Q8 _;rw[E7.mp J];exact X1 da.lt_size;obtain⟨k,y,S,e2⟩:=hj;(cases j with|zero=>cases S;exact wt e2|succ j=>simp at S);obtain⟨k,y,S,e2⟩:=hP;have S:((.inl i,x):Am×Value)=(k,y):=(by simpa[argBest] using S);cases S;obtain⟨t,rfl⟩:=wt e2;have old:∀b o,s.heap.get? b=some o->h'.get? b=some o:=λb o e=>iU b o (λhm=>absurd (B2 e) (by rw[E7.mp hm];exact F3 _)) (A5 _ e);exact⟨.int i,H,I.kept (t':=tk) old,⟨t,rfl⟩,Cw o g (.int _)⟩)|_=>exact False.elim o
end
def acQ(l b:Addr)(xs ys:Array Value)(n m:Nat)(dd:Option Addr)(sl:Array (Option Value))(h0:¬(!xs.isEmpty&&Builtin.List.listTooLong (xs.size+ys.size))=true)(h1:xs.size<=sizeLine)(h2:xs.size+ys.size<=sizeLine+1):Meets (Builtin.«list.extend» ⟨[.ref l,.ref b],[]⟩) (λ_ R s=>s.heap.get? l=some {cls:=.type "list",data:=.seq xs n}/\s.heap.get? b=some ⟨.type "tuple",dd,.seq ys m,sl⟩/\R (.ok (.ret Value.none)) {s with heap:=s.heap.update l (Obj.mapSeq λz=>z++ys),toks:=s.toks}):=.of_wp λprog w A R s h=>by
  obtain⟨hp,g,d,tk,os⟩:=s;obtain⟨ha,hc,h⟩:=h;have g1:=AutoSeq1.idx_int;have g2:=AutoSeq1.sub_tuple_tuple;have g3:=AutoSeq1.sub_list_list;have g4:=AutoSeq1.sub_tuple_list;have g5:=AutoSeq1.sub_list_tuple;have hz:(xs++ys).size<=sizeLine+1:=by rw[Array.size_append];exact h2
  wp_walk using(wpAny_updateSeq ha rfl (hz:=h1) (_hz':=hz)),ZE4 ha,ZE4 hc;exact⟨_,rfl,h⟩
section
variable{X:Cx}{EX:Be}{pos:Pos}
def Vf(K:Frag):V->List V->Hp->VK->Prop:=λx vs H Q=>∃l b xs zs,x=.ref l/\vs=[.ref b]/\H l=some (.lst xs)/\cQ K H b zs/\xs.length+zs.length<=sizeLine/\Q .aK (upd H l (.lst (xs++zs)))
def YO:Tg X "list.extend" (Vf X.K):=by
 intro Z s Y H x vs v us Q I rx rv h;obtain⟨l,b,xs,zs,rfl,rfl,hH,hB,hz,q⟩:=h;cases rx;obtain⟨u,rfl,ru⟩:=rv.one;cases ru;obtain⟨z,its,n,r,hl,e⟩:=I.rj hH;obtain⟨gO,r2,⟨o,e2,c2,n2,dat⟩,z2⟩:=I.tuple hB;have QV:=r2.length;obtain⟨cls,dd,data,sl⟩:=o;simp only at c2 dat;subst c2 dat;have hsz:its.toArray.size+gO.toArray.size<=sizeLine:=by rw[C1,C1];lia
 have bf:¬(!its.toArray.isEmpty&&Builtin.List.listTooLong (its.toArray.size+gO.toArray.size))=true:=by rw[Kp hsz,Bool.and_false];simp
 refine EL ZB7 ⟨_,e,rfl⟩ PySem.F.entry_list_extend (PySem.F.args_list_extend_2 _ _) (acQ l b its.toArray gO.toArray n n2 dd sl bf (by rw[C1];lia) ()) ⟨e,e2,?_⟩;refine⟨.aK,_,I.vS (its':=its++gO) hH e (by simp) (r.append r2) ?_,rfl,q⟩;rw[A6];lia
def qU(i:Nat)(f:FE):FS:=λ B=>match B[i]? with|some (.ow (.lst M))=>(match f (Ay B)with|.ok w=>(match w.d with|.tup es=>if M.length+es.length<=16777216 then .nx (B.set i (.ow (.lst (M++es)))) else .no|_=>.no)|_=>.no)|_=>.no
def Ws{i:Nat}{x:Str}{e:Expr}{f:FE}{p1 zg zf:Pos}(he:ED X EX e f)(hN:X.N[i]?=some x:=by rfl)(hv:Ff X.env.scope x:=by trivial)(hd:AG x:=by decide)(bI:(x ==("__classdict__" :Str))=false:=by decide) (pU:swapsWith (.Call (.Attribute (.Name x p1) "extend" zg) [e] [] zf) none pos.line X.env=pure false:=by rfl)(af:attributeBase (.Name x p1) "extend" X.env (eval (.Name x p1) X.env)=eval (.Name x p1) X.env:=by rfl)(az:((backTo zf (starEach [e] X.env)).all (λx=>!x.1)&&(backToKw zf (keywordEach [] X.env)).all (λx=>x.1.isSome)&&decide ([e].length+([]:List Keyword).length+(if([]:List Keyword).isEmpty then 0 else 1)<30))=true:=by rfl)(ae:(zg.endLine ==zf.line)=true:=by rfl) (hs:starEach [e] X.env=(false,eval e X.env)::starEach [] X.env:=by rfl) (aa:(backTo zf (starEach [] X.env)).any (·.1)=false:=by rfl):SD X EX (.Expr (.Call (.Attribute (.Name x p1) "extend" zg) [e] [] zf) pos) (qU i f):=PS.imp (jW (rS T6 ZB7 PySem.F.type_list_extend YO (Fp hN hv hd bI) (Hi he jq hs) af az ae hs aa) pU) λD Y H ⟨H0,G0,G,B,H',E,q⟩=>by
  unfold qU at q;split at q;rename_i M S;obtain⟨v0,s1,t⟩:=E.ow i _ _ S rfl;obtain⟨a,vs,rfl,m,hH,rl⟩:=t.bY;refine⟨.ref a,s1,.inl ⟨rfl,_,bQ.of hH⟩,G,Ay B,E.st.gh,E.eA,?_⟩;cases e2:f (Ay B)with|ex x=>simp only[e2]at q;exact q.elim|no=>simp only[e2]at q;exact q.elim|ok w=>simp only[e2]at q;refine WP.intro λv G' O st r=>?_;revert q r;cases w.d with|tup es=>intro q r;simp only at q;split at q;rename_i hz;(cases r with|tup h r=>exact⟨a,_,vs,_,rfl,rfl,st.hh _ _ hH,aA.tupS st.gh h,by rw[rl.length,r.length,D9];exact hz,q Y G' _ _ ((E.grow st).dJ s1 m ((rl.mono st.gg).append r)) st.gg⟩);exact q.elim|_=>intro q _;exact False.elim q
  exact q.elim
def gZ(i j:Nat):FS:=λ B=>match B[j]? with|some (.ow (.lst M))=>(match M[M.length-1]? with|some d=>.nx ((B.set j (.ow (.lst M.dropLast))).set i (.sh d))|none=>.no)|_=>.no
theorem aB.dropLast{G:Hp}{vs:List V}{M:List D}(h:aB K G vs M):aB K G vs.dropLast M.dropLast:=by rw[List.dropLast_eq_take,List.dropLast_eq_take,h.length];exact h.take _
def IU{i j:Nat}{x y:Str}{p1 p2 zg zf:Pos}(hN:X.N.Nodup)(hi:X.N[i]?=some x:=by rfl)(hx:Loc X.env.scope x:=by trivial)(hj:X.N[j]?=some y:=by rfl)(hv:Ff X.env.scope y:=by trivial)(hd:AG y:=by decide)(bI:(y ==("__classdict__" :Str))=false:=by decide) (hs:swapsWith (.Call (.Attribute (.Name y p1) "pop" zg) [] [] zf) (some (.Name x p2)) pos.line X.env=pure false:=by rfl)(hf:X.fn x=true\/X.env.scope.names.lookup x=some .local:=by trivial)(af:attributeBase (.Name y p1) "pop" X.env (eval (.Name y p1) X.env)=eval (.Name y p1) X.env:=by rfl) (ae:(zg.endLine ==zf.line)=true:=by rfl):SD X EX (.Assign [.Name x p2] (.Call (.Attribute (.Name y p1) "pop" zg) [] [] zf) pos) (gZ i j):=PS.imp (oB hN hi hx (WO T6 PySem.F.slot_list_pop PySem.F.type_list_pop WN (Fp hj hv hd bI) af ae) hs hf) λD Y H ⟨H0,G0,G,B,H',E,q⟩=>by unfold gZ at q;split at q;rename_i M S;obtain⟨v0,s1,t⟩:=E.ow j _ _ S rfl;obtain⟨a,vs,rfl,m,hH,rl⟩:=t.bY;split at q;rename_i d e2;rw[<-rl.length]at e2;obtain⟨v,e3,hv⟩:=rl.get e2;exact⟨.ref a,s1,.inl ⟨rfl,_,bQ.of hH⟩,a,vs,v,rfl,rfl,hH,e3,q _ G _ _ ((E.dJ s1 m rl.dropLast).put hv) (aA.refl _)⟩;exact q.elim;exact q.elim
theorem aB.eraseIdx{G:Hp}:∀{vs:List V}{M:List D}(n:Nat),aB K G vs M->aB K G (vs.eraseIdx n) (M.eraseIdx n)|_,_,_,.nil=>.nil|_,_,0,.cons _ r=>r|_,_,n+1,.cons h r=>.cons h (aB.eraseIdx n r)
def lM(i:Nat)(f:FE):FS:=λ B=>match f (At B)with|.ok (.ow (.lst M))=>if M.all Av=true then .nx (B.set i (.ow (.lst M))) else .no|_=>.no
theorem aB.jB{G G':Hp}:∀{vs:List V}{M:List D},aB K G vs M->M.all Av=true->aB K G' vs M|_,_,.nil,_=>.nil|_,_,.cons h r,f=>by rw[Q6,C6]at f;exact .cons (h.jB f.1) (aB.jB r f.2)
def IT{i:Nat}{x:Str}{e:Expr}{f:FE}{pos':Pos}(he:ED X EX e f)(hN:X.N.Nodup)(hi:X.N[i]?=some x:=by rfl)(hx:Loc X.env.scope x:=by trivial)(hs:swapsWith e (some (.Name x pos')) pos.line X.env=pure false:=by rfl)(hf:X.fn x=true\/X.env.scope.names.lookup x=some .local:=by trivial):SD X EX (.Assign [.Name x pos'] e pos) (lM i f):=PS.imp (oB hN hi hx he hs hf) λD Y H ⟨H0,G0,G,B,H',E,q⟩=>by unfold lM at q;refine⟨Fa G H H',At B,E.aH,E.bZ,?_⟩;split at q;rename_i M S;split at q;rename_i fl;rw[S];intro v e1 G' O st fr t;obtain⟨a,vs,rfl,m,hH,rl⟩:=t.bY;have nG:G a=none:=E.st.gh.free (fr a m).1;refine q _ G O _ ((E.keep st.hh).lz (e1:=λb=>b=a) (λb J=>?_) rfl (λ_ z=>by cases z) (Ow.list hH rfl (rl.jB fl)) λj b hj J=>?_) (aA.refl _);subst J;exact⟨E.st.hh.free (fr b m).1,nG,by rw[hH];simp⟩;subst J;exact(E.out j b hj).2.2 (fr b m).1;exact q.elim;exact q.elim
def nU(kvs:List (Am×D))(b c:D):R W:=match Fm b with|some k=>(match Bs kvs k with|some x=>.ok (.sh x)|none=>.ok (.sh c))|none=>.no
def wo(f g h:FE):FE:=λ δ=>(f δ).bind λa=>match a.d with|.aF kvs=>(g δ).bind λb=>(h δ).bind λc=>nU kvs b.d c.d|_=>.no
def YN{o e e2:Expr}{f g h:FE}{zg zf:Pos}(hu:X.A.units+64<cLine)(ho:ED X EX o f)(he:ED X EX e g)(hf:ED X EX e2 h)(hm:M2 X o "get" zg e e2 zf:=by exact⟨rfl,rfl,rfl,rfl⟩):ED X EX (.Call (.Attribute o "get" zg) [e,e2] [] zf) (wo f g h):=PE.imp (aaH () ho he hf hm) λ Y H Q ⟨G,δ,g0,s0,o⟩=>tD.seq g0 s0 o λw v G1 H1 S bH r1 o1=>by revert r1 o1;cases w.d with|aF kvs=>intro r1 o1;(cases r1 with|aF hh hk r=>rename_i a0 kv0;refine⟨_,rfl,.inl ⟨_,aA.mG bH.gh hh⟩,?_⟩;refine tD.seq bH.gh (s0.mono bH.gg) o1 λw2 v2 G2 H2 _ aV r2 o2=>tD.seq aV.gh (s0.mono (bH.gg.trans aV.gg)) o2 λw3 v3 G3 H3 _ fQ r3 o3=>?_;unfold nU at o3;split at o3;rename_i k ek;have ev:=mO r2 ek;subst ev;have hg:=aA.mG fQ.gh (aA.mG fQ.gg (aA.mG aV.gg hh));refine⟨_,cM.rd hg,?_⟩;obtain⟨i1,i2⟩:=oJ (K:=X.K) (G:=G3) k hk (r.mono (aV.gg.trans fQ.gg));split at o3;rename_i x ex;obtain⟨u,e5,e6⟩:=i2 x ex;rw[e5];exact Cw o3 fQ.gh e6;rename_i ex;have:Cf kv0 k=none:=(by cases q:Cf kv0 k with|none=>rfl|some u=>rw[q]at i1;unfold Dg at i1;rw[ex]at i1;cases i1);rw[this];exact Cw o3 fQ.gh r3;exact o3.elim)|_=>intro _ o1;exact False.elim o1
end
def rZ(n:Nat)(M:List D)(t:Tn):SE:=(Bh n M).set M.length (.lt t)
def nS(n:Nat)(g:FS)(M:List D)(t:Tn):Option Tn:=match g (rZ n M t)with|.nx B=>(match B[M.length]? with|some (.lt t')=>some t'|_=>none)|_=>none
def BK(K:Frag)(n:Nat)(F:List D->Tn->Option Tn):Sp:=λvs H Q _=>∃dZ a0,vs=dZ++[.ref a0]/\dZ.length=n/\∃G M t e1 t',aA G H/\aB K G dZ M/\Ow K G H (.ref a0) t e1/\(∀a,e1 a->G a=none/\H a≠none)/\F M t=some t'/\∀G' O S',dM e1 G H G' O->(∀a,S' a->(e1 a\/H a=none)/\G' a=none/\O a≠none)->Ow K G' O (.ref a0) t' S'->Q .aK O
def abE{G H h0:Hp}{vs us:List V}{M:List D}{N:List Str}{b:Nat->Addr}(g:aA G H)(i0:aA h0 H)(r:aB K G vs M)(hl:(vs++us).length<=N.length):Ev K ⟨h0,b⟩ G G H (Gg N (vs++us)) (Bh N.length M) (λ_ _=>False):=by
 have key:∀(i:Nat) (s:Sl),(Bh N.length M)[i]?=some s->(∃d,s=.sh d/\M[i]?=some d)\/s=.no:=λi s e=>by unfold Bh at e;by_cases hi:i<M.length;rw[C7 (by rw[A4];exact hi),B3]at e;obtain⟨d,S,e2⟩:=F0.mp e;exact .inl ⟨d,e2.symm,S⟩;rw[D7 (by rw[A4];lia),J6]at e;split at e;cases e;exact .inr rfl;cases e
 refine⟨⟨i0,g,aA.refl _,λ_ n _=>n⟩,?_,λi d e=>?_,λi z d e zo=>?_,λ_ _ ha=>ha.elim,λ_ _ _ ha=>ha.elim,λi d e=>?_,λi d e=>?_⟩;unfold Gg Bh;have:=r.length;simp only[A6,A4,M6]at hl⊢;lia;rcases key i _ e with⟨d',q,q2⟩|q;cases q;obtain⟨v,S,h⟩:=r.get q2;refine⟨v,?_,h⟩;unfold Gg;have hi:i<vs.length:=(A7.mp S).1;rw[C7 (by rw[A4,A6];lia),B3,C7 hi,S];rfl;cases q;rcases key i _ e with⟨d',q,_⟩|q<;>(subst q;cases zo);rcases key i _ e with⟨d',q,_⟩|q<;>cases q;rcases key i _ e with⟨d',q,_⟩|q<;>cases q
open Classical in
def UA{c:Bool}{P:Program}{w:World}{x qual:Str}{st:Stmt}{f:Addr}{N ps:List Str}{k n:Nat}{g:FS}(F:aY K x qual st f fd)(e1:aS N ps (Bt st))(hn:ps.length=n+1)(hle:ps.length<=N.length)(zj:∀(zn:Value) (A:Around) (outer:List Env) (s:Shared) (H:Hp) (E:XK),aC c k (A.deeper (envOfC qual (Bt st) s.heap.objs.size f zn))->BD (Fb c P w K mg base N qual (Bt st) f zn A outer s H E) (λ_=>bK K E) (Fg st) g):bF P w K mg base c (k+1) f fd ps (BK K n (nS N.length g)):=by
 refine aY.BS F e1 (λvs H Q E h=>?_) λzn A outer s H vs Q E hr h=>⟨_,zj zn A outer s H E hr,?_⟩;obtain⟨dZ,a0,rfl,hl,_⟩:=h;rw[A6,hl,hn];rfl;obtain⟨dZ,a0,rfl,hl,G,M,t,S0,t',g0,r,tw,out,ef,q⟩:=h;have i0:aA (λb=>if S0 b then none else H b) H:=λb o e=>by simp only at e;split at e;cases e;exact e
 have E0:=abE (N:=N) (b:=λ_=>a0) (us:=[.ref a0]) g0 i0 r (by rw[A6,hl];show n+1<=_;lia);have zk:M.length=n:=by rw[<-r.length];exact hl
 have hs:(Gg N (dZ++[.ref a0]))[M.length]?=some (some (.ref a0)):=by unfold Gg;rw[C7 (by rw[A4,A6,hl,zk];exact Q8 _),B3,D7 (by rw[hl,zk];exact A9 _),hl,zk,Z7];rfl
 have E1:=E0.lz (i:=M.length) (z:=.lt t) (e1:=S0) (λa ha=>⟨by simp only;rw[if_pos ha],(out a ha).1,(out a ha).2⟩) rfl (λ_ z=>by cases z) tw (λj a ha=>ha.elim) (λ_ _=>rfl);rw[uS hs]at E1;refine⟨⟨λb=>if S0 b then none else H b,λ_=>a0⟩,G,G,_,_,E1,?_⟩;unfold nS at ef;have e2:(Bh N.length M).set M.length (.lt t)=rZ N.length M t:=rfl;rw[e2];cases e:g (rZ N.length M t)with|nx B=>rw[e]at ef;simp only at ef;split at ef;rename_i t2 e3;cases ef;intro Y G' O H' E' _;obtain⟨v,s1,t3⟩:=E'.ow _ _ _ e3 rfl;have s2:=E'.lt _ _ e3;rw[s1]at s2;cases s2;refine q G' O (H' M.length) ⟨λb o nb z=>E'.st.hh b o (by simp only;rw[if_neg nb];exact z),E'.st.gh,E'.st.gg,λb nb z1 z2=>E'.st.nw b z1 (by simp only;rw[if_neg nb];exact z2)⟩ (λa ha=>?_) t3;obtain⟨k1,k2,k3⟩:=E'.out _ a ha;refine⟨?_,k1,k3⟩;simp only at k2;split at k2;rename_i z;exact .inl z;exact .inr k2;cases ef|rt w=>rw[e]at ef;cases ef|rv d B=>rw[e]at ef;cases ef|ex x B=>rw[e]at ef;cases ef|bk B=>rw[e]at ef;cases ef|ct B=>rw[e]at ef;cases ef|no=>rw[e]at ef;cases ef
def tB(P:Program)(w:World)(K:Frag)(mg:AB)(base:Heap)(c:Bool)(x:Str)(k n:Nat)(ps:List Str)(F:List D->Tn->Option Tn):Prop:=∃f fd,bF P w K mg base c k f fd ps (BK K n F)/\mg x=some (.ref f)/\keepIn K (.ref f)=true/\Binds K fd ps []
def Wr{c:Bool}{P:Program}{w:World}{x:Str}{st:Stmt}{f:Addr}{ps:List Str}{k n:Nat}{Fn:List D->Tn->Option Tn}(F:aY K x x st f fd)(hm:mg x=some (.ref f))(J:Binds K fd ps [])(ok:bF P w K mg base c k f fd ps (BK K n Fn)):tB P w K mg base c x k n ps Fn:=⟨f,fd,ok,hm,F.kp,J⟩
section
variable{X:Cx}{EX:Be}{e:Expr}{es:List Expr}{x:Str}{pp pos:Pos}{c:Bool}{k k':Nat}{ps:List Str}
def aau{sp:Sp}{ta:TA}{f:Addr}(hr:aC c k' X.A)(lk:Lk X EX)(ok:bF X.prog X.w X.K X.mg X.base c k f fd ps sp)(hm:X.mg x=some (.ref f))(kp:keepIn X.K (.ref f)=true)(J:Binds X.K fd ps [])(ha:PA X (e::es) ta)(hk:k<=k')(hg:Gl X x)(cL:AG x)(he:starEach (e::es) X.env=(false,eval e X.env)::starEach es X.env) (bM:(backTo pos (starEach es X.env)).any (·.1)=false):PE X (.Call (.Name x pp) (e::es) [] pos) (λ Y H Q=>ta Y H λvs H1=>sp vs H1 Q (nz X.K (EX Y))):=by intro Z s Y H Q I q;refine N1 (pJ I hg hm ?_ cL);refine W7 (h₀:=X.base) I.ok.mod.kC kp (Bb (ha pos Z s Y H _ I q) λus s1 ⟨vs,H1,I1,r,q⟩=>⟨I1.bU,?_⟩) he bM;exact oP ok (hr.mono hk) J lk I1 r q
def rY(i:Nat)(F:List D->Tn->Option Tn)(f1 f2:FE):FS:=λ B=>match(B[i]?).bind Sl.tree with|some (.aF kts,lk)=>(match f1 (Ay B)with|.ok w1=>(match f2 (Ay B)with|.ok w2=>(match F [w1.d,w2.d] (.aF kts)with|some t'=>.nx (B.set i (Sl.mk lk t'))|none=>.no)|_=>.no)|_=>.no)|_=>.no
def aat{i:Nat}{y:Str}{S e2:Expr}{f1 f2:FE}{F:List D->Tn->Option Tn}{p3:Pos}(hr:aC c k' X.A)(lk:Lk X EX)(h:tB X.prog X.w X.K X.mg X.base c x k 2 ps F)(h1:ED X EX S f1)(h2:ED X EX e2 f2)(hk:k<=k':=by decide)(hN:X.N[i]?=some y:=by rfl) (hv:Ff X.env.scope y:=by trivial) (hd:AG y:=by decide) (bI:(y ==("__classdict__" :Str))=false:=by decide)(hg:Gl X x:=by rfl) (cL:AG x:=by decide) (jv:starEach [S,e2,.Name y p3] X.env=(false,eval S X.env)::starEach [e2,.Name y p3] X.env:=by rfl) (dO:starEach [e2,.Name y p3] X.env=(false,eval e2 X.env)::starEach [.Name y p3] X.env:=by rfl) (hs3:starEach [.Name y p3] X.env=(false,eval (.Name y p3) X.env)::starEach [] X.env:=by rfl)(bM:(backTo pos (starEach [e2,.Name y p3] X.env)).any (·.1)=false:=by rfl) (pU:swapsWith (.Call (.Name x pp) [S,e2,.Name y p3] [] pos) none pos.line X.env=pure false:=by rfl) {bz:Pos}(dv:swapsWith (.Call (.Name x pp) [S,e2,.Name y p3] [] pos) none bz.line X.env=pure false:=by rfl):SD X EX (.Expr (.Call (.Name x pp) [S,e2,.Name y p3] [] pos) bz) (rY i F f1 f2):=by
 obtain⟨f,fd,ok,hm,kp,J⟩:=h;refine PS.imp (jW (aau hr lk ok hm kp J (Hi h1 (Hi h2 (Hi (Fp hN hv hd bI) jq hs3) dO) jv) hk hg cL jv bM) dv) λD Y H ⟨H0,G0,G,B,H',E,q⟩=>?_;unfold rY at q;split at q;rename_i kts lk e0;obtain⟨s,S,dU⟩:=M9.mp e0;refine⟨G,Ay B,E.st.gh,E.eA,?_⟩;cases q1:f1 (Ay B)with|ex x=>simp only[q1]at q;exact q.elim|no=>simp only[q1]at q;exact q.elim|ok w1=>simp only[q1]at q;refine WP.intro λv1 G1 H1 bH r1=>?_;have E1:=E.grow bH;refine⟨G1,Ay B,E1.st.gh,E1.eA,?_⟩;cases q2:f2 (Ay B)with|ex x=>simp only[q2]at q;exact q.elim|no=>simp only[q2]at q;exact q.elim|ok w2=>simp only[q2]at q;refine WP.intro λv2 G2 H2 aV r2=>?_;have E2:=E1.grow aV;obtain⟨v0,s1,t0⟩:=E2.ow i _ _ S (Sl.bC dU);refine⟨v0,s1,?_⟩;split at q;rename_i t' ef;obtain⟨a0,_,_,rfl,_⟩:=t0.cD;refine⟨[v1,v2],a0,rfl,rfl,G2,[w1.d,w2.d],.aF kts,H' i,t',E2.st.gh,.cons (r1.mono aV.gg) (.cons r2 .nil),t0,λa ha=>⟨(E2.out i a ha).1,(E2.out i a ha).2.2⟩,ef,λG' O S' ms fr t1=>?_⟩;exact q Y G' O _ (E2.dB (Sl.fM lk t') (Sl.kM lk t') (E2.kL S dU t') ms s1 fr t1) ((bH.gg.trans aV.gg).trans ms.gg);exact q.elim
 exact q.elim
def wm(i j:Nat):FS:=λ B=>if i=j then .no else match(B[i]?).bind Sl.tree,(B[j]?).bind Sl.tree with|some (t1,false),some (t2,false)=>.rt (.tr (.tup [t1,t2]))|_,_=>.no
def YM{i j x1:Nat}{x y:Str}{p1 p2 p3:Pos}(hN:X.N[i]?=some x:=by rfl)(hv:Ff X.env.scope x:=by trivial)(hd:AG x:=by decide)(bI:(x ==("__classdict__" :Str))=false:=by decide) (hN2:X.N[j]?=some y:=by rfl) (vw:Ff X.env.scope y:=by trivial) (hd2:AG y:=by decide)(ix:(y ==("__classdict__" :Str))=false:=by decide) (jv:starEach [.Name x p1,.Name y p2] X.env=(false,eval (.Name x p1) X.env)::starEach [.Name y p2] X.env:=by rfl) (dO:starEach [.Name y p2] X.env=(false,eval (.Name y p2) X.env)::starEach [] X.env:=by rfl):SD X EX (.Return (some (.Tuple [.Name x p1,.Name y p2] x1 p3)) pos) (wm i j):=PS.imp (wX (HM (Hi (Fp hN hv hd bI) (Hi (Fp hN2 vw hd2 ix) jq dO) jv))) λD Y H ⟨H0,G0,G,B,H',E,q⟩=>by
  unfold wm at q;split at q;exact q.elim;rename_i kZ;split at q;rename_i t1 t2 S e2;obtain⟨z1,a1,b1⟩:=M9.mp S;obtain⟨z2,a2,b2⟩:=M9.mp e2;obtain⟨v1,s1,w1⟩:=E.ow i _ _ a1 (Sl.bC b1);obtain⟨v2,s2,w2⟩:=E.ow j _ _ a2 (Sl.bC b2);refine⟨v1,s1,v2,s2,by rw[D9];show 2<=_;decide,λp hp=>?_⟩;have np:∀k b,H' k b->b≠p:=λk b J z=>(E.out k b J).2.2 (by rw[z];exact hp);have grow:∀k b o,H' k b->H b=some o->upd H p (.tup [v1,v2]) b=some o:=λk b o J z=>by rw[Ax (np k b J)];exact z
  refine q (.ref p) (λb=>b=p\/H' i b\/H' j b) G _ (E.st.trans (Step.own E.st.gh hp _)) (λa ha=>?_) ?_;rcases ha with ha|ha|ha;subst ha;exact⟨E.st.hh.free hp,E.st.gh.free hp,by rw[Bo];simp⟩;obtain⟨k1,k2,k3⟩:=E.out i a ha;exact⟨k2,k1,by rw[Ax (np i a ha)];exact k3⟩;obtain⟨k1,k2,k3⟩:=E.out j a ha;exact⟨k2,k1,by rw[Ax (np j a ha)];exact k3⟩;refine Ow.tup (S1:=λb=>H' i b\/H' j b) Bo (.inl rfl) (λb J=>⟨.inr J,?_⟩) (.cons (S1:=H' i) (S2:=H' j) (w1.mono (aA.refl _) (grow i) λ_ z=>z) (.cons (S1:=H' j) (S2:=λ_=>False) (w2.mono (aA.refl _) (grow j) λ_ z=>z) .nil (λ_ _ z=>z) (λ_ z=>z) λ_ z=>z.elim) (λb z1 z2=>kZ (E.dj i j b z1 z2)) (λ_ z=>.inl z) λ_ z=>.inr z);rcases J with J|J;exact np i b J;exact np j b J;exact q.elim
end
def aZ(K:Frag)(cs:List Str)(f:Str):Prop:=∀c,cs.contains c=true->∀C,ClsAt K c C->eP K C/\aM K C f
def aZ.nil{f:Str}:aZ K [] f:=λc h=>by cases h
def ClsAt.same{c:Str}{C C':Addr}(a:ClsAt K c C)(b:ClsAt K c C'):C'=C:=by unfold ClsAt at a b;rw[a]at b;injection b with b;injection b with b;injection b with b;exact b.symm
def aZ.one{c:Str}{C:Addr}{cs:List Str}{f:Str}(a:ClsAt K c C)(k:eP K C)(n:aM K C f)(r:aZ K cs f):aZ K (c::cs) f:=λc' h C' a'=>by rw[R1,U8]at h;rcases h with h|h;have e:=N4.mp h;subst e;rw[a.same a'];exact⟨k,n⟩;exact r c' h C' a'
def Ch(cs:List Str)(f:Str)(fo:FE):FE:=λ δ=>(fo δ).bind λw=>match w.d with|.obj c ns vs=>if cs.contains c then(match(ns.zip vs).lookup f with|some d=>.ok (.sh d)|none=>.no) else .no|_=>.no
theorem sA{G:Hp}{f:Str}:∀{ns:List Str}{us:List V}{vs:List D},aB K G us vs->ns.length=us.length->(∀d,(ns.zip vs).lookup f=some d->∃v,(ns.zip us).lookup f=some v/\aP K G v d)/\(ns.contains f=false->(ns.zip us).lookup f=none)
 |[],_,_,_,_=>⟨λd e=>(by cases e),λ_=>rfl⟩|n::ns,[],_,_,e=>by simp at e|n::ns,u::us,_,.cons h r,e=>by
  obtain⟨i1,i2⟩:=sA (f:=f) (ns:=ns) r (by simpa using e);refine⟨λd q=>?_,λq=>?_⟩;rw[List.zip_cons_cons,K9]at q⊢;cases J:f ==n with|true=>simp only[J]at q⊢;cases q;exact⟨u,rfl,h⟩|false=>simp only[J]at q⊢;exact i1 d q
  rw[R1,Bool.or_eq_false_iff]at q;rw[List.zip_cons_cons,K9];simp only[q.1];exact i2 q.2
section
variable{X:Cx}{EX:Be}{e:Expr}{pos:Pos}
def eM{cs:List Str}{f:Str}{fo:FE}(k:aZ X.K cs f)(he:ED X EX e fo)(J:attributeBase e f X.env (eval e X.env)=eval e X.env:=by rfl):ED X EX (.Attribute e f pos) (Ch cs f fo):=PE.imp (WT he J) λ Y H Q ⟨G,δ,g0,s0,o⟩=>tD.seq g0 s0 o λw v G1 H1 _ st r o'=>by revert o' r;cases w.d with|obj c ns vs=>intro r o';simp only at o';split at o';rename_i hc;split at o';rename_i d ed;(cases r with|obj hC hh hl rl=>obtain⟨v1,S,h1⟩:=(sA (f:=f) rl hl).1 d ed;obtain⟨kc,kn⟩:=k c hc _ hC;exact⟨_,_,_,_,v1,rfl,st.gh _ _ hh,kc,kn,S,Cw o' st.gh h1⟩);exact o'.elim;exact o'.elim|_=>intro _ o';exact False.elim o'
end
structure iG(P:Program)(w:World)(K:Frag)(mg:AB)(base:Heap)(cc:Bool)(k n:Nat)(m c:Str)(F:AF):Prop where
 ex:∃C f fd ps,ClsAt K c C/\eP K C/\Meth K C m f/\bF P w K mg base cc k f fd ps (Bj K (n+1) F)/\Binds K fd ps []
def bA(P:Program)(w:World)(K:Frag)(mg:AB)(base:Heap)(cc:Bool)(k n:Nat)(m:Str)(tb:List (Str×(AF))):Prop:=∀c F,tb.lookup c=some F->iG P w K mg base cc k n m c F
def bA.nil{P:Program}{w:World}{cc:Bool}{k n:Nat}{m:Str}:bA P w K mg base cc k n m []:=λc F e=>by cases e
def bF.up{P:Program}{w:World}{c:Bool}{j k:Nat}{f:Addr}{ps:List Str}{sp:Sp}(F:bF P w K mg base c j f fd ps sp)(h:j<=k):bF P w K mg base c k f fd ps sp:=⟨F.len,λA outer s H args us vs Q E hr=>F.run A outer s H args us vs Q E (hr.mono h)⟩
def bA.one{P:Program}{w:World}{cc:Bool}{j k n:Nat}{m c:Str}{F:AF}{tb:List (Str×(AF))}(d:iG P w K mg base cc j n m c F)(hj:j<=k)(r:bA P w K mg base cc k n m tb):bA P w K mg base cc k n m ((c,F)::tb):=λc' F' e=>by rw[K9]at e;cases J:c' ==c with|true=>simp only[J]at e;cases e;have:=N4.mp J;subst this;obtain⟨C,f,fd,ps,a1,a2,a3,a4,a5⟩:=d.ex;exact⟨C,f,fd,ps,a1,a2,a3,a4.up hj,a5⟩|false=>simp only[J]at e;exact r c' F' e
def Dl(m:Str)(n:Nat)(tb:List (Str×(AF)))(fo:FE)(fa:FA):FE:=λ δ=>(fo δ).bind λw=>match w.d with
 |.obj c ns vs=>if ns.contains m then .no else match tb.lookup c with|some F=>(fa δ).bind λM=>if M.length=n then F (.obj c ns vs::M) else .no|none=>.no
 |_=>.no
section
variable{X:Cx}{EX:Be}{e o:Expr}{es:List Expr}{pos zg:Pos}{cc:Bool}{k k' n:Nat}{m:Str}{tb:List (Str×(AF))}{fo:FE}{fa:FA}
def wk(X:Cx)(EX:Be)(cc:Bool)(k:Nat)(m:Str)(ta:TE)(t:TA):TE:=λ Y H Q=>ta Y H λx H1=>∃a C dx fs f fd ps sp,x=.ref a/\H1 a=some (.ins C dx fs)/\fs.lookup m=none/\eP X.K C/\Meth X.K C m f/\bF X.prog X.w X.K X.mg X.base cc k f fd ps sp/\Binds X.K fd ps []/\t Y H1 λvs H2=>sp (.ref a::vs) H2 Q (nz X.K (EX Y))
def YH{pl:Sem Bool}{ta:TE}{t:TA}(he:PE X o ta)(hr:aC cc k X.A)(lk:Lk X EX)(ha:PA X (e::es) t)(dA:starEach (e::es) X.env=(false,eval e X.env)::starEach es X.env) (bM:(backTo pos (starEach es X.env)).any (·.1)=false)(ht:eval (.Call (.Attribute o m zg) (e::es) [] pos) X.env=(do
   let ov<-eval o X.env
   standAt zg.atName
   let(f,first)<-holding [ov] (getMethod ov m pl)
   callWith pos f first (backTo pos (starEach (e::es) X.env)) (backToKw pos (keywordEach [] X.env)))):
  PE X (.Call (.Attribute o m zg) (e::es) [] pos) (wk X EX cc k m ta t):=by
 intro Z s Y H Q I h;refine SS (pl:=pl) (Bb (he Z s Y H _ I h) λu s1 hh=>?_) ht;obtain⟨x,H1,I1,rx,a,C,dx,fs,f,fd,ps,sp,ex,ea,l,c,hm,F,J,q⟩:=hh;subst ex;obtain rfl:u=Value.ref a:=rx;refine Mv I1 ea c hm l ?_;refine W7 (first:=[.ref a]) (h₀:=X.base) I.ok.mod.kC hm.kp (Bb (ha pos Z s1 Y H1 _ I1 q) λus s2 ⟨vs,H2,I2,r,q2⟩=>⟨I2.bU,?_⟩) dA bM;exact oP (us:=.ref a::us) (vs:=.ref a::vs) F hr J lk I2 (.cons rfl r) q2
def aas{pl:Sem Bool}{ta:TE}(he:PE X o ta)(hr:aC cc k X.A)(lk:Lk X EX)(ht:eval (.Call (.Attribute o m zg) [] [] pos) X.env=(do
   let ov<-eval o X.env
   standAt zg.atName
   let(f,first)<-holding [ov] (getMethod ov m pl)
   callWith pos f first (backTo pos (starEach [] X.env)) (backToKw pos (keywordEach [] X.env)))):
  PE X (.Call (.Attribute o m zg) [] [] pos) (wk X EX cc k m ta vN):=by
 intro Z s Y H Q I h;refine SS (pl:=pl) (Bb (he Z s Y H _ I h) λu s1 hh=>?_) ht;obtain⟨x,H1,I1,rx,a,C,dx,fs,f,fd,ps,sp,ex,ea,l,c,hm,F,J,q⟩:=hh;subst ex;obtain rfl:u=Value.ref a:=rx;refine Mv I1 ea c hm l ?_;exact callWith_K0 (first:=[.ref a]) I1.bU hm.kp (oP (us:=[.ref a]) (vs:=[.ref a]) F hr J lk I1 (.cons rfl .nil) q)
def Wq{Y:Sg}{Q:VK}(hK:X.K=K)(T:bA X.prog X.w X.K X.mg X.base cc k n m tb)(q:tD K EX (Dl m n tb fo fa) Y H Q):wk X EX cc k m (tD K EX fo) (dR K EX fa) Y H Q:=by
 subst hK;obtain⟨G,δ,g0,s0,o⟩:=q;refine tD.seq g0 s0 o λw v G1 H1 _ st r o'=>?_;revert o' r;cases w.d with
 |obj c ns vs=>
  intro r o';simp only at o';split at o';exact o'.elim;rename_i hn;split at o';rename_i F ef;cases r with|obj hC hh hl rl=>rename_i a0 C0 dx0 us0;obtain⟨C,f,fd,ps,a1,a2,a3,a4,a5⟩:=(T c F ef).ex;have:=a1.same hC;subst this;refine⟨_,_,_,_,f,fd,ps,_,rfl,st.gh _ _ hh,(sA (f:=m) rl hl).2 (by simpa using hn),a2,a3,a4,a5,?_⟩;refine dR.seq st.gh (s0.mono st.gg) o' λM us G' O _ bJ r' o2=>?_;split at o2;rename_i zk;refine⟨by rw[B7,r'.length,zk],G',.obj c ns vs::M,bJ.gh,.cons (aP.mono bJ.gg (.obj hC hh hl rl)) r',?_⟩;(cases q:F (.obj c ns vs::M)with|ok w=>rw[q]at o2;exact o2|ex x=>rw[q]at o2;exact bK.in o2|no=>rw[q]at o2;exact o2.elim);exact o2.elim
  exact o'.elim
 |_=>intro _ o';exact False.elim o'
def iR{pl:Sem Bool}(T:bA X.prog X.w X.K X.mg X.base cc k n m tb)(hr:aC cc k' X.A)(lk:Lk X EX)(he:ED X EX o fo)(ha:AD X EX (e::es) fa)(hk:k<=k':=by decide)(dA:starEach (e::es) X.env=(false,eval e X.env)::starEach es X.env:=by rfl) (bM:(backTo pos (starEach es X.env)).any (·.1)=false:=by rfl)(ht:eval (.Call (.Attribute o m zg) (e::es) [] pos) X.env=(do
   let ov<-eval o X.env
   standAt zg.atName
   let(f,first)<-holding [ov] (getMethod ov m pl)
   callWith pos f first (backTo pos (starEach (e::es) X.env)) (backToKw pos (keywordEach [] X.env))):=by rfl):ED X EX (.Call (.Attribute o m zg) (e::es) [] pos) (Dl m n tb fo fa):=
 PE.imp (YH he (hr.mono hk) lk ha dA bM ht) λ_ _ _ q=>Wq rfl T q
def aar{pl:Sem Bool}(T:bA X.prog X.w X.K X.mg X.base cc k 0 m tb)(hr:aC cc k' X.A)(lk:Lk X EX)(he:ED X EX o fo)(hk:k<=k':=by decide)(ht:eval (.Call (.Attribute o m zg) [] [] pos) X.env=(do
   let ov<-eval o X.env
   standAt zg.atName
   let(f,first)<-holding [ov] (getMethod ov m pl)
   callWith pos f first (backTo pos (starEach [] X.env)) (backToKw pos (keywordEach [] X.env))):=by rfl):ED X EX (.Call (.Attribute o m zg) [] [] pos) (Dl m 0 tb fo Ad):=
 PE.imp (aas he (hr.mono hk) lk ht) λ Y H Q ⟨G,δ,g0,s0,q⟩=>tD.seq g0 s0 q λw v G1 H1 _ st r o'=>by
  revert o' r;cases w.d with
  |obj c ns vs=>
   intro r o';simp only at o'
   split at o'
   exact o'.elim
   rename_i hn
   split at o'
   rename_i F ef;cases r with
   |obj hC hh hl rl=>
    obtain⟨C,f,fd,ps,a1,a2,a3,a4,a5⟩:=(T c F ef).ex;have:=a1.same hC;subst this;refine⟨_,_,_,_,f,fd,ps,_,rfl,st.gh _ _ hh,(sA (f:=m) rl hl).2 (by simpa using hn),a2,a3,a4,a5,?_⟩;have o2:Out X.K (EX Y) G1 H1 (F [.obj c ns vs]) Q:=o';refine⟨rfl,G1,[.obj c ns vs],st.gh,.cons (.obj hC hh hl rl) .nil,?_⟩;cases q:F [.obj c ns vs]with
    |ok w=>rw[q]at o2;exact o2
    |ex x=>rw[q]at o2;exact bK.in o2
    |no=>rw[q]at o2;exact o2.elim
   exact o'.elim
  |_=>intro _ o';exact False.elim o'
end
def uT:List Tn->Option (List D)|[]=>some []|.sh d::r=>(uT r).map (d:: ·)|_=>none
theorem JX:∀{ts:List Tn}{M:List D},uT ts=some M->ts=M.map .sh|[],_,e=>by cases e;rfl|t::r,M,e=>by cases t with|sh d=>simp only[uT]at e;(cases q:uT r with|none=>rw[q]at e;cases e|some l=>rw[q]at e;cases e;rw[JX q];rfl)|_=>cases e
noncomputable def mC(n:Nat)(c:Str)(M:List D):SE:=.lt (.obj c [] [])::(M.map Sl.sh++List.replicate (n-(M.length+1)) .no)
def En(n:Nat)(c:Str)(g:FS)(M:List D):R (List Str×List D):=match g (mC n c M)with|.nx B=>(match B[(0:Nat)]? with|some (.lt (.obj c' ns ts))=>if c'=c then(match uT ts with|some rs=>.ok (ns,rs)|none=>.no) else .no|_=>.no)|.ex x _=>.ex x|_=>.no
def kU(K:Frag)(C:Addr)(n:Nat)(F:List D->R (List Str×List D)):Sp:=λvs H Q E=>∃x dx dZ Hq G M,vs=.ref x::dZ/\dZ.length=n/\Hq x=none/\aA Hq H/\H x=some (.ins C dx [])/\aA G Hq/\aB K G dZ M/\(match F M with|.ok p=>∀G' O us Pz,Step G Hq G' O->G' x=none->O x=some (.ins C Pz (p.1.zip us))->p.1.length=us.length->aB K G' us p.2->Q .aK O|.ex e=>(bK K E).p e G Hq|.no=>False)
def LF{G H h0:Hp}{v0:V}{vs:List V}{M:List D}{N:List Str}{b:Nat->Addr}(g:aA G H)(i0:aA h0 H)(r:aB K G vs M)(hl:vs.length+1<=N.length):Ev K ⟨h0,b⟩ G G H (Gg N (v0::vs)) (.no::(M.map Sl.sh++List.replicate (N.length-(M.length+1)) .no)) (λ_ _=>False):=by
 have key:∀(i:Nat) (s:Sl),(Sl.no::(M.map Sl.sh++List.replicate (N.length-(M.length+1)) .no))[i]?=some s->(∃j d,i=j+1/\s=.sh d/\M[j]?=some d)\/s=.no:=λi s e=>by cases i with|zero=>exact .inr (by simpa using e.symm)|succ i=>rw[O4]at e;by_cases hi:i<M.length;rw[C7 (by rw[A4];exact hi),B3]at e;obtain⟨d,S,e2⟩:=F0.mp e;exact .inl ⟨i,d,rfl,e2.symm,S⟩;rw[D7 (by rw[A4];lia),J6]at e;split at e;cases e;exact .inr rfl;cases e
 refine⟨⟨i0,g,aA.refl _,λ_ n _=>n⟩,?_,λi d e=>?_,λi z d e zo=>?_,λ_ _ ha=>ha.elim,λ_ _ _ ha=>ha.elim,λi d e=>?_,λi d e=>?_⟩;unfold Gg;have:=r.length;simp only[A6,A4,M6,B7]at hl⊢;lia;rcases key i _ e with⟨j,d',rfl,q,q2⟩|q;cases q;obtain⟨v,S,h⟩:=r.get q2;refine⟨v,?_,h⟩;unfold Gg;have hi:j<vs.length:=(A7.mp S).1;rw[C7 (by rw[A4,B7];lia),B3,O4,S];rfl;cases q;rcases key i _ e with⟨j,d',_,q,_⟩|q<;>(subst q;cases zo);rcases key i _ e with⟨j,d',_,q,_⟩|q<;>cases q;rcases key i _ e with⟨j,d',_,q,_⟩|q<;>cases q
def UC{c:Bool}{P:Program}{w:World}{x qual cn:Str}{st:Stmt}{f C:Addr}{N ps:List Str}{k n:Nat}{g:FS}(F:aY K x qual st f fd)(e1:aS N ps (Bt st))(hC:ClsAt K cn C)(hn:ps.length=n+1)(hle:ps.length<=N.length)(zj:∀(zn:Value) (A:Around) (outer:List Env) (s:Shared) (H:Hp) (E:XK),aC c k (A.deeper (envOfC qual (Bt st) s.heap.objs.size f zn))->BD (Fb c P w K mg base N qual (Bt st) f zn A outer s H E) (λ_=>bK K E) (Fg st) g):bF P w K mg base c (k+1) f fd ps (kU K C n (En N.length cn g)):=by
 refine aY.BS F e1 (λvs H Q E h=>?_) λzn A outer s H vs Q E hr h=>⟨_,zj zn A outer s H E hr,?_⟩;obtain⟨x,dx,dZ,Hq,G,M,rfl,hl,_⟩:=h;rw[B7,hl,hn];obtain⟨x,dx,dZ,Hq,G,M,rfl,hl,n1,i0,hx,g0,r,q⟩:=h;have E0:=LF (N:=N) (b:=λ_=>x) (v0:=.ref x) (g0.trans i0) i0 r (by rw[hl];lia);have hs:(Gg N (.ref x::dZ))[0]?=some (some (.ref x)):=rfl;have E1:=E0.lz (i:=0) (z:=.lt (.obj cn [] [])) (v:=.ref x) (e1:=λb=>b=x) (λa ha=>by subst ha;exact⟨n1,g0.free n1,by rw[hx];simp⟩) rfl (λ_ z=>by cases z) (.obj (S1:=λ_=>False) hC (us:=[]) hx rfl rfl (λ_ z=>z.elim) .nil) (λj a ha=>ha.elim) (λ_ _=>rfl);rw[uS hs]at E1;refine⟨⟨Hq,λ_=>x⟩,G,G,_,_,E1,?_⟩;unfold En at q;have e2:(Sl.no::(M.map Sl.sh++List.replicate (N.length-(M.length+1)) .no)).set 0 (.lt (.obj cn [] []))=mC N.length cn M:=rfl;rw[e2];cases e:g (mC N.length cn M)with
 |nx B=>
  rw[e]at q;intro Y G' O H' E' _;simp only at q;split at q;rename_i p ep;split at ep;rename_i c2 ns ts e3;split at ep;rename_i qH;subst qH;split at ep;rename_i rs eu;cases ep;obtain⟨v,s1,t3⟩:=E'.ow _ _ _ e3 rfl;have s2:=E'.lt _ _ e3;rw[s1]at s2;cases s2;cases t3 with|obj hc h QW ha sub rl=>rw[JX eu]at rl;have:=hC.same hc;subst this;exact q G' O _ _ E'.st (E'.out _ _ ha).1 h QW rl.off
  cases ep;cases ep;cases ep;rename_i x2 ep;split at ep;split at ep;split at ep<;>cases ep;cases ep;cases ep;rename_i ep;exact q.elim
 |ex x B=>rw[e]at q;exact λ Y G' O H' E' _=>(bK K E).mono _ _ _ _ _ E'.st q|rt w=>rw[e]at q;exact q.elim|rv d B=>rw[e]at q;exact q.elim|bk B=>rw[e]at q;exact q.elim|ct B=>rw[e]at q;exact q.elim|no=>rw[e]at q;exact q.elim
theorem yb{f:Str}{y:V}:∀{ns:List Str}{us:List V},ns.length=us.length->ns.contains f=false->Cu f y (ns.zip us)=(ns++[f]).zip (us++[y])
 |[],[],_,_=>rfl|[],_::_,e,_=>by simp at e|_::_,[],e,_=>by simp at e|n::ns,u::us,e,h=>by
  rw[R1,Bool.or_eq_false_iff]at h;have hn:¬n=f:=λz=>by rw[z]at h;simp at h
  show Cu f y ((n,u)::ns.zip us)=(n,u)::(ns++[f]).zip (us++[y]);unfold Cu;rw[if_neg hn,yb (by simpa using e) h.2]
def Gn(i:Nat)(cs:List Str)(f:Str)(js:List Nat)(fe:FE):FS:=λ B=>match(aE js B)[i]? with|some (.lt (.obj c ns ts))=>if cs.contains c=true/\ns.contains f=false/\ns.length<1000 then(match fe (Ay (aE js B))with|.ok w=>.nx ((aE js B).set i (.lt (.obj c (ns++[f]) (ts++[.sh w.d]))))|.ex x=>.ex x (aE js B)|.no=>.no) else .no|_=>.no
section
variable{X:Cx}{EX:Be}{pos:Pos}
def jt{i:Nat}{cs:List Str}{f x:Str}(js:List Nat){e:Expr}{fe:FE}{p1 p2:Pos}(k:aZ X.K cs f)(he:ED X EX e fe)(hN:X.N[i]?=some x:=by rfl)(hv:Ff X.env.scope x:=by trivial)(hd:AG x:=by decide)(bI:(x ==("__classdict__" :Str))=false:=by decide) (hs:swapsWith e (some (.Attribute (.Name x p1) f p2)) pos.line X.env=pure false:=by rfl):SD X EX (.Assign [.Attribute (.Name x p1) f p2] e pos) (Gn i cs f js fe):=PS.imp (HN (Fp hN hv hd bI) he hs) λD Y H ⟨H0,G0,G,B,H',E,q⟩=>by
  obtain⟨G1,O1,sg,E1⟩:=E.aE js;unfold Gn at q;generalize aE js B=Δ1 at q E1;split at q;rename_i c ns ts S;split at q;rename_i hc;obtain⟨Rj,qI,Ri⟩:=hc;refine⟨G1,Ay Δ1,E1.st.gh,E1.eA,?_⟩;cases e2:fe (Ay Δ1)with|ex y=>simp only[e2]at q;exact q Y G1 H O1 E1 sg|no=>simp only[e2]at q;exact q.elim|ok w=>simp only[e2]at q;refine WP.intro λv G2 H2 st r=>?_;have E2:=E1.grow st;obtain⟨v0,s1,t⟩:=E2.ow i _ _ S rfl;have s2:=E2.lt i _ S;generalize et:(Tn.obj c ns ts)=t0 at t;cases t with| @obj a C dx c2 ns2 us ts2 e1 S1 hC h hl ha sub rl=>injection et with RB RA Rz;subst RB RA Rz;obtain⟨kc,kn⟩:=k _ Rj _ hC;refine⟨_,s1,_,_,_,_,rfl,h,kc,kn,by rw[SJ,<-hl,Sv];exact Ri,?_⟩;rw[yb hl qI];have ms:=bS.write (e1:=O1 i) E2.st.gh ha (E2.out i _ ha).1 (.ins C dx ((ns++[f]).zip (us++[v])));refine q Y G2 _ _ (E2.dB (e1:=O1 i) (z:=.lt _) rfl (λ_ z=>by cases z) (λ_ _=>by rw[s1]at s2⊢;exact s2) ms.weak s1 (λb J=>⟨.inl J,(E2.out i b J).1,ms.al b (E2.out i b J).2.2⟩) ?_) (sg.trans st.gg);refine .obj hC Bo (by rw[A6,A6,hl];rfl) ha sub ?_;refine aX.append (S2:=λ_=>False) (rl.mono (aA.refl _) (λb o J z=>?_) λ_ z=>z) (.cons (S1:=λ_=>False) (S2:=λ_=>False) (.sh r) .nil (λ_ z _=>z) (λ_ z=>z.elim) λ_ z=>z.elim) (λ_ _ z=>z) (λ_ z=>z) λ_ z=>z.elim;rw[Ax (sub b J).2];exact z|_=>cases et
  exact q.elim;exact q.elim
end
section
variable{X:Cx}{EX:Be}{e:Expr}{es:List Expr}{x:Str}{pp pos:Pos}{cc:Bool}{k k' n:Nat}{ps:List Str}{C f:Addr}{fd:FuncData}
def LD{Z:AE}{Y:Sg}{s:Shared}{Q:VK}{vs:List V}{sp:Sp}(ds:Mk X.K C f)(F:bF X.prog X.w X.K X.mg X.base cc k f fd ps sp)(hr:aC cc (k+1) X.A)(J:Binds X.K fd ps [])(lk:Lk X EX)(I:Inv X Z Y H s)(r:Vals vs us)(h:∀x dx,H x=none->H dx=none->dx≠x->sp (.ref x::vs) (upd (upd H dx (.own x)) x (.ins C dx [])) (λv H2=>v=.aK/\Q (.ref x) H2) (nz X.K (EX Y))):wpAny (model X.prog X.w) X.A (call (.ref C) us) (EP X Z Y Q) X.xe s:=by
 have hq:=h (s.heap.objs.size+1) s.heap.objs.size (I.aJ.fresh (P4 _)) (I.aJ.fresh (A9 _)) (D6 (Q8 _));have I2:=Inv.made (C:=C) I;have r2:Vals (V.ref (s.heap.objs.size+1)::vs) (Value.ref (s.heap.objs.size+1)::us):=.cons rfl r;have hl:(Value.ref (s.heap.objs.size+1)::us).length=ps.length:=by rw[<-r2.length];exact F.len _ _ _ _ hq
 have cR:=J _ (Value.ref (s.heap.objs.size+1)::us) I2.bU (by rw[G6];exact hl);rw[G6]at cR;refine Y4 (aaQ (f:=f) I.bU ds.makes ds.init (N4.mp ds.fn) (U4 (F.run _ X.stack _ _ ⟨Value.ref (s.heap.objs.size+1)::us,[]⟩ (Value.ref (s.heap.objs.size+1)::us) _ _ _ (hr.make C us []) (I2.vX.make C us []) cR r2 hq) λr s' CN=>?_));cases r with|error e=>exact lk Z Y _ _ e s' I2 CN|ok fl=>cases fl with|ret u=>obtain⟨v,O,I3,rv,ev,q3⟩:=I2.after CN;subst ev;exact⟨rv,⟨V.ref (s.heap.objs.size+1),O,I3,rfl,q3⟩⟩|next=>exact False.elim CN|brk=>exact False.elim CN|cont=>exact False.elim CN
def jZ(P:Program)(w:World)(K:Frag)(mg:AB)(base:Heap)(cc:Bool)(c:Str)(k n:Nat)(F:List D->R (List Str×List D)):Prop:=∃C f fd ps,ClsAt K c C/\mg c=some (.ref C)/\Mk K C f/\bF P w K mg base cc k f fd ps (kU K C n F)/\Binds K fd ps []
def gY(c:Str)(n:Nat)(F:List D->R (List Str×List D))(fa:FA):FE:=λ δ=>(fa δ).bind λM=>if M.length=n then(F M).bind λp=>.ok (.sh (.obj c p.1 p.2)) else .no
def sy{F:List D->R (List Str×List D)}{fa:FA}(hr:aC cc k' X.A)(lk:Lk X EX)(h:jZ X.prog X.w X.K X.mg X.base cc x k n F)(ha:AD X EX (e::es) fa)(hk:k+1<=k':=by decide)(hg:Gl X x:=by rfl)(cL:AG x:=by decide)(he:starEach (e::es) X.env=(false,eval e X.env)::starEach es X.env:=by rfl) (bM:(backTo pos (starEach es X.env)).any (·.1)=false:=by rfl):ED X EX (.Call (.Name x pp) (e::es) [] pos) (gY x n F fa):=by
 obtain⟨C,f,fd,ps,hC,hm,ds,ok,J⟩:=h;intro Z s Y H Q I q;obtain⟨G,δ,g0,s0,o⟩:=q;refine N1 (pJ I hg hm ?_ cL);have ta:dR X.K EX fa Y H λvs H1=>∃G1 M,aA G1 H1/\aB X.K G1 vs M/\M.length=n/\Out X.K (EX Y) G1 H1 ((F M).bind λp=>.ok (.sh (.obj x p.1 p.2))) Q:=by refine dR.seq g0 s0 o λM vs G' O _ st r o'=>?_;split at o';rename_i hl;exact⟨G',M,st.gh,r,hl,o'⟩;exact o'.elim
 refine W7 (h₀:=X.base) I.ok.mod.kC ds.kp (Bb (ha pos Z s Y H _ I ta) λus s1 ⟨vs,H1,I1,r,G1,M,sg,rl,hl,o'⟩=>⟨I1.bU,?_⟩) he bM;refine LD ds ok (hr.mono hk) J lk I1 r λy dy ny QC ne=>?_;refine⟨y,dy,vs,H1,G1,M,rfl,by rw[rl.length];exact hl,ny,(λb o e=>by rw[Ax (Eu e ny),Ax (Eu e QC)];exact e),Bo,sg,rl,?_⟩;cases ef:F M with
 |ok p=>
  rw[ef]at o';intro G' O us' Pz st gy hy zk rr;refine⟨rfl,?_⟩;have aV:Step G1 H1 (upd G' y (.ins C Pz (p.1.zip us'))) O:=⟨st.hh,λb u z=>by
   by_cases w:b=y;subst w;rw[Bo]at z;rw[hy];exact z;rw[Ax w]at z;exact st.gh b u z,st.gg.trans (iV gy _),λb z1 z2=>by
   have w:b≠y:=λw=>z2 (by rw[w];exact ny);rw[Ax w];exact st.nw b z1 z2⟩
  exact o' _ _ _ aV (.obj hC Bo zk (rr.mono (iV gy _)))
 |ex z=>rw[ef]at o';exact bK.in o'|no=>rw[ef]at o';exact o'
end
def lL(a b:List D):Bool:=decide (a.map uw=b.map uw)
def acP{M:List D}:lL M M=true:=F4 rfl
def abD{a b:List D}(h:lL a b=true):a.length=b.length:=by have:=K5 List.length (E8 h);rwa[A4,A4]at this
mutual
def Er(M:List D):D->Bool|.lst es=>!lL M es&&Ck M es|.tup es=>Ck M es|.aF kvs=>jC M kvs|.uy _ _ vs=>Ck M vs|.obj _ _ vs=>Ck M vs|_=>true
def Ck(M:List D):List D->Bool|[]=>true|e::es=>Er M e&&Ck M es
def jC(M:List D):List (Am×D)->Bool|[]=>true|(_,e)::es=>Er M e&&jC M es
end
theorem JW(M:List D):∀kvs:List (Am×D),jC M kvs=Ck M (kvs.map (·.2))|[]=>rfl|(k,e)::es=>by show(Er M e&&jC M es)=(Er M e&&Ck M (es.map (·.2)));rw[JW M es]
def He(G:Hp)(a:Addr):Hp:=λb=>if b=a then none else G b
def tP{G:Hp}{a b:Addr}(h:b≠a):He G a b=G b:=if_neg h
def oH{G:Hp}{a:Addr}:He G a a=none:=if_pos rfl
section
variable{K:Frag}{G:Hp}{a:Addr}{vs:List V}{M:List D}
theorem aB.eG:∀{vs:List V}{M es:List D},aB K G vs M->aB K G vs es->M.all Av=true->es=M|_,_,_,.nil,.nil,_=>rfl|_,_,_,.cons h r,.cons h' r',f=>by rw[Q6,C6]at f;rw[aB.eG r r' f.2];congr 1;cases h with|aK=>cases h';rfl|bl b=>cases h';rfl|int i=>cases h';rfl|str x=>cases h';rfl|_=>cases f.1
def aP.off(ha:G a=some (.lst vs))(rl:aB K G vs M)(fl:M.all Av=true){d:D}(h:aP K G v d)(n:Er M d=true):aP K (He G a) v d:=by
 have ne:∀{b o},G b=some o->o≠.lst vs->He G a b=some o:=λ{b o} h q=>by have J:b≠a:=λz=>q (by rw[z,ha]at h;cases h;rfl);rw[tP J];exact h
 refine aP.rec (motive_1:=λv d _=>Er M d=true->aP K (He G a) v d) (motive_2:=λus es _=>Ck M es=true->aB K (He G a) us es) (λ_=>.aK) (λb _=>.bl b) (λi _=>.int i) (λx _=>.str x) ?_ ?_ (λhc h _=>.jF hc (ne h (by simp))) (λhc h hd hl _ r n=>.jE hc (ne h (by simp)) (ne hd (by simp)) hl (r n)) (λh hk _ r n=>.aF (h.imp (λh=>ne h (by simp)) λ⟨o,h⟩=>⟨o,ne h (by simp)⟩) hk (r (by rw[<-JW];exact n))) (λhc h hl _ r n=>.obj hc (ne h (by simp)) hl (r n)) (λ_=>.nil) (λ_ _ h r n=>?_) h n;intro b us es h q r n;have n':(!lL M es&&Ck M es)=true:=n;rw[C6]at n';refine .lst ?_ (r n'.2);rcases h with(h|⟨o,h⟩)|h;by_cases J:b=a;rw[J,ha]at h;cases h;rw[aB.eG rl q fl,acP]at n';cases n'.1;exact .inl (.inl (by rw[tP J];exact h));exact .inl (.inr ⟨o,ne h (by simp)⟩);exact .inr h;intro b us es h q r n;refine .tup ?_ (r n);rcases h with(h|⟨o,h⟩)|h;exact .inl (.inl (ne h (by simp)));exact .inl (.inr ⟨o,ne h (by simp)⟩);exact .inr h;have n':(Er M _&&Ck M _)=true:=n;rw[C6]at n';exact .cons (h n'.1) (r n'.2)
end
section
variable{X:Cx}{EX:Be}{pos:Pos}
end
end L3
namespace L3
open PySem L2 Builtin Builtin.Str
variable{K:Frag}{fd:FuncData}{mg:AB}{us:List Value}{base:Heap}{H:Hp}{X:Cx}{pos:Pos}{v:V}
def IS{x y:Str}(h:x.cps.toList=y.cps.toList):x=y:=by
 obtain⟨a⟩:=x;obtain⟨b⟩:=y;simp only at h;have:a=b:=by have:=K5 List.toArray h;simpa using this
 rw[this]
def jU(x:Str):x.length=x.cps.toList.length:=by simp[Str.length]
def YG(x y:Str):(x++y).cps.toList=x.cps.toList++y.cps.toList:=by show(Str.append x y).cps.toList=_;simp[Str.append]
def wj(n:Nat)(d:Int):Option Int->Int|none=>d|some i=>max 0 (min (if i<0 then i+(n:Int) else i) (n:Int))
def JV(n d:Nat)(o:Option Int):wj n (d:Int) o=((HT.cJ n d o:Nat):Int):=by cases o with|none=>rfl|some v=>show max 0 (min (if v<0 then v+(n:Int) else v) (n:Int))=(((if v<0 then(v+(n:Int)).toNat else min v.toNat n):Nat):Int);by_cases hv:v<0;simp only[if_pos hv];lia;simp only[if_neg hv];lia
def acO(lo hi:Option Int)(n:Nat):strSliceIndices lo hi 1 n=(List.range (HT.cJ n n hi-HT.cJ n 0 lo)).map (HT.cJ n 0 lo+·):=by
 have e:strSliceIndices lo hi 1 n=sliceRange (wj n ((0:Nat):Int) lo) (wj n (n:Int) hi) 1:=by unfold strSliceIndices;simp only[show((1:Int)>0)=True from by simp,if_true];cases lo<;>cases hi<;>rfl
 rw[e,JV,JV,sliceRange_one]
def acN(x:Str)(lo hi:Option Int):(Txt.slice x lo hi).cps.toList=Ey x.cps.toList lo hi:=by
 unfold Txt.slice Ey;rw[acO];have hl:x.cps.toList.length=x.length:=(jU x).symm;rw[hl];have p:=pick_run x.cps (HT.cJ x.length 0 lo) (HT.cJ x.length x.length hi-HT.cJ x.length 0 lo);split;rename_i h;have h':((List.range (HT.cJ x.length x.length hi-HT.cJ x.length 0 lo)).map (HT.cJ x.length 0 lo+·)).length=x.length:=by simpa using h
 rw[A4,M7]at h';have h3:=HT.pE x.length x.length (A9 _) hi;have h4:=HT.pE x.length 0 (L1 _) lo;have e0:HT.cJ x.length 0 lo=0:=by lia
 rw[h',e0,Sz,ZE0 ()];rw[p]
def abC(x:Str)(c:Nat):Txt.count x ⟨#[c]⟩=((x.cps.toList.count c:Nat):Int):=by
 unfold Txt.count;rw[StrLaws.occ_eq];have one:∀i,i<x.length->(subAt x ⟨#[c]⟩ i=true↔x.cps.toList[i]?=some c):=by
  intro i hi;unfold subAt;have QZ:i<x.cps.size:=hi;have e:x.cps.extract i (i+Str.length ⟨#[c]⟩)= #[x.cps[i]]:=by apply Array.ext;simp[Str.length];lia;intro j h1 h2;simp[Str.length]at h1 h2⊢;have:j=0:=(by lia);subst this;rfl
  rw[e];simp[QZ]
 have all:∀(m k:Nat) (st:Array Nat×Nat),k+m=x.length+1->st.2<=k->st.1.size<=k->(forIn (List.range' k m) st (StrLaws.occBody x ⟨#[c]⟩ x.length (x.length+1))).run.fst.size=st.1.size+(x.cps.toList.drop k).count c:=by intro m;induction m with|zero=>intro k st e h1 h2;have:x.cps.toList.drop k=[]:=O8 (by rw[<-jU];lia);rw[this];simp|succ m ih=>intro k st e h1 h2;rw[SQ,List.forIn_cons];unfold StrLaws.occBody;by_cases hk:k<x.length;obtain⟨d,d1,d2⟩:=sR (l:=x.cps.toList) (i:=k) (by rw[<-jU];exact hk);rw[d2,List.count_cons];by_cases hc:d=c;subst hc;have hs:subAt x ⟨#[d]⟩ k=true:=(one k hk).mpr d1;rw[if_pos ⟨⟨⟨by lia,h1⟩,by show k+1<=x.length;lia⟩,hs⟩];refine(ih (k+1) (st.1.push k,k+1) () (A9 _) (by simp;lia)).trans ?_;simp;lia;have hs:¬subAt x ⟨#[c]⟩ k=true:=λz=>(by have:=(one k hk).mp z;rw[d1]at this;exact hc (L9 this));rw[if_neg λz=>hs z.2];refine(ih (k+1) (st.1,st.2) () (by show st.2<=k+1;lia) (by show st.1.size<=k+1;lia)).trans ?_;simp[hc];rw[if_neg λz=>by have:=z.1.2;have e2:(Str.length ⟨#[c]⟩:Nat)=1:=rfl;lia];refine(ih (k+1) (st.1,st.2) () (by show st.2<=k+1;lia) (by show st.1.size<=k+1;lia)).trans ?_;rw[O8 (by rw[<-jU];lia),O8 (by rw[<-jU];lia)]
 have:=all (x.length+1) 0 (#[],0) () (A9 _) (A9 _);rw[M4];refine K5 (λn:Nat=>(n:Int)) ?_;simpa using this
end L3
namespace L3
open PySem L2
variable{K:Frag}{fd:FuncData}{mg:AB}{us:List Value}{base:Heap}{H:Hp}{X:Cx}{pos:Pos}{v:V}
def eN(i j:Int):Ds (.int i) (.int j)=.ok (.sh (.bl (decide (i=j)))):=by
 have h:Gu (.int i) (.int j)=decide (i=j):=by show(i ==j)=decide (i=j);rw[Bool.beq_eq_decide_eq]
 show(if kG (.int i) (.int j)=true then R.ok (W.sh (D.bl (Gu (.int i) (.int j)))) else .no)=_;rw[if_pos (by rfl),h]
def YF(i j:Int):Gz (.int i) (.int j)=.ok (.sh (.bl (!decide (i=j)))):=by
 have h:Gu (.int i) (.int j)=decide (i=j):=by show(i ==j)=decide (i=j);rw[Bool.beq_eq_decide_eq]
 show(if kG (.int i) (.int j)=true then R.ok (W.sh (D.bl (!Gu (.int i) (.int j)))) else .no)=_;rw[if_pos (by rfl),h]
def fY{i j:Int}(h1:-18446744073709551616<i)(h2:i<18446744073709551616):Fh i j=true:=F4 (.inl ())
def oh{i j:Int}(h1:-18446744073709551616<j)(h2:j<18446744073709551616):Fh i j=true:=F4 (.inr ())
def Gi{i j:Int}(h:Fh i j=true):Dm (.int i) (.int j)=.ok (.sh (.int (i*j))):=by unfold Dm intD;simp only[h,if_true]
def Gh(i j:Int):Bl (.int i) (.int j)=.ok (.sh (.int (i+j))):=rfl
def og(i j:Int):jz (.int i) (.int j)=.ok (.sh (.int (i-j))):=rfl
def jn{i j:Int}(h1:0<j)(h2:j<1361129467683753853853498429727072845824):Gd (.int i) (.int j)=.ok (.sh (.int (i/j))):=by exact if_pos (show divC i j=true from F4 ⟨h1,by lia⟩)
def Fw{i j:Int}(h1:0<j):Dc (.int i) (.int j)=.ok (.sh (.int (i%j))):=by exact if_pos (show FF i j=true from F4 h1)
def rM(i j:Int):CF (.int i) (.int j)=.ok (.sh (.bl (decide (i<j)))):=rfl
def rL(i j:Int):vp (.int i) (.int j)=.ok (.sh (.bl (decide (i<=j)))):=rfl
def wg(i j:Int):DF (.int i) (.int j)=.ok (.sh (.bl (decide (j<i)))):=rfl
def Ve(i j:Int):Rt (.int i) (.int j)=.ok (.sh (.bl (decide (j<=i)))):=rfl
def Wo{x y:Str}(h:x.length+y.length<=16777216):Bl (.str x) (.str y)=.ok (.sh (.str (x++y))):=if_pos h
def Wn{i j:Int}(h:powC i j=true):qX (.int i) (.int j)=.ok (.sh (.int (i^j.toNat))):=by unfold qX intD;simp only[h,if_true]
def aaq{i j:Int}(h1:0<=j)(h2:j<=1000000)(h3:-18446744073709551616<i)(h4:i<18446744073709551616):powC i j=true:=F4 ⟨h1,by lia,by lia⟩
def Fy(M:List D):Dd [.lst M]=.ok (.sh (.int M.length)):=rfl
def aap{x:Str}(h:x.length<=16777216):Dd [.str x]=.ok (.sh (.int x.length)):=if_pos h
def HE(i j:Int):maxD [.int i,.int j]=.ok (.sh (.int (max i j))):=by show R.ok (W.sh (D.int (if j>i then j else i)))=_;rw[show(if j>i then j else i)=max i j by rw[Int.max_def];split<;>split<;>lia]
def Wm(i j:Int):minD [.int i,.int j]=.ok (.sh (.int (min i j))):=by show R.ok (W.sh (D.int (if j<i then j else i)))=_;rw[show(if j<i then j else i)=min i j by rw[Int.min_def];split<;>split<;>lia]
def iQ{M:List D}{i:Int}{d:D}(h:dP M i=some d):Bf (.lst M) (.int i)=.ok (.sh d):=by unfold Bf;simp only[h]
def sx{M:List D}{i:Int}{d:D}(h:dP M i=some d):Bf (.tup M) (.int i)=.ok (.sh d):=by unfold Bf;simp only[h]
def YE{x:Str}{i:Int}{c:Nat}(hz:x.length<=16777216)(h:dP x.cps.toList i=some c):Bf (.str x) (.int i)=.ok (.sh (.str ⟨#[c]⟩)):=by unfold Bf;simp only[h,if_pos hz]
def Wl{α:Type}{xs:List α}{i:Int}{x:α}(h0:0<=i)(h:xs[i.toNat]?=some x):dP xs i=some x:=by have hl:i.toNat<xs.length:=(A7.mp h).1;unfold dP iS;rw[if_pos h0,if_pos ()];exact h
def abB(fg:FG)(g:FS)(I:Nat->SE->Prop){n:Nat}{lo:Int}{B:SE}(h0:I 0 B)(step:∀k B,k<n->I k B->∃Δ1,fg (.int (lo+(k:Int))) B=.ok Δ1/\∃Δ2,(g Δ1=.nx Δ2\/g Δ1=.ct Δ2)/\I (k+1) Δ2):∃Δ',Dj fg g (Eh lo n) B=.nx Δ'/\I n Δ':=by
 have all:∀(m k:Nat) (B:SE),k+m=n->I k B->∃Δ',Dj fg g ((List.range' k m).map λ(j:Nat)=>D.int (lo+(j:Int))) B=.nx Δ'/\I n Δ':=by intro m;induction m with|zero=>intro k B e h;exact⟨B,rfl,by rw[<-e];exact h⟩|succ m ih=>intro k B e h;obtain⟨Δ1,S,Δ2,e2,h2⟩:=step k B () h;obtain⟨Δ',e3,h3⟩:=ih (k+1) Δ2 () h2;refine⟨Δ',?_,h3⟩;rw[SQ,B6];show(match fg (.int (lo+(k:Int))) B with|.ok Δ1=>(match g Δ1 with|.nx Δ2=>Dj fg g _ Δ2|.ct Δ2=>Dj fg g _ Δ2|.bk Δ2=>.nx Δ2|r=>r)|.ex _=>.no|.no=>.no)=_;rw[S];rcases e2 with e2|e2;simp only[e2];exact e3;simp only[e2];exact e3
 obtain⟨Δ',e,h⟩:=all n 0 B () h0;refine⟨Δ',?_,h⟩;unfold Eh;rw[List.range_eq_range'];exact e
def mW(fg:FG)(g:FS)(I:Nat->SE->Prop){M:List D}{B:SE}(h0:I 0 B)(step:∀k d B,M[k]?=some d->I k B->∃Δ1,fg d B=.ok Δ1/\∃Δ2,(g Δ1=.nx Δ2\/g Δ1=.ct Δ2)/\I (k+1) Δ2):∃Δ',Dj fg g M B=.nx Δ'/\I M.length Δ':=by
 have all:∀(m k:Nat) (B:SE),k+m=M.length->I k B->∃Δ',Dj fg g (M.drop k) B=.nx Δ'/\I M.length Δ':=by intro m;induction m with|zero=>intro k B e h;rw[O8 ()];exact⟨B,rfl,by rw[<-e];exact h⟩|succ m ih=>intro k B e h;obtain⟨d,d1,d2⟩:=sR (l:=M) (i:=k) ();obtain⟨Δ1,S,Δ2,e2,h2⟩:=step k d B d1 h;obtain⟨Δ',e3,h3⟩:=ih (k+1) Δ2 () h2;refine⟨Δ',?_,h3⟩;rw[d2];show(match fg d B with|.ok Δ1=>(match g Δ1 with|.nx Δ2=>Dj fg g (M.drop (k+1)) Δ2|.ct Δ2=>Dj fg g (M.drop (k+1)) Δ2|.bk Δ2=>.nx Δ2|r=>r)|.ex _=>.no|.no=>.no)=_;rw[S];rcases e2 with e2|e2;simp only[e2];exact e3;simp only[e2];exact e3
 have:=all M.length 0 B () h0;rwa[Sz]at this
def abA{fg:fW}{p:FT}{f:FE}{δ:DE}{F:Int->D}:∀(n:Nat) (lo:Int),(∀k:Nat,k<n->∃δ1 w,fg (.int (lo+(k:Int))) δ=.ok δ1/\p δ1=.ok true/\f δ1=.ok w/\w.d=F (lo+(k:Int)))->eJ fg p f δ (Eh lo n)=.ok ((List.range n).map λ(k:Nat)=>F (lo+(k:Int))):=by
 have all:∀(es:List Nat) (lo:Int),(∀k∈es,∃δ1 w,fg (.int (lo+((k:Nat):Int))) δ=.ok δ1/\p δ1=.ok true/\f δ1=.ok w/\w.d=F (lo+(k:Int)))->eJ fg p f δ (es.map λ(k:Nat)=>D.int (lo+(k:Int)))=.ok (es.map λ(k:Nat)=>F (lo+(k:Int))):=by intro es lo;induction es with|nil=>intro _;rfl|cons k es ih=>intro h;obtain⟨δ1,w,S,e2,e3,e4⟩:=h k K7;have e5:=ih λj hj=>h j (D5 _ hj);rw[B6,B6];show((fg (.int (lo+(k:Int))) δ).bind λ δ1=>(p δ1).bind λb=>if b=true then(f δ1).bind λw=>(eJ fg p f δ _).bind λrs=>.ok (w.d::rs) else eJ fg p f δ _)=_;rw[S];simp only[R.aD,e2,if_true,e3];rw[e5];simp only[R.aD,e4]
 intro n lo h;exact all (List.range n) lo λk hk=>h k (J9.mp hk)
def tO{j:Int}(h1:-4611686018427387903<=j)(h2:j<4611686018427387904):Du [.int j]=.ok (Eh 0 j.toNat):=by
 have h:j.natAbs<4611686018427387904:=by lia
 exact if_pos h
def pP{m:Nat}{fi:FI}{fg:fW}{p:FT}{f:FE}{δ:DE}{M rs:List D}(h:fi δ=.ok M)(hl:M.length<=16777216)(hc:eJ fg p f (δ++List.replicate m none) M=.ok rs):Bn m fi fg p f δ=.ok (.ow (.lst rs)):=by unfold Bn;rw[h];simp only[R.aD];rw[if_pos hl,hc];rfl
def Wk(d:D):Sl.qp (.sh d)=some d:=rfl
def Wj(d:D):Sl.qp (.ow d)=none:=rfl
def Wi:Sl.qp .no=none:=rfl
def Wh(d:D):Sl.any (.sh d)=some d:=rfl
def Wg(d:D):Sl.any (.ow d)=some d:=rfl
def Wf:Sl.any .no=none:=rfl
def YD(d:D):Sl.give (.sh d)=.sh d:=rfl
def YC(d:D):Sl.give (.ow d)=.sh d:=rfl
def YB:Sl.give .no=.no:=rfl
def HD{g h:FS}{B Δ':SE}(e:g B=.nx Δ'):Ae g h B=h Δ':=by unfold Ae;rw[e]
def Ek{n:Nat}{g:FS}{M:List D}{w:W}(e:g (Bh n M)=.rt w):Aj n g M=.ok w:=by unfold Aj;rw[e]
theorem qu{fg:fW}{p:FT}{f:FE}{δ:DE}(P:D->Bool)(F:D->D):∀(M:List D),(∀d∈M,∃δ1,fg d δ=.ok δ1/\p δ1=.ok (P d)/\(P d=true->∃w,f δ1=.ok w/\w.d=F d))->eJ fg p f δ M=.ok ((M.filter P).map F)|[],_=>rfl|d::M,h=>by obtain⟨δ1,S,e2,e3⟩:=h d K7;have ih:=qu P F M λx hx=>h x (D5 _ hx);show((fg d δ).bind λ δ1=>(p δ1).bind λb=>if b=true then(f δ1).bind λw=>(eJ fg p f δ M).bind λrs=>.ok (w.d::rs) else eJ fg p f δ M)=_;rw[S];simp only[R.aD,e2];cases hP:P d with|true=>obtain⟨w,e4,e5⟩:=e3 hP;rw[if_pos rfl,e4,ih];simp only[R.aD,e5,Q2 hP,B6]|false=>rw[if_neg B5,ih,Q1 (by rw[hP];exact B5)]
def JU{fg:fW}{f:FE}{δ:DE}(F:D->D)(M:List D)(h:∀d∈M,∃δ1 w,fg d δ=.ok δ1/\f δ1=.ok w/\w.d=F d):eJ fg (λ_=>.ok true) f δ M=.ok (M.map F):=by
 have:=qu (fg:=fg) (p:=λ_=>.ok true) (f:=f) (δ:=δ) (λ_=>true) F M λd hd=>by obtain⟨δ1,w,S,e2,e3⟩:=h d hd;exact⟨δ1,S,rfl,λ_=>⟨w,e2,e3⟩⟩
 rw[this,W3.mpr λ_ _=>rfl]
theorem xF:∀(ns:List Int),PyData.canLayAll0 (Eg (ns.map .int))=true|[]=>rfl|n::ns=>by show(PyData.canLay0 (.int n)&&PyData.canLayAll0 (Eg (ns.map .int)))=true;rw[xF ns];rfl
theorem LC:∀(ns:List Int),PyData.depthAll (Eg (ns.map .int))<=0|[]=>A9 _|n::ns=>by show max (PyData.depth (.int n)) (PyData.depthAll (Eg (ns.map .int)))<=0;exact Nat.max_le.mpr ⟨A9 _,LC ns⟩
def aao(ns ms:List Int):kG (.lst (ns.map .int)) (.lst (ms.map .int))=true:=by unfold kG;rw[C6,C6];refine⟨⟨xF ns,xF ms⟩,F4 ?_⟩;show PyData.depthAll (Eg (ns.map .int))+1<=60;have:=LC ns;lia
theorem LB{α:Type}(f:α->Str):∀l:List α,lN (l.map λa=>.str (f a))=some (l.map f)|[]=>rfl|a::l=>by show(lN (l.map λa=>.str (f a))).map (f a:: ·)=_;rw[LB f l];rfl
theorem LA:∀(l:List Str) (zm:Array Nat),(l.foldl (λzm p=>zm++(Str.ofString "").cps++p.cps) zm).toList=zm.toList++(l.map λx=>x.cps.toList).flatten|[],zm=>by simp|x::l,zm=>by rw[Z0,LA l];have e:(Str.ofString "").cps= #[]:=rfl;simp[e]
def aan(l:List Str):(Txt.join (Str.ofString "") l).cps.toList=(l.map λx=>x.cps.toList).flatten:=by unfold Txt.join Builtin.Str.glued;cases l with|nil=>rfl|cons x l=>show(l.foldl (λzm p=>zm++(Str.ofString "").cps++p.cps) x.cps).toList=_;rw[LA];simp
def aam{α:Type}(f:α->Str)(l:List α)(h:((l.map f).map (·.length)).sum<=16777216):nW (.str "") [.lst (l.map λa=>.str (f a))]=.ok (.sh (.str (Txt.join (Str.ofString "") (l.map f)))):=by unfold nW;simp only[LB];have e:Str.length (Str.ofString "")=0:=rfl;exact if_pos (by rw[e];lia)
def adK:Dh "int" .aK=some false:=rfl
def acM(b:Bool):Dh "int" (.bl b)=some true:=rfl
def adJ(i:Int):Dh "int" (.int i)=some true:=rfl
def adI(x:Str):Dh "int" (.str x)=some false:=rfl
def adH(l:List D):Dh "int" (.lst l)=some false:=rfl
def adG(l:List D):Dh "int" (.tup l)=some false:=rfl
def aev:Dh "bool" .aK=some false:=rfl
def adF(b:Bool):Dh "bool" (.bl b)=some true:=rfl
def aeu(i:Int):Dh "bool" (.int i)=some false:=rfl
def aet(x:Str):Dh "bool" (.str x)=some false:=rfl
def aes(l:List D):Dh "bool" (.lst l)=some false:=rfl
def aer(l:List D):Dh "bool" (.tup l)=some false:=rfl
def adE:Dh "str" .aK=some false:=rfl
def acL(b:Bool):Dh "str" (.bl b)=some false:=rfl
def adD(i:Int):Dh "str" (.int i)=some false:=rfl
def adC(x:Str):Dh "str" (.str x)=some true:=rfl
def adB(l:List D):Dh "str" (.lst l)=some false:=rfl
def adA(l:List D):Dh "str" (.tup l)=some false:=rfl
def aeq:Dh "list" .aK=some false:=rfl
def adz(b:Bool):Dh "list" (.bl b)=some false:=rfl
def aep(i:Int):Dh "list" (.int i)=some false:=rfl
def aeo(x:Str):Dh "list" (.str x)=some false:=rfl
def aen(l:List D):Dh "list" (.lst l)=some true:=rfl
def aem(l:List D):Dh "list" (.tup l)=some false:=rfl
def aeY:Dh "tuple" .aK=some false:=rfl
def ael(b:Bool):Dh "tuple" (.bl b)=some false:=rfl
def aeX(i:Int):Dh "tuple" (.int i)=some false:=rfl
def aeW(x:Str):Dh "tuple" (.str x)=some false:=rfl
def aeV(l:List D):Dh "tuple" (.lst l)=some false:=rfl
def aeU(l:List D):Dh "tuple" (.tup l)=some true:=rfl
end L3
namespace L3
open PySem PySem.Spec PyProof.Rows L2
variable{K:Frag}{fd:FuncData}{mg:AB}{us:List Value}{base:Heap}{H:Hp}{X:Cx}{pos:Pos}{v:V}
def rX:List Value->Bool|.ref _::r=>rX r|l=>l ==[.type "ValueError",.type "Exception",.type "BaseException",.type "object"]
theorem NB(self:Value):∀{l:List Value},rX l=true->refuseLoop self "__setattr__" l=pure .unit|[],e=>by cases e|.ref c::r,e=>by rw[refuseLoop_ref];exact NB self e|.type n::r,e=>by have e':(Value.type n::r)=[.type "ValueError",.type "Exception",.type "BaseException",.type "object"]:=eq_of_beq e;rw[e'];exact PySem.F.store_ValueError.passes self|.none::r,e=>by cases(eq_of_beq (show((Value.none::r)==[.type "ValueError",.type "Exception",.type "BaseException",.type "object"])=true from e))|.bool b::r,e=>by cases(eq_of_beq (show((Value.bool b::r)==[.type "ValueError",.type "Exception",.type "BaseException",.type "object"])=true from e))|.int b t::r,e=>by cases(eq_of_beq (show((Value.int b t::r)==[.type "ValueError",.type "Exception",.type "BaseException",.type "object"])=true from e))|.str b t::r,e=>by cases(eq_of_beq (show((Value.str b t::r)==[.type "ValueError",.type "Exception",.type "BaseException",.type "object"])=true from e))|.builtin b::r,e=>by cases(eq_of_beq (show((Value.builtin b::r)==[.type "ValueError",.type "Exception",.type "BaseException",.type "object"])=true from e))
theorem Mt:∀{l:List Value},rX l=true->l.contains (.type "object")=true/\l.isEmpty=false|[],e=>by cases e|.ref c::r,e=>⟨by rw[R1,(Mt (l:=r) e).1,PX],rfl⟩|.type n::r,e=>by have e':(Value.type n::r)=[.type "ValueError",.type "Exception",.type "BaseException",.type "object"]:=eq_of_beq e;rw[e'];exact⟨by decide,rfl⟩|.none::r,e=>by cases(eq_of_beq (show((Value.none::r)==[.type "ValueError",.type "Exception",.type "BaseException",.type "object"])=true from e))|.bool b::r,e=>by cases(eq_of_beq (show((Value.bool b::r)==[.type "ValueError",.type "Exception",.type "BaseException",.type "object"])=true from e))|.int b t::r,e=>by cases(eq_of_beq (show((Value.int b t::r)==[.type "ValueError",.type "Exception",.type "BaseException",.type "object"])=true from e))|.str b t::r,e=>by cases(eq_of_beq (show((Value.str b t::r)==[.type "ValueError",.type "Exception",.type "BaseException",.type "object"])=true from e))|.builtin b::r,e=>by cases(eq_of_beq (show((Value.builtin b::r)==[.type "ValueError",.type "Exception",.type "BaseException",.type "object"])=true from e))
structure dX(K:Frag)(C:Addr):Prop where
 sa:findIn K (.ref C) "__setattr__"=some (some (.builtin "object.__setattr__"))
 over:(clsIn K C).any (λcd=>rX cd.mro&&cd.hasDict)=true
section
variable{prog:Program}{w:World}{A:Around}{E:AA}{s:Shared}{K:Frag}{x C:Addr}{R:Result->Shared->Prop}
def YA{ox:Obj}{od:Option Obj}{name:Str}{tk:Tok}{v:Value}(X:K.In s.heap)(I:InstAt s.heap x ox C od)(xc:dX K C)(ha:findIn K (.ref C) name=some none)(h:wpAny (model prog w) A.in1 (Builtin.ObjectAttr.storeInOwnDict (.ref x) (.ref C) (.str name tk) name v false) (λfin s'=>match fin with|.done f=>R (.ok f) s'|.again c'=>c'.quiet=true/\codeAny (model prog w) A c' R s') (λe s'=>R (.error e) s') s):codeAny (model prog w) A (.call (.builtin "object.__setattr__") ⟨[.ref x,.str name tk,v],[]⟩) R s:=by have SF:=PySem.F.store_object;obtain⟨cd,hc,ho⟩:=any_some xc.over;rw[C6]at ho;obtain⟨jv,dO⟩:=Mt ho.1;have sub:Looks (model prog w) s.heap (isInstance (.ref x) (.type "object")) true:=I.type.andThen (looks_mroIn X (by unfold mroIn;rw[hc,T9,if_neg (by rw[dO];decide),jv]));refine codeAny_call_builtin SF.slot.plain SF.entry (@check_slot (model prog w) _ _ s "object.__setattr__" "object" "__setattr__" (.ref x) [.str name tk,v] [] _ SF.kind SF.split sub (SF.args (.ref x) (.str name tk) v) ?_);have hm:Looks (model prog w) s.heap (mroOf (.ref C)) cd.mro:=(SH X hc).andThen .now;rw[osa_eq,refuse_eq];refine A8 (A8 (I.type.here (A8 (hm.here ?_))));rw[NB _ ho.1];refine E9 (A8 (I.type.here (A8 ((ZF7 X ha).here (A8 (E9 (a:=(none:Option Value)) ?_))))));exact h
def abz{D:Addr}{name:Str}{tk:Tok}{v:Value}{Q:PySem.Fin->Shared->Prop}(hD:s.heap.get? D=some {cls:=.type "dict",data:=.dict #[]})(h:∀h' tk,h'.Ns1 D (λy=>if y=name then some v else none)->Heap.SameBut D s.heap h'->Q (.done (.ret .none)) {s with heap:=h',toks:=tk}):wpAny (model prog w) A (Builtin.ObjectAttr.storeInDict D (.str name tk) name v) Q E s:=by have de:s.heap.Ns D λ_=>none:=⟨_,#[],_,hD,rfl,λ_ he=>(Array.not_mem_empty _ he).elim,λ_=>rfl⟩;unfold Builtin.ObjectAttr.storeInDict Builtin.ObjectAttr.newKeyGuard;wp_walk using wpAny_nsSet1 (Heap.Ns1.of_empty de);intro h' n sb;obtain⟨o,es,ep,PB,is1,qL⟩:=n.count (.cons name v .nil);have le:es.size<=sizeLine+1:=D2 qL (by simp[D9]);exact A8 (wpAny_lookBehind PB (is1▸pastItsLine_dict le) (E9 (h h' _ n sb)))
def ady{name:Str}{v:Value}{us:Array Value}{Q:Unit->Shared->Prop}(X:K.In s.heap)(hx:s.heap.get? x=some ⟨.ref C,none,.fields us,#[]⟩)(xc:dX K C)(ha:findIn K (.ref C) name=some none)
  (h:∀h' tk,h'.get? x=some ⟨.ref C,some s.heap.objs.size,.fields us,#[]⟩->h'.Ns1 s.heap.objs.size (λy=>if y=name then some v else none)->(∀b o,b≠x->s.heap.get? b=some o->h'.get? b=some o)->Q .unit {s with heap:=h',toks:=tk}):
  wpAny (model prog w) A (setAttr (.ref x) name v) Q E s:=by
 have I:InstAt s.heap x ⟨.ref C,none,.fields us,#[]⟩ C none:=⟨hx,rfl,rfl,True.intro⟩;refine set_plain X I xc.sa (YA (s:={s with toks:=s.toks+1}) X I xc ha ?_);obtain⟨cd,hc,zX⟩:=any_some xc.over;rw[C6]at zX;refine A8 (E9 (A8 (A8 (wpAny_loadPart (s:={s with toks:=s.toks+1}) hx (A8 (PQ (s:={s with toks:=s.toks+1}) (SH X hc) ?_))))));rw[zX.2]
 
 have Gz:x≠s.heap.objs.size:=D6 (B2 hx);have old:∀b o,b≠x->s.heap.get? b=some o->((s.heap.push {cls:=.type "dict",data:=.dict #[]}).update x λo=>{o with dict:=some s.heap.objs.size}).get? b=some o:=λb o J e=>by
  rw[Heap.get?_update_ne _ _ _ _ J];exact A5 _ e
 have itself:=R5 (λo:Obj=>{o with dict:=some s.heap.objs.size}) (A5 {cls:=.type "dict",data:=.dict #[]} hx) rfl;have isD:((s.heap.push {cls:=.type "dict",data:=.dict #[]}).update x λo=>{o with dict:=some s.heap.objs.size}).get? s.heap.objs.size=some {cls:=.type "dict",data:=.dict #[]}:=by
  rw[Heap.get?_update_ne _ _ _ _ (Ne.symm Gz)];exact D0 _ rfl
 refine A8 (wpAny_alloc' (A8 (wpAny_update' (A5 _ hx) (E9 (abz isD λh' tk n sb=>h h' tk ?_ n λb o J e=>?_)))))
 ·rw[sb.2 x Gz];exact itself
 ·rw[sb.2 b (D6 (B2 e))];exact old b o J e
end
def XE(a:Addr)(o:Obj):HO:=.ext λh=>h.get? a=some o
def XE.ok{P:Program}{w:World}{h:Heap}{a:Addr}{o:Obj}(e:h.get? a=some o):aW P w H h a (XE a o):=⟨e,⟨o,e⟩,λ_ _ p k=>k _ p⟩
theorem XE.get{P:Program}{w:World}{h:Heap}{a:Addr}{o:Obj}(x:cF P w H h)(e:H a=some (XE a o)):h.get? a=some o:=(x a _ e).1
def XO.ok{P:Program}{w:World}{h:Heap}{a C:Addr}{dx:Option Addr}{us:Array Value}{sl:Array (Option Value)}(e:h.get? a=some ⟨.ref C,dx,.fields us,sl⟩)(c2:us[2]?=some .none):aW P w H h a (XO a C dx):=⟨⟨us,sl,e,c2⟩,⟨_,e⟩,λ_ _ ⟨us,sl,p,c⟩ k=>⟨us,sl,k _ p,c⟩⟩
section
variable{X:Cx}{Z:AE}{Y:Sg}{H:Hp}{s:Shared}
def Inv.zx{a:Addr}{o0 o1:Obj}{h':Heap}{t':Nat}{fs:List (Str×V)}{mA:AB}(I:Inv X Z Y H s)(e:H a=some (XE a o0))(hx:h'.get? a=some o1)(hn:h'.Ns1 s.heap.objs.size mA)(hr:∀f,bN (fs.lookup f) (mA f))(k:∀b o,b≠a->s.heap.get? b=some o->h'.get? b=some o):Inv X Z Y (upd (upd H s.heap.objs.size (.xd fs)) a (XE a o1)) {s with heap:=h',toks:=t'}:=by
 have hf:H s.heap.objs.size=none:=I.aJ.fresh (A9 _);have other:∀b u,H b=some u->b≠a->(upd (upd H s.heap.objs.size (.xd fs)) a (XE a o1)) b=some u:=λb u q n=>by rw[Ax n,Ax (Eu q hf)];exact q
 refine I.un (h':=h') ⟨λb o q n _ _=>k b o (λz=>by subst z;rw[e]at n;cases n) q,λb o q n _ _=>⟨o.slots,k b o (λz=>by subst z;rw[e]at n;cases n) q⟩,λb o q n _=>?_,λb o q _=>?_,λb xs q=>?_,λb o u q=>?_,λb ps q=>?_⟩ λb u q=>?_;rw[Ax (λz=>by subst z;rw[e]at n;cases n),Ax (D6 (B2 q))];exact n;by_cases z:b=a;subst z;exact⟨_,hx⟩;exact⟨_,k b o z q⟩;exact other b _ q λz=>by subst z;rw[e]at q;cases q
 exact other b _ q λz=>by subst z;rw[e]at q;cases q
 exact⟨#[],by rw[other b _ q λz=>by subst z;rw[e]at q;cases q];simp⟩;by_cases z:b=a;subst z;rw[Bo]at q;cases q;exact XE.ok hx;rw[Ax z]at q;by_cases z2:b=s.heap.objs.size;subst z2;rw[Bo]at q;cases q;exact⟨mA,hn,hr⟩;rw[Ax z2]at q;refine(I.aJ b u q).cU (λc v hc z3=>k c v ?_ z3) (λc z3=>other c _ z3 λz4=>?_) (λc xs z3=>other c _ z3 λz4=>?_) λc o z3=>other c _ z3 λz4=>?_;rcases hc with rfl|hc;exact z;exact λz4=>by subst z4;rw[e]at hc;cases hc
 subst z4;rw[e]at z3;cases z3;subst z4;rw[e]at z3;cases z3;subst z4;rw[e]at z3;cases z3
def Inv.forget{a:Addr}{φ:Heap->Prop}(I:Inv X Z Y (upd H a (.ext φ)) s)(hn:H a=none):Inv X Z Y H s:=by
 have sub:∀b u,H b=some u->upd H a (.ext φ) b=some u:=λb u e=>by rw[Ax (Eu e hn)];exact e
 have nf:∀b,upd H a (.ext φ) b=none->H b=none:=λb e=>by by_cases z:b=a;subst z;exact hn;rw[Ax z]at e;exact e
 have bk:∀b u,upd H a (.ext φ) b=some u->(∀ψ,u≠.ext ψ)->H b=some u:=λb u e n=>by by_cases z:b=a;subst z;rw[Bo]at e;cases e;exact absurd rfl (n φ);rw[Ax z]at e;exact e
 have Δ:=I.base;refine⟨I.ok,I.os,I.bare,⟨Δ.keep,Δ.slot,λb u q n x=>nf b (Δ.free b u q n x),Δ.there,λb xs q=>bk _ _ (Δ.cS b xs q) (λ_ z=>nomatch z),λb u v q=>bk _ _ (Δ.cH b u v q) (λ_ z=>nomatch z),λb ps q=>?_⟩,I.loc,I.cell,nf _ I.free,λx c e=>nf _ (I.bD x c e),λp hp=>?_,λb u e=>?_,I.len⟩;obtain⟨more,z⟩:=Δ.cA b ps q;exact⟨more,bk _ _ z (λ_ z=>nomatch z)⟩;obtain⟨p1,p2,p3⟩:=I.pin p hp;exact⟨p1,nf _ p2,p3⟩;exact(I.aJ b u (sub b u e)).cU (λ_ _ _ q=>q) (λc q=>bk _ _ q (λ_ z=>nomatch z)) (λc xs q=>bk _ _ q (λ_ z=>nomatch z)) λc o q=>bk _ _ q (λ_ z=>nomatch z)
end
def jO(C:Addr)(f:Str):Sp:=λvs H Q _=>∃a v us,vs=[.ref a,v]/\H a=some (XE a ⟨.ref C,none,.fields us,#[]⟩)/\∀d,H d=none->d≠a->Q .aK (upd (upd H d (.xd [(f,v)])) a (XE a ⟨.ref C,some d,.fields us,#[]⟩))
section
variable{X:Cx}{C:Addr}{f:Str}{pos pos' p1 p2:Pos}{x y:Str}
def FX(C:Addr)(f:Str):TS:=λD Y H=>∃a v us,Y[0]?=some (some (.ref a))/\Y[1]?=some (some v)/\H a=some (XE a ⟨.ref C,none,.fields us,#[]⟩)/\∀d,H d=none->d≠a->D.nx Y (upd (upd H d (.xd [(f,v)])) a (XE a ⟨.ref C,some d,.fields us,#[]⟩))
def xE(xc:dX X.K C)(hn:findIn X.K (.ref C) f=some none)(ho:PE X (.Name x p1) (vM 0))(hv:PE X (.Name y p2) (vM 1))(hs:swapsWith (.Name y p2) (some (.Attribute (.Name x p1) f pos')) pos.line X.env=pure false:=by rfl):PS X (.Assign [.Attribute (.Name x p1) f pos'] (.Name y p2) pos) (FX C f):=by
 intro Z s Y H D I h;obtain⟨a,v,us,e0,S,ha,q⟩:=h;refine X6 (Bb (hv Z s Y H (λy H1=>y=v/\H1=H) I ⟨v,S,rfl,rfl⟩) λu s1 ⟨y,H1,I1,ry,ey,eH⟩=>Bb (ho Z s1 Y H1 (λy H2=>y=.ref a/\H2=H) I1 ⟨.ref a,e0,rfl,eH⟩) λov s2 ⟨x,H2,I2,rx,ex,eH2⟩=>?_) hs;subst ey ex eH eH2;obtain rfl:ov=Value.ref a:=rx;refine ady I2.bU (XE.get I2.aJ ha) xc hn λh' tk g1 g2 g3=>?_;refine⟨Y,_,Inv.zx I2 (t':=tk) (fs:=[(f,y)]) ha g1 g2 (λg=>?_) g3,q _ (I2.aJ.fresh (A9 _)) ?_⟩;show bN ([(f,y)].lookup g) (if g=f then some u else none);by_cases z:g=f;subst z;rw[if_pos rfl];simp only[K9,P6];exact ry;rw[if_neg z];have zb:(g ==f)=false:=by simpa using z
 simp only[K9,zb,List.lookup_nil];trivial;exact Z5 (B2 (XE.get I2.aJ ha))
end
abbrev gT:List Value:=[.type "ValueError",.type "Exception",.type "BaseException",.type "object"]
def pO(es:Array DictEntry):Bool:=es.toList.all λe=>match e.key with|.str _ _=>true|_=>false
def acK{es:Array DictEntry}(h:pO es=true):StrKeys es:=λe he=>by have q:=F9.mp h e (Array.mem_toList_iff.mpr he);revert q;cases hk:e.key with|str n t=>intro _;exact⟨n,t,rfl⟩|_=>intro q;cases q
def rK{N:Addr}{oc:Value}{od:Option Addr}{es:Array DictEntry}{ep:Nat}{sl:Array (Option Value)}(l:K.lookup N=some ⟨oc,od,.dict es ep,sl⟩)(k:pO es=true){h:Heap}(X:K.In h):h.Ns N (nsFind es):=⟨_,es,ep,X _ _ l,rfl,acK k,λ_=>rfl⟩
def Tb(K:Frag)(C fI:Addr):Prop:=∃(nm q:Str) (N:Addr) (bs bm:List Value) (sn:List Str) (sub:List Value) (ab:Bool) (col:Option Bool) (dd:Option Addr) (k0 k1 k2 k3 k5:Option Value) (mN:AB),K.lookup C=some (excClassObj nm q C N bs bm true sn sub ab col dd k0 k1 k2 k3 k5 "ValueError.__new__")/\(∀h:Heap,K.In h->OwnTail h gT bm)/\(∀h:Heap,K.In h->h.Ns N mN)/\mN "__init__"=some (.ref fI)
def We{C fI N ks:Addr}{nm q:Str}{bs:List Value}{sn:List Str}{sub:List Value}{ab:Bool}{col:Option Bool}{dd:Option Addr}{k0 k1 k2 k3 k5:Option Value}{oc c0 oL:Value}{od vH vj:Option Addr}{es jx:Array DictEntry}{ep vF:Nat}{sl vd uZ:Array (Option Value)}{cd:ClassData}(lc:K.lookup C=some (excClassObj nm q C N bs (.ref ks::gT) true sn sub ab col dd k0 k1 k2 k3 k5 "ValueError.__new__")) (ln:K.lookup N=some ⟨oc,od,.dict es ep,sl⟩) (kn:pO es=true) (hi:nsFind es "__init__"=some (.ref fI))(ll:K.lookup ks=some ⟨c0,vH,.cls cd,vd⟩) (lm:K.lookup cd.ns=some ⟨oL,vj,.dict jx vF,uZ⟩) (km:pO jx=true) (hL:nsFind jx "__init__"=none):Tb K C fI:=⟨nm,q,N,bs,_,sn,sub,ab,col,dd,k0,k1,k2,k3,k5,nsFind es,lc,λh X=>.own (X _ _ ll) (rK lm km X) hL .base,λh X=>rK ln kn X,hi⟩
def Yz{C N ks:Addr}{nm q:Str}{bs:List Value}{sn:List Str}{sub:List Value}{ab:Bool}{col:Option Bool}{dd:Option Addr}{k0 k1 k2 k3 k5:Option Value}(lc:K.lookup C=some (excClassObj nm q C N bs (.ref ks::gT) true sn sub ab col dd k0 k1 k2 k3 k5 "ValueError.__new__")) (sa:findIn K (.ref C) "__setattr__"=some (some (.builtin "object.__setattr__"))):dX K C:=⟨sa,by unfold clsIn;rw[lc];rfl⟩
def xD{c:Bool}{P:Program}{w:World}{x qual sf at_ fl:Str}{st:Stmt}{f C:Addr}{k:Nat}(F:aY K x qual st f fd)(e1:aS [sf,at_] [sf,at_] (Bt st))(zj:∀(zn:Value) (A:Around) (outer:List Env) (s:Shared) (H:Hp) (E:XK),gI (Fb c P w K mg base [sf,at_] qual (Bt st) f zn A outer s H E) (Fg st) (FX C fl)):bF P w K mg base c (k+1) f fd [sf,at_] (jO C fl):=by refine aY.BS F e1 (λvs H Q E h=>?_) λzn A outer s H vs Q E hr h=>⟨_,zj zn A outer s H E,?_⟩;obtain⟨a,v,us,rfl,_⟩:=h;rfl;obtain⟨a,v,us,rfl,ha,q⟩:=h;exact⟨a,v,us,rfl,rfl,ha,q⟩
theorem yv{h:Heap}:∀{bm:List Value},OwnTail h gT bm->bm.contains (.type "BaseException")=true|_,.base=>by decide|_,.own _ _ _ t=>by rw[R1,yv t,PX]
structure XC(P:Program)(w:World)(K:Frag)(mg:AB)(base:Heap)(c:Str)(f:Str)(C:Addr):Prop where
 at_:ClsAt K c C
 glob:mg c=some (.ref C)
 kp:keepIn K (.ref C)=true
 xc:dX K C
 made:∃(fI:Addr) (fd:FuncData) (ps:List Str) (oI:Obj),Tb K C fI/\K.lookup fI=some oI/\oI.cls=.type "function" /\bF P w K mg base false 1 fI fd ps (jO C f)/\Binds K fd ps []
section
variable{X:Cx}{Z:AE}{Y:Sg}{H:Hp}{s:Shared}{C:Addr}{c f:Str}
def aal{e d:Addr}{o0 o1 x:HO}:upd (upd (upd H e o0) d x) e o1=upd (upd H d x) e o1:=by funext b;unfold upd;by_cases z:b=e;rw[if_pos z,if_pos z];rw[if_neg z,if_neg z,if_neg z]
def aby{u:Value}{Q:AA}{E:AA}(ds:XC X.prog X.w X.K X.mg X.base c f C)(hr:aC false 2 X.A)(I:Inv X Z Y H s)(r:RelV v u)(h:∀a d t s',H a=none->H d=none->d≠a->s.heap.objs.size<=a->Inv X Z Y (upd (upd H d (.xd [(f,v)])) a (XE a ⟨.ref C,some d,.fields #[.ref t,.none,.none,.none,.bool false,.none],#[]⟩)) s'->Q (.ref a) s'):wpAny (model X.prog X.w) X.A (call (.ref C) [u]) Q E s:=by obtain⟨fI,fd,ps,oI,⟨nm,q,N,bs,bm,sn,sub,ab,col,dd,k0,k1,k2,k3,k5,mN,lc,tl,hn,hi⟩,lI,hI,F,J⟩:=ds.made;have KX:=I.bU;obtain⟨hh,g,dr,tk,os⟩:=s;refine aaL ZA4 (tl hh KX) (KX _ _ lc) (hn hh KX) hi (KX _ _ lI) hI (λh' e me ze=>?_) (by show 1<=sizeLine;rw[D9];lia);obtain⟨kk,new,t,et,_,_⟩:=me;have I2:Inv X Z Y (upd H e (XE e ⟨.ref C,none,.fields #[.ref t,.none,.none,.none,.bool false,.none],#[]⟩)) ⟨h',g,dr,tk,os⟩:=I.laid (h':=h') (t':=tk) kk ze (XE.ok et);have he:H e=none:=I.aJ.fresh ze;have r2:Vals [.ref e,v] [.ref e,u]:=.cons rfl (.cons r .nil);have sp:jO C f [.ref e,v] (upd H e (XE e ⟨.ref C,none,.fields #[.ref t,.none,.none,.none,.bool false,.none],#[]⟩)) (λy H2=>y=.aK/\∃d,H d=none/\d≠e/\H2=upd (upd H d (.xd [(f,v)])) e (XE e ⟨.ref C,some d,.fields #[.ref t,.none,.none,.none,.bool false,.none],#[]⟩)) (λ_ _ _=>False):=⟨e,v,_,rfl,Bo,λd hd ne=>⟨rfl,d,by rw[Ax ne]at hd;exact hd,ne,aal⟩⟩;have hl: [Value.ref e,u].length=ps.length:=F.len _ _ _ _ sp;have cR:=J ⟨h',g,dr,tk,os⟩ [.ref e,u] I2.bU (by rw[G6];exact hl);rw[G6]at cR;refine Y4 (U4 (F.run _ X.stack _ _ ⟨[.ref e,u],[]⟩ [.ref e,u] [.ref e,v] _ _ (hr.make C [u] []) (I2.vX.make C [u] []) cR r2 sp) λr s' hq=>?_);cases r with|error x=>obtain⟨a,C',dx,T,O,_,_,_,_,_,_,_,_,_,_,z⟩:=hq;exact z.elim|ok fl=>cases fl with|ret y=>obtain⟨v',O,I3,rv,ev,d,hd,ne,eH⟩:=I2.after hq;subst ev eH;exact⟨rv,h e d t s' he hd ne ze I3⟩|next=>exact False.elim hq|brk=>exact False.elim hq|cont=>exact False.elim hq
def Th(X:Cx)(EX:Be):Prop:=∀(Z:AE) (Y:Sg) (H O:Hp) (s s':Shared) (a C:Addr) (dx:Option Addr) (o:Obj) (us:Array Value),Inv X Z Y H s->Inv X Z Y O s'->s'.heap.get? a=some o->o.cls=.ref C->o.dict=dx->o.data=.fields us->us[1]?=some .none->us[2]?=some .none->O a=none->s.heap.objs.size<=a->nz X.K (EX Y) (.ref C) dx O->X.xe (.ref a) s'
def jT{cm:Bool}{P:Program}{w:World}{N:List Str}{qual:Str}{scope:Scope}{f:Addr}{cd:Value}{A:Around}{outer:List Env}{s:Shared}{E:XK}:Th (Fb cm P w K mg base N qual scope f cd A outer s H E) (λ_=>bK K E):=λZ Y H O s s' a C dx o us I I' he hc hx hd h1 c2 n1 z1 q=>aew I I' he hc hx hd h1 c2 n1 z1 q.of
def Hf(c f:Str)(js:List Nat)(fe:FE):FS:=λ B=>match fe (Ay (aE js B))with|.ok w=>.ex ⟨c,[f],[w.d]⟩ (aE js B)|.ex x=>.ex x (aE js B)|.no=>.no
def oY{EX:Be}(js:List Nat){e:Expr}{fe:FE}{np zf pos:Pos}(ds:XC X.prog X.w X.K X.mg X.base c f C)(hr:aC true 2 X.A)(l1:Th X EX)(he:ED X EX e fe)(hg:Gl X c:=by rfl)(cL:AG c:=by decide)(hs:starEach [e] X.env=(false,eval e X.env)::starEach [] X.env:=by rfl) (bM:(backTo zf (starEach [] X.env)).any (·.1)=false:=by rfl):SD X EX (.Raise (some (.Call (.Name c np) [e] [] zf)) none pos) (Hf c f js fe):=by
 intro Z s Y H D I q;obtain⟨H0,G0,G,B,H',E,q⟩:=q;obtain⟨G',O',sg,E'⟩:=E.aE js;obtain⟨fI,fd,ps,oI,⟨nm,qn,N,bs,bm,sn,sub,ab,col,dd,k0,k1,k2,k3,k5,mN,lc,tl,hn,hi⟩,lI,hI,F,J⟩:=ds.made;have hB:bm.contains (.type "BaseException")=true:=yv (tl s.heap I.bU);rw[arm_exec_Raise];have tD0:tD X.K EX fe Y H λv H1=>∃v' w G1,[v]=[v']/\fe (Ay (aE js B))=.ok w/\Step G' H G1 H1/\aP X.K G1 v' w.d:=by refine⟨G',Ay (aE js B),E'.st.gh,E'.eA,?_⟩;unfold Hf at q;cases S:fe (Ay (aE js B))with|ok w=>exact WP.intro λv G1 H1 st r=>⟨v,w,G1,rfl,rfl,st,r⟩|ex x=>rw[S]at q;exact q Y G' H O' E' sg|no=>rw[S]at q;exact q
 have mk:wpAny (model X.prog X.w) X.A (eval (.Call (.Name c np) [e] [] zf) X.env) (λv s1=>∃a t dx,v=.ref a/\s1.heap.get? C=some (excClassObj nm qn C N bs bm true sn sub ab col dd k0 k1 k2 k3 k5 "ValueError.__new__")/\s1.heap.get? a=some {cls:=.ref C,dict:=dx,data:=.fields #[.ref t,.none,.none,.none,.bool false,.none]}/\X.xe (.ref a) s1) X.xe s:=by refine N1 (pJ I hg ds.glob ?_ cL);refine W7 (h₀:=X.base) I.ok.mod.kC ds.kp (Bb (Hi he jq hs zf Z s Y H (λvs H1=>∃v' w G1,vs=[v']/\fe (Ay (aE js B))=.ok w/\Step G' H G1 H1/\aP X.K G1 v' w.d) I tD0) λus s1 ⟨vs,H1,I1,r,v,w,G1,ev,ew,st,hv⟩=>⟨I1.bU,?_⟩) hs bM;subst ev;obtain⟨u,rfl,ru⟩:=r.one;refine aby ds hr.loose I1 ru λa d t s2 ha hd ne za I2=>?_;have ga:=XE.get I2.aJ Bo;refine⟨a,t,some d,rfl,I2.bU _ _ lc,ga,?_⟩;have I3:Inv X Z Y (upd H1 d (.xd [(f,v)])) s2:=Inv.forget I2 (by rw[Ax ne.symm];exact ha);refine l1 Z Y H1 _ s1 s2 a C (some d) _ _ I1 I3 ga rfl rfl rfl rfl rfl (by rw[Ax ne.symm];exact ha) za ?_;have aV:Step G1 H1 (upd G1 d (.xd [(f,v)])) (upd H1 d (.xd [(f,v)])):=Step.new st.gh hd _;refine⟨⟨c,[f],[w.d]⟩,upd G1 d (.xd [(f,v)]),aV.gh,.iD ds.at_ Bo rfl (.cons (hv.mono aV.gg) .nil),?_⟩;unfold Hf at q;rw[ew]at q;exact q Y _ _ O' ((E'.grow st).grow aV) (sg.trans (st.gg.trans aV.gg))
 refine A8 (S7 (LO hB (hr.hd rfl) (A8 (F5 mk (λv s3 h3=>A8 (S7 (E9 h3))) λ_ _ x=>x))))
end
section
variable{X:Cx}{Z:AE}{Y:Sg}{H:Hp}{s:Shared}
def sX{ds:Model}{A:Around}{E:AA}{i:Nat}{n:Str}{Q:Unit->Shared->Prop}(I:Inv X Z Y H s)(hN:X.N.Nodup)(hi:X.N[i]?=some n)(hk:X.env.scope.names.lookup n=some .local)(h:∀s',Inv X Z (Y.set i none) H s'->Q .unit s'):wpAny ds A (do bindName X.env n .none;unbindBehindTheSuite X.env n pos) Q E s:=by
 obtain⟨m,hn,hl⟩:=id I.loc;have dq:(X.env.scope.kind ==.class||(X.env.scope.kind ==.module&&X.env.locals !=X.env.globals))=false:=by rw[I.ok.kind];rfl
 have hiσ:i<Y.length:=by rw[I.len];exact(A7.mp hi).1
 have nt:=I.nt;have tracked:∀{a:Addr}{h':Heap},(∃o,s.heap.get? a=some o/\H a=none)->Heap.SameBut a s.heap h'->cF X.prog X.w H h':=λ{a h'} ha hs b ob e=>by obtain⟨_,_,ar⟩:=ha;refine(I.aJ b ob e).cU (λc w' hc q=>(hs.2 c ?_).trans q) (λ_ q=>q) λ_ _ q=>q;rintro rfl;rcases hc with rfl|hc;rw[ar]at e;cases e;rw[ar]at hc;cases hc
 refine wpAny_nameGoes_keeps hk hn dq λh' v QS hs=>?_;obtain⟨oL,_,_,QR,_⟩:=id hn;refine h _ ⟨I.ok,I.os,I.bare,⟨λb o e n J hx=>?_,λb o e n J hx=>?_,I.base.free,λb o e hx=>?_,I.base.cS,I.base.cH,I.base.cA⟩,⟨_,QS,λj y v' S e2 e3=>?_⟩,λy c e=>?_,I.free,I.bD,λp hp=>?_,tracked ⟨oL,QR,I.free⟩ hs,by simpa using I.len⟩;exact(hs.2 b (D6 (C9 (B2 e) I.ok.above))).trans (I.base.keep b o e n J hx);obtain⟨sl,S⟩:=I.base.slot b o e n J hx;exact⟨sl,(hs.2 b (D6 (C9 (B2 e) I.ok.above))).trans S⟩;obtain⟨o',S⟩:=I.base.there b o e hx;exact⟨o',(hs.2 b (D6 (C9 (B2 e) I.ok.above))).trans S⟩;by_cases hj:j=i;subst hj;rw[K2 hiσ]at e2;cases e2;rw[D4 (Ne.symm hj)]at e2;obtain⟨u',r',q⟩:=hl j y v' S e2 e3;refine⟨u',r',?_⟩;rcases q with⟨k,e⟩|⟨k,c,e,z⟩;refine .inl ⟨k,?_⟩;have:y≠n:=λe=>hj (yk hN S (e▸hi));simp[this,e];exact .inr ⟨k,c,e,z.sameBut hs (nt y c e)⟩;obtain⟨w',z⟩:=I.cell y c e;exact⟨w',z.sameBut hs (nt y c e)⟩;obtain⟨e,n,ne,nf,d⟩:=I.pin p hp;exact⟨(hs.2 p.1 ne).trans e,n,ne,nf,d⟩
def Inv.NX{O:Hp}{s':Shared}{a C:Addr}{dx:Option Addr}{us:Array Value}{sl:Array (Option Value)}(I:Inv X Z Y H s)(I':Inv X Z Y O s')(za:s.heap.objs.size<=a)(e:s'.heap.get? a=some ⟨.ref C,dx,.fields us,sl⟩)(c2:us[2]?=some .none)(hn:O a=none):Inv X Z Y (upd O a (.cY ⟨.ref C,dx,.fields us,sl⟩ (XO a C dx))) s':=by
 have Δ:=I'.base;have ns:∀b o,X.s₀.heap.get? b=some o->b≠a:=λb o q z=>absurd (C9 (B2 q) (D2 I.sz za)) (by rw[z];exact F3 _);have lt:∀b:Addr,b<s.heap.objs.size->b≠a:=λb h z=>absurd (C9 h za) (by rw[z];exact F3 _);have up:∀b u,O b=some u->upd O a (.cY ⟨.ref C,dx,.fields us,sl⟩ (XO a C dx)) b=some u:=λb u q=>by rw[Ax (Eu q hn)];exact q
 refine⟨I'.ok,I'.os,I'.bare,⟨Δ.keep,Δ.slot,λb o q n x=>by rw[Ax (ns b o q)];exact Δ.free b o q n x,Δ.there,λb xs q=>up _ _ (Δ.cS b xs q),λb o u q=>up _ _ (Δ.cH b o u q),λb ps q=>let⟨m,z⟩:=Δ.cA b ps q;⟨m,up _ _ z⟩⟩,I'.loc,I'.cell,?_,λx c q=>?_,λp hp=>?_,λb u q=>?_,I'.len⟩;rw[Ax (lt _ I.lt)];exact I'.free;obtain⟨v,hv⟩:=I.cell x c q;rw[Ax (lt _ hv.lt)];exact I'.bD x c q;obtain⟨p1,p2,p3⟩:=I'.pin p hp;exact⟨p1,by rw[Ax (lt _ (B2 (I.pin p hp).1))];exact p2,p3⟩;by_cases z:b=a;subst z;rw[Bo]at q;cases q;exact⟨e,XO.ok e c2⟩;rw[Ax z]at q;exact(I'.aJ b u q).cU (λ_ _ _ q=>q) (λc q=>up _ _ q) (λc xs q=>up _ _ q) λc o q=>up _ _ q
end
noncomputable def gK(X:Cx)(Z:AE)(W:AA):Cx:={X with pn:=X.pn++Z,xe:=W}
structure HX where
 a:Addr
 C:Addr
 dx:Option Addr
 us:Array Value
 sl:Array (Option Value)
 c2:us[2]?=some .none
def HX.ho(e:HX):HO:=.cY ⟨.ref e.C,e.dx,.fields e.us,e.sl⟩ (XO e.a e.C e.dx)
def hand(X:Cx)(e:HX):Cx:={X with A:=X.A.mark (some (.ref e.a)),calm:=false,xe:=λ_ _=>False,H₀:=upd X.H₀ e.a e.ho}
section
variable{X:Cx}{Z ao:AE}{Y:Sg}{H:Hp}{s:Shared}{W:AA}{e:HX}
def kQ:(gK X Z W).Ok↔X.Ok:=⟨λok=>⟨ok.mod,ok.kind,ok.glob,ok.blt,ok.above,ok.inj,ok.has,ok.qO,ok.hd,ok.frames,ok.tV,ok.AL,ok.bs,ok.iX,ok.eU,ok.gQ,ok.bV,ok.lr,ok.tb⟩,λok=>⟨ok.mod,ok.kind,ok.glob,ok.blt,ok.above,ok.inj,ok.has,ok.qO,ok.hd,ok.frames,ok.tV,ok.AL,ok.bs,ok.iX,ok.eU,ok.gQ,ok.bV,ok.lr,ok.tb⟩⟩
def Inv.toB(I:Inv X Z Y H s):Inv (gK X Z W) [] Y H s:=⟨kQ.mpr I.ok,I.os,I.bare,I.base,I.loc,I.cell,I.free,I.bD,λp hp=>I.pin p (by have hp:p∈(X.pn++Z)++[]:=hp;rwa[G6]at hp),I.aJ,I.len⟩
def Inv.ud(I:Inv (gK X Z W) ao Y H s):Inv X Z Y H s:=⟨kQ.mp I.ok,I.os,I.bare,I.base,I.loc,I.cell,I.free,I.bD,λp hp=>I.pin p (N0 _ hp),I.aJ,I.len⟩
theorem SP.ud{D:Ends}{f:Flow}(h:SP (gK X Z W) ao D f s):SP X Z D f s:=by cases f with|next=>obtain⟨σ',O,I,q⟩:=h;exact⟨σ',O,Inv.ud I,q⟩|brk=>obtain⟨σ',O,I,q⟩:=h;exact⟨σ',O,Inv.ud I,q⟩|cont=>obtain⟨σ',O,I,q⟩:=h;exact⟨σ',O,Inv.ud I,q⟩|ret u=>obtain⟨v,σ',O,I,r,q⟩:=h;exact⟨v,σ',O,Inv.ud I,r,q⟩
def Un.vU{fs ex:List Addr}{H0 O:Hp}{h h':Heap}{a:Addr}{o:Obj}{u:HO}(U:Un fs ex H0 O h h')(z:h.objs.size<=a)(q:O a=some (.cY o u)):Un fs ex (upd H0 a (.cY o u)) O h h':=by
 have nb:∀b o,h.get? b=some o->b≠a:=λb o g e=>absurd (B2 g) (by rw[e];exact EK.mpr z);refine⟨λb o g n=>U.keep b o g (by rwa[Ax (nb b o g)]at n),λb o g n=>U.slot b o g (by rwa[Ax (nb b o g)]at n),λb o g n=>U.free b o g (by rwa[Ax (nb b o g)]at n),U.there,λb xs e=>?_,λb ob v e=>?_,λb ps e=>?_⟩;all_goals
  by_cases J:b=a
  subst J;rw[Bo]at e;cases e
  try exact q
  rw[Ax J]at e
  first|exact U.cS b _ e|exact U.cH b _ _ e|exact U.cA b _ e
def Un.NZ{fs ex:List Addr}{H0 H1 O:Hp}{h h1 h':Heap}{a:Addr}{v:HO}(U0:Un fs ex H0 H1 h h1)(n:H1 a=none)(U:Un fs ex (upd H0 a v) O h h')(z:h.objs.size<=a):Un fs ex H0 O h h':=by have nb:∀b o,h.get? b=some o->b≠a:=λb o g e=>absurd (B2 g) (by rw[e];exact EK.mpr z);refine⟨λb o g q=>U.keep b o g (by rwa[Ax (nb b o g)]),λb o g q=>U.slot b o g (by rwa[Ax (nb b o g)]),λb o g q=>U.free b o g (by rwa[Ax (nb b o g)]),U.there,λb xs e=>?_,λb ob v e=>?_,λb ps e=>?_⟩;by_cases J:b=a;subst J;have:=U0.cS b xs e;rw[n]at this;cases this;exact U.cS b xs (by rwa[Ax J]);by_cases J:b=a;subst J;have:=U0.cH b ob v e;rw[n]at this;cases this;exact U.cH b ob v (by rwa[Ax J]);by_cases J:b=a;subst J;obtain⟨m,q⟩:=U0.cA b ps e;rw[n]at q;cases q;exact U.cA b ps (by rwa[Ax J])
def Inv.Oj(I:Inv X Z Y H s)(z:X.s₀.heap.objs.size<=e.a)(q:H e.a=some e.ho):Inv (hand X e) Z Y H s:=by have nb:∀b o,X.s₀.heap.get? b=some o->b≠e.a:=λb o g y=>absurd (B2 g) (by rw[y];exact EK.mpr z);refine⟨⟨I.ok.mod,I.ok.kind,I.ok.glob,I.ok.blt,I.ok.above,I.ok.inj,I.ok.has,I.ok.qO,λz=>absurd z B5,I.ok.frames,I.ok.tV,I.ok.AL,λb o g=>?_,I.ok.iX,I.ok.eU,I.ok.gQ,I.ok.bV,λb J=>?_,λc P g=>let⟨ps,y⟩:=I.ok.tb c P g;⟨ps,(Ax λu=>by subst u;obtain⟨_,k⟩:=I.base.cA _ _ y;rw[q]at k;cases k).trans y⟩⟩,I.os,I.bare,Un.vU I.base z q,I.loc,I.cell,I.free,I.bD,I.pin,I.aJ,I.len⟩;obtain⟨g1,g2⟩:=I.ok.bs b o g;exact⟨g1,(Ax (nb b o g1)).trans g2⟩;obtain⟨_,u,hu,_⟩:=I.ok.bV.mem J;exact(Ax (nb b u hu)).trans (I.ok.lr b J)
def Inv.ub{p0:AE}{σ0:Sg}{H0:Hp}{s0:Shared}(hb:Inv X p0 σ0 H0 s0)(n:H0 e.a=none)(z:X.s₀.heap.objs.size<=e.a)(I:Inv (hand X e) Z Y H s):Inv X Z Y H s:=⟨hb.ok,I.os,I.bare,Un.NZ hb.base n I.base z,I.loc,I.cell,I.free,I.bD,I.pin,I.aJ,I.len⟩
end
noncomputable def FW(i:Nat):Fl->Fl|.nx B=>.nx (B.set i .no)|.bk B=>.bk (B.set i .no)|.ct B=>.ct (B.set i .no)|.rt w=>.rt w|_=>.no
def bE(K:Frag)(C2:Addr)(tb:List (Str×Bool)):Prop:=∀c b,tb.lookup c=some b->∀C,ClsAt K c C->exmOne K (.ref C) (.ref C2)=some b
def Ev.drop{H0:HB}{G0 G H:Hp}{Y:Sg}{B:SE}{H':OS}(E:Ev K H0 G0 G H Y B H')(i:Nat):Ev K H0 G0 G H (Y.set i none) (B.set i .no) H':=by refine⟨E.st,by rw[F7,F7];exact E.len,λj d e=>?_,λj z d e zo=>?_,E.out,E.dj,λj d e=>?_,λj d e=>?_⟩;rcases Gs e with⟨rfl,q⟩|⟨n,q⟩;cases q;rw[D4 n];exact E.sh j d q;rcases Gs e with⟨rfl,q⟩|⟨n,q⟩;subst q;cases zo;rw[D4 n];exact E.ow j z d q zo;rcases Gs e with⟨rfl,q⟩|⟨n,q⟩;cases q;rw[D4 n];exact E.lk j d q;rcases Gs e with⟨rfl,q⟩|⟨n,q⟩;cases q;rw[D4 n];exact E.lt j d q
section
variable{X:Cx}{EX:Be}{i:Nat}{tb:List (Str×Bool)}{g h:FS}{c n:Str}{C2:Addr}{body ai:List Stmt}{b₀:Stmt}{np hp pos:Pos}
def aP.exc{G:Hp}{a C:Addr}{dx:Option Addr}{o:Obj}{x:Xn}(hn:G a=none)(e:ExcAt K G (.ref C) dx x):aP K (upd G a (.cY o (XO a C dx))) (.ref a) (.uy x.c x.ns x.vs):=by cases e with|bare hc=>exact .jF hc Bo|iD hc hd hl r=>exact .jE hc Bo (by rw[Ax (Eu hd hn)];exact hd) hl (r.mono (iV hn _))
def aak{H0:HB}{G0 G1:Hp}{D:Ends}{r:Fl}(q:Fin K EX H0 G0 G1 D (FW i r)):Fin K Cl H0 G0 G1 {nx:=λ Y H=>D.nx (Y.set i none) H,rt:=D.rt,bk:=λ Y H=>D.bk (Y.set i none) H,ct:=λ Y H=>D.ct (Y.set i none) H} r:=by cases r with|nx B=>exact λ Y G H H' E sg=>q _ G H H' (E.drop i) sg|bk B=>exact λ Y G H H' E sg=>q _ G H H' (E.drop i) sg|ct B=>exact λ Y G H H' E sg=>q _ G H H' (E.drop i) sg|rt w=>exact q|rv d B=>exact q.elim|ex x B=>exact q.elim|no=>exact q
end
structure agh(K:Frag)(C:Addr)(f:Str):Prop where
 ga:findIn K (.ref C) "__getattribute__"=some (some (.builtin "BaseException.__getattribute__"))
 gt:findIn K (.ref C) "__getattr__"=some none
 be:mroIn K C (.type "BaseException")=some true
 hd:hasDictIn K C=true
 no:findIn K (.ref C) f=some none
section
variable{prog:Program}{w:World}{A:Around}{E:AA}{s:Shared}{K:Frag}{x C dx:Addr}{f:Str}
structure agc(K:Frag)(C:Addr):Prop where
 ga:findIn K (.ref C) "__getattribute__"=some (some (.builtin "BaseException.__getattribute__"))
 gt:findIn K (.ref C) "__getattr__"=some none
 be:mroIn K C (.type "BaseException")=some true
 hd:hasDictIn K C=true
 cl:findIn K (.ref C) "__class__"=some (some (.builtin "object.__class__"))
 gs:specialIn K (.builtin "object.__class__") "__get__"=some (some (.builtin "getset_descriptor.__get__"))
 tk:takesIn K (.builtin "object.__class__")=some true
 ob:mroIn K C (.type "object")=some true
end
def Oa(cs:List Str)(f:Str)(fo:FE):FE:=λ δ=>(fo δ).bind λw=>match w.d with|.uy c ns vs=>if cs.contains c=true then(match(ns.zip vs).lookup f with|some d=>.ok (.sh d)|none=>.no) else .no|_=>.no
section
variable{X:Cx}{EX:Be}{o:Expr}{fo:FE}{f:Str}{cs:List Str}{pos:Pos}
end
def YL(tb:List (Str×Bool))(fo:FE):FE:=λ δ=>(fo δ).bind λw=>match w.d with|.uy c _ _=>(match tb.lookup c with|some b=>.ok (.sh (.bl b))|none=>.no)|_=>.no
section
variable{X:Cx}{EX:Be}{Z:AE}{Y:Sg}{G H:Hp}{s:Shared}
variable{a:Expr}{fo:FE}{tb:List (Str×Bool)}{pp pos:Pos}
end
theorem aC.units{c:Bool}{k:Nat}{A:Around}(r:aC c k A):A.units+64<cLine:=by have:=r.un;lia
section
variable{X:Cx}{c:Bool}{k:Nat}{Z:AE}{W:AA}{e:HX}
def do_1(h:aC c k (Cx.A X)):aC c k (Cx.A (Cx.mV X)):=h
def sQ(h:aC c k (Cx.A X)):aC c k (Cx.A (gK X Z W)):=h
def Fc{cm:Bool}{P:Program}{w:World}{N:List Str}{qual:Str}{scope:Scope}{f:Addr}{cd:Value}{A:Around}{outer:List Env}{s:Shared}{E:XK}:PassesOwn (model P w) (Cx.A (Fb cm P w K mg base N qual scope f cd A outer s H E)) (Cx.env (Fb cm P w K mg base N qual scope f cd A outer s H E)) (Cx.xe (Fb cm P w K mg base N qual scope f cd A outer s H E)):=λe s' h=>wpAny_leaving_again (SameStack.refl _) h
def bE.one{C2:Addr}{c:Str}{C:Addr}{b:Bool}(a:ClsAt K c C)(h:exmOne K (.ref C) (.ref C2)=some b){tb:List (Str×Bool)}(r:bE K C2 tb):bE K C2 ((c,b)::tb):=λc' b' e C' a'=>by rw[K9]at e;cases z:(c' ==c)with|true=>rw[z]at e;cases e;have:c'=c:=eq_of_beq z;subst this;unfold ClsAt at a a';rw[a]at a';cases a';exact h|false=>rw[z]at e;exact r c' b' e C' a'
def bE.nil{C2:Addr}:bE K C2 []:=λ_ _ e=>by cases e
end
structure Hd where
 i:Option Nat
 tb:List (Str×Bool)
 h:FS
def vV(d:Hd)(x:Xn)(B:SE):Fl:=match d.i with|some i=>FW i (d.h (B.set i (.sh (.uy x.c x.ns x.vs))))|none=>(match d.h B with|.ex _ _=>.no|r=>r)
def Hh:List Hd->Xn->SE->Fl|[],_,_=>.no|d::r,x,B=>match d.tb.lookup x.c with|some true=>vV d x B|some false=>Hh r x B|none=>.no
def jK(g:FS)(hs:List Hd):FS:=λ B=>match g B with|.ex x Δ1=>Hh hs x Δ1|r=>r
inductive fJ(X:Cx):List ExceptHandler->List Hd->Prop where
 |nil:fJ X [] []
 |as_ {c n:Str}{C2:Addr}{b₀:Stmt}{ai:List Stmt}{np hp:Pos}{i:Nat}{tb:List (Str×Bool)}{h:FS}{hs:List ExceptHandler}{M:List Hd}(hc:X.mg c=some (.ref C2)) (ct:bE X.K C2 tb) (hh:∀e,BD (hand X e) Cl (b₀::ai) h) (r:fJ X hs M) (hi:X.N[i]?=some n:=by rfl) (hk:X.env.scope.names.lookup n=some .local:=by rfl) (hg:Gl X c:=by rfl) (cL:AG c:=by decide):fJ X (.ExceptHandler (some (.Name c np)) (some n) (b₀::ai) hp::hs) (⟨some i,tb,h⟩::M)
 |bare {c:Str}{C2:Addr}{b₀:Stmt}{ai:List Stmt}{np hp:Pos}{tb:List (Str×Bool)}{h:FS}{hs:List ExceptHandler}{M:List Hd}(hc:X.mg c=some (.ref C2)) (ct:bE X.K C2 tb) (hh:∀e,BD (hand X e) Cl (b₀::ai) h) (r:fJ X hs M) (hg:Gl X c:=by rfl) (cL:AG c:=by decide):fJ X (.ExceptHandler (some (.Name c np)) none (b₀::ai) hp::hs) (⟨none,tb,h⟩::M)
def EXh(K:Frag)(EX:Be)(D:Ends)(M:List Hd):Be:=λ Y=>⟨λx G H=>∃H0 G0 B H',Ev K H0 G0 G H Y B H'/\Fin K EX H0 G0 G D (Hh M x B),λ_ _ _ _ _ s ⟨H0,G0,B,H',E,f⟩=>⟨H0,G0,B,H',E.grow s,Fin.mono s.gg f⟩⟩
def Yy{EX:Be}{H0:HB}{G0 G1:Hp}{D:Ends}{r:Fl}(q:Fin K EX H0 G0 G1 D (match r with|.ex _ _=>.no|r=>r)):Fin K Cl H0 G0 G1 {nx:=D.nx,rt:=D.rt,bk:=D.bk,ct:=D.ct} r:=by cases r with|nx B=>exact q|bk B=>exact q|ct B=>exact q|rt w=>exact q|rv d B=>exact q|ex x B=>exact q.elim|no=>exact q
section
variable{X:Cx}{EX:Be}{g:FS}{body:List Stmt}{pos:Pos}
def abx(hN:X.N.Nodup){Z:AE}{D:Ends}{a C T2:Addr}{dx:Option Addr}{σ1 σ0:Sg}{H1 H2:Hp}{s1 s2:Shared}{h2:Heap}{x:Xn}{ES:HB}{G2 ET:Hp}{Δ1:SE}{O1:OS}{e0:HX}{h9:Heap}(ha:e0.a=a)(hC:e0.C=C)(hx:e0.dx=dx)(zz:X.s₀.heap.objs.size<=e0.a)(J1:Inv X Z σ0 H1 s1) (J3:Inv X Z σ1 H2 {s2 with heap:=h9}) (J4:Inv X Z σ1 (upd H2 a e0.ho) {s2 with heap:=h2}) (qk:Step G2 H2 (upd G2 a e0.ho) (upd H2 a e0.ho))(n1:H2 a=none) (ve:aA G2 H2) (ea:ExcAt X.K G2 (.ref C) dx x) (LT:Looks (model X.prog X.w) h2 (typeOf (.ref a)) (.ref C)) (uv:ClsAt X.K x.c C)(E1:Ev X.K ES ET G2 H2 σ1 Δ1 O1)(nj:∀{A:Around}{E:AA}{Q:Unit->Shared->Prop},(∀h3,Inv X Z σ1 (upd H2 a e0.ho) {s2 with heap:=h3}->Q .unit {s2 with heap:=h3})->wpAny (model X.prog X.w) A (setFlight (.ref a) none) Q E {s2 with heap:=h2}):∀{hs:List ExceptHandler}{M:List Hd},fJ X hs M->Fin X.K EX ES ET G2 D (Hh M x Δ1)->wpAny (model X.prog X.w) X.A (handleBy (.ref a) X.env hs) (SP X Z D) X.xe {s2 with heap:=h2}:=by
 subst ha hC hx;intro hs M ho;induction ho with
 |nil=>intro q;exact False.elim q|as_ hc ct hh r hi hk hg cL ih=>rename_i c n C2 b₀ ai np hp i tb h hs M;intro q;refine wpAny_handleBy_cons (codeAny_handlers_test ?_) (by intro z;cases z);refine pJ (X:=hand X e0) (Inv.Oj J4 zz Bo) hg hc ?_ cL;unfold Hh at q;cases e2:tb.lookup x.c with|none=>simp only[e2]at q;exact q.elim|some b=>have em:=ct _ _ e2 _ uv;refine PQ (s:={s2 with heap:=h2}) (exm_one J4.bU LT em) ?_;cases b with|false=>simp only[e2]at q;exact ih q|true=>simp only[e2,vV]at q;show codeAny _ _ _ _ _;refine codeAny_handlers_suite_as (nj λh3 J5=>?_);refine yj (X:=hand X e0) (v:=.ref e0.a) (Inv.Oj J5 zz Bo) hN hi (.inl hk) rfl (λs6 I6=>?_) (.inr hk);have E6:=(E1.grow qk).put (i:=i) (aP.exc (ve.free n1) ea);refine F5 (hh e0 Z s6 _ _ _ I6 ⟨ES,ET,_,_,O1,E6,aak (Fin.mono qk.gg q)⟩) (λf s7 h7=>?_) λ_ _ z=>False.elim z;show wpAny _ X.A (do bindName X.env n .none;unbindBehindTheSuite X.env n hp) (λ_ s₃=>SP X Z D f s₃) _ s7;cases f with|next=>obtain⟨σ7,H7,I7,q7⟩:=h7;exact sX (Inv.ub J3 n1 zz I7) hN hi hk λs8 I8=>⟨_,H7,I8,q7⟩|brk=>obtain⟨σ7,H7,I7,q7⟩:=h7;exact sX (Inv.ub J3 n1 zz I7) hN hi hk λs8 I8=>⟨_,H7,I8,q7⟩|cont=>obtain⟨σ7,H7,I7,q7⟩:=h7;exact sX (Inv.ub J3 n1 zz I7) hN hi hk λs8 I8=>⟨_,H7,I8,q7⟩|ret u=>obtain⟨v,σ7,H7,I7,r7,q7⟩:=h7;exact sX (Inv.ub J3 n1 zz I7) hN hi hk λs8 I8=>⟨v,_,H7,I8,r7,q7⟩
 |bare hc ct hh r hg cL ih=>rename_i c C2 b₀ ai np hp tb h hs M;intro q;refine wpAny_handleBy_cons (codeAny_handlers_test ?_) (by intro z;cases z);refine pJ (X:=hand X e0) (Inv.Oj J4 zz Bo) hg hc ?_ cL;unfold Hh at q;cases e2:tb.lookup x.c with|none=>simp only[e2]at q;exact q.elim|some b=>have em:=ct _ _ e2 _ uv;refine PQ (s:={s2 with heap:=h2}) (exm_one J4.bU LT em) ?_;cases b with|false=>simp only[e2]at q;exact ih q|true=>simp only[e2,vV]at q;show codeAny _ _ _ _ _;refine codeAny_handlers_suite (nj λh3 J5=>?_);have E6:=E1.grow qk;refine F5 (hh e0 Z {s2 with heap:=h3} _ _ _ (Inv.Oj J5 zz Bo) ⟨ES,ET,_,_,O1,E6,Yy (Fin.mono qk.gg q)⟩) (λf s7 h7=>?_) λ_ _ z=>False.elim z;cases f with|next=>obtain⟨σ7,H7,I7,q7⟩:=h7;exact⟨_,H7,Inv.ub J3 n1 zz I7,q7⟩|brk=>obtain⟨σ7,H7,I7,q7⟩:=h7;exact⟨_,H7,Inv.ub J3 n1 zz I7,q7⟩|cont=>obtain⟨σ7,H7,I7,q7⟩:=h7;exact⟨_,H7,Inv.ub J3 n1 zz I7,q7⟩|ret u=>obtain⟨v,σ7,H7,I7,r7,q7⟩:=h7;exact⟨v,_,H7,Inv.ub J3 n1 zz I7,r7,q7⟩
def Yx{Rh:ExceptHandler}{QQ:List ExceptHandler}{M:List Hd}(hN:X.N.Nodup)(qF:X.env.frame=some X.env.locals)(dA:X.stack=X.env::X.outer)(J:∀Z W TC,Lk (gK X Z W) TC->BD (gK X Z W) TC body g)(ho:fJ X (Rh::QQ) M):SD X EX (.Try body (Rh::QQ) [] [] pos) (jK g M):=by
 intro Z s Y H D I q;obtain⟨H0,G0,G,B,H',E,q⟩:=q;refine wpAny_Try_except ?_;have lk:Lk (gK X Z λe s₁=>wpAny (model X.prog X.w) X.A (noteFrame e X.env) (λ_ s₂=>wpAny (model X.prog X.w) X.A (setFlight e none) (λ_ s₃=>wpAny (model X.prog X.w) X.A (handleBy e X.env (Rh::QQ)) (SP X Z D) X.xe s₃) X.xe s₂) X.xe s₁) (EXh X.K EX D M):=by
  intro ao σ1 H1 s1 e s2 I1 cx;obtain⟨a,C,dx,T,H2,rfl,I2,tr,n1,n2,z1,z2,x,G2,ve,ea,ES,ET,Δ1,O1,E1,f1⟩:=Inv.raised I1 cx;show wpAny _ X.A (noteFrame (.ref a) X.env) _ _ s2;have J1:=Inv.ud I1;have J2:=Inv.ud I2;refine LP (outer:=X.outer) (by rw[<-dA];exact J2.ok.frames) (by rw[<-dA];exact J2.stack) qF tr λh1 T2 z3 k1 t1=>?_;refine Og t1 λh2 k2 t2=>?_;have tQ:H2 T2=none:=J2.aJ.fresh z3;have J3:Inv X Z σ1 H2 {s2 with heap:=h2}:=by refine Inv.settle (ch:=[a,T]++[T2]) J1 J2 (λb J=>?_) ?_;have:b=a\/b=T\/b=T2:=(by simpa using J);rcases this with rfl|rfl|rfl;exact⟨z1,n1⟩;exact⟨z2,n2⟩;exact⟨D2 z1 (D2 (P8 (B2 tr.ob.choose_spec.choose_spec.1)) z3),tQ⟩;rw[dA];exact k1.trans (bP.of_same k2)
  obtain⟨⟨oa,ua,ga,gc,gd,gf,g1,g2⟩,ne,tbk⟩:=id t2;have goa:h2.get? a=some ⟨.ref C,dx,.fields ua,oa.slots⟩:=by obtain⟨c1,d1,S,s1⟩:=oa;simp only at gc gd gf;subst gc gd gf;exact ga
  let e0:HX:=⟨a,C,dx,ua,oa.slots,g2⟩;have zz:X.s₀.heap.objs.size<=e0.a:=D2 J1.sz z1;have J4:Inv X Z σ1 (upd H2 a e0.ho) {s2 with heap:=h2}:=Inv.NX J1 J3 z1 goa g2 n1;have qk:Step G2 H2 (upd G2 a e0.ho) (upd H2 a e0.ho):=Step.new ve n1 _;have LT:Looks (model X.prog X.w) h2 (typeOf (.ref a)) (.ref C):=gc▸(Looks.ld ga).andThen .now;obtain⟨uv⟩:Nonempty (ClsAt X.K x.c C):=by cases ea with|bare hc=>exact⟨hc⟩|iD hc _ _ _=>exact⟨hc⟩
  refine abx (e0:=e0) (T2:=T2) hN rfl rfl rfl zz J1 J3 J4 qk n1 ve ea LT uv E1 (λ{A E Q} hq=>?_) ho f1;refine Og t2 λh3 k3 t3=>hq h3 ?_;refine Inv.settle (ch:=[T2]) (s':={s2 with heap:=h2}) J1 J4 (λb J=>?_) (bP.of_same k3);have:b=T2:=by simpa using J
  subst this;exact⟨D2 z1 (D2 (P8 (B2 tr.ob.choose_spec.choose_spec.1)) z3),by rw[Ax ne];exact tQ⟩
 refine F5 (J Z _ _ lk [] s Y H D (Inv.toB I) ⟨H0,G0,G,B,H',E,?_⟩) (λf s1 hs=>?_) λ_ _ z=>z;unfold jK at q;cases S:g B with|ex x Δ1=>rw[S]at q;exact λ σ1 G1 H1 O1 E1 sg=>⟨H0,G0,Δ1,O1,E1,Fin.mono sg q⟩|nx Δ1=>rw[S]at q;exact q|bk Δ1=>rw[S]at q;exact q|ct Δ1=>rw[S]at q;exact q|rt w=>rw[S]at q;exact q|rv d Δ1=>rw[S]at q;exact q|no=>rw[S]at q;exact q
 ·have pV:=SP.ud hs;cases f with|next=>exact W4 pV|brk=>exact pV|cont=>exact pV|ret u=>exact pV
end
section
variable{prog:Program}{w:World}{A:Around}{E:AA}{h:Heap}{g:Array GenState}{d:Drawn}{t:Nat}{os:OsState}
variable{nm q:Str}{C N:Addr}{bs bm qP:List Value}{bp:Bool}{sn:List Str}{sub:List Value}{ab:Bool}{col:Option Bool}{dd:Option Addr}{k0 k1 k2 k3 k5:Option Value}{Δ newId ah:String}
def acJ(FB:ExcBaseFacts Δ newId ah qP)(T:OwnTail h qP bm){mN:AB}{Q:PySem.Fin->Shared->Prop}(hC:h.get? C=some (excClassObj nm q C N bs bm bp sn sub ab col dd k0 k1 k2 k3 k5 newId)) (hn:h.Ns N mN) (hi:mN "__init__"=none)(z:∀h' e,Heap.MadeExcOf h h' e (.ref C) []->h.objs.size<=e->Q (.done (.ret (.ref e))) ⟨h',g,d,t,os⟩):wpAny (model prog w) A (Builtin.«type.__call__» ⟨[.ref C],[]⟩) Q E ⟨h,g,d,t,os⟩:=by
 wp_walk using O7 hC,wpAny_madeBy_exc hC;refine ZA7 (W8 _ FB.quiet) (wpAny_check_new_subT FB T hC ?_);refine codeAny_exc_new_subT FB T hC ?_ (by show 0<=sizeLine;exact L1 _);show wpAny _ _ _ _ _ _;generalize S:({cls:=.type "tuple",data:=.seq ([]:List Value).toArray}:Obj)=o1;generalize e2:({cls:=.ref C,data:=.fields #[.ref h.objs.size,.none,.none,.none,.bool false,.none]}:Obj)=o2;have up:∀b o,h.get? b=some o->((h.push o1).push o2).get? b=some o:=λb o e=>A5 _ (A5 _ e);have ge:((h.push o1).push o2).get? (h.objs.size+1)=some o2:=by have:=D0 (h.push o1) (o:=o2) (by rw[<-e2];rfl);rwa[N7]at this
 have vD:=up _ _ hC;have vA:((h.push o1).push o2).Ns N mN:=hn.keeps up;have T1:=T.keeps up;have cl:o2.cls=.ref C:=by rw[<-e2]
 have uv:List.contains (Value.ref C::bm) (.ref C)=true:=X8.mpr (.head _);unfold isInstance;repeat (first|(with_reducible refine O7 ge ?_;rw[cl])|(with_reducible refine Z4 vD ?_;rw[uv])|wp_step)
 show wpAny _ _ (typeLookup (.ref C) _) _ _ _;refine wpAny_typeLookup_tail vD vA T1 FB.mroIs FB.init.lookup ?_;rw[hi];refine S6 (A8 (wpAny_of_eq (FB.init.bind _) ?_));refine A8 (Y4 (codeAny_call_builtin FB.init.plain FB.initEntry (wpAny_check_init_subT FB T1 vD ge cl ?_)));subst S e2;wp_walk;refine z _ (h.objs.size+1) ⟨λb o J=>?_,R8 (P4 _),h.objs.size+2,?_,R8 (),?_⟩ (P4 _);rw[K3 _ _ (Ne.symm (D6 (X1 (B2 J))))];exact A5 _ (up b o J);rw[R5 _ (A5 _ ge) rfl,N7,N7];rfl;rw[K3 _ _ (D6 (Q8 (h.objs.size+1)))];exact Heap.get?_push_at (by rw[N7,N7]) rfl
def abw(FB:ExcBaseFacts Δ newId ah qP)(T:OwnTail h qP bm){mN:AB}{Q:AA}(hC:h.get? C=some (excClassObj nm q C N bs bm bp sn sub ab col dd k0 k1 k2 k3 k5 newId)) (hn:h.Ns N mN) (hi:mN "__init__"=none)(z:∀h' e,Heap.MadeExcOf h h' e (.ref C) []->h.objs.size<=e->Q (.ref e) ⟨h',g,d,t,os⟩):wpAny (model prog w) A (call (.ref C) []) Q E ⟨h,g,d,t,os⟩:=by have f1:=tc_lookup;have f2:=tc_bind (.ref C);have Dh:Shared.TypeIs ⟨h,g,d,t,os⟩ (.ref C) "type" :=⟨_,hC,rfl⟩;refine Y4 (codeAny_of_tree (?_:wpAny _ _ (callAny (.ref C) _) _ _ _));wp_walk using O7 hC;refine⟨rfl,?_⟩;exact ZC3 (W8 _ nofun) entry_typeCall (ZA8 hC (acJ FB T hC hn hi z))
end
def tm(K:Frag)(C:Addr):Prop:=∃(nm q:Str) (N:Addr) (bs bm:List Value) (sn:List Str) (sub:List Value) (ab:Bool) (col:Option Bool) (dd:Option Addr) (k0 k1 k2 k3 k5:Option Value) (mN:AB),K.lookup C=some (excClassObj nm q C N bs bm true sn sub ab col dd k0 k1 k2 k3 k5 "ValueError.__new__")/\(∀h:Heap,K.In h->OwnTail h gT bm)/\(∀h:Heap,K.In h->h.Ns N mN)/\mN "__init__"=none
def Yw{C N ks:Addr}{nm q:Str}{bs:List Value}{sn:List Str}{sub:List Value}{ab:Bool}{col:Option Bool}{dd:Option Addr}{k0 k1 k2 k3 k5:Option Value}{oc c0 oL:Value}{od vH vj:Option Addr}{es jx:Array DictEntry}{ep vF:Nat}{sl vd uZ:Array (Option Value)}{cd:ClassData}(lc:K.lookup C=some (excClassObj nm q C N bs (.ref ks::gT) true sn sub ab col dd k0 k1 k2 k3 k5 "ValueError.__new__")) (ln:K.lookup N=some ⟨oc,od,.dict es ep,sl⟩) (kn:pO es=true) (hi:nsFind es "__init__"=none)(ll:K.lookup ks=some ⟨c0,vH,.cls cd,vd⟩) (lm:K.lookup cd.ns=some ⟨oL,vj,.dict jx vF,uZ⟩) (km:pO jx=true) (hL:nsFind jx "__init__"=none):tm K C:=⟨nm,q,N,bs,_,sn,sub,ab,col,dd,k0,k1,k2,k3,k5,nsFind es,lc,λh X=>.own (X _ _ ll) (rK lm km X) hL .base,λh X=>rK ln kn X,hi⟩
structure AV(K:Frag)(mg:AB)(c:Str)(C:Addr):Prop where
 at_:ClsAt K c C
 glob:mg c=some (.ref C)
 kp:keepIn K (.ref C)=true
 made:tm K C
def xC(c:Str):FS:=λ B=>.ex ⟨c,[],[]⟩ B
section
variable{X:Cx}{C:Addr}{c:Str}
def Lz{EX:Be}{np zf pos:Pos}(ds:AV X.K X.mg c C)(hr:aC true 2 X.A)(l1:Th X EX)(hg:Gl X c:=by rfl)(cL:AG c:=by decide):SD X EX (.Raise (some (.Call (.Name c np) [] [] zf)) none pos) (xC c):=by
 intro Z s Y H D I q;obtain⟨H0,G0,G,B,H',E,q⟩:=q;obtain⟨nm,qn,N,bs,bm,sn,sub,ab,col,dd,k0,k1,k2,k3,k5,mN,lc,tl,hn,hi⟩:=ds.made;have hB:bm.contains (.type "BaseException")=true:=yv (tl s.heap I.bU);rw[arm_exec_Raise];have mk:wpAny (model X.prog X.w) X.A (eval (.Call (.Name c np) [] [] zf) X.env) (λv s1=>∃a t dx,v=.ref a/\s1.heap.get? C=some (excClassObj nm qn C N bs bm true sn sub ab col dd k0 k1 k2 k3 k5 "ValueError.__new__")/\s1.heap.get? a=some {cls:=.ref C,dict:=dx,data:=.fields #[.ref t,.none,.none,.none,.bool false,.none]}/\X.xe (.ref a) s1) X.xe s:=by refine N1 (pJ I hg ds.glob ?_ cL);refine callWith_K0 I.bU ds.kp ?_;have KX:=I.bU;obtain⟨hh,gg,dr,tk,os⟩:=s;refine abw ZA4 (tl hh KX) (KX _ _ lc) (hn hh KX) hi λh' a me za=>?_;obtain⟨kk,new,t,et,_,_⟩:=me;have I2:Inv X Z Y H ⟨h',gg,dr,tk,os⟩:=I.kept (h':=h') (t':=tk) kk;refine⟨a,t,none,rfl,I2.bU _ _ lc,et,?_⟩;exact l1 Z Y H H ⟨hh,gg,dr,tk,os⟩ ⟨h',gg,dr,tk,os⟩ a C none _ _ I I2 et rfl rfl rfl rfl rfl (I.aJ.fresh za) za ⟨⟨c,[],[]⟩,G,E.st.gh,.bare ds.at_,q Y G H H' E (aA.refl _)⟩
 refine A8 (S7 (LO hB (hr.hd rfl) (A8 (F5 mk (λv s3 h3=>A8 (S7 (E9 h3))) λ_ _ x=>x))))
end
end L3
namespace L3
open PySem L2
variable{K:Frag}{fd:FuncData}{mg:AB}{us:List Value}{base:Heap}{H:Hp}{X:Cx}{pos:Pos}{v:V}
abbrev Ai{a b:Prop}(x:a)(y:b):a/\b:=⟨x,y⟩
def An:=Ai @Aj.eq_1 (Ai @Bh.eq_1 (Ai @Ae.eq_1 (Ai @Ah.eq_1 (Ai @aE.eq_1 (Ai @eE.eq_1 (Ai @Z0.{0,0} (Ai @Sy.{0,0} (Ai @Au.eq_1 (Ai @Bq.eq_1 (Ai @Bx.eq_1 (Ai @Di.eq_1 (Ai @Bi.eq_1 (Ai @Ay.eq_1 (Ai @At.eq_1 (Ai @bZ.eq_1 (Ai @Wk (Ai @Wj (Ai @Wi (Ai @Wh (Ai @Wg (Ai @Wf (Ai @YD (Ai @YC (Ai @YB (Ai @Ag.eq_1 (Ai @Aa.eq_1 (Ai @eC.eq_1 (Ai @Ar.eq_1 (Ai @As.eq_1 (Ai @Bz.eq_1 (Ai @Bz.eq_2 (Ai @Bz.eq_3 (Ai @Bz.eq_4 (Ai @Bz.eq_5 (Ai @Bz.eq_6 (Ai @Bz.eq_7 (Ai @Ed.eq_1 (Ai @Ed.eq_2 (Ai @Al.eq_1 (Ai @Az.eq_1 (Ai @R.tF (Ai @R.tH (Ai @R.tJ (Ai @Dy.eq_1 (Ai @Dy.eq_2 (Ai @Dy.eq_3 (Ai @Dy.eq_4 (Ai @Dy.eq_5 (Ai @Oa.eq_1 (Ai @YL.eq_1 (Ai @nE.eq_1 (Ai @nE.eq_2 (Ai @nD.eq_1 (Ai @nD.eq_2 (Ai @Ad.eq_1 (Ai @Ab.eq_1 (Ai @rA.eq_1 (Ai @Cc.eq_1 (Ai @AN.eq_1 (Ai @eW.eq_1 (Ai @eOr.eq_1 (Ai @rB.eq_1 (Ai @Ex.eq_1 (Ai @Et.eq_1 (Ai @Br.eq_1 (Ai @qb.eq_1 (Ai @adK (Ai @acM (Ai @adJ (Ai @adI (Ai @adH (Ai @adG (Ai @aev (Ai @adF (Ai @aeu (Ai @aet (Ai @aes (Ai @aer (Ai @adE (Ai @acL (Ai @adD (Ai @adC (Ai @adB (Ai @adA (Ai @aeq (Ai @adz (Ai @aep (Ai @aeo (Ai @aen (Ai @aem (Ai @aeY (Ai @ael (Ai @aeX (Ai @aeW (Ai @aeV (Ai @aeU (Ai @By.eq_1 (Ai @Df.eq_1 (Ai @Cz.eq_1 (Ai @Ea.eq_1 (Ai @Ea.eq_2 (Ai @iF.eq_1 (Ai @zy.eq_1 (Ai @uU.eq_1 (Ai @uU.eq_2 (Ai @uU.eq_3 (Ai @uU.eq_4 (Ai @Bk.eq_1 (Ai @Db.eq_1 (Ai @Fu.eq_1 (Ai @Fu.eq_2 (Ai @Fu.eq_3 (Ai @Fu.eq_4 (Ai @R.aD (Ai @R.kR (Ai @R.kT (Ai @W.dC (Ai @W.HY (Ai @B6.{0,0} (Ai @N8.{0,0} (Ai @V8.{0} (Ai @U7.{0} (Ai @G6.{0} (Ai @L7.{0} (Ai @List.replicate_zero.{0} (Ai @B7.{0} (Ai @Q4.{0} (Ai @R3.{0} (Ai @SY.{0} (Ai @K0.{0} (Ai @O4.{0} (Ai @if_true.{1} (Ai @L5.{1} (Ai @Av.eq_1 (Ai @Av.eq_2 (Ai @Av.eq_3 (Ai @Av.eq_4 (Ai @Av.eq_5 (Ai @F6 (Ai @Bool.not_true (Ai @Sx (Ai @Bool.true_and (Ai @Bool.false_and (Ai @O9 (Ai @O5 (Ai @M8 (Ai @gC.eq_1 (@gV.eq_1))))))))))))))))))))))))))))))))))))))))))))))))))))))))))))))))))))))))))))))))))))))))))))))))))))))))))))))))))))))))))))))))))))))))))))))))))))
end L3
namespace L3
open PySem PySem.Spec PyProof.Rows L2
variable{K:Frag}{fd:FuncData}{mg:AB}{us:List Value}{base:Heap}{H:Hp}{X:Cx}{pos:Pos}{v:V}
abbrev Qf(c:Bool)(P:Program)(w:World)(K:Frag)(mg:AB)(base:Heap)(N:List Str)(qual:Str)(st:Stmt)(f:Addr)(k:Nat)(g:FS):Prop:=∀{zn:Value}{A:Around}{outer:List Env}{s:Shared}{H:Hp}{E:XK},(Fb c P w K mg base N qual (Bt st) f zn A outer s H E).calm=c->aC c k (Cx.A (Fb c P w K mg base N qual (Bt st) f zn A outer s H E))->(Cx.A (Fb c P w K mg base N qual (Bt st) f zn A outer s H E)).units+64<cLine->N.Nodup->Lk (Fb c P w K mg base N qual (Bt st) f zn A outer s H E) (λ_=>bK K E)->BD (Fb c P w K mg base N qual (Bt st) f zn A outer s H E) (λ_=>bK K E) (Fg st) g
def Bp{c:Bool}{P:Program}{w:World}{x qual:Str}{st:Stmt}{f:Addr}{N ps:List Str}{k:Nat}{g:FS}(F:aY K x qual st f fd)(zj:Qf c P w K mg base N qual st f k g) (e1:aS N ps (Bt st):=by exact⟨rfl,rfl,rfl,by decide +kernel,rfl,by decide +kernel,by decide +kernel⟩):bF P w K mg base c (k+1) f fd ps (Bj K ps.length (Aj N.length g)):=UD F e1 λzn A outer s H E hr=>zj rfl hr (aC.units hr) e1.nd oq
def Vd{c:Bool}{P:Program}{w:World}{x qual:Str}{st:Stmt}{f:Addr}{N ps:List Str}{k n:Nat}{g:FS}(F:aY K x qual st f fd)(hn:ps.length=n+1)(hle:ps.length<=N.length)(zj:Qf c P w K mg base N qual st f k g) (e1:aS N ps (Bt st):=by exact⟨rfl,rfl,rfl,by decide +kernel,rfl,by decide +kernel,by decide +kernel⟩):bF P w K mg base c (k+1) f fd ps (BK K n (nS N.length g)):=UA F e1 hn hle λzn A outer s H E hr=>zj rfl hr (aC.units hr) e1.nd oq
def gX{c:Bool}{P:Program}{w:World}{x qual cn:Str}{st:Stmt}{f C:Addr}{N ps:List Str}{k n:Nat}{g:FS}(F:aY K x qual st f fd)(hC:ClsAt K cn C)(hn:ps.length=n+1)(hle:ps.length<=N.length)(zj:Qf c P w K mg base N qual st f k g) (e1:aS N ps (Bt st):=by exact⟨rfl,rfl,rfl,by decide +kernel,rfl,by decide +kernel,by decide +kernel⟩):bF P w K mg base c (k+1) f fd ps (kU K C n (En N.length cn g)):=UC F e1 hC hn hle λzn A outer s H E hr=>zj rfl hr (aC.units hr) e1.nd oq
def FnAt(K:Frag)(x qual:Str)(st:Stmt)(f:Addr):Prop:=∃fd,aY K x qual st f fd
def FnAt.mk{x qual:Str}{st:Stmt}{f:Addr}{oc kV dc pm cd ct:Value}{od an:Option Addr}{sl:Array (Option Value)}(l:K.lookup f=some ⟨oc,od,.func (fnOf x qual (gB st) (Fg st) (Bt st) .none kV dc pm an cd ct),sl⟩) (c:codeIn K cd qual=true) (k:keepIn K (.ref f)=true):FnAt K x qual st f:=⟨_,wV l c k⟩
def aI(K:Frag)(x:Str)(st:Stmt):Prop:=∃f,PySem.W.nsIn K mainGlobals x=some (some (.ref f))/\FnAt K x x st f
theorem aI.mk{x:Str}{st:Stmt}{f:Addr}{oc kV dc pm cd ct:Value}{od an:Option Addr}{sl:Array (Option Value)}(a:PySem.W.nsIn K mainGlobals x=some (some (.ref f)))(l:K.lookup f=some ⟨oc,od,.func (fnOf x x (gB st) (Fg st) (Bt st) .none kV dc pm an cd ct),sl⟩) (c:codeIn K cd x=true) (k:keepIn K (.ref f)=true):aI K x st:=⟨f,a,FnAt.mk l c k⟩
def aN(K:Frag)(C:Addr)(x qual:Str)(st:Stmt):Prop:=∃f,findIn K (.ref C) x=some (some (.ref f))/\FnAt K x qual st f/\keepIn K (.ref f)=true/\isFn K (.ref f)=true
theorem aN.mk{C:Addr}{x qual:Str}{st:Stmt}{f:Addr}{oc kV dc pm cd ct:Value}{od an:Option Addr}{sl:Array (Option Value)}(a:findIn K (.ref C) x=some (some (.ref f)))(l:K.lookup f=some ⟨oc,od,.func (fnOf x qual (gB st) (Fg st) (Bt st) .none kV dc pm an cd ct),sl⟩) (c:codeIn K cd qual=true) (k:keepIn K (.ref f)=true) (i:isFn K (.ref f)=true):aN K C x qual st:=⟨f,a,FnAt.mk l c k,k,i⟩
section
variable{X:Cx}{EX:Be}{pos:Pos}
end
def nQ(l:List Int):List Int:=l.mergeSort λa b=>decide (a<=b)
def JT{l r:List Int}(hp:r.Perm l)(hs:r.Pairwise (· <= ·)):nQ l=r:=by have h1:(nQ l).Pairwise (λa b=>(decide (a<=b))=true):=List.pairwise_mergeSort (le:=λa b=>decide (a<=b)) (λa b c h1 h2=>F4 (Int.le_trans (E8 h1) (E8 h2))) (λa b=>by rcases Su a b with h|h;simp[h];simp[h]) l;refine List.Perm.eq_of_pairwise (le:=λa b:Int=>a<=b) (λa b _ _ h1 h2=>Int.le_antisymm h1 h2) (h1.imp λh=>E8 h) hs ?_;exact(List.mergeSort_perm l _).trans hp.symm
def nN:List D->R W|[.lst M]=>(match Fk M with|some is=>if is.length<64 then .ok (.ow (.lst ((nQ is).map λi=>.int i))) else .no|none=>.no)|_=>.no
theorem Lw:∀{us:List Value}{is:List Int},IntsAre us is->Vals (is.map λi=>V.int i) us|_,_,.nil=>.nil|_,_,.cons n t r=>.cons ⟨t,rfl⟩ (Lw r)
theorem JS{G:Hp}:∀is:List Int,aB K G (is.map λi=>V.int i) (is.map λi=>D.int i)|[]=>.nil|_::r=>.cons (.int _) (JS r)
section
variable{X:Cx}{EX:Be}{pos:Pos}
def acI(_hc:X.calm=true):ki X (.builtin "sorted") nN:=by intro Z s Y H vs us Q I rv q;obtain⟨EX,G,M,g,r,o⟩:=q;cases r with|nil=>exact False.elim o|cons h t=>cases h with|lst h r=>(cases t with|cons _ _=>exact False.elim o|nil=>rename_i l _ _;simp only[nN]at o;split at o;rename_i is e;split at o;rename_i hl;obtain⟨u,rfl,ru⟩:=rv.one;cases ru;obtain⟨its,jm,pl,hz⟩:=I.list (g.seq h);have ia:=ye r jm e;have il:its.length=is.length:=ia.length;refine sorted_ints pl.isList ia () λout CB a1 a2 a3=>?_;obtain⟨c,nh⟩:=sortedAll_at s.heap its out;have en:nQ is=CB:=JT a2 a3;rw[en]at o;have rv2:=Lw a1;have fr:=I.aJ.fresh (P4 s.heap.objs.size);refine⟨.ref _,upd H _ (.lst _),I.laid (t':=s.toks) (λ_ _=>sortedAll_old) (P4 _) ⟨?_,out.toList,c,rv2,by simpa using nh⟩,rfl,qh o g (JS CB) _ fr⟩;rw[A4,a2.length_eq,D9];lia;exact o.elim;exact o.elim)|_=>exact False.elim o
end
section
variable{X:Cx}{EX:Be}
end
def Gk{EX:Be}{i:Nat}{x:Str}(hN:decide X.N.Nodup=true:=by rfl')(hi:X.N[i]?=some x:=by rfl)(hx:Loc X.env.scope x:=by trivial)(hf:X.fn x=true\/X.env.scope.names.lookup x=some .local:=by trivial):GC X EX (.Name x pos) (gC i):=YZ (E8 hN) hi hx hf
structure pD(K:Frag)(Δ f:Addr):Prop where
 sp:specialIn K (.ref Δ) "__getattribute__"=some (some (.builtin "type.__getattribute__"))
 rd:readsIn K Δ (.type "type")=true
 at_:findCls K (.ref Δ) (.type "type") "__init__"=some (.val (.ref f))
 kp:keepIn K (.ref f)=true
def fH(P:Program)(w:World)(K:Frag)(mg:AB)(base:Heap)(cc:Bool)(b c:Str)(k n:Nat)(F:List D->R (List Str×List D)):Prop:=∃Δ C f fd ps,ClsAt K c C/\mg b=some (.ref Δ)/\pD K Δ f/\bF P w K mg base cc k f fd ps (kU K C n F)/\Binds K fd ps []
def iA(i:Nat)(c:Str)(js:List Nat)(F:List D->R (List Str×List D))(fe:FE):FS:=λ B=>match(aE js B)[i]? with|some (.lt (.obj c' [] []))=>if c'=c then(match fe (Ay (aE js B))with|.ok w=>(match F [w.d]with|.ok p=>.nx ((aE js B).set i (.lt (.obj c p.1 (p.2.map .sh))))|_=>.no)|.ex x=>.ex x (aE js B)|.no=>.no) else .no|_=>.no
section
variable{X:Cx}{EX:Be}{e:Expr}{es:List Expr}{x:Str}{pp zg pos:Pos}{cc:Bool}{k k' n:Nat}{ps:List Str}
def aaj{sp:Sp}{t:TA}{Δ f:Addr}{pl:Sem Bool}(b:pD X.K Δ f)(hr:aC cc k X.A)(lk:Lk X EX)(ok:bF X.prog X.w X.K X.mg X.base cc k f fd ps sp)(J:Binds X.K fd ps [])(hm:X.mg x=some (.ref Δ))(hg:Gl X x)(cL:AG x)(ha:PA X (e::es) t)(dA:starEach (e::es) X.env=(false,eval e X.env)::starEach es X.env) (bM:(backTo pos (starEach es X.env)).any (·.1)=false)(ht:eval (.Call (.Attribute (.Name x pp) "__init__" zg) (e::es) [] pos) X.env=(do
   let ov<-eval (.Name x pp) X.env
   standAt zg.atName
   let(f,first)<-holding [ov] (getMethod ov "__init__" pl)
   callWith pos f first (backTo pos (starEach (e::es) X.env)) (backToKw pos (keywordEach [] X.env)))):
  PE X (.Call (.Attribute (.Name x pp) "__init__" zg) (e::es) [] pos) (λ Y H Q=>t Y H λvs H1=>sp vs H1 Q (nz X.K (EX Y))):=by
 intro Z s Y H Q I q;refine SS (pl:=pl) (pJ I hg hm ?_ cL) ht;refine method_cls I.bU b.sp (cls_value I.bU b.rd b.at_ rfl ?_);refine W7 (first:=[]) (h₀:=X.base) I.ok.mod.kC b.kp (Bb (ha pos Z _ Y H _ (I.tok _) q) λus s1 ⟨vs,H1,I1,r,q⟩=>⟨I1.bU,?_⟩) dA bM;exact oP ok hr J lk I1 r q
def sP{i:Nat}{c y:Str}(js:List Nat){fe:FE}{F:List D->R (List Str×List D)}{p3 bz:Pos}{pl:Sem Bool}(hr:aC cc k' X.A)(lk:Lk X EX)(h:fH X.prog X.w X.K X.mg X.base cc x c k 1 F)(he:ED X EX e fe)(hk:k<=k':=by decide)(hN:X.N[i]?=some y:=by rfl) (hv:Ff X.env.scope y:=by trivial) (hd:AG y:=by decide) (bI:(y ==("__classdict__" :Str))=false:=by decide)(hg:Gl X x:=by rfl) (cL:AG x:=by decide) (jv:starEach [.Name y p3,e] X.env=(false,eval (.Name y p3) X.env)::starEach [e] X.env:=by rfl) (dO:starEach [e] X.env=(false,eval e X.env)::starEach [] X.env:=by rfl)(bM:(backTo pos (starEach [e] X.env)).any (·.1)=false:=by rfl) (dv:swapsWith (.Call (.Attribute (.Name x pp) "__init__" zg) [.Name y p3,e] [] pos) none bz.line X.env=pure false:=by rfl)(ht:eval (.Call (.Attribute (.Name x pp) "__init__" zg) [.Name y p3,e] [] pos) X.env=(do
   let ov<-eval (.Name x pp) X.env
   standAt zg.atName
   let(f,first)<-holding [ov] (getMethod ov "__init__" pl)
   callWith pos f first (backTo pos (starEach [.Name y p3,e] X.env)) (backToKw pos (keywordEach [] X.env))):=by rfl):
  SD X EX (.Expr (.Call (.Attribute (.Name x pp) "__init__" zg) [.Name y p3,e] [] pos) bz) (iA i c js F fe):=by
 obtain⟨Δ,C,f,fd,ps,hC,hm,b,ok,J⟩:=h;refine PS.imp (jW (aaj b (hr.mono hk) lk ok J hm hg cL (Hi (Fp hN hv hd bI) (Hi he jq dO) jv) jv bM ht) dv) λD Y H ⟨H0,G0,G,B,H',E,q⟩=>?_;obtain⟨G1,O1,sg,E1⟩:=E.aE js;unfold iA at q;generalize aE js B=Δ1 at q E1
 split at q
 rename_i c' S
 split at q
 rename_i qH;subst qH;obtain⟨v0,s1,t0⟩:=E1.ow i _ _ S rfl;refine⟨v0,s1,G1,Ay Δ1,E1.st.gh,E1.eA,?_⟩;cases e2:fe (Ay Δ1)with
 |ex y=>simp only[e2]at q;exact q Y G1 H O1 E1 sg
 |no=>simp only[e2]at q;exact q.elim
 |ok w=>
  simp only[e2]at q;refine WP.intro λv G2 H2 st r=>?_;have E2:=E1.grow st;obtain⟨v1,iP,t⟩:=E2.ow i _ _ S rfl;rw[s1]at iP;cases iP;have s2:=E2.lt i _ S
  split at q
  rename_i p ef;generalize et:(Tn.obj c' [] [])=tt at t;cases t with
  | @obj a C2 dx c2 ns2 us ts2 e1 S1 hC2 h hl ha sub rl=>
   injection et with RB RA Rz
   subst RB RA Rz;have:=hC.same hC2;subst this;have:us=[]:=by cases us with|nil=>rfl|cons _ _=>simp at hl
   subst this;have ga:=(E2.out i a ha).1;refine⟨a,dx,[v],λb=>if b=a then none else H2 b,G2,[w.d],rfl,rfl,if_pos rfl,λb o z=>?_,h,λb o z=>?_,.cons r .nil,?_⟩
   simp only at z
   split at z
   cases z
   exact z
   simp only;rw[if_neg (Eu z ga)];exact E2.st.gh b o z
   rw[ef];intro G' O us' Pz ms g' hx zk rr;have nb:∀b,¬O1 i b->b≠a:=λb nb w=>nb (by rw[w];exact ha);refine q Y G' O _ (E2.dB (e1:=λb=>b=a) (z:=.lt _) rfl (λ_ z=>by cases z) (λ_ _=>s2) ⟨λb o n z=>ms.hh b o (by rw[if_neg (nb b n)];exact z),ms.gh,ms.gg,λb n z1 z2=>ms.nw b z1 (by rw[if_neg (nb b n)];exact z2)⟩ s1 (λb J=>?_) ?_) (sg.trans (st.gg.trans ms.gg))
   subst J;exact⟨.inl ha,g',by rw[hx];simp⟩
   exact .obj (S1:=λ_=>False) hC hx zk rfl (λ_ z=>z.elim) (aX.of rr)
  |_=>cases et
  exact q.elim
 exact q.elim
 exact q.elim
end
def cP(K:Frag)(Δ:Addr)(qual:Str)(st:Stmt):Prop:=∃f,pD K Δ f/\FnAt K "__init__" qual st f
theorem cP.mk{Δ:Addr}{qual:Str}{st:Stmt}{f:Addr}{oc kV dc pm cd ct:Value}{od an:Option Addr}{sl:Array (Option Value)}(s:specialIn K (.ref Δ) "__getattribute__"=some (some (.builtin "type.__getattribute__")))(r:readsIn K Δ (.type "type")=true)(a:findCls K (.ref Δ) (.type "type") "__init__"=some (.val (.ref f)))(l:K.lookup f=some ⟨oc,od,.func (fnOf "__init__" qual (gB st) (Fg st) (Bt st) .none kV dc pm an cd ct),sl⟩) (c:codeIn K cd qual=true) (k:keepIn K (.ref f)=true):cP K Δ qual st:=⟨f,⟨s,r,a,k⟩,FnAt.mk l c k⟩
end L3
namespace PySem
namespace F
end F
section
variable{prog:Program}{w:World}{A:Around}{E:AA}{s:Shared}
end
end PySem
namespace L3
open PySem PySem.Spec PyProof.Rows L2
variable{K:Frag}{fd:FuncData}{mg:AB}{us:List Value}{base:Heap}{H:Hp}{X:Cx}{pos:Pos}{v:V}
def bF.never{P:Program}{w:World}{c:Bool}{k n:Nat}{f:Addr}{ps:List Str}(hn:n=ps.length):bF P w K mg base c k f fd ps (Bj K n λ_=>.no):=⟨λ_ _ _ _ h=>h.1.trans hn,λ_ _ _ _ _ _ _ _ _ _ _ _ _ h=>by obtain⟨_,_,_,_,_,o⟩:=h;exact False.elim o⟩
section
variable{X:Cx}{EX:Be}{a:Expr}{f:FE}{p p' pos pos':Pos}
end
def nF(tb:List (Str×Bool))(fo:FE):FE:=λ δ=>(fo δ).bind λw=>match w.d with|.obj c _ _=>(match tb.lookup c with|some b=>.ok (.sh (.bl b))|none=>.no)|_=>.no
structure cW(K:Frag)(C:Addr):Prop where
 pg:plainGet K C "__class__"=true
 hd:hasDictIn K C=true
 cl:findIn K (.ref C) "__class__"=some (some (.builtin "object.__class__"))
 gs:specialIn K (.builtin "object.__class__") "__get__"=some (some (.builtin "getset_descriptor.__get__"))
 tk:takesIn K (.builtin "object.__class__")=some true
 ob:mroIn K C (.type "object")=some true
def bG(K:Frag)(v:Value)(tb:List (Str×Bool)):Prop:=∀c b,tb.lookup c=some b->∀C,ClsAt K c C->cW K C/\kitOne K (.ref C) v=some b
def bG.nil{v:Value}:bG K v []:=λ_ _ e=>by cases e
def bG.one{v:Value}{c:Str}{C:Addr}{b:Bool}(a:ClsAt K c C)(x:cW K C)(h:kitOne K (.ref C) v=some b){tb:List (Str×Bool)}(r:bG K v tb):bG K v ((c,b)::tb):=λc' b' e C' a'=>by rw[K9]at e;cases z:(c' ==c)with|true=>rw[z]at e;cases e;obtain rfl:c'=c:=eq_of_beq z;obtain rfl:=ClsAt.same a a';exact⟨x,h⟩|false=>rw[z]at e;exact r c' b' e C' a'
section
variable{X:Cx}{EX:Be}{Z:AE}{Y:Sg}{G H:Hp}{s:Shared}
def JR{a:Addr}{c:Str}{ns:List Str}{vs:List D}(I:Inv X Z Y H s)(g:aA G H)(h:aP X.K G (.ref a) (.obj c ns vs)):∃C ox od,ClsAt X.K c C/\InstAt s.heap a ox C (some od):=by cases h with|obj hc h1 hl r=>obtain⟨_,_,_,eo,mA,ns,_⟩:=I.aJ a _ (g _ _ h1);obtain⟨od,es,ep,e,_⟩:=ns;exact⟨_,_,od,hc,eo,rfl,rfl,e⟩
def aai{C2:Addr}{tb:List (Str×Bool)}(k:bG X.K (.ref C2) tb):bL X (.builtin "isinstance") (λxs H Q=>∃G x c ns vs b,xs=[x,.ref C2]/\aA G H/\aP X.K G x (.obj c ns vs)/\tb.lookup c=some b/\Q (.bl b) H):=by
 intro Z s Y H xs us Q I rv h;obtain⟨G,x,c,ns,vs,b,rfl,g,r,e,q⟩:=h;obtain⟨u,u2',rfl,r1,rr⟩:=rv.two;obtain rfl:u2'=Value.ref C2:=rr;have fin:∀tk,EP X Z Y Q (.bool b) {s with toks:=tk}:=λtk=>⟨.bl b,H,I.tok _,rfl,q⟩;obtain⟨a,rfl⟩:∃a,x=.ref a:=by cases r<;>exact⟨_,rfl⟩
 obtain rfl:u=Value.ref a:=r1;obtain⟨C,ox,od,hc,io⟩:=JR I g r;obtain⟨xi,ko⟩:=k c b e C hc;exact kia_one (kitx_own xi.pg xi.hd xi.cl xi.gs xi.tk xi.ob) I.bU io ko (λz=>nomatch z) fin
variable{a:Expr}{fo:FE}{tb:List (Str×Bool)}{pp pos:Pos}
def Wc{cn:Str}{C2:Addr}{p3:Pos}(k:bG X.K (.ref C2) tb)(ha:ED X EX a fo)(hm:X.mg "isinstance"=none)(hmC:X.mg cn=some (.ref C2))(hg:Gl X "isinstance" :=by rfl)(hgC:Gl X cn:=by rfl)(hdC:AG cn:=by decide)(he:starEach [a,.Name cn p3] X.env=(false,eval a X.env)::starEach [.Name cn p3] X.env:=by rfl) (bM:(backTo pos (starEach [.Name cn p3] X.env)).any (·.1)=false:=by rfl)(hs:starEach [.Name cn p3] X.env=(false,eval (.Name cn p3) X.env)::starEach [] X.env:=by rfl):ED X EX (.Call (.Name "isinstance" pp) [a,.Name cn p3] [] pos) (nF tb fo):=PE.imp (sS (aai k) hg hm SK (Hi ha (Hi (xQ (v:=.ref C2) hgC hmC rfl hdC) jq hs) he) ⋯ ⋯ he bM) λ Y H Q ⟨G,δ,g0,s0,o⟩=>by refine tD.seq g0 s0 o λw v G1 H1 _ bH r1 o1=>?_;revert r1 o1;cases w.d with|obj c ns vs=>intro r1 o1;have o1:Out X.K (EX Y) G1 H1 (match tb.lookup c with|some b=>.ok (.sh (.bl b))|none=>.no) Q:=o1;(cases e:tb.lookup c with|none=>rw[e]at o1;exact o1.elim|some b=>rw[e]at o1;exact⟨G1,v,c,ns,vs,b,rfl,bH.gh,r1,e,WP.use o1 bH.gh (.bl b)⟩)|_=>intro _ o1;exact False.elim o1
end
section
variable{P:Program}{w:World}{K:Frag}{mg:AB}{base:Heap}{cc:Bool}{k n:Nat}{ps:List Str}{st:Stmt}{Fn:AF}
def Hs{m q c:Str}{C:Addr}(xa:ClsAt K c C)(cl:eP K C)(W:aN K C m q st)(ok:∀{f:Addr}{fd:FuncData},aY K m q st f fd->bF P w K mg base cc k f fd ps (Bj K (n+1) Fn)/\Binds K fd ps []):iG P w K mg base cc k n m c Fn:=by obtain⟨f,a,⟨fd,F⟩,kp,i⟩:=W;exact⟨⟨C,f,fd,ps,xa,cl,⟨a,i,kp⟩,(ok F).1,(ok F).2⟩⟩
def Cg{x:Str}{h:Heap}(X:K.In h)(G:h.Ns mainGlobals mg)(W:aI K x st)(ok:∀{f:Addr}{fd:FuncData},aY K x x st f fd->bF P w K mg base cc k f fd ps (Bj K ps.length Fn)/\Binds K fd ps []):AY P w K mg base cc x k ps Fn:=by obtain⟨f,a,fd,F⟩:=W;exact sd F (mg_of X G a) (ok F).2 (ok F).1
end
section
variable{P:Program}{w:World}{K:Frag}{mg:AB}{base:Heap}{cc:Bool}{j k n:Nat}{ps:List Str}{st:Stmt}{Fn:AF}{C:Addr}{m c q f:Str}
def XB(K:Frag)(C:Addr)(q f:Str)(st:Stmt):Prop:=keepIn K (.ref C)=true/\dX K C/\findIn K (.ref C) f=some none/\∃(fI:Addr) (fd:FuncData) (o:Obj),Tb K C fI/\K.lookup fI=some o/\o.cls=.type "function" /\aY K "__init__" q st fI fd
def XB.mk{fI N ks:Addr}{nm qn:Str}{bs sub:List Value}{sn:List Str}{ab:Bool}{col:Option Bool}{dd od vH vj odI an:Option Addr}{k0 k1 k2 k3 k5:Option Value}{oc c0 oL kV dc pm cd ct:Value}{es jx:Array DictEntry}{ep vF:Nat}{sl vd uZ slI:Array (Option Value)}{DR:ClassData}(lc:K.lookup C=some (excClassObj nm qn C N bs (.ref ks::gT) true sn sub ab col dd k0 k1 k2 k3 k5 "ValueError.__new__")) (ln:K.lookup N=some ⟨oc,od,.dict es ep,sl⟩) (_:findIn K (.ref C) "__init__"=some (some (.ref fI))) (kn:pO es=true) (hi:nsFind es "__init__"=some (.ref fI))(ll:K.lookup ks=some ⟨c0,vH,.cls DR,vd⟩) (lm:K.lookup DR.ns=some ⟨oL,vj,.dict jx vF,uZ⟩) (km:pO jx=true) (hL:nsFind jx "__init__"=none) (sa:findIn K (.ref C) "__setattr__"=some (some (.builtin "object.__setattr__"))) (nf:findIn K (.ref C) f=some none) (kp:keepIn K (.ref C)=true)(l:K.lookup fI=some ⟨.type "function",odI,.func (fnOf "__init__" q (gB st) (Fg st) (Bt st) .none kV dc pm an cd ct),slI⟩) (cI:codeIn K cd q=true) (kI:keepIn K (.ref fI)=true):XB K C q f st:=⟨kp,Yz lc sa,nf,fI,_,_,We lc ln kn hi ll lm km hL,l,rfl,wV l cI kI⟩
def we(xa:ClsAt K c C)(gx:mg c=some (.ref C))(b:XB K C q f st)(ok:∀{fI:Addr}{fd:FuncData},aY K "__init__" q st fI fd->dX K C->findIn K (.ref C) f=some none->bF P w K mg base false 1 fI fd ps (jO C f)/\Binds K fd ps []):XC P w K mg base c f C:=by obtain⟨kp,xc,nf,fI,fd,o,mk,l,e,F⟩:=b;exact⟨xa,gx,kp,xc,fI,fd,ps,o,mk,l,e,(ok F xc nf).1,(ok F xc nf).2⟩
def XB0{N ks:Addr}{nm qn:Str}{bs sub:List Value}{sn:List Str}{ab:Bool}{col:Option Bool}{dd od vH vj:Option Addr}{k0 k1 k2 k3 k5:Option Value}{oc c0 oL:Value}{es jx:Array DictEntry}{ep vF:Nat}{sl vd uZ:Array (Option Value)}{DR:ClassData}(lc:K.lookup C=some (excClassObj nm qn C N bs (.ref ks::gT) true sn sub ab col dd k0 k1 k2 k3 k5 "ValueError.__new__")) (ln:K.lookup N=some ⟨oc,od,.dict es ep,sl⟩) (kn:pO es=true) (hi:nsFind es "__init__"=none)(ll:K.lookup ks=some ⟨c0,vH,.cls DR,vd⟩) (lm:K.lookup DR.ns=some ⟨oL,vj,.dict jx vF,uZ⟩) (km:pO jx=true) (hL:nsFind jx "__init__"=none) (kp:keepIn K (.ref C)=true):keepIn K (.ref C)=true/\tm K C:=⟨kp,Yw lc ln kn hi ll lm km hL⟩
def Tc(K:Frag)(C:Addr):Prop:=keepIn K (.ref C)=true/\tm K C
def HC(xa:ClsAt K c C)(gx:mg c=some (.ref C))(b:Tc K C):AV K mg c C:=⟨xa,gx,b.1,b.2⟩
def cW.mm(pg:plainGet K C Str.empty=true)(hd:hasDictIn K C=true)(cl:findIn K (.ref C) "__class__"=some (some (.builtin "object.__class__")))(gs:specialIn K (.builtin "object.__class__") "__get__"=some (some (.builtin "getset_descriptor.__get__")))(tk:takesIn K (.builtin "object.__class__")=some true)(ob:mroIn K C (.type "object")=some true):cW K C:=⟨pg,hd,cl,gs,tk,ob⟩
def KO(K:Frag)(a b:Addr)(v:Bool):Prop:=kitOne K (.ref a) (.ref b)=some v
def KO.mk{a b:Addr}{v:Bool}(h:kitOne K (.ref a) (.ref b)=some v):KO K a b v:=h
def aM.mk(h:findIn K (.ref C) f=some none):aM K C f:=h
def Ho{tb:List (Str×(AF))}(d:iG P w K mg base cc j n m c Fn)(r:bA P w K mg base cc k n m tb)(hj:j<=k:=by decide):bA P w K mg base cc k n m ((c,Fn)::tb):=.one d hj r
def qv:bA P w K mg base cc k n m []:=.nil
def rJ{Fi:List D->R (List Str×List D)}(xa:ClsAt K c C)(gx:mg c=some (.ref C))(ms:makesIn K C=true)(kc:keepIn K (.ref C)=true)(W:aN K C "__init__" q st)(ok:∀{f:Addr}{fd:FuncData},aY K "__init__" q st f fd->bF P w K mg base cc k f fd ps (kU K C n Fi)/\Binds K fd ps []):jZ P w K mg base cc c k n Fi:=by obtain⟨f,a,⟨fd,F⟩,kp,i⟩:=W;exact⟨C,f,fd,ps,xa,gx,⟨ms,a,i,kc⟩,(ok F).1,(ok F).2⟩
end
def Hy:HO->Bool|.ins _ _ _=>true|.dK _=>true|_=>false
mutual
def Tn.bO:Tn->Bool|.sh _=>true|.lst _=>false|.tup _=>false|.aF kts=>Tn.cC kts|.obj _ _ ts=>Tn.cO ts
def Tn.cO:List Tn->Bool|[]=>true|t::ts=>t.bO&&Tn.cO ts
def Tn.cC:List (Am×Tn)->Bool|[]=>true|(_,t)::ts=>t.bO&&Tn.cC ts
end
theorem Tn.eF:∀kts:List (Am×Tn),Tn.cO (kts.map (·.2))=Tn.cC kts|[]=>by simp only[N8,Tn.cO,Tn.cC]|(k,t)::kts=>by simp only[B6,Tn.cO,Tn.cC,Tn.eF kts]
mutual
theorem Ow.lend{G H:Hp}:∀{v:V}{t:Tn}{e1:AS},Ow K G H v t e1->t.bO=true->∃S':AS,(∀b,S' b->e1 b/\∃o,H b=some o/\Hy o=true)/\Ow K G H v t S'|_,_,_,.sh h,_=>⟨λ_=>False,λ_ z=>z.elim,.sh h⟩|_,_,_,.lst h ha sub r,e=>by simp only[Tn.bO]at e;cases e|_,_,_,.tup h ha sub r,e=>by simp only[Tn.bO]at e;cases e|_,_,_,.aF (a:=a) h hk ha sub r,e=>by simp only[Tn.bO]at e;obtain⟨S1,f,r'⟩:=aX.lend r (by rw[Tn.eF];exact e);refine⟨λb=>b=a\/S1 b,λb J=>?_,.aF h hk (.inl rfl) (λb J=>⟨.inr J,(sub b (f b J).1).2⟩) r'⟩;rcases J with rfl|J;exact⟨ha,_,h,rfl⟩;exact⟨(sub b (f b J).1).1,(f b J).2⟩|_,_,_,.obj (a:=a) hc h hl ha sub r,e=>by simp only[Tn.bO]at e;obtain⟨S1,f,r'⟩:=aX.lend r e;refine⟨λb=>b=a\/S1 b,λb J=>?_,.obj hc h hl (.inl rfl) (λb J=>⟨.inr J,(sub b (f b J).1).2⟩) r'⟩;rcases J with rfl|J;exact⟨ha,_,h,rfl⟩;exact⟨(sub b (f b J).1).1,(f b J).2⟩
theorem aX.lend{G H:Hp}:∀{vs:List V}{ts:List Tn}{e1:AS},aX K G H vs ts e1->Tn.cO ts=true->∃S':AS,(∀b,S' b->e1 b/\∃o,H b=some o/\Hy o=true)/\aX K G H vs ts S'|_,_,_,.nil,_=>⟨λ_=>False,λ_ z=>z.elim,.nil⟩|_,_,_,.cons h r dj s1 s2,e=>by simp only[Tn.cO,C6]at e;obtain⟨A,fA,hA⟩:=Ow.lend h e.1;obtain⟨Δ,fB,hB⟩:=aX.lend r e.2;exact⟨λb=>A b\/Δ b,λb J=>J.elim (λz=>⟨s1 b (fA b z).1,(fA b z).2⟩) λz=>⟨s2 b (fB b z).1,(fB b z).2⟩,.cons hA hB (λb x y=>dj b (fA b x).1 (fB b y).1) (λ_ z=>.inl z) λ_ z=>.inr z⟩
end
mutual
def kW:D->Bool|.aK=>true|.bl _=>true|.int _=>true|.str _=>true|.lst M=>mM M|.tup M=>mM M|_=>false
def mM:List D->Bool|[]=>true|d::M=>kW d&&mM M
end
mutual
def Gv:Tn->Bool|.sh d=>kW d|.lst ts=>qg ts|.tup ts=>qg ts|.aF kts=>oG kts|.obj _ _ ts=>qg ts
def qg:List Tn->Bool|[]=>true|t::ts=>Gv t&&qg ts
def oG:List (Am×Tn)->Bool|[]=>true|(_,t)::ts=>Gv t&&oG ts
end
theorem Ms:∀kts:List (Am×Tn),qg (kts.map (·.2))=oG kts|[]=>by simp only[N8,qg,oG]|(k,t)::kts=>by simp only[B6,qg,oG,Ms kts]
def wH:W->Bool|.sh d=>kW d|.ow d=>Gv (Tn.of d)|.tr t=>Gv t
open Classical in
def aQ(G:Hp)(e1:AS):Hp:=λb=>if e1 b then none else G b
section
variable{K:Frag}{G H:Hp}{e1:AS}
def cX:aA (aQ G e1) G:=λb o e=>by unfold aQ at e;split at e;cases e;exact e
def sO{b:Addr}(h:¬e1 b):aQ G e1 b=G b:=by unfold aQ;rw[if_neg h]
def xB{b:Addr}(h:e1 b):aQ G e1 b=none:=by unfold aQ;rw[if_pos h]
def yu(hs:∀b o,e1 b->G b=some o->Hy o=true){b:Addr}{o:HO}(e:G b=some o)(n:Hy o=false):aQ G e1 b=some o:=by rw[sO λz=>by have:=hs b o z e;rw[n]at this;cases this];exact e
def IQ(hs:∀b o,e1 b->G b=some o->Hy o=true){a:Addr}{u:HO}(h:Rd G a u)(n:Hy u=false):Rd (aQ G e1) a u:=by rcases h with h|⟨o,h⟩;exact .inl (yu hs h n);exact .inr ⟨o,yu hs h rfl⟩
theorem aB.aQ(hs:∀b o,e1 b->G b=some o->Hy o=true){vs:List V}{M:List D}(r:aB K G vs M)(e:mM M=true):aB K (L3.aQ G e1) vs M:=by
 have no:∀{p:Prop}{d:D},kW d=true->kW d=false->p:=λa b=>by rw[a]at b;cases b
 refine aB.rec (motive_1:=λv d _=>kW d=true->aP K (L3.aQ G e1) v d) (motive_2:=λvs M _=>mM M=true->aB K (L3.aQ G e1) vs M) (λ_=>.aK) (λb _=>.bl b) (λi _=>.int i) (λx _=>.str x) (λh _ r e=>?_) (λh _ r e=>?_) (λ_ _ e=>no e (by simp only[kW])) (λ_ _ _ _ _ _ e=>no e (by simp only[kW])) (λ_ _ _ _ e=>no e (by simp only[kW])) (λ_ _ _ _ _ e=>no e (by simp only[kW])) (λ_=>.nil) (λ_ _ h r e=>?_) r e;simp only[kW]at e;exact .lst (h.elim (λz=>.inl (IQ hs z rfl)) .inr) (r e);simp only[kW]at e;exact .tup (h.elim (λz=>.inl (IQ hs z rfl)) .inr) (r e);simp only[mM,C6]at e;exact .cons (h e.1) (r e.2)
theorem aP.aQ(hs:∀b o,e1 b->G b=some o->Hy o=true){d:D}(h:aP K G v d)(e:kW d=true):aP K (L3.aQ G e1) v d:=by cases aB.aQ hs (.cons h .nil) (by simp only[mM,e,Q7])with|cons h=>exact h
mutual
theorem Ow.aQ(hs:∀b o,e1 b->G b=some o->Hy o=true):∀{v:V}{t:Tn}{S':AS},Ow K G H v t S'->Gv t=true->Ow K (L3.aQ G e1) H v t S'|_,_,_,.sh h,e=>by simp only[Gv]at e;exact .sh (h.aQ hs e)|_,_,_,.lst h ha sub r,e=>by simp only[Gv]at e;exact .lst h ha sub (aX.aQ hs r e)|_,_,_,.tup h ha sub r,e=>by simp only[Gv]at e;exact .tup h ha sub (aX.aQ hs r e)|_,_,_,.aF h hk ha sub r,e=>by simp only[Gv]at e;exact .aF h hk ha sub (aX.aQ hs r (by rw[Ms];exact e))|_,_,_,.obj hc h hl ha sub r,e=>by simp only[Gv]at e;exact .obj hc h hl ha sub (aX.aQ hs r e)
theorem aX.aQ(hs:∀b o,e1 b->G b=some o->Hy o=true):∀{vs:List V}{ts:List Tn}{S':AS},aX K G H vs ts S'->qg ts=true->aX K (L3.aQ G e1) H vs ts S'|_,_,_,.nil,_=>.nil|_,_,_,.cons h r dj s1 s2,e=>by simp only[qg,C6]at e;exact .cons (Ow.aQ hs h e.1) (aX.aQ hs r e.2) dj s1 s2
end
theorem ExcAt.aQ(hs:∀b o,e1 b->G b=some o->Hy o=true){cls:Value}{dx:Option Addr}{x:Xn}(h:ExcAt K G cls dx x)(e:mM x.vs=true):ExcAt K (L3.aQ G e1) cls dx x:=by cases h with|bare hc=>exact .bare hc|iD hc hd hl r=>exact .iD hc (yu hs hd rfl) hl (r.aQ hs e)
end
def gW(js:List Nat):Nat->SE->DE|_,[]=>[]|n,s::B=>(if js.contains n=true then s.any else s.qp)::gW js (n+1) B
def Hl(js:List Nat)(B:SE):DE:=gW js 0 B
theorem Lv(js:List Nat):∀(B:SE) (n i:Nat),(gW js n B)[i]?=(B[i]?).map λs=>if js.contains (n+i)=true then s.any else s.qp|[],n,i=>by simp only[gW,List.getElem?_nil,Option.map_none]|s::B,n,0=>by simp only[gW,K0,J8,Nat.add_zero]|s::B,n,i+1=>by simp only[gW,O4];rw[Lv js B (n+1) i,show n+1+i=n+(i+1) by lia]
theorem Ln(js:List Nat):∀(B:SE) (n:Nat),(gW js n B).length=B.length|[],_=>rfl|s::B,n=>by simp only[gW,B7,Ln js B]
def oX(js:List Nat)(B:SE):Bool:=js.all λj=>match B[j]? with|some s=>(match s.own with|some t=>t.bO|none=>true)|none=>true
section
variable{K:Frag}{H0:HB}{G0 G H:Hp}{Y:Sg}{B:SE}{H':OS}
def Sl.tK{s:Sl}{d:D}(e:s.any=some d):s=.sh d\/∃t,s.own=some t/\t.d=d:=by cases s with|no=>cases e|sh d'=>cases e;exact .inl rfl|ow d'=>cases e;exact .inr ⟨_,rfl,Tn.dW _⟩|tr t=>cases e;exact .inr ⟨_,rfl,rfl⟩|lk d'=>cases e;exact .inr ⟨_,rfl,Tn.dW _⟩|lt t=>cases e;exact .inr ⟨_,rfl,rfl⟩
theorem Ev.lend(E:Ev K H0 G0 G H Y B H')(js:List Nat)(hl:oX js B=true):∃e1:AS,(∀b,e1 b->∃i,H' i b)/\(∀b,e1 b->∃o,H b=some o/\Hy o=true)/\aT K (Ca G H e1) Y (Hl js B):=by
 let e1:AS:=λb=>∃(i:Nat) (s:Sl) (t:Tn) (v:V) (S':AS),B[i]?=some s/\s.own=some t/\Y[i]?=some (some v)/\(∀b,S' b->H' i b/\∃o,H b=some o/\Hy o=true)/\S' b;have hS:∀b,e1 b->∃i,H' i b:=λb ⟨i,s,t,v,S',_,_,_,f,J⟩=>⟨i,(f b J).1⟩;have sg:aA G (Ca G H e1):=λb o q=>by unfold Ca;split;rename_i J;obtain⟨i,hi⟩:=hS b J;rw[(E.out i b hi).1]at q;cases q;exact q
 refine⟨e1,hS,λb ⟨i,s,t,v,S',_,_,_,f,J⟩=>(f b J).2,by unfold Hl;rw[Ln];exact E.len,λi d q=>?_⟩;unfold Hl at q;rw[Lv,O9]at q;obtain⟨s,es,q⟩:=F0.mp q;split at q;rename_i hj;rcases Sl.tK q with rfl|⟨t,to,rfl⟩;obtain⟨v,S,r⟩:=E.sh i d es;exact⟨v,S,r.mono sg⟩;obtain⟨v,S,w⟩:=E.ow i s t es to;have lt:t.bO=true:=by have:=F9.mp hl i (X8.mp hj);rw[es]at this;simp only[to]at this;exact this
 obtain⟨S',f,w'⟩:=w.lend lt;refine⟨v,S,w'.has sg λb o J hq=>?_⟩;unfold Ca;rw[if_pos ⟨i,s,t,v,S',es,to,S,f,J⟩];exact hq;cases s with|sh d'=>cases q;obtain⟨v,S,r⟩:=E.sh i _ es;exact⟨v,S,r.mono sg⟩|_=>cases q
def JQ(E:Ev K H0 G0 G H Y B H'){e1:AS}(hS:∀b,e1 b->∃i,H' i b):aQ (Ca G H e1) e1=G:=by funext b;by_cases J:e1 b;rw[xB J];obtain⟨i,hi⟩:=hS b J;exact(E.out i b hi).1.symm;rw[sO J];unfold Ca;rw[if_neg J]
def HA(E:Ev K H0 G0 G H Y B H'){e1:AS}:aA (Ca G H e1) H:=λb o q=>by unfold Ca at q;split at q;exact q;exact E.st.gh b o q
def GZ{e1:AS}(hk:∀b,e1 b->∃o,H b=some o/\Hy o=true):∀b,e1 b->∃o,Ca G H e1 b=some o/\Hy o=true:=λb J=>by obtain⟨o,e,l⟩:=hk b J;exact⟨o,by unfold Ca;rw[if_pos J];exact e,l⟩
end
theorem Step.aQ{G H G2 H2:Hp}{e1:AS}(st:Step G H G2 H2):Step (L3.aQ G e1) H (L3.aQ G2 e1) H2:=⟨st.hh,λb o q=>st.gh b o (cX b o q),λb o q=>by
  by_cases J:e1 b;rw[xB J]at q;cases q;rw[sO J]at q⊢;exact st.gg b o q,λb n z=>by
  by_cases J:e1 b;exact xB J;rw[sO J]at n⊢;exact st.nw b n z⟩
def Step.kN{G H G2 H2:Hp}{e1:AS}(st:Step G H G2 H2)(hk:∀b,e1 b->∃o,G b=some o/\Hy o=true):∀b,e1 b->∃o,G2 b=some o/\Hy o=true:=λb J=>by obtain⟨o,e,l⟩:=hk b J;exact⟨o,st.gg b o e,l⟩
def kC{G:Hp}{e1:AS}(hk:∀b,e1 b->∃o,G b=some o/\Hy o=true):∀b o,e1 b->G b=some o->Hy o=true:=λb o J q=>by obtain⟨o',e,l⟩:=hk b J;rw[e]at q;cases q;exact l
def Vc(EX:iY):iY:=⟨λx G H=>mM x.vs=true/\∃e1:AS,(∀b,e1 b->∃o,G b=some o/\Hy o=true)/\EX.p x (aQ G e1) H,λ_ _ _ _ _ st ⟨pl,e1,k,q⟩=>⟨pl,e1,st.kN k,EX.mono _ _ _ _ _ st.aQ q⟩⟩
def wG(EX:Be):Be:=λ Y=>Vc (EX Y)
def Lk.lend{EX:Be}(lk:Lk X EX):Lk X (wG EX):=λZ Y H s e s' I c=>by obtain⟨a,C,dx,T,O,h1,h2,h3,h4,h5,h6,h7,h8,h9,Rq,x,G,sg,ea,pl,e1,k,q⟩:=c;exact lk Z Y H s e s' I ⟨a,C,dx,T,O,h1,h2,h3,h4,h5,h6,h7,h8,h9,Rq,x,aQ G e1,cX.trans sg,ea.aQ (kC k) pl,q⟩
section
variable{K:Frag}{EX:Be}{H0:HB}{G0 G H:Hp}{Y:Sg}{B:SE}{H':OS}{f:FE}{Q:VK}{js:List Nat}{w:W}{x:Xn}
def Yv(E:Ev K H0 G0 G H Y B H')(hl:oX js B=true)(e:f (Hl js B)=.ok w)(pw:wH w=true)(q:WP K G H w Q):tD K EX f Y H Q:=by
 obtain⟨e1,hS,hk,hs⟩:=E.lend js hl;have k1:=GZ (G:=G) hk;refine⟨Ca G H e1,Hl js B,HA E,hs,?_⟩;rw[e];have bJ:∀{G2 H2:Hp},Step (Ca G H e1) H G2 H2->Step G H (aQ G2 e1) H2:=λst=>by have:=st.aQ (e1:=e1);rw[JQ E hS]at this;exact this
 cases w with|sh d=>exact λv G2 H2 st r=>q v (aQ G2 e1) H2 (bJ st) (r.aQ (kC (st.kN k1)) pw)|ow d=>exact λv S' G2 H2 st fr t=>q v S' (aQ G2 e1) H2 (bJ st) (λa ha=>⟨(fr a ha).1,cX.free (fr a ha).2.1,(fr a ha).2.2⟩) (t.aQ (kC (st.kN k1)) pw)|tr t=>exact λv S' G2 H2 st fr t=>q v S' (aQ G2 e1) H2 (bJ st) (λa ha=>⟨(fr a ha).1,cX.free (fr a ha).2.1,(fr a ha).2.2⟩) (t.aQ (kC (st.kN k1)) pw)
def Yu(E:Ev K H0 G0 G H Y B H')(hl:oX js B=true)(e:f (Hl js B)=.ex x)(pl:mM x.vs=true)(q:(EX Y).p x G H):tD K (wG EX) f Y H Q:=by obtain⟨e1,hS,hk,hs⟩:=E.lend js hl;refine⟨Ca G H e1,Hl js B,HA E,hs,?_⟩;rw[e];exact⟨pl,e1,GZ hk,by rw[JQ E hS];exact q⟩
end
inductive FM where|ok (d:D) (B:SE)|ex (x:Xn) (B:SE)|no
def afY(K:Frag)(EX:Be)(H0:HB)(G0 G1:Hp)(Y:Sg)(r:FM)(Q:VK):Prop:=match r with|.ok d B=>∀v G H H',Ev K H0 G0 G H Y B H'->aA G1 G->aP K G v d->Q v H|.ex x B=>∀G H H',Ev K H0 G0 G H Y B H'->aA G1 G->(EX Y).p x G H|.no=>False
def tM(K:Frag)(EX:Be)(g:SE->FM):TE:=λ Y H Q=>∃H0 G0 G B H',Ev K H0 G0 G H Y B H'/\afY K EX H0 G0 G Y (g B) Q
abbrev EM(X:Cx)(EX:Be)(e:Expr)(g:SE->FM):Prop:=PE X e (tM X.K EX g)
def nM(js:List Nat)(f:FE):SE->FM:=λ B=>if oX js B=true then(match f (Hl js B)with|.ok w=>if wH w=true then .ok w.d B else .no|.ex x=>if mM x.vs=true then .ex x B else .no|.no=>.no) else .no
section
variable{X:Cx}{EX:Be}{a b e:Expr}{f:FE}{p:FT}{g g2:SE->FM}{pos:Pos}
def Yt(js:List Nat)(he:ED X (wG EX) e f):EM X EX e (nM js f):=PE.imp he λ Y H Q ⟨H0,G0,G,B,H',E,q⟩=>by
 unfold nM at q;split at q;rename_i hl;cases S:f (Hl js B)with|ok w=>simp only[S]at q;split at q;rename_i pw;exact Yv E hl S pw (WP.intro λv G' O st r=>q v G' O H' (E.grow st) st.gg r);exact q.elim|ex x=>simp only[S]at q;split at q;rename_i pl;exact Yu E hl S pl (q G H H' E (aA.refl _));exact q.elim|no=>simp only[S]at q;exact q.elim
 exact q.elim
end
def nL(i:Nat)(g:SE->FM):FS:=λ B=>match g B with|.ok d Δ1=>.nx (Δ1.set i (.sh d))|.ex x Δ1=>.ex x Δ1|.no=>.no
section
variable{X:Cx}{EX:Be}{e:Expr}{g:SE->FM}{g1 g2:FS}{pos:Pos}
def Ys{i:Nat}{x:Str}{pos':Pos}(he:EM X EX e g)(hN:X.N.Nodup)(hi:X.N[i]?=some x:=by rfl)(hx:Loc X.env.scope x:=by trivial)(hs:swapsWith e (some (.Name x pos')) pos.line X.env=pure false:=by rfl)(hf:X.fn x=true\/X.env.scope.names.lookup x=some .local:=by trivial):SD X EX (.Assign [.Name x pos'] e pos) (nL i g):=PS.imp (oB hN hi hx he hs hf) λD Y H ⟨H0,G0,G,B,H',E,q⟩=>by refine⟨H0,G0,G,B,H',E,?_⟩;unfold nL at q;cases S:g B with|ok d Δ1=>simp only[S]at q;exact λv G1 H1 O1 E1 s1 r1=>q _ G1 H1 O1 (E1.put r1) s1|ex x Δ1=>simp only[S]at q;exact λG1 H1 O1 E1 s1=>q Y G1 H1 O1 E1 s1|no=>simp only[S]at q;exact q.elim
end
section
variable{K:Frag}{G H:Hp}
def Ow.zu{c:Str}{ns:List Str}{ts:List Tn}{e1:AS}(t:Ow K G H v (.obj c ns ts) e1):∃a C dx us S1,v=.ref a/\ClsAt K c C/\H a=some (.ins C dx (ns.zip us))/\ns.length=us.length/\e1 a/\(∀b,S1 b->e1 b/\b≠a)/\aX K G H us ts S1:=by cases t with|obj hc h hl ha sub r=>exact⟨_,_,_,_,_,rfl,hc,h,hl,ha,sub,r⟩
end
section
variable{X:Cx}{EX:Be}{pos:Pos}{i:Nat}{cs:List Str}{f x:Str}
end
def kg(n:Nat)(c:Str)(g:FS)(M:List D):R (List Str×List Tn):=match g (mC n c M)with|.nx (.lt (.obj c' ns ts)::_)=>if c'=c then .ok (ns,ts) else .no|.ex x _=>.ex x|_=>.no
def BL(K:Frag)(C:Addr)(cn:Str)(n:Nat)(F:List D->R (List Str×List Tn)):Sp:=λvs H Q E=>∃x dx dZ Hq G M,vs=.ref x::dZ/\dZ.length=n/\Hq x=none/\aA Hq H/\H x=some (.ins C dx [])/\aA G Hq/\aB K G dZ M/\(match F M with|.ok p=>∀G' O e1,Step G Hq G' O->(∀a,e1 a->Hq a=none/\G' a=none/\O a≠none)->Ow K G' O (.ref x) (.obj cn p.1 p.2) e1->Q .aK O|.ex e=>(bK K E).p e G Hq|.no=>False)
def UB{c:Bool}{P:Program}{w:World}{x qual cn:Str}{st:Stmt}{f C:Addr}{N ps:List Str}{k n:Nat}{g:FS}(F:aY K x qual st f fd)(e1:aS N ps (Bt st))(hC:ClsAt K cn C)(hn:ps.length=n+1)(hle:ps.length<=N.length)(zj:∀(zn:Value) (A:Around) (outer:List Env) (s:Shared) (H:Hp) (E:XK),aC c k (A.deeper (envOfC qual (Bt st) s.heap.objs.size f zn))->BD (Fb c P w K mg base N qual (Bt st) f zn A outer s H E) (λ_=>bK K E) (Fg st) g):bF P w K mg base c (k+1) f fd ps (BL K C cn n (kg N.length cn g)):=by
 refine aY.BS F e1 (λvs H Q E h=>?_) λzn A outer s H vs Q E hr h=>⟨_,zj zn A outer s H E hr,?_⟩;obtain⟨x,dx,dZ,Hq,G,M,rfl,hl,_⟩:=h;rw[B7,hl,hn];obtain⟨x,dx,dZ,Hq,G,M,rfl,hl,n1,i0,hx,g0,r,q⟩:=h;have E0:=LF (N:=N) (b:=λ_=>x) (v0:=.ref x) (g0.trans i0) i0 r (by rw[hl];lia);have hs:(Gg N (.ref x::dZ))[0]?=some (some (.ref x)):=rfl;have E1:=E0.lz (i:=0) (z:=.lt (.obj cn [] [])) (v:=.ref x) (e1:=λb=>b=x) (λa ha=>by subst ha;exact⟨n1,g0.free n1,by rw[hx];simp⟩) rfl (λ_ z=>by cases z) (.obj (S1:=λ_=>False) hC (us:=[]) hx rfl rfl (λ_ z=>z.elim) .nil) (λj a ha=>ha.elim) (λ_ _=>rfl);rw[uS hs]at E1;refine⟨⟨Hq,λ_=>x⟩,G,G,_,_,E1,?_⟩;have e2:(Sl.no::(M.map Sl.sh++List.replicate (N.length-(M.length+1)) .no)).set 0 (.lt (.obj cn [] []))=mC N.length cn M:=rfl;rw[e2];have nxt:∀{B:SE},g (mC N.length cn M)=.nx B->Fin K (λ_=>bK K E) ⟨Hq,λ_=>x⟩ G G {nx:=λ_ O=>Q .aK O,rt:=Q} (.nx B):=λ{B} e=>by unfold kg at q;rw[e]at q;cases B with|nil=>exact q.elim|cons s B=>cases s with|lt t=>(cases t with|obj c' ns ts=>simp only at q;by_cases qH:c'=cn;subst qH;rw[if_pos rfl]at q;intro Y G' O H' E' _;obtain⟨v,s1,t3⟩:=E'.ow 0 _ _ rfl rfl;have s2:=E'.lt 0 _ rfl;rw[s1]at s2;cases s2;exact q G' O (H' 0) E'.st (λa ha=>⟨(E'.out 0 a ha).2.1,(E'.out 0 a ha).1,(E'.out 0 a ha).2.2⟩) t3;rw[if_neg qH]at q;exact q.elim|_=>exact q.elim)|_=>exact q.elim
 cases e:g (mC N.length cn M)with|nx B=>exact nxt e|ex x B=>unfold kg at q;rw[e]at q;exact λ Y G' O H' E' _=>(bK K E).mono _ _ _ _ _ E'.st q|rt w=>unfold kg at q;rw[e]at q;exact q.elim|rv d B=>unfold kg at q;rw[e]at q;exact q.elim|bk B=>unfold kg at q;rw[e]at q;exact q.elim|ct B=>unfold kg at q;rw[e]at q;exact q.elim|no=>unfold kg at q;rw[e]at q;exact q.elim
def jJ(i:Nat)(cs:List Str)(f:Str)(fe:FE):FS:=λ B=>match B[i]? with|some (.lt (.obj c ns ts))=>if cs.contains c=true/\ns.contains f=false/\ns.length<1000 then(match fe (Ay B)with|.ok (.ow d)=>.nx (B.set i (.lt (.obj c (ns++[f]) (ts++[Tn.of d]))))|.ex x=>.ex x B|_=>.no) else .no|_=>.no
def tq(P:Program)(w:World)(K:Frag)(mg:AB)(base:Heap)(cc:Bool)(c:Str)(k n:Nat)(F:List D->R (List Str×List Tn)):Prop:=∃C f fd ps,ClsAt K c C/\mg c=some (.ref C)/\Mk K C f/\bF P w K mg base cc k f fd ps (BL K C c n F)/\Binds K fd ps []
def rH(c:Str)(n:Nat)(F:List D->R (List Str×List Tn))(fa:FA):FE:=λ δ=>(fa δ).bind λM=>if M.length=n then(F M).bind λp=>.ok (.tr (.obj c p.1 p.2)) else .no
section
variable{X:Cx}{EX:Be}{e:Expr}{es:List Expr}{x:Str}{pp pos:Pos}{cc:Bool}{k k' n:Nat}
def Yr{i:Nat}{cs:List Str}{f x:Str}{e:Expr}{fe:FE}{p1 p2:Pos}(k:aZ X.K cs f)(he:ED X EX e fe)(hN:X.N[i]?=some x:=by rfl)(hv:Ff X.env.scope x:=by trivial)(hd:AG x:=by decide)(bI:(x ==("__classdict__" :Str))=false:=by decide) (hs:swapsWith e (some (.Attribute (.Name x p1) f p2)) pos.line X.env=pure false:=by rfl):SD X EX (.Assign [.Attribute (.Name x p1) f p2] e pos) (jJ i cs f fe):=PS.imp (HN (Fp hN hv hd bI) he hs) λD Y H ⟨H0,G0,G,B,H',E,q⟩=>by
  unfold jJ at q;split at q;rename_i c ns ts S;split at q;rename_i hc;obtain⟨Rj,qI,Ri⟩:=hc;refine⟨G,Ay B,E.st.gh,E.eA,?_⟩;cases e2:fe (Ay B)with|ex y=>simp only[e2]at q;exact q Y G H H' E (aA.refl _)|no=>simp only[e2]at q;exact q.elim|ok w=>simp only[e2]at q;cases w with|sh d=>exact q.elim|tr t=>exact q.elim|ow d=>intro v S2 G2 H2 st fr tw;have E2:=E.grow st;obtain⟨v0,s1,t⟩:=E2.ow i _ _ S rfl;obtain⟨a,C,dx,us,S1,rfl,hC,hH,hl,ha,sub,rl⟩:=t.zu;have s2:=E2.lt i _ S;obtain⟨kc,kn⟩:=k _ Rj _ hC;refine⟨_,s1,a,C,dx,_,rfl,hH,kc,kn,by rw[SJ,<-hl,Sv];exact Ri,?_⟩;rw[yb hl qI];have Pe:∀b,S2 b->b≠a:=λb J z=>(E.out i a ha).2.2 (by rw[<-z];exact(fr b J).1);have nO:∀b,S2 b->∀j,¬H' j b:=λb J j hj=>(E.out j b hj).2.2 (fr b J).1;have np:∀b,b≠a->upd H2 a (.ins C dx ((ns++[f]).zip (us++[v]))) b=H2 b:=λb J=>Ax J;have al:∀b,H2 b≠none->upd H2 a (.ins C dx ((ns++[f]).zip (us++[v]))) b≠none:=λb J=>(by by_cases z:b=a;subst z;rw[Bo];simp;rw[np b z];exact J);have gh:aA G2 (upd H2 a (.ins C dx ((ns++[f]).zip (us++[v])))):=λb o z=>(by have nb:b≠a:=λw=>(by rw[w,(E2.out i a ha).1]at z;cases z);rw[np b nb];exact st.gh b o z);have s0:Y[i]?=some (some (.ref a)):=s1;refine q Y G2 _ _ (E.dB (e1:=λb=>H' i b\/S2 b) (z:=.lt _) rfl (λ_ z=>by cases z) (λ_ _=>by rw[s1]at s2⊢;exact s2) ⟨λb o nb z=>by rw[np b λw=>nb (by rw[w];exact ha)];exact st.hh b o z,gh,st.gg,λb _ z1 z2=>st.nw b z1 z2⟩ s0 (λb J=>?_) ?_) st.gg;rcases J with J|J;exact⟨.inl J,(E2.out i b J).1,al b (E2.out i b J).2.2⟩;exact⟨.inr (fr b J).1,(fr b J).2.1,al b (fr b J).2.2⟩;refine .obj (S1:=λb=>S1 b\/S2 b) hC Bo (by rw[A6,A6,hl];rfl) (.inl ha) (λb J=>?_) ?_;rcases J with J|J;exact⟨.inl (sub b J).1,(sub b J).2⟩;exact⟨.inr J,Pe b J⟩;refine aX.append (S1:=S1) (S2:=S2) (rl.mono (aA.refl _) (λb o J z=>by rw[np b (sub b J).2];exact z) λ_ z=>z) (.cons (S1:=S2) (S2:=λ_=>False) (tw.mono (aA.refl _) (λb o J z=>by rw[np b (Pe b J)];exact z) λ_ z=>z) .nil (λ_ _ z=>z) (λ_ z=>z) λ_ z=>z.elim) (λb z1 z2=>nO b z2 i (sub b z1).1) (λ_ z=>.inl z) λ_ z=>.inr z
  exact q.elim;exact q.elim
def Yq{F:List D->R (List Str×List Tn)}{fa:FA}(hr:aC cc k' X.A)(lk:Lk X EX)(h:tq X.prog X.w X.K X.mg X.base cc x k n F)(ha:AD X EX (e::es) fa)(hk:k+1<=k':=by decide)(hg:Gl X x:=by rfl)(cL:AG x:=by decide)(he:starEach (e::es) X.env=(false,eval e X.env)::starEach es X.env:=by rfl) (bM:(backTo pos (starEach es X.env)).any (·.1)=false:=by rfl):ED X EX (.Call (.Name x pp) (e::es) [] pos) (rH x n F fa):=by
 obtain⟨C,f,fd,ps,hC,hm,ds,ok,J⟩:=h;intro Z s Y H Q I q;obtain⟨G,δ,g0,s0,o⟩:=q;refine N1 (pJ I hg hm ?_ cL);have ta:dR X.K EX fa Y H λvs H1=>∃G1 M,aA G1 H1/\aB X.K G1 vs M/\M.length=n/\Out X.K (EX Y) G1 H1 ((F M).bind λp=>.ok (.tr (.obj x p.1 p.2))) Q:=by refine dR.seq g0 s0 o λM vs G' O _ st r o'=>?_;split at o';rename_i hl;exact⟨G',M,st.gh,r,hl,o'⟩;exact o'.elim
 refine W7 (h₀:=X.base) I.ok.mod.kC ds.kp (Bb (ha pos Z s Y H _ I ta) λus s1 ⟨vs,H1,I1,r,G1,M,sg,rl,hl,o'⟩=>⟨I1.bU,?_⟩) he bM;refine LD ds ok (hr.mono hk) J lk I1 r λy dy ny QC ne=>?_;refine⟨y,dy,vs,H1,G1,M,rfl,by rw[rl.length];exact hl,ny,(λb o e=>by rw[Ax (Eu e ny),Ax (Eu e QC)];exact e),Bo,sg,rl,?_⟩;cases ef:F M with|ok p=>rw[ef]at o';intro G' O e1 st fr tw;exact⟨rfl,o' (.ref y) e1 G' O st fr tw⟩|ex z=>rw[ef]at o';exact bK.in o'|no=>rw[ef]at o';exact o'
end
def Vb{c:Bool}{P:Program}{w:World}{x qual cn:Str}{st:Stmt}{f C:Addr}{N ps:List Str}{k n:Nat}{g:FS}(F:aY K x qual st f fd)(hC:ClsAt K cn C)(hn:ps.length=n+1)(hle:ps.length<=N.length)(zj:Qf c P w K mg base N qual st f k g) (e1:aS N ps (Bt st):=by exact⟨rfl,rfl,rfl,by decide +kernel,rfl,by decide +kernel,by decide +kernel⟩):bF P w K mg base c (k+1) f fd ps (BL K C cn n (kg N.length cn g)):=UB F e1 hC hn hle λzn A outer s H E hr=>zj rfl hr (aC.units hr) e1.nd oq
section
variable{P:Program}{w:World}{K:Frag}{mg:AB}{base:Heap}{cc:Bool}{k n:Nat}{ps:List Str}{st:Stmt}{Fn:Tn->List D->RR}{m q c:Str}{C:Addr}
def Wb{Fi:List D->R (List Str×List Tn)}(xa:ClsAt K c C)(gx:mg c=some (.ref C))(ms:makesIn K C=true)(kc:keepIn K (.ref C)=true)(W:aN K C "__init__" q st)(ok:∀{f:Addr}{fd:FuncData},aY K "__init__" q st f fd->bF P w K mg base cc k f fd ps (BL K C c n Fi)/\Binds K fd ps []):tq P w K mg base cc c k n Fi:=by obtain⟨f,a,⟨fd,F⟩,kp,i⟩:=W;exact⟨C,f,fd,ps,xa,gx,⟨ms,a,i,kc⟩,(ok F).1,(ok F).2⟩
end
section
variable{X:Cx}{Z:AE}{Y:Sg}{H:Hp}{s:Shared}{a:Addr}{kvs:List (Am×V)}{k:Am}{u:Value}{A:Around}{E:AA}
def aah{x:V}{r:Value}{Q:AA}(I:Inv X Z Y H s)(e:H a=some (.dK kvs))(ry:RelV (kV k) u)(rx:RelV x r)(l:kvs.length<sizeLine)(h1:∀v w' s',Cf kvs k=some v->Inv X Z Y H s'->RelV v w'->Q w' s') (h2:Cf kvs k=none->∀s',Inv X Z Y (upd H a (.dK (Gq kvs k x))) s'->Q r s'):wpAny (model X.prog X.w) A (call (.builtin "dict.setdefault") [.ref a,u,r]) Q E s:=by
 obtain⟨z,hd,vs,rel,dd⟩:=rR I.aJ e;have hl:(Gq kvs k x).length<=sizeLine:=by have:=yN kvs k x;lia
 have hr:=rel.val k;refine Z6 Z2 dd.typeIs PySem.F.entry_dict_setdefault (PySem.F.args_dict_setdefault_3 _ _ _) (PySem.kt_meets_setdefault (Gm X.prog X.w) a (fD ry) hd r) ⟨vs,dd,by rw[<-rel.length];exact z,λw' hw=>?_,λhn h' nr hs=>?_⟩;cases hv:Cf kvs k with|none=>have hn:valueAt vs k=none:=bN.none_of (by rw[<-hv];exact hr);rw[hn]at hw;cases hw|some v=>obtain⟨w2,QM,rv⟩:=bN.some_of (v:=v) (o:=valueAt vs k) (by rw[<-hv];exact hr);rw[QM]at hw;cases hw;exact h1 v w' _ hv (I.tok _) rv
 have he:∃q,h'.get? a=some q:=let⟨q,_,_,hq,_⟩:=nr;⟨q,hq⟩;refine h2 ?_ _ (sG I (by rw[e];exact True.intro) hs he (wU hl hd (rel.put k rx) nr));cases hv:Cf kvs k with|none=>rfl|some v=>obtain⟨w2,QM,rv⟩:=bN.some_of (v:=v) (o:=valueAt vs k) (by rw[<-hv];exact hr);rw[QM]at hn;cases hn
end
def Va(td ty tx:TE):TE:=λ Y H Q=>td Y H λx H1=>∃a,x=.ref a/\Qe H1 a/\ty Y H1 λy H2=>tx Y H2 λz H3=>∃kvs k,H3 a=some (.dK kvs)/\y=kV k/\kvs.length<sizeLine/\(∀v,Cf kvs k=some v->Q v H3)/\(Cf kvs k=none->Q z (upd H3 a (.dK (Gq kvs k z))))
section
variable{X:Cx}{EX:Be}{o e f:Expr}{zg zf pos:Pos}{td ty tx:TE}
def Yp(ho:PE X o td)(he:PE X e ty)(hf:PE X f tx)(m:M2 X o "setdefault" zg e f zf):PE X (.Call (.Attribute o "setdefault" zg) [e,f] [] zf) (Va td ty tx):=by intro Z s Y H Q I h;refine SV m.base m.qL m.line W9 Z2 PySem.F.type_dict_setdefault (Bb (ho Z s Y H _ I h) λu s1 ⟨x,H1,I1,rx,a,ex,d,q1⟩=>?_);subst ex;obtain rfl:u=Value.ref a:=rx;obtain⟨t1,t2,_⟩:=wR I1 d;refine⟨t1,t2,?_⟩;rw[m.trees];refine Q5 rfl (V3 (M3 (Bb (he Z s1 Y H1 _ I1 q1) λiv s2 ⟨y,H2,I2,ry,q2⟩=>M3 (Bb (hf Z s2 Y H2 _ I2 q2) λfv s3 ⟨z,H3,I3,rz,kvs,k,ea,ey,l,q3,q4⟩=>P9 ?_))));subst ey;exact aah I3 ea ry rz l (λv w' s4 hv I4 rv=>⟨v,_,I4,rv,q3 v hv⟩) λhn s4 I4=>⟨z,_,I4,rz,q4 hn⟩
end
def mT(kts:List (Am×Tn))(k:Am):List (Am×Tn):=match Bs kts k with|some _=>kts|none=>kts++[(k,.lst [])]
section
variable{X:Cx}{EX:Be}{pos:Pos}
theorem JP{k:Am}:∀{kvs:List (Am×V)}{kts:List (Am×Tn)},kvs.map (·.1)=kts.map (·.1)->Bs kts k=none->Cf kvs k=none|[],_,_,_=>rfl|_::_,[],e,_=>by simp at e|(x,v)::kvs,(y,t)::kts,e,h=>by simp only[B6,U9]at e;obtain⟨S,e2⟩:=e;subst S;by_cases q:x=k;exfalso;unfold Bs at h;rw[P1 (by simpa using q)]at h;cases h;rw[kE q];refine JP e2 ?_;unfold Bs at h⊢;rwa[P2 (by simpa using q)]at h
end
def Yo{B:SE}{i:Nat}{s:Sl}{t t':Tn}{lk:Bool}(e:B[i]?=some s)(q:s.tree=some (t,lk)):Ay (B.set i (Sl.mk lk t'))=Ay B:=by
 unfold Ay;rw[Ss];apply S3;intro j;by_cases h:i=j;subst h;have cK:i<B.length:=(A7.mp e).1;rw[K2 (by rw[A4];exact cK),B3,e];cases lk<;>cases s<;>first|rfl|cases q
 rw[D4 h]
def qT(i:Nat)(f1 f2:FE):FS:=λ B=>match(B[i]?).bind Sl.tree with|some (.aF kts,lk)=>(match f1 (At B)with|.ok z1=>(match Fm z1.d with|some k1=>if kts.length<16777216 then(match Bs (mT kts k1) k1 with|some (.lst ts)=>if ts.length<16777216 then(match f2 (Ay B)with|.ok z2=>.nx (B.set i (Sl.mk lk (.aF (Cd (mT kts k1) k1 (.lst (ts++[.sh z2.d]))))))|_=>.no) else .no|_=>.no) else .no|none=>.no)|_=>.no)|_=>.no
section
variable{X:Cx}{EX:Be}{pos:Pos}
def IP{H0:HB}{G0 G H:Hp}{Y:Sg}{B:SE}{H':OS}{D:Ends}{i:Nat}{s:Sl}{kts:List (Am×Tn)}{lk:Bool}{k:Am}{ts:List Tn}{f2:FE}{z2:W}(E:Ev K H0 G0 G H Y B H')(S:B[i]?=some s)(dU:s.tree=some (.aF kts,lk))(ev:Bs kts k=some (.lst ts))(hz:ts.length<16777216)(ef:f2 (Ay B)=.ok z2)(q:∀σ' G' O O',Ev K H0 G0 G' O σ' (B.set i (Sl.mk lk (.aF (Cd kts k (.lst (ts++[.sh z2.d])))))) O'->aA G G'->D.nx σ' O):∃c a kvs,Y[i]?=some (some (.ref a))/\H a=some (.dK kvs)/\Cf kvs k=some (.ref c)/\BE K "list" (.ref c) H/\tD K EX f2 Y H λy H2=>xN (.ref c) [y] H2 λ_ H3=>D.nx Y H3:=by
 obtain⟨v0,s1,t⟩:=E.ow i _ _ S (Sl.bC dU);obtain⟨a,kvs,S1,rfl,m,hH,hk,sub,rl⟩:=t.cD;obtain⟨vc,Sc,ec,tc,ic,fc⟩:=aX.cZ k hk rl ev;cases tc with
 |lst hc mc agd rc=>
  rename_i c vs S2;have CY:c≠a:=(sub c (ic c mc)).2;refine⟨c,a,kvs,s1,hH,ec,.inl ⟨rfl,_,bQ.of hc⟩,G,Ay B,E.st.gh,E.eA,?_⟩;rw[ef];refine WP.intro λy G2 H2 aV r2=>?_;have E2:=E.grow aV;have zk:vs.length<sizeLine:=by rw[rc.length,D9];exact hz
  refine⟨c,vs,y,rfl,rfl,aV.hh _ _ hc,zk,?_⟩;refine q Y G2 _ _ (E2.fN S dU s1 (sub c (ic c mc)).1 ?_) aV.gg;obtain⟨vc',Sc',AM,uV,ic',fc'⟩:=aX.cZ k hk (aX.mono aV.gg rl (λ_ _ _ z=>z) λ_ z=>z) ev;rw[ec]at AM;cases AM;cases uV with|lst la mc' uI rc'=>rename_i vs' S2';rw[hc]at la;cases la;refine Ow.aF (S1:=S1) (by rw[Ax (Ne.symm CY)];exact aV.hh _ _ hH) (by rw[sY];exact hk) m sub ?_;refine fc' (λb o J nb z=>?_) ?_;rw[Ax (show b≠c from λw=>nb (by rw[w];exact mc'))];exact aV.hh _ _ z;refine Ow.lst (S1:=S2') Bo mc' uI (aX.append (S2:=λ_=>False) (rc'.mono (aA.refl _) (λb o J z=>?_) λ_ z=>z) (.cons (S1:=λ_=>False) (S2:=λ_=>False) (.sh r2) .nil (λ_ z=>z.elim) (λ_ z=>z) λ_ z=>z) (λ_ _ z=>z) (λ_ z=>z) λ_ z=>z.elim);rw[Ax (uI b J).2];exact aV.hh _ _ z
def Wa{i:Nat}{x:Str}{S e2:Expr}{f1 f2:FE}{p1 lp a1 c1 zg zf:Pos}(h1:ED X EX S f1)(h2:ED X EX e2 f2)(hN:X.N[i]?=some x:=by rfl)(hv:Ff X.env.scope x:=by trivial)(hd:AG x:=by decide)(bI:(x ==("__classdict__" :Str))=false:=by decide) (hm:M2 X (.Name x p1) "setdefault" a1 S (.List [] lp) c1:=by exact⟨rfl,rfl,rfl,rfl⟩)(pU:swapsWith (.Call (.Attribute (.Call (.Attribute (.Name x p1) "setdefault" a1) [S,.List [] lp] [] c1) "append" zg) [e2] [] zf) none pos.line X.env=pure false:=by rfl)(af:attributeBase (.Call (.Attribute (.Name x p1) "setdefault" a1) [S,.List [] lp] [] c1) "append" X.env (eval (.Call (.Attribute (.Name x p1) "setdefault" a1) [S,.List [] lp] [] c1) X.env)=eval (.Call (.Attribute (.Name x p1) "setdefault" a1) [S,.List [] lp] [] c1) X.env:=by rfl)(az:((backTo zf (starEach [e2] X.env)).all (λx=>!x.1)&&(backToKw zf (keywordEach [] X.env)).all (λx=>x.1.isSome)&&decide ([e2].length+([]:List Keyword).length+(if([]:List Keyword).isEmpty then 0 else 1)<30))=true:=by rfl)(ae:(zg.endLine ==zf.line)=true:=by rfl) (hs:starEach [e2] X.env=(false,eval e2 X.env)::starEach [] X.env:=by rfl) (aa:(backTo zf (starEach [] X.env)).any (·.1)=false:=by rfl):SD X EX (.Expr (.Call (.Attribute (.Call (.Attribute (.Name x p1) "setdefault" a1) [S,.List [] lp] [] c1) "append" zg) [e2] [] zf) pos) (qT i f1 f2):=PS.imp (jW (rS T6 ZB4 ZB5 yB (Yp (Fp hN hv hd bI) h1 (wW jq) hm) (Hi h2 jq hs) af az ae hs aa) pU) λD Y H ⟨H0,G0,G,B,H',E,q⟩=>by
  unfold qT at q;split at q;rename_i kts lk e0;obtain⟨s,S,dU⟩:=M9.mp e0;obtain⟨v0,s1,t⟩:=E.ow i _ _ S (Sl.bC dU);obtain⟨a,kvs,S1,rfl,m,hH,hk,sub,rl⟩:=t.cD;refine⟨.ref a,s1,a,rfl,.inl ⟨kvs,.inl hH⟩,Fa G H H',At B,E.aH,E.bZ,?_⟩;cases e3:f1 (At B)with|ex x=>simp only[e3]at q;exact q.elim|no=>simp only[e3]at q;exact q.elim|ok z1=>simp only[e3]at q;refine WP.intro λv1 G1 H1 bH r1=>?_;split at q;rename_i k1 vG;split at q;rename_i hl;split at q;rename_i ts ev;split at q;rename_i hz;(cases e4:f2 (Ay B)with|ex x=>simp only[e4]at q;exact q.elim|no=>simp only[e4]at q;exact q.elim|ok z2=>simp only[e4]at q;have vy:=mO r1 vG;subst vy;refine⟨L1 _,λp hp=>?_⟩;have E3:=E.keep bH.hh;have E5:=E3.keep (iV hp (.lst []));have hle:kvs.length=kts.length:=(by have:=K5 List.length hk;rwa[A4,A4]at this);have hH5:upd H1 p (.lst []) a=some (.dK kvs):=iV hp _ _ _ (bH.hh _ _ hH);refine⟨kvs,k1,hH5,rfl,by rw[hle,D9];exact hl,λv hv=>?_,λhn=>?_⟩;have hA:mT kts k1=kts:=(by unfold mT;cases hA:Bs kts k1 with|some t=>rfl|none=>rw[JP hk hA]at hv;cases hv);rw[hA]at ev q;obtain⟨c,a',cf,iP,lj,ec,ty,td⟩:=IP (D:=D) (EX:=EX) E5 S dU ev hz e4 q;rw[s1]at iP;cases iP;rw[hH5]at lj;cases lj;rw[hv]at ec;cases ec;exact⟨ty,td⟩;have hA:Bs kts k1=none:=(by cases hA:Bs kts k1 with|none=>rfl|some t=>obtain⟨v',_,ev',_⟩:=aX.cZ k1 hk rl hA;rw[hn]at ev';cases ev');have hK:mT kts k1=kts++[(k1,.lst [])]:=(by unfold mT;rw[hA]);rw[hK]at ev q;have CC:∀j b,H' j b->b≠p:=λj b J z=>(by have h0:=(E.out j b J).2.2;cases e:H b with|none=>exact h0 e|some o=>rw[z]at e;rw[bH.hh _ _ e]at hp;cases hp);have mI:a≠p:=CC i a m;have dh:(kvs.any λkv=>decide (kv.1=k1))=false:=(by rw[mr,hn];rfl);have cu:Gq kvs k1 (.ref p)=kvs++[(k1,.ref p)]:=(by rw[xG];unfold Cs;rw[dh];rfl);rw[cu];have Gp:G p=none:=E3.st.gh.free hp;have old:∀b o,H1 b=some o->upd H1 p (.lst []) b=some o:=λb o z=>iV hp _ b o z;have vz:upd H1 p (.lst []) p=some (.lst []):=Bo;have ms:dM (H' i) G H1 G (upd (upd H1 p (.lst [])) a (.dK (kvs++[(k1,.ref p)]))):=⟨λb o nb z=>by rw[Ax (λw=>nb (by rw[w];exact m))];exact old b o z,λb o z=>by have:b≠a:=λw=>(by rw[w,(E.out i a m).1]at z;cases z);rw[Ax this];exact old b o (E3.st.gh b o z),aA.refl _,λb _ z _=>z⟩;have E6:Ev X.K H0 G0 G (upd (upd H1 p (.lst [])) a (.dK (kvs++[(k1,.ref p)]))) Y (B.set i (Sl.mk lk (.aF (kts++[(k1,.lst [])])))) (Gb H' i λb=>H' i b\/b=p):=(by refine E3.dB (e1:=λb=>H' i b\/b=p) (Sl.fM lk _) (Sl.kM lk _) (E3.kL S dU _) ms s1 (λb J=>?_) ?_;rcases J with J|J;refine⟨.inl J,(E3.out i b J).1,?_⟩;by_cases w:b=a;rw[w,Bo];simp;rw[Ax w];(cases e:H1 b with|none=>exact absurd e (E3.out i b J).2.2|some o=>rw[old b o e];simp);subst J;exact⟨.inr hp,Gp,by rw[Ax (Ne.symm mI),vz];simp⟩;refine Ow.aF (S1:=λb=>S1 b\/b=p) Bo (by rw[B9,B9,hk];rfl) (.inl m) (λb J=>?_) ?_;rcases J with J|J;exact⟨.inl (sub b J).1,(sub b J).2⟩;subst J;exact⟨.inr rfl,Ne.symm mI⟩;rw[B9,B9];refine aX.append (S2:=λb=>b=p) (rl.mono (aA.refl _) (λb o J z=>?_) λ_ z=>z) (.cons (S1:=λb=>b=p) (S2:=λ_=>False) (.lst (S1:=λ_=>False) (by rw[Ax (Ne.symm mI)];exact vz) rfl (λ_ z=>z.elim) .nil) .nil (λ_ _ z=>z) (λ_ z=>z) λ_ z=>z.elim) (λb z1 z2=>CC i b (sub b z1).1 z2) (λb z=>.inl z) λb z=>.inr z;rw[Ax (sub b J).2];exact old _ _ (bH.hh _ _ z));have cK:i<B.length:=(A7.mp S).1;obtain⟨c,a',cf,iP,lj,ec,ty,td⟩:=IP (D:=D) (EX:=EX) (lk:=lk) E6 (s:=Sl.mk lk (.aF (kts++[(k1,.lst [])]))) (by rw[K2 cK]) (by cases lk<;>rfl) ev hz (by rw[Yo S dU];exact e4) (λ σ' G' O O' E' sg=>q σ' G' O O' (by rw[List.set_set]at E';exact E') sg);rw[s1]at iP;cases iP;rw[Bo]at lj;cases lj;rw[<-cu,aaK,if_pos rfl]at ec;cases ec;exact⟨ty,td⟩);exact q.elim;exact q.elim;exact q.elim;exact q.elim
  exact q.elim
end
end L3
namespace PySem.W
open PySem PySem.Calls PyProof.Rows PySem.Spec
section
variable{prog:Program}{w:World}{A:Around}{E:AA}{s:Shared}{T:String}{r d:Addr}{n:Nat}{P:Nat->Value->Prop}{OK:Heap->Prop}
def iK{Q:List Value->Shared->Prop}(K:KdlSrc prog w T r d n P OK)(hh:A.handled=none)(aJ:OK s.heap)(hn:n<=sizeLine)(hQ:∀h' tk zm,(∀b o,s.heap.get? b=some o->h'.get? b=some o)->s.heap.objs.size<=h'.objs.size->ItemsOf P zm n->Q zm.toList {s with heap:=h',toks:=tk}):wpAny (model prog w) A (collect (.ref r)) Q E s:=by
 have cK:=K.there _ aJ;unfold collect;refine A8 (wpAny_runValue (codeAny_builtin PySem.F.entry_proto_collect ?_));rw[Around.under_plainId PySem.F.plain_proto_collect _];show wpAny _ A.in1 (newList []>>=λl=>again (.builtin "list.__iadd__" ⟨[l,.ref r],[]⟩)) _ _ s;refine A8 (SW ?_);refine E9 ⟨plainId_quiet ZC8 _,codeAny_builtin PySem.F.entry_list_iadd ?_⟩;rw[Around.under_plainId ZC8 _];have hS₁:(s.heap.push {cls:=.type "list",data:=.seq ([]:List Value).toArray}).get? s.heap.objs.size=some {cls:=.type "list",data:=.seq #[] 0}:=D0 _ rfl;show wpAny _ A.in1 (Builtin.List.listExtendWith (.ref s.heap.objs.size) (.ref r) (.ref s.heap.objs.size)) _ _ _;have fin:∀{rr:Result}{s':Shared},(∃h' tk ax c',rr=.ok (.ret (.ref s.heap.objs.size))/\s'={s with heap:=h',toks:=tk}/\(∀b o,b≠s.heap.objs.size->(s.heap.push {cls:=.type "list",data:=.seq ([]:List Value).toArray}).get? b=some o->h'.get? b=some o)/\h'.get? s.heap.objs.size=some {cls:=.type "list",dict:=none,data:=.seq ax c',slots:= #[]}/\ItemsOf P ax n)->rr=.ok (.ret (.ref s.heap.objs.size))/\wpAny (model prog w) A (load s.heap.objs.size >>=λo=>match o.data with|.seq xs _=>pure xs.toList|_=>unsupported "internal:collect") Q E s':=by rintro rr s' ⟨h',tk,ax,c',rfl,rfl,hk,Po,dg⟩;refine⟨rfl,A8 (wpAny_load Po ?_)⟩;exact E9 (hQ h' tk ax (λb o e=>hk b o (D6 (B2 e)) (A5 _ e)) (P8 (B2 Po)) dg)
 refine F5 (kdl_extend (R:=λrr s'=>∃h' tk ax c',rr=.ok (.ret (.ref s.heap.objs.size))/\s'={s with heap:=h',toks:=tk}/\(∀b o,b≠s.heap.objs.size->(s.heap.push {cls:=.type "list",data:=.seq ([]:List Value).toArray}).get? b=some o->h'.get? b=some o)/\h'.get? s.heap.objs.size=some {cls:=.type "list",dict:=none,data:=.seq ax c',slots:= #[]}/\ItemsOf P ax n) (s:={s with heap:=s.heap.push {cls:=.type "list",data:=.seq ([]:List Value).toArray}}) K hh (K.keep _ _ aJ λb _ o e=>A5 _ e) s.heap.objs.size (Z5 cK.1) (Z5 cK.2) (.ref s.heap.objs.size) 0 hS₁ (λh' tk ax c' hk Po dg=>⟨h',tk,ax,c',rfl,rfl,hk,Po,dg⟩) hn) (λf s' hf=>?_) λe s' hf=>?_
 ·cases f with|done f=>obtain⟨e,q⟩:=fin hf;cases e;exact q|again c'=>refine⟨hf.1,U4 hf.2 λrr qo h=>?_⟩;obtain⟨e,q⟩:=fin h;cases e;exact q
 obtain⟨e,_⟩:=fin hf;cases e
end
section
variable{prog:Program}{w:World}{A:Around}{E:AA}{s:Shared}{a kS:Addr}{vs:List Value}{kz:List Int}{S:Nat}{P:PySem.Fin->Shared->Prop}
end
end PySem.W
namespace L3
open PySem PySem.Spec PyProof.Rows L2
variable{K:Frag}{fd:FuncData}{mg:AB}{us:List Value}{base:Heap}{H:Hp}{X:Cx}{pos:Pos}{v:V}
def fF(F:AF):List D->R (List (Int×D))|[]=>.ok []|d::M=>(F [d]).bind λw=>match w.d with|.int n=>(fF F M).bind λr=>.ok ((n,d)::r)|_=>.no
noncomputable def jD(p:Int×D):List (Int×D)->List (Int×D)|[]=>[p]|q::r=>if p.1<=q.1 then p::q::r else q::jD p r
def eZ:List (Int×D)->List (Int×D)|[]=>[]|p::r=>jD p (eZ r)
def lK(F:AF)(M:List D):R W:=match fF F M with|.ok ps=>if ps.length<64/\(ps.map (·.1)).Nodup then .ok (.ow (.lst ((eZ ps).map (·.2)))) else .no|_=>.no
section
variable{X:Cx}{Z:AE}{Y:Sg}{H:Hp}{s:Shared}
end
theorem yt(p:Int×D):∀l:List (Int×D),(jD p l).Perm (p::l)|[]=>.refl _|q::r=>by unfold jD;split;exact .refl _;exact(List.Perm.cons q (yt p r)).trans (List.Perm.swap p q r)
theorem yJ:∀l:List (Int×D),(eZ l).Perm l|[]=>.refl _|p::r=>(yt p (eZ r)).trans (.cons p (yJ r))
theorem MY(p:Int×D):∀{l:List (Int×D)},l.Pairwise (λa b=>a.1<=b.1)->(jD p l).Pairwise (λa b=>a.1<=b.1)|[],_=>by unfold jD;simp|q::r,h=>by rw[P7]at h;unfold jD;split;rename_i hl;refine P7.mpr ⟨λz hz=>?_,P7.mpr h⟩;rcases C5.mp hz with rfl|hz;exact hl;exact Int.le_trans hl (h.1 z hz);rename_i hl;refine P7.mpr ⟨λz hz=>?_,MY p h.2⟩;rcases C5.mp ((yt p r).mem_iff.mp hz)with rfl|hz;lia;exact h.1 z hz
theorem Ni:∀l:List (Int×D),(eZ l).Pairwise (λa b=>a.1<=b.1)|[]=>.nil|p::r=>MY p (Ni r)
theorem Mr{α β:Type}{R:α->β->Prop}{a:α}:∀{A:List α}{Δ:List β},Paired R A Δ->a∈A->∃l1 l2 m1 m2 b,A=l1++a::l2/\Δ=m1++b::m2/\R a b/\Paired R (l1++l2) (m1++m2)|_,_,.cons (a:=x) (b:=y) (l₁:=A) (l₂:=Δ) r t,h=>by by_cases e:a=x;subst e;exact⟨[],A,[],Δ,y,rfl,rfl,r,t⟩;rcases C5.mp h with z|h;exact absurd z e;obtain⟨l1,l2,m1,m2,b,rfl,rfl,rb,pr⟩:=Mr t h;exact⟨x::l1,l2,y::m1,m2,b,rfl,rfl,rb,.cons r pr⟩
theorem MX{α β:Type}{R:Int×α->Int×β->Prop}(hR:∀p q,R p q->p.1=q.1):∀{A:List (Int×α)}{A0:List (Int×α)}{B0 Δ:List (Int×β)},Paired R A0 B0->A.Perm A0->Δ.Perm B0->(B0.map (·.1)).Nodup->A.Pairwise (λp q=>p.1<=q.1)->Δ.Pairwise (λp q=>p.1<=q.1)->Paired R A Δ|[],A0,B0,Δ,r,pa,pb,_,_,_=>by have:A0=[]:=pa.symm.eq_nil;subst this;cases r;have:Δ=[]:=pb.eq_nil;subst this;exact .nil|a::A,A0,B0,Δ,r,pa,pb,nd,sa,sb=>by obtain⟨l1,l2,m1,m2,b,rfl,rfl,rb,pr⟩:=Mr r (pa.mem_iff.mp (.head _));have pa':A.Perm (l1++l2):=(List.perm_cons a).mp (pa.trans Y5);have bB:b∈Δ:=pb.mem_iff.mpr (by simp);rw[P7]at sa;cases Δ with|nil=>cases bB|cons c Δ=>rw[P7]at sb;have ir:∀z∈m1++m2,a.1<=z.1:=λz hz=>(by have:∀{A:List (Int×α)}{Δ:List (Int×β)},Paired R A Δ->∀z∈Δ,∃y∈A,y.1=z.1:=λ{A Δ} p=>(by induction p with|nil=>intro z hz;cases hz|cons rr _ ih=>intro z hz;rcases C5.mp hz with rfl|hz;exact⟨_,.head _,hR _ _ rr⟩;obtain⟨y,hy,e⟩:=ih z hz;exact⟨y,.tail _ hy,e⟩);obtain⟨y,hy,e⟩:=this pr z hz;rw[<-e];exact sa.1 y (pa'.mem_iff.mpr hy));have eb:a.1=b.1:=hR _ _ rb;have cb:c=b:=(by have hc:c∈m1++b::m2:=pb.mem_iff.mp (.head _);have la:c=b\/c∈m1++m2:=(by rcases F1.mp hc with h|h;exact .inr (N0 _ h);rcases C5.mp h with h|h;exact .inl h;exact .inr (B8 _ h));rcases la with h|h;exact h;exfalso;have h1:=ir c h;have h2:c.1<=b.1:=(by rcases C5.mp bB with z|z;rw[z];exact Int.le_refl _;exact sb.1 b z);have h3:c.1=b.1:=(by lia);have vk:((b::(m1++m2)).map (·.1)).Nodup:=(List.Perm.map _ (Y5 (a:=b) (l₁:=m1) (l₂:=m2))).nodup_iff.mp nd;rw[B6,K1]at vk;exact vk.1 (by rw[<-h3];exact List.mem_map_of_mem h));subst cb;have pb':Δ.Perm (m1++m2):=(List.perm_cons c).mp (pb.trans Y5);have vk:((m1++m2).map (·.1)).Nodup:=(by have vk:((c::(m1++m2)).map (·.1)).Nodup:=(List.Perm.map _ (Y5 (a:=c) (l₁:=m1) (l₂:=m2))).nodup_iff.mp nd;rw[B6,K1]at vk;exact vk.2);exact .cons rb (MX hR pr pa' pb' vk sa.2 sb.2)
theorem Lm{F:AF}:∀{M:List D}{ps:List (Int×D)},fF F M=.ok ps->Paired (λd (p:Int×D)=>p.2=d/\∃w,F [d]=.ok w/\w.d=.int p.1) M ps|[],_,e=>by cases e;exact .nil|d::M,ps,e=>by unfold fF at e;cases ef:F [d]with|ok w=>rw[ef]at e;simp only[R.aD]at e;(cases ew:w.d with|int n=>rw[ew]at e;simp only at e;(cases er:fF F M with|ok r=>rw[er]at e;cases e;exact .cons ⟨rfl,w,ef,ew⟩ (Lm er)|ex x=>rw[er]at e;cases e|no=>rw[er]at e;cases e)|_=>rw[ew]at e;cases e)|ex x=>rw[ef]at e;cases e|no=>rw[ef]at e;cases e
def aag{k:Am}{u:Value}(r:RelV v u)(q:RelV (kV k) u):v=kV k:=by
 cases k with
 |inl i=>obtain⟨t,rfl⟩:=q;cases v with|int j=>obtain⟨t',e⟩:=r;cases e;rfl|str x=>obtain⟨t',e⟩:=r;cases e|iW x=>obtain⟨t',e⟩:=r;cases e|nj x=>obtain⟨t',e⟩:=r;cases e|_=>cases r
 |inr x=>obtain⟨t,rfl⟩:=q;cases v with|str y=>obtain⟨t',e⟩:=r;cases e;rfl|int j=>obtain⟨t',e⟩:=r;cases e|iW x=>obtain⟨t',e⟩:=r;cases e|nj x=>obtain⟨t',e⟩:=r;cases e|_=>cases r
abbrev RelK(p:Int×Value)(q:Int×D):Prop:=p.1=q.1/\∃k0,q.2=kD k0/\RelV (kV k0) p.2
theorem EV{F:AF}:∀{L:List Am}{vs:List Value}{ps:List (Int×D)},Vals (L.map kV) vs->Paired (λd (p:Int×D)=>p.2=d/\∃w,F [d]=.ok w/\w.d=.int p.1) (L.map kD) ps->Paired RelK ((ps.map (·.1)).zip vs) ps|[],_,_,r,q=>by cases r;cases q;exact .nil|k::L,_,_,r,q=>by rw[B6]at r q;cases r with|cons h t=>cases q with|cons h2 t2=>exact .cons ⟨rfl,k,h2.1,h⟩ (EV t t2)
theorem FC{G:Hp}:∀{ps:List (Int×Value)}{qs:List (Int×D)}{us:List V},Paired RelK ps qs->Vals us (ps.map Prod.snd)->aB K G us (qs.map (·.2))|[],_,_,r,h=>by cases r;cases h;exact .nil|p::ps,_,_,r,h=>by rw[B6]at h;cases r with|cons r t=>cases h with|cons hv ht=>obtain⟨_,k0,e,rk⟩:=r;rw[B6,e];exact .cons (by rw[aag hv rk];exact wI k0) (FC t ht)
theorem Paired.getL{α β:Type}{R:α->β->Prop}:∀{A:List α}{Δ:List β}{i:Nat}{a:α}{b:β},Paired R A Δ->A[i]?=some a->Δ[i]?=some b->R a b|_,_,_,_,_,.nil,e,_=>by simp at e|_,_,0,_,_,.cons r _,e,e'=>by simp at e e';subst e e';exact r|_,_,i+1,_,_,.cons _ t,e,e'=>Paired.getL (i:=i) t (by simpa using e) (by simpa using e')
section
variable{X:Cx}{EX:Be}{pos:Pos}
end
end L3
namespace L3
open PySem PySem.W PyProof.Rows
variable{K:Frag}{fd:FuncData}{mg:AB}{us:List Value}{base:Heap}{H:Hp}{X:Cx}{pos:Pos}{v:V}
section
variable{N:Nat}{key:Nat->Int}{cmp:Nat->Nat->(Bool->Shared->Prop)->Shared->Prop}{s:Shared}
structure aU(N:Nat)(p:Array Nat):Prop where
 size:p.size=N
 perm:p.toList.Perm (List.range N)
abbrev kp(key:Nat->Int)(p:Array Nat)(i:Nat):Int:=key (p.getD i 0)
def aU.lt{p:Array Nat}(g:aU N p){i:Nat}(h:i<N):p.getD i 0<N:=by
 have h':i<p.size:=by rw[g.size];exact h
 have e:p.getD i 0=p[i]:=by simp[Array.getD,h']
 rw[e];exact J9.mp (g.perm.mem_iff.mp (by simp))
def aU.inj{p:Array Nat}(g:aU N p){i j:Nat}(hi:i<N)(hj:j<N)(e:p.getD i 0=p.getD j 0):i=j:=by
 have h1:i<p.size:=by rw[g.size];exact hi
 have h2:j<p.size:=by rw[g.size];exact hj
 have S:p.getD i 0=p[i]:=by simp[Array.getD,h1]
 have e2:p.getD j 0=p[j]:=by simp[Array.getD,h2]
 rw[S,e2]at e;have nd:p.toList.Nodup:=g.perm.nodup_iff.mpr SO;have pw:=P5.mp nd;rcases V2 i j with h|h|h;exact absurd (by rw[V4,V4];exact e) (pw i j _ _ h);exact h;exact absurd (by rw[V4,V4];exact e.symm) (pw j i _ _ h)
def sv{p q:Array Nat}{i j:Nat}(h:p[i]?=q[j]?):p.getD i 0=q.getD j 0:=by rw[Z8,Z8,h]
def aU.rev{p:Array Nat}(g:aU N p)(i j:Nat):aU N (kas_rev p i j):=⟨(mirror_size _ _ _ _).trans g.size,(ZA6.mp (mirror_perm p i j _)).trans g.perm⟩
def aU.bub{p:Array Nat}(g:aU N p)(i j:Nat):aU N (bubble p i j):=⟨(bubble_size _ _ _).trans g.size,(ZA6.mp (bubble_perm p i j)).trans g.perm⟩
def eQ(key:Nat->Int)(p:Array Nat)(n:Nat):Prop:=∀i j,i<j->j<n->kp key p i<kp key p j
def uH(key:Nat->Int)(p:Array Nat)(n:Nat):Prop:=∀i j,i<j->j<n->kp key p j<kp key p i
def FV(N:Nat)(key:Nat->Int)(cmp:Nat->Nat->(Bool->Shared->Prop)->Shared->Prop)(s:Shared):Prop:=(∀i j,i<N->j<N->key i=key j->i=j)/\∀i j C,i<N->j<N->i≠j->C (decide (key i<key j)) s->cmp i j C s
variable(T:FV N key cmp s)
include T
theorem oF{p:Array Nat}(g:aU N p){i j:Nat}(hi:i<N)(hj:j<N)(hn:i≠j){C:Bool->Shared->Prop}(h1:kp key p i<kp key p j->C true s)(h2:kp key p j<kp key p i->C false s):cmp (p.getD i 0) (p.getD j 0) C s:=by refine T.2 _ _ _ (g.lt hi) (g.lt hj) (λe=>hn (g.inj hi hj e)) ?_;by_cases h:key (p.getD i 0)<key (p.getD j 0);rw[F4 h];exact h1 h;rw[L8 h];have:key (p.getD i 0)≠key (p.getD j 0):=λe=>hn (g.inj hi hj (T.1 _ _ (g.lt hi) (g.lt hj) e));exact h2 (show key _<key _ by lia)
theorem eQ.up{p:Array Nat}{n:Nat}(h:eQ key p n)(h1:1<=n)(hn:kp key p (n-1)<kp key p n):eQ key p (n+1):=λi j kZ hj=>by by_cases e:j=n;subst e;by_cases e2:i=j-1;subst e2;exact hn;exact X2 (h i (j-1) () ()) hn;exact h i j kZ ()
theorem uH.up{p:Array Nat}{n:Nat}(h:uH key p n)(h1:1<=n)(hn:kp key p n<kp key p (n-1)):uH key p (n+1):=λi j kZ hj=>by by_cases e:j=n;subst e;by_cases e2:i=j-1;subst e2;exact hn;exact X2 hn (h i (j-1) () ());exact h i j kZ ()
theorem wF{p:Array Nat}(g:aU N p):∀(f n:Nat) {Q:Nat->Shared->Prop},1<=n->n+f<=N->eQ key p n->(∀m,n<=m->m<=n+f->eQ key p m->(m<n+f->kp key p m<kp key p (m-1))->Q m s)->(kas_asc p f n).kasWp cmp Q s|0,n,Q,_,_,ha,hq=>hq n (A9 _) (A9 _) ha λh=>absurd h (F3 _)|f+1,n,Q,h1,hN,ha,hq=>by show cmp (p.getD n 0) (p.getD (n-1) 0) _ s;refine oF T g () () () (λh=>?_) λh=>?_;simp only[if_true];exact hq n (A9 _) () ha λ_=>h;simp only[F6,L5];exact wF g f (n+1) () () (eQ.up T ha h1 h) λm a1 a2 a3 a4=>hq m () () a3 λhm=>a4 ()
theorem IM{p:Array Nat}(g:aU N p):∀(f n:Nat) {Q:Array Nat×Nat×Nat->Shared->Prop},1<=n->n+f<=N->uH key p n->(∀m,n<=m->m<=n+f->uH key p m->Q (p,m,0) s)->(kas_desc f p n 0).kasWp cmp Q s|0,n,Q,_,_,ha,hq=>hq n (A9 _) (A9 _) ha|f+1,n,Q,h1,hN,ha,hq=>by show cmp (p.getD n 0) (p.getD (n-1) 0) _ s;refine oF T g () () () (λh=>?_) λh=>?_;simp only[if_true,F3,gt_iff_lt,L5];exact IM g f (n+1) () () (uH.up T ha h1 h) λm a1 a2 a3=>hq m () () a3;simp only[F6,L5];show cmp (p.getD (n-1) 0) (p.getD n 0) _ s;refine oF T g () () () (λh'=>?_) λh'=>?_;simp only[if_true];exact hq n (A9 _) () ha;exact absurd (X2 h h') (Int.lt_irrefl _)
theorem Yn{p:Array Nat}(g:aU N p){n:Nat}(hn:n<=N)(h:uH key p n):eQ key (kas_rev p 0 n) n:=λi j kZ hj=>by
 have at':∀k,k<n->kp key (kas_rev p 0 n) k=kp key p (n-1-k):=λk hk=>by have:=getElem?_mirror_all (xs:=p) (i:=0) (j:=n) (by rw[g.size];exact hn) k;rw[if_pos ⟨L1 _,hk⟩,O9]at this;exact K5 key (sv this)
 rw[at' i (),at' j hj];exact h (n-1-j) (n-1-i) () ()
theorem Ym{p:Array Nat}(g:aU N p){n:Nat}{Q:Nat×Array Nat->Shared->Prop}(h1:1<=n)(hn:n+1<=N)(hd:uH key p (n+1))(hq:∀m q,1<=m->m<=N->aU N q->eQ key q m->Q (m,q) s):(kas_descPart n N p).kasWp cmp Q s:=by unfold kas_descPart;rw[W5];refine IM T g (N-(n+1)) (n+1) () () hd λm a1 a2 a3=>?_;simp only[gt_iff_lt,F3,L5];unfold kas_tail3;rw[W5];refine wF T (g.rev 0 m) (N-m) m () () (Yn T g () a3) λm' b1 b2 b3 _=>?_;exact hq m' _ () () (g.rev 0 m) b3
theorem aaf{p:Array Nat}(g:aU N p){Q:Nat×Array Nat->Shared->Prop}(h1:1<=N)(hq:∀m q,1<=m->m<=N->aU N q->eQ key q m->Q (m,q) s):(kas_count N p).kasWp cmp Q s:=by
 unfold kas_count;rw[W5];refine wF T g (N-1) 1 (A9 _) () (λi j kZ hj=>by lia) λn a1 a2 a3 a4=>?_;by_cases e:n=N;subst e;simp only[P6,if_true];exact hq n p a1 (A9 _) g a3;have e':(n ==N)=false:=by simpa using e
 simp only[e',F6,L5];by_cases h2:n>1;rw[if_pos h2];show cmp (p.getD 0 0) (p.getD (n-1) 0) _ s;refine oF T g () () () (λh=>?_) λh=>?_;simp only[if_true];exact hq n p a1 () g a3;exact absurd (X2 h (a3 0 (n-1) () ())) (Int.lt_irrefl _);rw[if_neg h2];have:n=1:=by lia
 subst this;have Rq:=a4 ();exact Ym T g (A9 _) () (λi j kZ hj=>by
  have:i=0/\j=1:=by lia
  obtain⟨rfl,rfl⟩:=this;exact Rq) hq
theorem ya{p:Array Nat}(g:aU N p){k:Nat}(hk:k<N):∀(f l r:Nat) {Q:Nat->Shared->Prop},r-l<=f->l<=r->r<=k->(∀i,i<l->kp key p i<kp key p k)->(∀i,r<=i->i<k->kp key p k<kp key p i)->(∀m,m<=k->(∀i,i<m->kp key p i<kp key p k)->(∀i,m<=i->i<k->kp key p k<kp key p i)->eQ key p k->Q m s)->eQ key p k->(kas_place p k f l r).kasWp cmp Q s|0,l,r,Q,hf,hlr,hrk,h1,h2,hq,ha=>hq l () h1 (λi hi hk=>h2 i () hk) ha|f+1,l,r,Q,hf,hlr,hrk,h1,h2,hq,ha=>by unfold kas_place;by_cases e:l≥r;rw[if_pos e];exact hq l () h1 (λi hi hk=>h2 i () hk) ha;rw[if_neg e];show cmp (p.getD k 0) (p.getD ((l+r)/2) 0) _ s;refine oF T g hk () () (λh=>?_) λh=>?_;simp only[if_true];refine ya g hk f l ((l+r)/2) () () () h1 (λi hi Pk=>?_) hq ha;by_cases e2:i=(l+r)/2;subst e2;exact h;exact X2 h (ha _ i () Pk);simp only[F6,L5];refine ya g hk f ((l+r)/2+1) r () () hrk (λi hi=>?_) h2 hq ha;by_cases e2:i=(l+r)/2;subst e2;exact h;exact X2 (ha i _ () ()) h
theorem Yl{p:Array Nat}(g:aU N p){k l:Nat}(hk:k<N)(hl:l<=k)(h1:∀i,i<l->kp key p i<kp key p k)(h2:∀i,l<=i->i<k->kp key p k<kp key p i)(ha:eQ key p k):eQ key (bubble p k (k-l)) (k+1):=λi j kZ hj=>by
 have b:=getElem?_bubble (xs:=p) (src:=k) (by rw[g.size];exact hk) (k-l) ();have e:k-(k-l)=l:=by lia
 have Ee:kp key (bubble p k (k-l)) l=kp key p k:=K5 key (sv (by rw[b l,e,if_pos rfl]));have PB:∀x,x<l->kp key (bubble p k (k-l)) x=kp key p x:=λx hx=>K5 key (sv (by rw[b x,e,if_neg (),if_neg ()]));have at2:∀x,l<x->x<=k->kp key (bubble p k (k-l)) x=kp key p (x-1):=λx hx hxk=>K5 key (sv (by rw[b x,e,if_neg (),if_pos ⟨hx,hxk⟩]));rcases V2 i l with h|h|h;rw[PB i h];rcases V2 j l with h'|h'|h';rw[PB j h'];exact ha i j kZ ();rw[h',Ee];exact h1 i h;rw[at2 j h' ()];exact ha i (j-1) () ();rw[h,Ee,at2 j () ()];exact h2 (j-1) () ();rw[at2 i h (),at2 j () ()];exact ha (i-1) (j-1) () ()
theorem GY:∀(f:Nat) (p:Array Nat) (k:Nat) {Q:Array Nat->Shared->Prop},aU N p->f+k=N->eQ key p k->(∀q,aU N q->eQ key q N->Q q s)->(kas_bin f p k).kasWp cmp Q s|0,p,k,Q,g,hk,ha,hq=>hq p g (by rw[O9]at hk;rw[<-hk];exact ha)|f+1,p,k,Q,g,hk,ha,hq=>by unfold kas_bin;rw[W5];refine ya T g () k 0 k () () (A9 _) (λi hi=>by lia) (λi h1 h2=>by lia) (λm a1 a2 a3 a4=>?_) ha;exact GY f _ (k+1) (g.bub k (k-m)) () (Yl T g () a1 a2 a3 a4) hq
theorem Yk(h1:1<=N){Q:Array Nat->Shared->Prop}(hq:∀q,aU N q->eQ key q N->Q q s):(kas_sort N).kasWp cmp Q s:=by
 unfold kas_sort;rw[W5];have g0:aU N (List.toArray (List.range N)):=⟨by simp,by simp⟩;refine aaf T g0 h1 λm q a1 a2 a3 a4=>?_;by_cases h:m<N;rw[if_pos h];have e:max m 1=m:=by lia
 rw[e];exact GY T (N-m) q m a3 () a4 hq;rw[if_neg h];have:m=N:=by lia
 subst this;exact hq q a3 a4
end
end L3
namespace L3
open PySem PySem.Spec PySem.W PyProof.Rows L2
variable{K:Frag}{fd:FuncData}{mg:AB}{us:List Value}{base:Heap}{H:Hp}{X:Cx}{pos:Pos}{v:V}
noncomputable abbrev Ct:Str:="numbers_by_bucket.<locals>.<lambda>"
def ka(H:Hp)(P c:Addr):Prop:=∃o us t,H c=some (.cY o (.own P))/\o.data=.fields us/\us[1]?=some (.str "numbers_by_bucket.<locals>.<lambda>" t)
def ka.mono{H O:Hp}{P c:Addr}(s:aA H O)(h:ka H P c):ka O P c:=let⟨o,us,t,e,r⟩:=h;⟨o,us,t,s _ _ e,r⟩
def acH{pos pos':Pos}{c cv:Value}(l:List Value)(h:TriplesOk l)(e:codeAmong pos' (l++[rawInt pos.line,rawInt pos.col,c])=some cv):codeAmong pos' l=some cv\/cv=c:=by fun_induction TriplesOk l with|case1=>simp only[U7,codeAmong,rawInt]at e;split at e;cases e;exact .inr rfl;cases e|case2 a t b u x Ep ih=>simp only[V8,codeAmong]at e⊢;split at e;rename_i hc;rw[if_pos hc];exact .inl e;rename_i hc;rw[if_neg hc];exact ih h e|case3 l h1 h2=>exact h.elim
section
variable{X:Cx}{Z:AE}{Y:Sg}{H:Hp}{s:Shared}{A:Around}{E:AA}
def Inv.pinned{h':Heap}{tk:Nat}{o:Obj}(I:Inv X Z Y H {s with heap:=h',toks:=tk})(hd:∀v,o.data≠.cell v)(qF:o.isFreed=false):Inv X ((h'.objs.size,o)::Z) Y H {s with heap:=h'.push o,toks:=tk}:=by have I2:Inv X Z Y H {s with heap:=h'.push o,toks:=tk}:=I.kept (t':=tk) λb u e=>A5 _ e;refine I2.bX λp hp=>?_;rcases C5.mp hp with rfl|hp;refine⟨D0 _ qF,I.aJ.fresh (A9 _),λz=>?_,I.rh (A9 _),hd⟩;have:=I.lt;rw[<-z]at this;exact absurd this (F3 _);exact I2.pin p (B8 _ hp)
def aae{params:Arguments}{body:Expr}{scope:Scope}{c P:Addr}{jH:List (Str×Addr)}{Q:AA}(I:Inv X Z Y H s)(ht:tabIn X.K "numbers_by_bucket"=some (c,P))(bI:codeHdIn X.K c P=true)(ag:X.env.code=.ref c)(hq:X.env.qual++"<lambda>"=Ct) (ig:defaultsOf params X.env=([],[])) (uu:closureFor scope X.env=pure jH)(h:∀f c' pm eB O s',aA H O->ka O P c'->Inv X ((f,kla_obj "<lambda>" Ct params body scope jH pm c' eB)::Z) Y O s'->Q (.ref f) s'):wpAny (model X.prog X.w) A (eval (.Lambda params body scope pos) X.env) Q E s:=by
 refine kla_eval ig ?_;rw[hq];obtain⟨ps,hH⟩:=I.tab c P ht;obtain⟨vs,hP,tr,reg⟩:=I.aJ P _ hH;have C:CodeHd s.heap c P:=codeHd_of_K I.bU bI;have hg:s.heap.Ns mainGlobals X.mg:=I.ok.mod.glob.keeps λb o e=>(I.bs b o e).1;have hgP:mainGlobals≠P:=λq=>by obtain⟨o,es,ep,e,hd,_⟩:=hg;rw[q,hP]at e;cases e;cases hd
 have J:s.heap.BuiltinsAt X.mg P:=by obtain⟨bm,ob,b1,b2,b3,b4,b5,b6⟩:=I.ok.mod.bm;have DT:=(I.bs _ _ b3).1;refine⟨bm,ob,b1,b2,λq=>?_,λq=>?_,DT,b4,b5,b6⟩;obtain⟨o,es,ep,e,hd,_⟩:=hg;rw[q,e]at DT;cases DT;rw[hd]at b6;cases b6;rw[q,hP]at DT;cases DT;cases b4
 cases hf:codeAmong pos vs.toList with
 |some cv=>obtain⟨c',o,us,t,rfl,r⟩:=reg pos cv hf;refine kla_makeFunctionHit uu I.ok.glob hg ag C hP tr hf J λeB h' tk hk hsz=>?_;exact h h'.objs.size c' _ eB H _ (aA.refl _) ⟨o,us,t,r⟩ (Inv.pinned (I.kept (t':=tk) hk) (λv z=>by cases z) rfl)|none=>
  refine kla_makeFunction uu I.ok.glob hg ag C hP tr hf hgP J λc' eB h' tk hx ur cK gu htb=>?_;obtain⟨c2,oc,us,t,e2,CP,hd,hv⟩:=gu;cases e2;have hn:H c'=none:=I.aJ.fresh ur;have up:aA H (upd H c' (.cY oc (.own P))):=iV hn _;have ik:cF X.prog X.w (upd H c' (.cY oc (.own P))) h':=λb u e=>by by_cases z:b=c';subst z;rw[Bo]at e;cases e;exact⟨CP,oc,CP⟩;rw[Ax z]at e;by_cases z2:b=P;subst z2;rw[hH]at e;cases e;refine⟨_,htb,?_,λpos' cv q=>?_⟩;have:=TriplesOk_snoc pos.line pos.col (.ref c') vs.toList tr;simpa using this;rcases acH (pos:=pos) (c:=.ref c') vs.toList tr (by simpa using q)with q|rfl;obtain⟨c3,o3,us3,t3,e3,e4,r⟩:=reg pos' cv q;exact⟨c3,o3,us3,t3,e3,up _ _ e4,r⟩;exact⟨c',oc,us,t,rfl,Bo,hd,hv⟩;refine(I.aJ b u e).cU (λx v OZ r=>hx x v (λz3=>?_) r) (λx r=>up _ _ r) (λx xs r=>up _ _ r) λx o r=>up _ _ r;rcases OZ with rfl|OZ;exact z2 z3;rw[z3,hH]at OZ;cases OZ
  have nP:∀b,H b=none->b≠P:=λb n z=>by rw[z,hH]at n;cases n
  have I1:Inv X Z Y (upd H c' (.cY oc (.own P))) {s with heap:=h',toks:=tk}:=I.un (t':=tk) ⟨λb o q n _ _=>hx b o (nP b n) q,λb o q n _ _=>⟨o.slots,hx b o (nP b n) q⟩,λb o q n _=>by rw[Ax (D6 (C9 (B2 q) ur))];exact n,λb o q _=>by by_cases z:b=P;subst z;exact⟨_,htb⟩;exact⟨o,hx b o z q⟩,λb xs e=>up _ _ e,λb o u e=>up _ _ e,λb ps e=>⟨#[],by rw[up _ _ e];simp⟩⟩ ik;exact h h'.objs.size c' _ eB _ _ up ⟨oc,us,t,Bo,hd,hv⟩ (Inv.pinned I1 (λv z=>by cases z) rfl)
structure tu(X:Cx)(scope:Scope)(cl:List (Str×Addr)):Prop where
 jH:closureFor scope X.env=pure cl
 cell:∀y∈scope.names,y.2≠.cell
 sub:∀y c,cl.lookup y=some c->X.env.cells.lookup y=some c
 has:∀y,scope.names.lookup y=some .free->∃c,cl.lookup y=some c
 old:∀(i:Nat) (y:Str),X.N[i]?=some y->Ff scope y->(X.env.scope.names.lookup y=some .cell\/X.env.scope.names.lookup y=some .free)/\scope.names.lookup y=some .free
def Yj{scope:Scope}{x:Str}(ok:X.Ok)(J:jM scope.names X.env.scope.names X.N (X.N++[x])=true):tu X scope (Ez X.env.cells scope.names []):=by
 unfold jM at J;rw[C6]at J;obtain⟨h1,h2⟩:=J;have h1:=F9.mp h1;have h2:=F9.mp h2;have fr:∀p∈scope.names,p.2=.free->∃c,X.env.cells.lookup p.1=some c:=λp hp hf=>by have z:=h1 p hp;simp only[hf,C6,U8,bne_iff_ne,N4]at z;exact ok.has p.1 (by rcases z.2 with z|z;exact absurd rfl z;exact z)
 refine⟨NC fr,λp hp hc=>?_,λy c e=>?_,λy e=>S8.mp (yg (L6 e)),λi y e hv=>?_⟩;have z:=h1 p hp;rw[hc]at z;simp at z;rcases yh (L6 e)with z|⟨z1,z2⟩;exact absurd z (by simp);obtain⟨c',e'⟩:=fr (y,.free) z1 rfl;have z2:c=(X.env.cells.lookup y).getD 0:=z2;have e':X.env.cells.lookup y=some c':=e';rw[e']at z2⊢;cases z2;rfl;have hi:i<X.N.length:=(A7.mp e).1;have z:=h2 i (J9.mpr hi);rw[C7 hi,e]at z;dsimp only at z;cases q:scope.names.lookup y with|none=>unfold Ff at hv;rw[q]at hv;simp at hv|some k=>unfold Ff at hv;rw[q]at z hv;cases k with|free=>simp only[C6,U8,N4]at z;exact⟨z.2,rfl⟩|cell=>simp at z|«local»=>simp at z|globalExplicit=>simp at hv|globalImplicit=>simp at hv
def lJ(X:Cx)(A:Around)(scope:Scope)(f c:Addr)(cl:List (Str×Addr))(x:Str)(s:Shared)(H:Hp)(Z:AE):Cx where
 prog:=X.prog
 w:=X.w
 K:=X.K
 mg:=X.mg
 base:=X.base
 A:=A.deeper (envX Ct scope s.heap.objs.size f (.ref c) cl)
 N:=X.N++[x]
 s₀:=s
 H₀:=H
 env:=envX Ct scope s.heap.objs.size f (.ref c) cl
 outer:=X.stack
 stack:=envX Ct scope s.heap.objs.size f (.ref c) cl::X.stack
 ex:=[]
 fn:=λ_=>false
 calm:=true
 pn:=X.pn++Z
 xe:=λ_ _=>False
def aad{f c P:Addr}{cl:List (Str×Addr)}{pm eB:Value}{params:Arguments}{body:Expr}{scope:Scope}{x:Str}{u:Value}{d:D}{G:Hp}{δ:DE}{w:W}{fb:FE}{Q:VK}(I:Inv X Z Y H s)(hp:(f,kla_obj "<lambda>" Ct params body scope cl pm c eB)∈X.pn++Z)(hc:ka H P c)(n:tu X scope cl)(hk:scope.kind=.function) (CW:scope.isCoroutine=false) (ur:scope.isGenerator=false) (bq:scope.names.lookup x=some .local) (aj:bindArgs (kla_fn "<lambda>" Ct params body scope cl pm (.ref c) eB) ⟨[u],[]⟩=pure [(x,u)]) (hA:A.frames=X.A.frames) (hr:aC true 1 A)(g:aA G H) (h0:aT X.K G Y δ) (rv:RelV v u) (hv:aP X.K G v d) (zj:ED (lJ X A scope f c cl x s H Z) Cl body fb) (e:fb (δ++[some d])=.ok w) (q:WP X.K G H w Q):wpAny (model X.prog X.w) A (call (.ref f) [u]) (EP X Z Y Q) (λ_ _=>False) s:=by
 have pf:=I.pin _ hp;obtain⟨o,us,t,eo,ed,et⟩:=hc;have hcr:s.heap.CodeRec (.ref c) Ct:=⟨c,o,us,t,rfl,(I.aJ c _ eo).1,ed,et⟩;have lim:s.heap.NoLimit:=I.ok.mod.nolimit.keeps λb o e=>(I.bs b o e).1;have dp:A.depth<recursionLimit:=by have:=hr.dp;lia
 refine Y4 (U4 (R:=λr s'=>match r with|.ok (.ret z)=>EP X Z Y Q z s'|_=>False) (kla_callFunE dp pf.1 rfl CW ur rfl hcr ?_) λr s' hq=>?_);rw[aj];refine E9 (wpAny_newFunctionEnv n.cell (λy hy=>?_) (λh₁ Pc hsb=>⟨lim.fresh _ hsb,?_⟩) hk);rw[E7.mp hy];exact bq;show codeAny _ _ (.expr body (envX Ct scope s.heap.objs.size f (.ref c) cl)) _ _;have up:∀b o,s.heap.get? b=some o->h₁.get? b=some o:=λb o e=>hsb.extBut b o (D6 (B2 e)) (A5 _ e);have Qx:(lJ X A scope f c cl x s H Z).Ok:=⟨I.ok.mod,hk,rfl,rfl,A9 _,λy z c h1 h2=>I.ok.inj y z c (n.sub y c h1) (n.sub z c h2),λy hy=>by
   have hy:scope.names.lookup y=some .cell\/scope.names.lookup y=some .free:=hy;rcases hy with hy|hy;exact absurd rfl (n.cell _ (L6 hy));exact n.has y hy,λ_ _ z=>absurd z B5,λ_=>hr.hd rfl,Y8 (hA.trans I.ok.frames),.inr ⟨rfl,rfl⟩,λb z=>absurd (show b∈([]:List Addr) from z) (by simp),I.bs,D2 I.ok.iX I.sz,
   λb _ _ z=>absurd (show b∈([]:List Addr) from z) (by simp),λb z=>absurd (show b∈([]:List Addr) from z) (by simp),I.stack,I.dF,I.tab⟩
 have lenσ:Y.length=X.N.length:=I.len;have I4:Inv (lJ X A scope f c cl x s H Z) [] (Y++[some v]) H {s with heap:=h₁,toks:=s.toks+[(x,u)].length}:=by
  refine⟨Qx,rfl,I.bare,Un.kept up,⟨_,Pc,λi y v' S e2 e3=>?_⟩,λy c e=>?_,I.aJ.fresh (A9 _),λy c e=>I.bD y c (n.sub y c e),λp hp=>?_,I.aJ.kept up,?_⟩;have S:(X.N++[x])[i]?=some y:=S;by_cases hi:i<X.N.length;rw[C7 hi]at S;rw[C7 (by rw[lenσ];exact hi)]at e2;obtain⟨n2,n4⟩:=n.old i y S e3;obtain⟨c1,n3⟩:=n.has y n4;obtain⟨mm,qD,hl⟩:=I.loc;obtain⟨u',r,l⟩:=hl i y v' S e2 (.inr n2);refine⟨u',r,.inr ⟨.inr n4,c1,n3,?_⟩⟩;have QE:=n.sub y c1 n3;rcases l with⟨k1,k2⟩|⟨k1,c',k2,k3⟩;exfalso;have qy:X.env.scope.names.lookup y=some .local:=k1;rcases n2 with n2|n2;rw[n2]at qy;cases qy;rw[n2]at qy;cases qy;rw[QE]at k2;cases k2;exact k3.keeps up;have QY:i=X.N.length:=by have:=(A7.mp S).1;rw[A6,F8]at this;lia
  subst QY;rw[D7 (A9 _),Z7]at S;rw[<-lenσ,D7 (A9 _),Z7]at e2;cases S;cases e2;exact⟨u,rv,.inl ⟨bq,by simp⟩⟩;obtain⟨v,hv⟩:=I.cell y c (n.sub y c e);exact⟨v,hv.keeps up⟩;have CO:p∈X.pn++Z:=by have qC:p∈(X.pn++Z)++[]:=hp;rwa[G6]at qC
  obtain⟨z1,z2,z3,z4,z5⟩:=I.pin p CO;refine⟨up _ _ z1,z2,D6 (B2 z1),λz=>?_,z5⟩;rcases C5.mp (I.cN p.1 z)with z|z;exact z3 z;exact z4 z;show(Y++[some v]).length=(X.N++[x]).length;rw[A6,A6,lenσ];rfl
 have hS:aT X.K G (Y++[some v]) (δ++[some d]):=by
  refine⟨by rw[A6,A6,h0.len];rfl,λi d' e=>?_⟩;by_cases hh:i<δ.length;rw[C7 hh]at e;obtain⟨v,S,r⟩:=h0.get i d' e;exact⟨v,by rw[C7 (by rw[h0.len];exact hh)];exact S,r⟩;have QY:i=δ.length:=by have:=(A7.mp e).1;rw[A6,F8]at this;lia
  subst QY;rw[D7 (A9 _),Z7]at e;cases e;exact⟨v,by rw[<-h0.len,D7 (A9 _),Z7];rfl,hv⟩
 exact kla_codeExpr (F5 (zj [] _ (Y++[some v]) H Q I4 ⟨G,δ++[some d],g,hS,by rw[e];exact q⟩) (λz s' ⟨v',O,hb,jm,q'⟩=>I.after ⟨v',O,hb.os,hb.bare,hb.base,hb.aJ,jm,q'⟩) λ_ _ z=>False.elim z)
 ·cases r with|error e=>exact hq|ok fl=>cases fl with|ret z=>exact hq|next=>exact hq|brk=>exact hq|cont=>exact hq
end
end L3
namespace L3
open PySem PySem.W PySem.Spec PyProof.Rows
variable{K:Frag}{fd:FuncData}{mg:AB}{us:List Value}{base:Heap}{H:Hp}{X:Cx}{pos:Pos}{v:V}
def lS(h:Heap)(u:Value)(p:Int×Int):Prop:=∃a o xs n t t',u=.ref a/\h.get? a=some o/\o.cls=.type "tuple" /\o.data=.seq xs n/\xs.toList=[.int p.1 t,.int p.2 t']
def Ej(p:Int×Int):Int:=p.1*4611686018427387904+p.2
def px(p:Int×Int):Prop:=0<=p.2/\p.2<4611686018427387904
theorem Mq{h:Heap}:∀{L:List Value}{ps:List (Int×Int)},Paired (lS h) L ps->∃fs,KatTups h L fs/\IntsAre fs (ps.map (·.1))|_,_,.nil=>⟨[],.nil,.nil⟩|_,_,.cons r t=>by obtain⟨fs,q,i⟩:=Mq t;obtain⟨a,o,xs,n,t1,t2,rfl,ho,hc,hd,hx⟩:=r;exact⟨_,.cons ho hc hd (f:=.int _ t1) (by rw[<-V1,hx];rfl) q,.cons _ _ i⟩
theorem xZ{h:Heap}:∀{L:List Value}{ps:List (Int×Int)}{i:Nat},Paired (lS h) L ps->i<L.length->lS h (L.getD i Value.none) (ps.getD i (0,0))|_,_,_,.nil,hi=>absurd hi (Nat.not_lt_zero _)|_,_,0,.cons r t,hi=>by simpa using r|_,_,i+1,.cons r t,hi=>by simpa using xZ (i:=i) t (by simpa using hi)
section
variable{prog:Program}{w:World}{A:Around}{E:AA}{s:Shared}{vs L:List Value}{ps:List (Int×Int)}
def adx(t:Paired (lS s.heap) L ps)(J:∀p∈ps,px p)(nd:(ps.map Ej).Nodup):FV L.length (λi=>(ps.map Ej).getD i 0) (kas_ask prog w A (tuples' true) L) s:=by
 have hl:ps.length=L.length:=(V0 t).symm;have gk:∀i,i<L.length->(ps.map Ej).getD i 0=Ej (ps.getD i (0,0)):=λi hi=>by
  have:i<ps.length:=by lia
  simp[this]
 have inj:∀i j,i<L.length->j<L.length->(ps.map Ej).getD i 0=(ps.map Ej).getD j 0->i=j:=λi j hi hj e=>by
  have h1:i<(ps.map Ej).length:=by rw[A4];lia
  have h2:j<(ps.map Ej).length:=by rw[A4];lia
  have S:(ps.map Ej).getD i 0=(ps.map Ej)[i]:=by rw[B4,B1 h1];rfl
  have e2:(ps.map Ej).getD j 0=(ps.map Ej)[j]:=by rw[B4,B1 h2];rfl
  rw[S,e2]at e;have pw:=P5.mp nd;rcases V2 i j with h|h|h;exact absurd e (pw i j h1 h2 h);exact h;exact absurd e.symm (pw j i h2 h1 h)
 refine⟨inj,λi j C hi hj hn hC=>?_⟩;have mH:Ej (ps.getD i (0,0))≠Ej (ps.getD j (0,0)):=λz=>hn (inj i j hi hj (by rw[gk i hi,gk j hj];exact z));have mem:∀k,k<L.length->px (ps.getD k (0,0)):=λk hk=>by
  have h1:k<ps.length:=by lia
  have:ps.getD k (0,0)=ps[k]:=by rw[B4,B1 h1];rfl
  rw[this];exact J _ (V9 h1)
 obtain⟨b1,b2⟩:=mem i hi;obtain⟨d1,d2⟩:=mem j hj;obtain⟨a,o,xs,n,tk,tk2,S,e2,_,e3,e4⟩:=xZ t hi;obtain⟨a',o',xs',n',tk',jf,f1,f2,_,f3,f4⟩:=xZ t hj;have ee:decide (Ej (ps.getD i (0,0))<Ej (ps.getD j (0,0)))=decide ((ps.map Ej).getD i 0<(ps.map Ej).getD j 0):=by rw[gk i hi,gk j hj]
 have hC:C (decide (Ej (ps.getD i (0,0))<Ej (ps.getD j (0,0)))) s:=by rw[ee];exact hC
 unfold Ej at hC mH;unfold kas_ask;rw[S,f1];refine kat_lt e2 e3 f2 f3 ?_;rw[e4,f4];generalize ps.getD i (0,0)=p at *;generalize ps.getD j (0,0)=q at *;show wpAny _ _ (eqBool _ _) _ _ _;refine SR ?_;by_cases Pb:p.1=q.1;have ne:(p.1 ==q.1)=true:=by rw[N4];exact Pb
 have ne2:(p.2 ==q.2)=false:=by rw[P3];intro z;rw[Pb,z]at mH;exact mH rfl
 rw[ne];simp only[if_true];show wpAny _ _ (eqBool _ _) _ _ _;refine SR ?_;rw[ne2];simp only[F6,L5];refine kat_one _ _ (wpAny_lt_int ?_);have ed:decide (p.1*4611686018427387904+p.2<q.1*4611686018427387904+q.2)=decide (p.2<q.2):=by rw[Pb];exact decide_eq_decide.mpr ()
 rw[ed]at hC;first
  |exact hC
  |exact⟨_,rfl,hC⟩
 have ne:(p.1 ==q.1)=false:=by rw[P3];exact Pb
 rw[ne];simp only[F6,L5];have ed:decide (p.1*4611686018427387904+p.2<q.1*4611686018427387904+q.2)=decide (p.1<q.1):=decide_eq_decide.mpr ();rw[ed]at hC;exact oneLt_int hC
def IL{a kS:Addr}{e S:Nat}{st:SortSt}{out:List Value}{P:PySem.Fin->Shared->Prop}(hk:s.heap.get? kS=some (seqObj "list" L.toArray e))(ha:s.heap.get? a=some (seqObj "list" #[] S))(uq:kS≠a)(ip:(arrOf st).map (·.2)=List.toArray out)(hz:out.length<64)(hkz:L.length<64)(hf:failedOf st=none)(h:P (.done (.ret .none)) {s with heap:=(s.heap.update kS (Obj.mapSeq λ_=>(#[]:Array Value))).update a (Obj.mapSeq λ_=>List.toArray out)}):wpAny (model prog w) A (ksk_tail a false S (.ref kS) st) P E s:=by
 have s1:=T4 s.heap kS (Obj.mapSeq λ_=>(#[]:Array Value));have na:(s.heap.update kS (Obj.mapSeq λ_=>(#[]:Array Value))).get? a=some (seqObj "list" #[] S):=(s1.2 a uq.symm).trans ha;unfold ksk_tail;try dsimp only
 rw[ip];refine A8 (PY hk rfl ?_ (by rw[C1,D9];lia) (L1 _));refine A8 (wpAny_letGo ?_);refine A8 (seqEpoch_at na rfl ?_);refine A8 (PY na rfl ?_ (L1 _) (by simp only[F6,L5];rw[C1,D9];lia));rw[hf];simp only[bne_self_eq_false,F6,L5];exact E9 h
def abv{a kS:Addr}{e S:Nat}{P:PySem.Fin->Shared->Prop}(hk:s.heap.get? kS=some (seqObj "list" L.toArray e))(ha:s.heap.get? a=some (seqObj "list" #[] S))(uq:kS≠a)(hl:L.length=vs.length)(qK:vs.length<64)(t:Paired (lS s.heap) L ps)(J:∀p∈ps,px p)(nd:(ps.map Ej).Nodup)(h:∀p:Array Nat,aU vs.length p->eQ (λi=>(ps.map Ej).getD i 0) p vs.length->P (.done (.ret .none)) {s with heap:=(s.heap.update kS (Obj.mapSeq λ_=>(#[]:Array Value))).update a (Obj.mapSeq λ_=>List.toArray (p.toList.map λi=>vs.getD i Value.none))}):wpAny (model prog w) A (ksk_end a false vs.toArray S (.ref kS) L.toArray) P E s:=by
 have hsz:vs.toArray.size=vs.length:=by simp
 unfold ksk_end;simp only[F6,L5];try dsimp only
 by_cases h2:vs.toArray.size<2;rw[if_pos h2,if_pos h2];refine A8 (E9 ?_);rw[StateT.run_pure];refine A8 (E9 ?_);try dsimp only
 have g0:aU vs.length (List.toArray (List.range vs.length)):=⟨by simp,by simp⟩;have q:=h _ g0 (λi j kZ hj=>by rw[hsz]at h2;lia);refine IL hk ha uq (kat_snds hl ?_) (by rw[A4];simpa using qK) () rfl q;exact(kas_range (L.toArray.zip vs.toArray)).symm.trans (by rw[show(L.toArray.zip vs.toArray).size=vs.length by simp[hl]]);rw[if_neg h2,if_neg h2];obtain⟨fs,tt,ia⟩:=Mq t;have bM:ps.length=L.length:=(V0 t).symm;have hf:0<fs.length:=by have:fs.length=(ps.map (·.1)).length:=ia.length;rw[A4]at this;rw[hsz]at h2;lia
 refine A8 (kat_kind (T:=.type "int") tt hf (λv hv=>?_) (by rfl) ?_);have:∀{fs:List Value}{kz:List Int},IntsAre fs kz->v∈fs->∃n t,v=.int n t:=λ{fs kz} ia=>by induction ia with|nil=>intro h;cases h|cons n t r ih=>intro h;rcases C5.mp h with rfl|h;exact⟨n,t,rfl⟩;exact ih h
 obtain⟨n,t,rfl⟩:=this ia hv;exact .now;refine A8 (F5 (kat_run (Q:=λbJ s'=>s'=s/\∃p:Array Nat,arrOf bJ=p.map (kas_item (L.toArray.zip vs.toArray))/\failedOf bJ=none/\aU vs.length p/\eQ (λi=>(ps.map Ej).getD i 0) p vs.length) (G:=λp s'=>s'=s/\aU vs.length p/\eQ (λi=>(ps.map Ej).getD i 0) p vs.length) hl () qK (λp' bJ s' a1 a2 a3 a4=>⟨a4.1,p',a2,a3,a4.2⟩) (Yk (by rw[<-hl];exact adx t J nd) () λq g as=>⟨rfl,g,as⟩)) ?_ λ_ _ e=>e);rintro ⟨⟨⟩,bJ⟩ s' ⟨rfl,p,har,hf',g,as⟩;try dsimp only
 exact IL hk ha uq (kat_snds hl har) (by rw[A4,M4,g.size];exact qK) () hf' (h p g as)
def abu{f:Value}{a kS:Addr}{S:Nat}{P:PySem.Fin->Shared->Prop}(hb:Nat->Array Value->Shared->Prop)(j0:hb 0 #[] s)(qK:vs.length<64)(turn:∀(i:Nat) (v:Value) (kA:Array Value) (s':Shared),vs[i]?=some v->hb i kA s'->wpAny (model prog w) A (call f [v]) (λu qo=>∃e,qo.heap.get? kS=some (seqObj "list" kA e)/\kA.size=i/\hb (i+1) (kA.push u) {qo with heap:=qo.heap.update kS (Obj.mapSeq (·.push u))}) (λ_ _=>False) s')(at_:∀i kA s',hb i kA s'->∃e,s'.heap.get? kS=some (seqObj "list" kA e))(h:∀kA s',hb vs.length kA s'->wpAny (model prog w) A (ksk_end a false vs.toArray S (.ref kS) kA) P E s'):wpAny (model prog w) A (ksk_rest a f false vs.toArray S (.ref kS)) P E s:=by
 unfold ksk_rest;refine A8 (wpAny_rule ?_);first
  |rw[List.forIn_toArray]
  |(rw[<-Array.forIn_toList];simp only[List.toList_toArray])
  |rw[<-Array.forIn_toList]
 refine A8 (ksk_fold (λi s'=>∃kA,hb i kA s') vs 0 s ⟨#[],j0⟩ ?step ?done);case step=>
  rintro j x s' hx ⟨kA,hJ⟩;simp only[O9]at hJ⊢;have hj:j<vs.length:=(A7.mp hx).1;refine A8 (wpAny_attempt (F5 (turn j x kA s' hx hJ) (λv qo he=>?_) λ_ _ hF=>hF.elim));obtain⟨e2,nh,hz,hJ2⟩:=he;try dsimp only
  refine A8 (PY nh rfl ?_ (by rw[D9];lia) (D2 (V7 (Array.size_push ..)) (by rw[D9];lia)));exact E9 ⟨rfl,kA.push v,hJ2⟩
 case done=>
  rintro s' ⟨kA,hJ⟩;rw[O9]at hJ;obtain⟨e,nh⟩:=at_ _ _ _ hJ;try dsimp only
  refine A8 (listItems_at nh rfl ?_);exact h kA s' hJ
end
end L3
namespace L3
open PySem PySem.Spec PySem.W PyProof.Rows L2
variable{K:Frag}{fd:FuncData}{mg:AB}{us:List Value}{base:Heap}{H:Hp}{X:Cx}{pos:Pos}{v:V}
def Fj(fb:FE)(δ:DE):List D->R W
 |[d]=>(fb (δ++[some d])).bind λw=>match w.d with|.tup [.int a,.int b]=>if 0<=b/\b<4611686018427387904 then .ok (.sh (.int (a*4611686018427387904+b))) else .no|_=>.no
 |_=>.no
def lR(fb:FE)(f:FE):FE:=λ δ=>(f δ).bind λw=>match w.d with|.aF aL=>lK (Fj fb δ) (aL.map λp=>kD p.1)|_=>.no
def aac{fb:FE}{δ:DE}{d:D}{w:W}{k:Int}(e:Fj fb δ [d]=.ok w)(ew:w.d=.int k):∃w' a b,fb (δ++[some d])=.ok w'/\w'.d=.tup [.int a,.int b]/\px (a,b)/\k=Ej (a,b):=by unfold Fj at e;dsimp only at e;cases q:fb (δ++[some d])with|ok w'=>rw[q]at e;simp only[R.aD]at e;split at e;rename_i a b e';split at e;rename_i h;cases e;cases ew;exact⟨w',a,b,rfl,e',h,rfl⟩;cases e;cases e|ex x=>rw[q]at e;cases e|no=>rw[q]at e;cases e
def TupAt(K:Frag)(H:Hp)(u:Value)(p:Int×Int):Prop:=∃t,u=.ref t/\cQ K H t [.int p.1,.int p.2]
theorem TupAt.mono{K:Frag}{H O:Hp}(s:aA H O):∀{us:List Value}{ps:List (Int×Int)},Paired (TupAt K H) us ps->Paired (TupAt K O) us ps|_,_,.nil=>.nil|_,_,.cons ⟨t,e,h⟩ r=>.cons ⟨t,e,aA.tupS s h⟩ (TupAt.mono s r)
theorem Paired.snoc{α β:Type}{R:α->β->Prop}{a:α}{b:β}:∀{A:List α}{Δ:List β},Paired R A Δ->R a b->Paired R (A++[a]) (Δ++[b])|_,_,.nil,r=>.cons r .nil|_,_,.cons q t,r=>.cons q (Paired.snoc t r)
section
variable{X:Cx}{Z:AE}{Y:Sg}{H:Hp}{s:Shared}
theorem TupAt.pair(I:Inv X Z Y H s):∀{us:List Value}{ps:List (Int×Int)},Paired (TupAt X.K H) us ps->Paired (lS s.heap) us ps|_,_,.nil=>.nil|_,_,.cons ⟨t,e,h⟩ r=>by refine .cons ?_ (TupAt.pair I r);obtain⟨its,v,⟨o,g,c,n,d⟩,_⟩:=I.tuple h;cases v with|cons r1 v=>cases v with|cons r2 v=>cases v;obtain⟨t1,rfl⟩:=r1;obtain⟨t2,rfl⟩:=r2;exact⟨t,o,_,n,t1,t2,e,g,c,d,rfl⟩
def Inv.NV{a:Addr}{h':Heap}{its:List Value}{us:List V}{c tk:Nat}(I:Inv X Z Y H s)(sb:Heap.SameBut a s.heap h')(ho:h'.get? a=some (seqObj "list" its.toArray c))(hu:Vals us its)(hz:us.length<=sizeLine)(CZ:H a=none)(Pm:X.s₀.heap.objs.size<=a)(zZ:a≠X.env.locals)(Pn:∀x c,X.env.cells.lookup x=some c->c≠a) (mI:∀p∈X.pn++Z,p.1≠a):Inv X Z Y (upd H a (.lst us)) {s with heap:=h',toks:=tk}:=by
 have up:∀b u,H b=some u->upd H a (.lst us) b=some u:=λb u e=>by rw[Ax (Eu e CZ)];exact e
 have k:∀b o,b≠a->s.heap.get? b=some o->h'.get? b=some o:=λb o J e=>(sb.2 b J).trans e;have pQ:∀{b:Addr},b∉ [a]->b≠a:=λh z=>h (by simp[z]);refine I.step (g':=s.gens) (d':=s.drawn) (ch:=[a]) (λb J=>?_) (λb o _ _ hc e _=>k b o (pQ hc) e) (λb o _ _ hc e _=>⟨o.slots,k b o (pQ hc) e⟩) (λb o hc _ n=>by rw[Ax (pQ hc)];exact n) (λb o hc e=>⟨o,k b o (pQ hc) e⟩) (λb xs e=>up _ _ e) (λb o u e=>up _ _ e) (λb ps e=>⟨#[],by rw[up _ _ e];simp⟩) (λm hm=>?_) (λb u e=>?_) I.bare;rw[E7.mp J];exact⟨.inr Pm,zZ,Pn,mI⟩;obtain⟨o,es,ep,ho,r⟩:=hm;exact⟨o,es,ep,k _ o (Ne.symm zZ) ho,r⟩;by_cases z:b=a;subst z;rw[Bo]at e;cases e;exact⟨hz,its,c,hu,ho⟩;rw[Ax z]at e;refine(I.aJ b u e).cU (λx v hx q=>k x v (λz3=>?_) q) (λx q=>up _ _ q) (λx xs q=>up _ _ q) λx o q=>up _ _ q;rcases hx with rfl|hx;exact z z3;rw[z3,CZ]at hx;cases hx
def acG{A:Around}{E:AA}{P:PySem.Fin->Shared->Prop}{a:Addr}{n:Nat}{vs:List Value}{xs:List V}{M:List D}{kz:List Int}{fb:FE}{δ:DE}{G:Hp}{f c Pt:Addr}{cl:List (Str×Addr)}{pm eB:Value}{params:Arguments}{body:Expr}{scope:Scope}{x:Str}(I:Inv X Z Y H s) (ho:s.heap.get? a=some (seqObj "list" vs.toArray n)) (CZ:H a=none) (Pm:X.s₀.heap.objs.size<=a) (zZ:a≠X.env.locals)(Pn:∀x c,X.env.cells.lookup x=some c->c≠a) (mI:∀p∈X.pn++Z,p.1≠a) (haf:a∉X.fs) (hv:Vals xs vs) (hx:∀(i:Nat) v d,xs[i]?=some v->M[i]?=some d->∀G,aP X.K G v d) (hdl:M.length=vs.length)(hkz:∀(i:Nat) d k,M[i]?=some d->kz[i]?=some k->∃w,Fj fb δ [d]=.ok w/\w.d=.int k) (zk:kz.length=vs.length) (qK:vs.length<64) (nd:kz.Nodup)(pf:(f,kla_obj "<lambda>" Ct params body scope cl pm c eB)∈X.pn++Z) (hc:ka H Pt c) (nm:tu X scope cl) (hk:scope.kind=.function) (CW:scope.isCoroutine=false) (ur:scope.isGenerator=false) (bq:scope.names.lookup x=some .local)(aj:∀u,bindArgs (kla_fn "<lambda>" Ct params body scope cl pm (.ref c) eB) ⟨[u],[]⟩=pure [(x,u)]) (hA:A.frames=X.A.frames) (hr:aC true 1 A) (g:aA G H) (h0:aT X.K G Y δ) (zj:∀A s H Z,aC true 1 A->ED (lJ X A scope f c cl x s H Z) Cl body fb)(h:∀(s':Shared) (O:Hp) (ps:List (Int×Value)) (us:List V),aA H O->O a=none->ps.Perm (kz.zip vs)->ps.Pairwise (λp q=>p.1<=q.1)->Vals us (ps.map Prod.snd)->us.length=vs.length->Inv X Z Y (upd O a (.lst us)) s'->P (.done (.ret .none)) s'):wpAny (model X.prog X.w) A (PyProof.Rows.ksk_tree a (.ref f) false) P E s:=by
 have ha:a<s.heap.objs.size:=B2 ho;have s1:=T4 s.heap a (Obj.mapSeq λ_=>(#[]:Array Value));obtain⟨S,ho1⟩:∃S,(s.heap.update a (Obj.mapSeq λ_=>(#[]:Array Value))).get? a=some (seqObj "list" #[] S):=⟨_,get?_update_seq ho λ_=> #[]⟩;have vB:((s.heap.update a (Obj.mapSeq λ_=>(#[]:Array Value))).push (seqObj "tuple" vs.toArray 0)).objs.size=s.heap.objs.size+1:=by rw[size_push',Heap.size_update]
 generalize hq:((s.heap.update a (Obj.mapSeq λ_=>(#[]:Array Value))).push (seqObj "tuple" vs.toArray 0)).objs.size=kS at vB;have uq:kS≠a:=by rw[vB];exact Z5 (X1 ha)
 have z1:X.s₀.heap.objs.size<=kS:=by rw[vB];exact Nat.le_succ_of_le I.sz
 have npk:∀p∈X.pn++Z,p.1≠kS:=λp hp z=>by have:=B2 (I.pin p hp).1;rw[z,vB]at this;exact absurd this (EK.mpr (P4 _))
 have I1:Inv X Z Y H {s with heap:=s.heap.update a (Obj.mapSeq λ_=>(#[]:Array Value))}:=I.turned (t':=s.toks) (λb o J e=>(s1.2 b J).trans e) CZ zZ (.inr Pm) Pn mI;have I2:Inv X Z Y H {s with heap:=((s.heap.update a (Obj.mapSeq λ_=>(#[]:Array Value))).push (seqObj "tuple" vs.toArray 0)).push (seqObj "list" #[] 0)}:=I1.kept (t':=s.toks) λb o e=>A5 _ (A5 _ e);have hk0:H kS=none:=I.aJ.fresh (by rw[vB];exact P4 _);have QX:kS≠X.env.locals:=λz=>by have:=I.lt;rw[<-z,vB]at this;exact absurd this (EK.mpr (P4 _))
 have hkf:kS∉X.fs:=I.rh (by rw[vB];exact P4 _);have nc:∀(l:Array Value) (e:Nat) v,(seqObj "list" l e).data≠.cell v:=λl e v z=>by cases z
 let hb:Nat->Array Value->Shared->Prop:=λi kA s'=>∃O e qs,aA H O/\Inv X ((kS,seqObj "list" kA e)::(a,seqObj "list" #[] S)::Z) Y O s'/\kA.size=i/\Paired (TupAt X.K O) kA.toList qs/\qs.map Ej=kz.take i/\∀p∈qs,px p;have ba:∀{kA:Array Value}{e:Nat}{O:Hp}{s':Shared},Inv X Z Y O s'->s'.heap.get? kS=some (seqObj "list" kA e)->s'.heap.get? a=some (seqObj "list" #[] S)->O kS=none->O a=none->Inv X ((kS,seqObj "list" kA e)::(a,seqObj "list" #[] S)::Z) Y O s':=λ{kA e O s'} J0 g1 g2 n1 n2=>by refine J0.bX λp hp=>?_;rcases C5.mp hp with rfl|hp;exact⟨g1,n1,QX,hkf,nc _ _⟩;rcases C5.mp hp with rfl|hp;exact⟨g2,n2,zZ,haf,nc _ _⟩;exact J0.pin p (B8 _ hp)
 have pf':∀kA e,(f,kla_obj "<lambda>" Ct params body scope cl pm c eB)∈X.pn++((kS,seqObj "list" kA e)::(a,seqObj "list" #[] S)::Z):=λkA e=>by rcases F1.mp pf with z|z;exact N0 _ z;exact B8 _ (.tail _ (.tail _ z))
 have cl':∀{kA:Array Value}{e:Nat}{O:Hp}{s':Shared},Inv X ((kS,seqObj "list" kA e)::(a,seqObj "list" #[] S)::Z) Y O s'->∀x c,X.env.cells.lookup x=some c->c≠kS:=λ{kA e O s'} J2 x c hc z=>by obtain⟨v,o,ho,hd⟩:=J2.cell x c hc;have pk:=J2.pin (kS,seqObj "list" kA e) (B8 _ (.head _));rw[z,pk.1]at ho;cases ho;exact pk.2.2.2.2 v hd
 unfold PyProof.Rows.ksk_tree;refine A8 (listItems_at ho rfl ?_);refine A8 (PY ho rfl ?_ (by rw[C1,D9];lia) (L1 _));refine A8 (seqEpoch_at ho1 rfl ?_);refine A8 (wpAny_newTuple ?_ (by show vs.length<=_;rw[D9];lia));refine A8 (wpAny_newList ?_ (L1 _));refine S6 ?_;show wpAny _ A (PyProof.Rows.ksk_rest a (.ref f) false vs.toArray S (.ref ((s.heap.update a (Obj.mapSeq λ_=>(#[]:Array Value))).push (seqObj "tuple" vs.toArray 0)).objs.size)) P E _;rw[hq];refine abu hb ?_ qK (λi v kA s' ev hJ=>?_) (λi kA s' hJ=>?_) λkA s' hJ=>?_;refine⟨H,0,[],aA.refl _,ba I2 ?_ (A5 _ (A5 _ ho1)) hk0 CZ,rfl,.nil,rfl,λp hp=>nomatch hp⟩;rw[<-hq];exact D0 _ rfl;obtain⟨H1,e,qs,sm,J1,OX,tp,tk,tb⟩:=hJ;have hi:i<vs.length:=(A7.mp ev).1;have hix:i<xs.length:=by rw[hv.length];exact hi
 obtain⟨u,eu,ru⟩:=hv.get (B1 hix);rw[ev]at eu;cases eu;have hid:i<M.length:=by rw[hdl];exact hi
 have Pk:i<kz.length:=by rw[zk];exact hi
 obtain⟨w,ew,en⟩:=hkz i _ _ (B1 hid) (B1 Pk);obtain⟨w',x1,x2,ew',en',h62,ek⟩:=aac ew en;refine F5 (aad (Q:=λv' H2=>aA H1 H2/\∃t,v'=.ref t/\cQ X.K H2 t [.int x1,.int x2]) J1 (pf' kA e) (hc.mono sm) nm hk CW ur bq (aj _) hA hr (g.trans sm) h0 ru (hx i _ _ (B1 hix) (B1 hid) G) (zj _ _ _ _ hr) ew' (WP.intro λv' G' O st r=>?_)) (λz s2 hz=>?_) λ_ _ z=>z;rw[en']at r;cases r with|tup QP rl=>cases rl with|cons r1 rl=>cases rl with|cons r2 rl=>cases rl;cases r1;cases r2;exact⟨st.hh,_,rfl,aA.tupS st.gh QP⟩
 obtain⟨v',H2,J2,rz,tW,t,rfl,QP⟩:=hz;obtain rfl:z=Value.ref t:=rz;have pk:=J2.pin (kS,seqObj "list" kA e) (B8 _ (.head _));have pa:=J2.pin (a,seqObj "list" #[] S) (B8 _ (.tail _ (.head _)));refine⟨e,pk.1,OX,?_⟩;have J3:Inv X Z Y H2 s2:=J2.bX λp hp=>J2.pin p (B8 _ (.tail _ (.tail _ hp)));have sb:=T4 s2.heap kS (Obj.mapSeq (·.push (.ref t)));have J4:Inv X Z Y H2 {s2 with heap:=s2.heap.update kS (Obj.mapSeq (·.push (.ref t)))}:=J3.turned (t':=s2.toks) (λb o J e=>(sb.2 b J).trans e) pk.2.1 QX (.inr z1) (cl' J2) npk;refine⟨H2,_,qs++[(x1,x2)],sm.trans tW,ba J4 (get?_update_seq pk.1 (·.push (.ref t))) ((sb.2 a uq.symm).trans pa.1) pk.2.1 pa.2.1,by rw[Array.size_push,OX],?_,?_,λp hp=>?_⟩;rw[Array.toList_push];exact Paired.snoc (TupAt.mono tW tp) ⟨t,rfl,QP⟩;rw[B9,tk,Q3,B1 Pk,ek];rfl;rcases F1.mp hp with hp|hp;exact tb p hp;rw[E7.mp hp];exact h62;obtain⟨H1,e,qs,sm,J1,_⟩:=hJ;exact⟨e,(J1.pin (kS,seqObj "list" kA e) (B8 _ (.head _))).1⟩;obtain⟨H1,e,qs,sm,J1,OX,tp,tk,tb⟩:=hJ;have pk:=J1.pin (kS,seqObj "list" kA e) (B8 _ (.head _));have pa:=J1.pin (a,seqObj "list" #[] S) (B8 _ (.tail _ (.head _)));have tk:qs.map Ej=kz:=by rw[tk];exact ZE0 ()
 have J3:Inv X Z Y H1 s':=J1.bX λp hp=>J1.pin p (B8 _ (.tail _ (.tail _ hp)));rw[show kA=kA.toList.toArray by simp];refine abv (L:=kA.toList) (ps:=qs) (e:=e) (by simpa using pk.1) pa.1 uq (by rw[M4,OX]) qK (TupAt.pair J1 tp) tb (by rw[tk];exact nd) λp gp as=>?_;rw[tk]at as;have sb:=T4 s'.heap kS (Obj.mapSeq λ_=>(#[]:Array Value));have J4:Inv X Z Y H1 {s' with heap:=s'.heap.update kS (Obj.mapSeq λ_=>(#[]:Array Value))}:=J3.turned (t':=s'.toks) (λb o J e=>(sb.2 b J).trans e) pk.2.1 QX (.inr z1) (cl' J1) npk;have na:(s'.heap.update kS (Obj.mapSeq λ_=>(#[]:Array Value))).get? a=some (seqObj "list" #[] S):=(sb.2 a uq.symm).trans pa.1;have lt:∀i∈p.toList,i<vs.length:=λi hi=>J9.mp (gp.perm.mem_iff.mp hi);have xl:xs.length=vs.length:=hv.length;have Pa:Vals (p.toList.map λi=>xs.getD i V.aK) (p.toList.map λi=>vs.getD i Value.none):=by
  have all:∀l:List Nat,(∀i∈l,i<vs.length)->Vals (l.map λi=>xs.getD i V.aK) (l.map λi=>vs.getD i Value.none):=by intro l;induction l with|nil=>intro _;exact .nil|cons i l ih=>intro hl;have hi:=hl i (.head _);refine .cons ?_ (ih λj hj=>hl j (.tail _ hj));obtain⟨u,eu,ru⟩:=hv.get (B1 (show i<xs.length by lia));show RelV (xs.getD i V.aK) (vs.getD i Value.none);rw[B4,B4,B1 (show i<xs.length by lia),eu];exact ru
  exact all _ lt
 have bM:p.toList.length=vs.length:=by rw[M4,gp.size]
 refine h _ H1 (p.toList.map λi=>(kz.getD i 0,vs.getD i Value.none)) (p.toList.map λi=>xs.getD i V.aK) sm pa.2.1 ?_ ?_ ?_ (by rw[A4];exact bM) (Inv.NV (s:={s' with heap:=s'.heap.update kS (Obj.mapSeq λ_=>(#[]:Array Value))}) (tk:=s'.toks) J4 (T4 _ _ _) (get?_update_seq na λ_=>List.toArray (p.toList.map λi=>vs.getD i Value.none)) Pa (by rw[A4,bM,D9];lia) pa.2.1 Pm zZ Pn mI);refine(gp.perm.map _).trans (W6 ?_);refine List.ext_getElem (by rw[A4,M7,SJ,zk,Sv]) λi h1 h2=>?_;rw[A4,M7]at h1;rw[U1,List.getElem_range,List.getElem_zip];have q1:kz.getD i 0=kz[i]' ():=by rw[B4,B1 ()];rfl
 have q2:vs.getD i Value.none=vs[i]:=by rw[B4,B1 h1];rfl
 rw[q1,q2];refine P5.mpr λi j hi hj kZ=>?_;rw[A4]at hi hj;rw[U1,U1];have:=as i j kZ ();have gi:∀k (hk:k<p.toList.length),p.getD k 0=p.toList[k]:=λk hk=>by
  have iU:k<p.size:=by rw[<-M4];exact hk
  simp[Array.getD,iU]
 unfold kp at this;rw[gi i hi,gi j hj]at this;exact Int.le_of_lt this;rw[D1];exact Pa
end
section
variable{X:Cx}{EX:Be}{pos:Pos}
def abt{Z:AE}{Y:Sg}{G H:Hp}{s:Shared}{Q:VK}{a f c Pt:Addr}{k':Nat}{cl:List (Str×Addr)}{pm eB:Value}{params:Arguments}{body:Expr}{scope:Scope}{x:Str}{fb:FE}{δ:DE}{kvs:List (Am×V)}{aL:List (Am×D)}(hc:X.calm=true)(I:Inv X ((f,kla_obj "<lambda>" Ct params body scope cl pm c eB)::Z) Y H s) (g:aA G H) (h0:aT X.K G Y δ) (rd:Rd G a (.dK kvs)) (hk:kvs.map (·.1)=aL.map (·.1))(hlc:ka H Pt c) (nm:tu X scope cl) (hsk:scope.kind=.function) (CW:scope.isCoroutine=false) (ur:scope.isGenerator=false) (bq:scope.names.lookup x=some .local)(aj:∀u,bindArgs (kla_fn "<lambda>" Ct params body scope cl pm (.ref c) eB) ⟨[u],[]⟩=pure [(x,u)]) (zj:∀A s H Z,aC true 1 A->ED (lJ X A scope f c cl x s H Z) Cl body fb)(hr:aC true k' X.A) (hkk:2<=k') (o:Out X.K EX0 G H (lK (Fj fb δ) (aL.map λp=>kD p.1)) Q):wpAny (model X.prog X.w) X.A (call (.builtin "sorted") [.ref a] [(Str.ofString "key",.ref f)]) (EP X Z Y Q) X.xe s:=by
 unfold lK at o;cases eK:fF (Fj fb δ) (aL.map λp=>kD p.1)with
 |ex x=>rw[eK]at o;exact False.elim o|no=>rw[eK]at o;exact False.elim o|ok qq=>
  rw[eK]at o;simp only at o;split at o
  ·rename_i pB;obtain⟨qK,nd⟩:=pB;have pK:=Lm eK;have CT:aL.length=kvs.length:=by have:=K5 List.length hk;rw[A4,A4]at this;exact this.symm
   have bM:qq.length=kvs.length:=by
    rw[<-V0 pK,A4];exact CT
   have ekd:(aL.map λp=>kD p.1)=(kvs.map (·.1)).map kD:=by rw[hk,D1];rfl
   obtain⟨z,lo,ws,kv,dd⟩:=Fv I.aJ (aA.mG g rd);obtain⟨ep,da⟩:=dd.dictAt;refine call_function_entry_kw kind_sorted plain_sorted entry_sorted (ksk_s1 _ _) ?_;unfold Builtin.«sorted»;refine A8 (m:=checkCount "sorted" 1 1 _) (E9 ?_);refine A8 (PySem.W.iK (A:=X.A.in1) (kdl_dict lo) (I.ok.hd hc) da (by rw[<-kv.length];exact z) λh1 Ol zm kk le it=>?_);have jm:Vals ((kvs.map (·.1)).map kV) zm.toList:=yw kv (by rw[M4];exact it.1) λj v e=>it.2 j v (by rw[<-V1];exact e);have zY:zm.toList.length=kvs.length:=by rw[<-jm.length,A4,A4]
   refine A8 (wpAny_newList ?_ (by rw[zY];exact z));have new:(h1.push (seqObj "list" zm.toList.toArray 0)).get? h1.objs.size=some (seqObj "list" zm.toList.toArray 0):=D0 _ rfl;have I0:Inv X ((f,kla_obj "<lambda>" Ct params body scope cl pm c eB)::Z) Y H {s with heap:=h1,toks:=Ol}:=I.kept (t':=Ol) kk;have I1:Inv X ((f,kla_obj "<lambda>" Ct params body scope cl pm c eB)::Z) Y H {s with heap:=h1.push (seqObj "list" zm.toList.toArray 0),toks:=Ol}:=I0.kept (t':=Ol) λb u e=>A5 _ e;have fr:H h1.objs.size=none:=I.aJ.fresh le;refine A8 (S6 (wpAny_call_entry_kw slot_list_sort ⟨_,new,rfl⟩ entry_list_sort ?body (ksk_l1 _ _)))
   case body=>
    show wpAny (model X.prog X.w) X.A.in1.in1 (Builtin.«list.sort» ⟨[.ref h1.objs.size],[(Str.ofString "key",.ref f)]⟩) _ _ _;rw[ksk_t1];have hr':aC true 1 X.A.in1.in1:=⟨hr.hd,by have:=hr.dp;show X.A.depth+3*1+5<_;lia,by have:=hr.un;show X.A.units+1+1+16*1+200<_;lia⟩;refine acG (kz:=qq.map (·.1)) (M:=aL.map λp=>kD p.1) (fb:=fb) (δ:=δ) (G:=G) I1 new fr (D2 I.sz le) (λz=>?_) (λx c e z=>?_) (λp hp z=>?_) (I0.rh (A9 _)) jm (λi v d S e2 G'=>?_) (by rw[A4,zY];exact CT) (λi d kx S e2=>?_) (by rw[A4,zY];exact bM) (by rw[zY,<-bM];exact qK) nd
     (B8 _ (.head _)) hlc nm hsk CW ur bq aj rfl hr' g h0 zj λs' O ps us sm na pm srt hu hul hb=>?_
    have:=I0.lt;rw[<-z]at this;exact absurd this (F3 _)
    obtain⟨v,hv⟩:=I0.cell x c e;have:=hv.lt;rw[z]at this;exact absurd this (F3 _)
    have:=B2 (I0.pin p hp).1;rw[z]at this;exact absurd this (F3 _)
    rw[ekd,B3]at e2;rw[B3]at S;cases ek:(kvs.map (·.1))[i]? with
    |none=>rw[ek]at S;cases S
    |some k0=>rw[ek]at S e2;cases S;cases e2;exact wI k0
    rw[B3]at e2;cases RF:qq[i]? with
    |none=>rw[RF]at e2;cases e2
    |some p=>
     rw[RF]at e2;cases e2;exact(Paired.getL pK S RF).2
    have J':Inv X Z Y (upd O h1.objs.size (.lst us)) s':=hb.bX λp hp=>hb.pin p (B8 _ (.tail _ hp));refine⟨_,rfl,E9 ⟨_,rfl,.ref h1.objs.size,_,J',rfl,?_⟩⟩;rw[ekd]at pK;have pr:=MX (R:=RelK) (λp q r=>r.1) (EV jm pK) pm (yJ qq) nd srt (Ni qq);refine(show WP X.K G H (.ow (.lst ((eZ qq).map (·.2)))) Q from o) (.ref h1.objs.size) (λb=>b=h1.objs.size) G _ ⟨λb u e=>?_,λb u e=>?_,aA.refl _,λ_ n _=>n⟩ (λb e=>?_) (Ow.list Bo rfl (FC pr hu))
    rw[Ax (Eu e fr)];exact sm b u e
    rw[Ax (Eu (g b u e) fr)];exact sm b u (g b u e)
    subst e;exact⟨fr,g.free fr,by rw[Bo];simp⟩
  exact False.elim o
structure Oc(X:Cx)(params:Arguments)(body:Expr)(scope:Scope)(x:Str)(fb:FE):Prop where
 abl:defaultsOf params X.env=([],[])
 qual:X.env.qual++"<lambda>"=Ct
 kind:scope.kind=.function
 co:scope.isCoroutine=false
 gen:scope.isGenerator=false
 par:scope.names.lookup x=some .local
 names:jM scope.names X.env.scope.names X.N (X.N++[x])=true
 bind:∀cl pm cd eB u,bindArgs (kla_fn "<lambda>" Ct params body scope cl pm cd eB) ⟨[u],[]⟩=pure [(x,u)]
 body:∀A f c s H Z,(A.deeper (envX Ct scope s.heap.objs.size f (.ref c) (Ez X.env.cells scope.names []))).units+64<cLine->ED (lJ X A scope f c (Ez X.env.cells scope.names []) x s H Z) Cl body fb
def aab{o:Expr}{f fb:FE}{x:Str}{k':Nat}{c P:Addr}{params:Arguments}{body:Expr}{scope:Scope}{p p2 p3:Pos}(hc:X.calm=true)(hr:aC true k' X.A)(hm:X.mg "sorted"=none)(ht:tabIn X.K "numbers_by_bucket"=some (c,P))(bI:codeHdIn X.K c P=true)(he:ED X EX o f)(ks:Oc X params body scope x fb)(ag:X.env.code=.ref c:=by rfl)(hk:2<=k':=by decide)(hg:Gl X "sorted" :=by rfl)(jv:starEach [o] X.env=(false,eval o X.env)::starEach [] X.env:=by rfl) (Pl:backTo pos (starEach [o] X.env)=(false,eval o X.env)::backTo pos (starEach [] X.env):=by rfl) (bM:(backTo pos (starEach [o] X.env)).any (·.1)=false:=by rfl)(ay:(backToKw pos (keywordEach [⟨some "key",.Lambda params body scope p2,p3⟩] X.env)).all (·.1.isSome)=true:=by rfl) (hkw:(backToKw pos (keywordEach [⟨some "key",.Lambda params body scope p2,p3⟩] X.env)).any (·.1.isNone)=false:=by rfl)(qD:(backToKw pos (keywordEach [⟨some "key",.Lambda params body scope p2,p3⟩] X.env)).filterMap (·.1)=[Str.ofString "key"]:=by rfl):ED X EX (.Call (.Name "sorted" p) [o] [⟨some "key",.Lambda params body scope p2,p3⟩] pos) (lR fb f):=by
 intro Z s Y H Q I q;obtain⟨G,δ,g0,s0,q⟩:=q;have ta:GB (tD X.K EX f) vN Y H λvs H1=>∃(G1:Hp) (a:Addr) (kvs:List (Am×V)) (aL:List (Am×D)),vs=[.ref a]/\aA G1 H1/\aT X.K G1 Y δ/\Rd G1 a (.dK kvs)/\kvs.map (·.1)=aL.map (·.1)/\Out X.K (EX Y) G1 H1 (lK (Fj fb δ) (aL.map λp=>kD p.1)) Q:=by refine tD.seq g0 s0 q λw v G1 H1 _ st r o'=>?_;revert o' r;cases w.d with|aF aL=>intro r o';(cases r with|aF hr hk rr=>exact⟨G1,_,_,aL,rfl,st.gh,s0.mono st.gg,hr,hk,o'⟩)|_=>intro _ o';exact False.elim o'
 refine N1 (mR I hg hm ZB9 (callWith_kw (Bb ((Hi he jq jv) pos Z s Y H _ I ta) λus s1 ⟨vs,H1,I1,r1,G1,a,kvs,aL,ev,g1,iP,rd,hkk,o'⟩=>?_) Pl bM ay hkw));subst ev;obtain⟨u,rfl,ru⟩:=r1.one;cases ru;have nm:=Yj I1.ok ks.names;refine kws_cons (aae I1 ht bI ag ks.qual ks.abl nm.jH λfa c' pm eB H2 s2 sm lc I2=>kws_nil ?_);rw[qD];refine abt hc I2 (g1.trans sm) iP rd hkk lc nm ks.kind ks.co ks.gen ks.par (ks.bind _ _ _ _) (λA s H Z hr1=>ks.body A fa c' s H Z (aC.units (aC.deeper hr1 _))) hr hk ?_;have st:Step G1 H1 G1 H2:=⟨sm,g1.trans sm,aA.refl _,λ_ n _=>n⟩;unfold lK at o'⊢;cases eK:fF (Fj fb δ) (aL.map λp=>kD p.1)with|ok qq=>rw[eK]at o';simp only at o'⊢;split at o';rename_i pB;rw[if_pos pB];exact WP.mono (w:=.ow (.lst ((eZ qq).map (·.2)))) (Q:=Q) st (show WP X.K G1 H1 (.ow (.lst ((eZ qq).map (·.2)))) Q from o');exact False.elim o'|ex x=>rw[eK]at o';exact False.elim o'|no=>rw[eK]at o';exact False.elim o'
end
abbrev afZ(c:Bool)(P:Program)(w:World)(K:Frag)(mg:AB)(base:Heap)(N:List Str)(qual:Str)(st:Stmt)(f:Addr)(k:Nat)(g:FS)(cd:Addr):Prop:=∀{A:Around}{outer:List Env}{s:Shared}{H:Hp}{E:XK},(Fb c P w K mg base N qual (Bt st) f (.ref cd) A outer s H E).calm=c->aC c k (Cx.A (Fb c P w K mg base N qual (Bt st) f (.ref cd) A outer s H E))->(Cx.A (Fb c P w K mg base N qual (Bt st) f (.ref cd) A outer s H E)).units+64<cLine->N.Nodup->Lk (Fb c P w K mg base N qual (Bt st) f (.ref cd) A outer s H E) (λ_=>bK K E)->BD (Fb c P w K mg base N qual (Bt st) f (.ref cd) A outer s H E) (λ_=>bK K E) (Fg st) g
def UZ{c:Bool}{P:Program}{w:World}{x qual:Str}{st:Stmt}{f cd:Addr}{N ps:List Str}{k:Nat}{g:FS}(F:aY K x qual st f fd)(ag:fd.code=.ref cd)(zj:afZ c P w K mg base N qual st f k g cd) (e1:aS N ps (Bt st):=by exact⟨rfl,rfl,rfl,by decide +kernel,rfl,by decide +kernel,by decide +kernel⟩):bF P w K mg base c (k+1) f fd ps (Bj K ps.length (Aj N.length g)):=by obtain⟨oc,od,kV,doc,pm,an,zn,ct,pN,rfl,lk,bI⟩:=F.ex;cases ag;refine HF lk bI e1 (λvs H Q E h=>h.1) λA outer s H vs Q E hr h=>⟨_,zj rfl hr (aC.units hr) e1.nd oq,?_⟩;obtain⟨hl,G,M,g0,r,o⟩:=h;refine⟨⟨H,λ_=>0⟩,G,G,_,_,Kf g0 r,?_⟩;unfold Aj at o;cases e:g (Bh N.length M)with|nx B=>rw[e]at o;exact λ Y G' O H' E' _=>(WP.mono (w:=.sh .aK) (Q:=Q) E'.st o).use E'.st.gh .aK|rt w=>rw[e]at o;exact o|rv d B=>rw[e]at o;exact o.elim|ex x B=>rw[e]at o;exact λ Y G' O H' E' _=>(bK K E).mono _ _ _ _ _ E'.st o|bk B=>rw[e]at o;exact o.elim|ct B=>rw[e]at o;exact o.elim|no=>rw[e]at o;exact o
def aaa{x:Str}{st:Stmt}{f c P:Addr}(a:nsIn K mainGlobals x=some (some (.ref f)))(F:aY K x x st f fd)(ht:tabIn K x=some (c,P)):fd.code=.ref c:=by obtain⟨oc,od,kV,doc,pm,an,zn,ct,pN,rfl,lk,bI⟩:=F.ex;unfold tabIn at ht;rw[a]at ht;simp only[lk]at ht;cases zn with|ref c2=>simp only at ht;split at ht;split at ht;cases ht;rfl;cases ht;cases ht|_=>cases ht
def Yi{P:Program}{w:World}{cc:Bool}{k:Nat}{ps:List Str}{Fn:AF}{st:Stmt}{x:Str}{h:Heap}{c Pt:Addr}(X:K.In h)(G:h.Ns mainGlobals mg)(W:aI K x st)(ht:tabIn K x=some (c,Pt))(ok:∀{f:Addr}{fd:FuncData},aY K x x st f fd->fd.code=.ref c->bF P w K mg base cc k f fd ps (Bj K ps.length Fn)/\Binds K fd ps []):AY P w K mg base cc x k ps Fn:=by obtain⟨f,a,fd,F⟩:=W;have hc:=aaa a F ht;exact sd F (mg_of X G a) (ok F hc).2 (ok F hc).1
def GX{x q:Str}{f c P:Addr}{oT BW:Value}{BV BU DV:Option Addr}{va tW:Array (Option Value)}{DU:Arguments}{DS:List Stmt}{BM:Scope}{CK DO BP DQ:Value}{tT:Array Value}(a:nsIn K mainGlobals x=some (some (.ref f)))(l:K.lookup f=some ⟨oT,BV,.func (fnOf q q DU DS BM .none CK DO BP DV (.ref c) DQ),va⟩) (lc:K.lookup c=some ⟨BW,BU,.fields tT,tW⟩) (e:tT[11]?=some (.ref P)):tabIn K x=some (c,P):=by unfold tabIn;rw[a];simp only[l,lc,e]
def Z'{h:Heap}{c P:Addr}(X:K.In h)(ht:tabIn K "numbers_by_bucket"=some (c,P))(bI:codeHdIn K c P=true)(hl:(K.lookup P).isNone=true)(hT:h.get? P=some (tabObj #[])):∀c P,tabIn K "numbers_by_bucket"=some (c,P)->isCodeTable h P/\h.get? P=some {cls:=.none,data:=.fields #[]}/\K.lookup P=none:=λc' P' e=>by rw[ht]at e;cases e;exact⟨((codeHd_of_K X bI).tab hT).isCodeTable,hT,Option.isNone_iff_eq_none.mp hl⟩
def Y'{h:Heap}{f c P:Addr}{oT BW:Value}{BV BU DV:Option Addr}{va tW:Array (Option Value)}{DU:Arguments}{DS:List Stmt}{BM:Scope}{CK DO BP DQ:Value}{tT:Array Value}(X:K.In h)(a:nsIn K mainGlobals "numbers_by_bucket"=some (some (.ref f)))(l:K.lookup f=some ⟨oT,BV,.func (fnOf "numbers_by_bucket" "numbers_by_bucket" DU DS BM .none CK DO BP DV (.ref c) DQ),va⟩) (lc:K.lookup c=some ⟨BW,BU,.fields tT,tW⟩) (e:tT[11]?=some (.ref P)) (bI:codeHdIn K c P=true) (hl:(K.lookup P).isNone=true) (hT:h.get? P=some (tabObj #[])):∀c P,tabIn K "numbers_by_bucket"=some (c,P)->isCodeTable h P/\h.get? P=some {cls:=.none,data:=.fields #[]}/\K.lookup P=none:=Z' X (GX a l lc e) bI hl hT
end L3
namespace L3
open PySem PySem.Spec PyProof.Rows L2
variable{K:Frag}{fd:FuncData}{mg:AB}{us:List Value}{base:Heap}{H:Hp}{X:Cx}{pos:Pos}{v:V}
def uh(tb:List (Str×Bool))(T:String):D->Option Bool|.obj c _ _=>tb.lookup c|d=>Dh T d
def Hn(tb:List (Str×Bool))(T:String)(f:FE):FE:=λ δ=>(f δ).bind λw=>match uh tb T w.d with|some k=>.ok (.sh (.bl k))|none=>.no
def KU(K:Frag)(a:Addr)(T:String):Prop:=kitOne K (.ref a) (.type T)=some false
def KU.mk{a:Addr}{T:String}(h:kitOne K (.ref a) (.type T)=some false):KU K a T:=h
section
variable{X:Cx}{EX:Be}{a:Expr}{f:FE}{tb:List (Str×Bool)}{pp pos:Pos}
def W'{T:String}(k:dD X.K T)(k2:bG X.K (.type T) tb):bL X (.builtin "isinstance") (λxs H Q=>∃G x d b,xs=[x,.ty T]/\aA G H/\aP X.K G x d/\uh tb T d=some b/\Q (.bl b) H):=by
 intro Z s Y H xs us Q I rv h;obtain⟨G,x,d,b,rfl,g,r,e,q⟩:=h;cases d with
 |obj c ns vs=>
  obtain⟨u,u2,rfl,r1,r2⟩:=rv.two;cases r2;obtain⟨a,rfl⟩:∃a,x=.ref a:=by cases r<;>exact⟨_,rfl⟩
  obtain rfl:u=Value.ref a:=r1;obtain⟨C,ox,od,hc,io⟩:=JR I g r;obtain⟨xi,ko⟩:=k2 c b e C hc;exact kia_one (kitx_own xi.pg xi.hd xi.cl xi.gs xi.tk xi.ob) I.bU io ko (λz=>nomatch z) λtk=>⟨.bl b,H,I.tok _,rfl,q⟩
 |_=>exact Kb k Z s Y H _ us Q I rv ⟨G,x,_,b,rfl,g,r,e,q⟩
def oe{Tn:Str}{T:String}{p3:Pos}(k:dD X.K T)(k2:bG X.K (.type T) tb)(ha:ED X EX a f)(hm:X.mg "isinstance"=none)(QU:X.mg Tn=none)(QN:bootBuiltins Tn=some (.type T))(hg:Gl X "isinstance" :=by rfl)(Rb:Gl X Tn:=by rfl)(hn:Tn≠"__name__" :=by decide) (ng:AG Tn:=by decide)(he:starEach [a,.Name Tn p3] X.env=(false,eval a X.env)::starEach [.Name Tn p3] X.env:=by rfl) (bM:(backTo pos (starEach [.Name Tn p3] X.env)).any (·.1)=false:=by rfl)(hs:starEach [.Name Tn p3] X.env=(false,eval (.Name Tn p3) X.env)::starEach [] X.env:=by rfl):ED X EX (.Call (.Name "isinstance" pp) [a,.Name Tn p3] [] pos) (Hn tb T f):=PE.imp (sS (W' k k2) hg hm SK (Hi ha (Hi (Jo (v:=.ty T) Rb QU QN rfl hn ng) jq hs) he) ⋯ ⋯ he bM) λ Y H Q ⟨G,δ,g0,s0,o⟩=>tD.seq g0 s0 o λw v G1 H1 _ bH r1 o1=>by split at o1;rename_i b e;exact⟨G1,v,w.d,b,rfl,bH.gh,r1,e,Cw o1 bH.gh (.bl b)⟩;exact o1.elim
end
def Pu:Tn->Bool|.sh d=>Av d|_=>false
def Pr:Tn->Bool|.lst ts=>ts.all Pu|t=>Pu t
def Rx:Tn->Bool|.obj _ _ ts=>ts.all Pr|_=>false
section
variable{K:Frag}{G G2 H:Hp}
def JO{d:D}(h:aP K G v d)(f:Av d=true):aP K G2 v d:=by cases h with|aK=>exact .aK|bl b=>exact .bl b|int i=>exact .int i|str x=>exact .str x|_=>cases f
def YK{t:Tn}{e1:AS}(h:Ow K G H v t e1)(f:Pu t=true):Ow K G2 H v t e1:=by cases h with|sh h=>exact .sh (JO h f)|_=>cases f
theorem xA{q:Tn->Bool}(i:∀{vx:V}{t:Tn}{e1:AS},Ow K G H vx t e1->q t=true->Ow K G2 H vx t e1):∀{vs:List V}{ts:List Tn}{e1:AS},aX K G H vs ts e1->ts.all q=true->aX K G2 H vs ts e1|_,_,_,.nil,_=>.nil|_,_,_,.cons h r dj s1 s2,e=>by rw[Q6,C6]at e;exact .cons (i h e.1) (xA i r e.2) dj s1 s2
def YJ{t:Tn}{e1:AS}(h:Ow K G H v t e1)(f:Pr t=true):Ow K G2 H v t e1:=by cases h with|sh h=>exact .sh (JO h f)|lst h ha sub r=>exact .lst h ha sub (xA YK r f)|_=>cases f
def YI{t:Tn}{e1:AS}(h:Ow K G H v t e1)(f:Rx t=true):Ow K G2 H v t e1:=by cases h with|obj hc h hl ha sub r=>exact .obj hc h hl ha sub (xA YJ r f)|_=>cases f
def WP.NY{G' O:Hp}{P:Hp->V->Prop}{Q:VK}{e1:AS}(h:∀v G' O,Step G H G' O->P G' v->Q v O)(s:Step G H G' O)(fr:∀a,e1 a->H a=none/\G' a=none/\O a≠none)(p:P (Ca G' O e1) v):Q v O:=by refine h v (Ca G' O e1) O ⟨s.hh,λb o q=>?_,s.gg.trans λb o q=>?_,λb n z=>?_⟩ p;unfold Ca at q;split at q;exact q;exact s.gh b o q;unfold Ca;split;rename_i J;rw[(fr b J).2.1]at q;cases q;exact q;unfold Ca;split;rename_i J;exact absurd (fr b J).1 z;exact s.nw b n z
end
def Pq:W->Bool|.tr t=>Rx t|_=>false
def nK(i j:Nat)(f:FE):FS:=λ B=>match B[j]? with|some (.ow (.lst M))=>(match f (Ay (B.set j (.sh (.lst M))))with|.ok w=>if M.all Av=true/\(Er M w.d||Pq w)=true then .nx (B.set i (.sh w.d)) else .no|_=>.no)|_=>.no
section
variable{X:Cx}{EX:Be}{pos:Pos}
def Yh{i j:Nat}{x:Str}{e:Expr}{f:FE}{pos':Pos}(he:ED X EX e f)(hN:X.N.Nodup)(hi:X.N[i]?=some x:=by rfl)(hx:Loc X.env.scope x:=by trivial)(hs:swapsWith e (some (.Name x pos')) pos.line X.env=pure false:=by rfl)(hf:X.fn x=true\/X.env.scope.names.lookup x=some .local:=by trivial):SD X EX (.Assign [.Name x pos'] e pos) (nK i j f):=PS.imp (oB hN hi hx he hs hf) λD Y H ⟨H0,G0,G,B,H',E,q⟩=>by
  unfold nK at q;split at q;rename_i M S;obtain⟨v0,s1,t⟩:=E.ow j _ _ S rfl;obtain⟨a,vs,rfl,m,hH,rl⟩:=t.bY;obtain⟨sg,E1⟩:=E.uM S (t:=Tn.of (.lst M)) rfl;rw[Tn.dW]at E1;have ga:Ca G H (H' j) a=some (.lst vs):=by unfold Ca;rw[if_pos m];exact hH
  refine⟨Ca G H (H' j),Ay (B.set j (.sh (.lst M))),E1.st.gh,E1.eA,?_⟩;cases e2:f (Ay (B.set j (.sh (.lst M))))with|ex y=>simp only[e2]at q;exact q.elim|no=>simp only[e2]at q;exact q.elim|ok w=>simp only[e2]at q;split at q;rename_i hc;have core:∀v G' O,Step (Ca G H (H' j)) H G' O->aP X.K (He G' a) v w.d->D.nx (Y.set i (some v)) O:=λv G' O st ho=>(by have BN:aA G (He G' a):=λb o z=>(by have J:b≠a:=λw=>(by rw[w,(E.out j a m).1]at z;cases z);rw[tP J];exact st.gg _ _ (sg _ _ z));have bb:∀b,¬H' j b->Ca G H (H' j) b=G b:=λb nb=>(by unfold Ca;rw[if_neg nb]);have E2:Ev X.K H0 G0 (He G' a) O Y B (Gb H' j λb=>b=a):=(by refine⟨⟨E.st.hh.trans st.hh,λb o z=>?_,E.st.gg.trans BN,λb z1 z2=>?_⟩,E.len,λk d' e'=>?_,λk z d' e' zo=>?_,λk b J=>?_,λk k' b h1 h2=>?_,E.lk,E.lt⟩;have J:b≠a:=λw=>(by rw[w,oH]at z;cases z);rw[tP J]at z;exact st.gh b o z;have nb:¬H' j b:=λw=>z2 (E.out j b w).2.1;have g1:=E.st.nw b z1 z2;have hHb:H b≠none:=λw=>z2 (E.st.hh.free w);by_cases J:b=a;rw[J,oH];rw[tP J];exact st.nw b (by rw[bb b nb];exact g1) hHb;obtain⟨v',e3,r'⟩:=E.sh k d' e';exact⟨v',e3,r'.mono BN⟩;by_cases hk:k=j;subst hk;rw[S]at e';cases e';cases zo;rw[jw];exact⟨_,s1,Ow.list (st.hh _ _ hH) rfl (rl.mono BN)⟩;rw[Gf hk];obtain⟨v',e3,t'⟩:=E.ow k z d' e' zo;exact⟨v',e3,t'.mono BN (λb o _ q=>st.hh b o q) λ_ q=>q⟩;by_cases hk:k=j;subst hk;rw[jw]at J;subst J;exact⟨oH,(E.out k b m).2.1,by rw[st.hh _ _ hH];simp⟩;rw[Gf hk]at J;obtain⟨k1,k2,k3⟩:=E.out k b J;have nb:¬H' j b:=λw=>hk (E.dj k j b J w);refine⟨?_,k2,λw=>k3 (st.hh.free w)⟩;by_cases hba:b=a;rw[hba,oH];rw[tP hba];exact st.nw b (by rw[bb b nb];exact k1) k3;by_cases DD:k=j;by_cases AK:k'=j;rw[DD,AK];rw[DD,jw]at h1;rw[Gf AK]at h2;subst h1;exact absurd (E.dj k' j b h2 m) AK;by_cases AK:k'=j;rw[AK,jw]at h2;rw[Gf DD]at h1;subst h2;exact absurd (E.dj k j b h1 m) DD;rw[Gf DD]at h1;rw[Gf AK]at h2;exact E.dj k k' b h1 h2);exact q _ _ _ _ (E2.put ho) BN);obtain⟨hf0,hc⟩:=hc;(cases hn:Er M w.d with|true=>exact WP.intro λv G' O st r=>core v G' O st (aP.off (st.gg _ _ ga) ((rl.mono sg).mono st.gg) hf0 r hn)|false=>rw[hn]at hc;cases w with|sh d=>cases hc|ow d=>cases hc|tr t=>intro v e1 G' O st fr tw;have Pe:∀b,e1 b->b≠a:=λb J z=>(by have:=(fr b J).2.1;rw[z,st.gg _ _ ga]at this;cases this);refine WP.NY core st fr ((YI (G2:=He G' a) tw hc).has (λb o z=>?_) λb o J z=>?_);have J:b≠a:=λw=>(by rw[w,oH]at z;cases z);rw[tP J]at z⊢;unfold Ca;rw[if_neg λw=>by rw[(fr b w).2.1]at z;cases z];exact z;rw[tP (Pe b J)];unfold Ca;rw[if_pos J];exact z);exact q.elim
  exact q.elim
end
end L3
local macro_rules|`(#v[])=>`(L3.Ad)|`(#v[$n:num])=>`(L3.Ab (L3.Aa $n) L3.Ad)|`(#v[$x])=>`(L3.Ab $x L3.Ad)|`(#v[$n:num,$xs,*])=>`(L3.Ab (L3.Aa $n) #v[$xs,*])|`(#v[$x,$xs,*])=>`(L3.Ab $x #v[$xs,*])
namespace My
open PySem L2 L3
def Li:FS:=(Ae (Ah 2 [0,1] (Ag Dc (Ag Dm (Ag Bl (Aa 0) (eC (.int 1))) (Ag Bl (eC (.int 48271)) (Ag Dm (eC (.int 118)) (Aa 1)))) (eC (.int 2147483629)))) (Au [1,2] (Ag Dc (Ag Bl (Ag Bl (Ag Dm (Ag Gd (Aa 2) (eC (.int 977))) (eC (.int 16807))) (Ag Dm (Aa 2) (Ag Bl (Ag Dm (Aa 1) (Aa 1)) (eC (.int 7))))) (Aa 1)) (eC (.int 2147483587)))))
def zL:List D->R W:=Aj 3 Li
def yU:FS:=(Ae (Ah 7 [2,6] (Ag Dc (Aa 6) (Al Dd #v[2]))) (Bx [2,3,7] (Et (As (Aa 3)) (Ar (Ag Ds (Ag Bf (Aa 2) (Aa 7)) (eC (.int 0))))) (Co 5 (Az 2 zL #v[Az 2 zL #v[Ag Dc (Ag Bf (Aa 4) (Aa 7)) (eC (.int 2147483647)),Ag Bl (Aa 6) (eC (.int 7))],Ag Bl (Ag Dc (Ag Dm (Aa 6) (Aa 6)) (eC (.int 1009))) (eC (.int 3))])) (Ae (Co 5 (Ag Dc (Ag Bf (Aa 2) (Aa 7)) (eC (.int 2147483587)))) (hG 2 (Aa 7) (Ag Gd (Ag Bf (Aa 2) (Aa 7)) (eC (.int 2147483587)))))))
def adw:FS:=(Ae (Ah 2 [0] (Al pI #v[0])) (Ae (Bx [2] (Ar (Ag Ds (Aa 2) (Cc Ad))) (Ah 2 [] (Cc #v[eC (.int 0)])) Bi) (Ae (Ah 3 [2] (Ag Ds (Ag Dc (Ag Bf (Aa 2) (eC (.int 0))) (eC (.int 2))) (eC (.int 1)))) (Ae (hG 2 (eC (.int 0)) (Ag Gd (Ag Bf (Aa 2) (eC (.int 0))) (eC (.int 2)))) (Ae (lM 4 (Al pI #v[2])) (Ae (Ah 5 [] (Cc Ad)) (Ae (Do [1] (Bk Du #v[1]) (gV 6) yU) (Bq 5))))))))
def BC:List D->R W:=Aj 8 adw
def OP:FS:=(Ae (Ah 7 [6] (Ag Gd (Aa 6) (eC (.int 6)))) (Ae (Ah 5 [3,4,5,7] (Ag Bl (Aa 5) (Ag Bf (Aa 3) (Ag Dc (Ag Bf (Aa 4) (Aa 7)) (eC (.int 39)))))) (hG 4 (Aa 7) (Ag Gd (Ag Bf (Aa 4) (Aa 7)) (eC (.int 39))))))
def OH:FS:=(Ae (Ah 3 [] (eC (.str "abcdefghijklmnopqrstuvwxyz0123456789-_ "))) (Ae (Bx [0] (Ar (Ag Ds (Ag Dc (Aa 0) (eC (.int 3))) (eC (.int 0)))) (Au [0,1] (Ag Dc (Ag Bl (Ag Gd (Aa 0) (eC (.int 3))) (Ag Dm (eC (.int 700000000)) (Aa 1))) (Ag qX (eC (.int 10)) (eC (.int 18))))) Bi) (Ae (Bx [0] (Ar (Ag Ds (Ag Dc (Aa 0) (eC (.int 3))) (eC (.int 2)))) (Au [0] (Ag Dc (Ag Gd (Aa 0) (eC (.int 3))) (eC (.int 50)))) Bi) (Ae (Ah 4 [0,1,2] (Cc #v[Ag Bl (Ag Dm (Ag Gd (Aa 0) (eC (.int 36))) (eC (.int 1500000000))) (Aa 1),2])) (Ae (Ah 5 [] (eC (.str ""))) (Ae (Do [0] (Bk Du #v[Ag Dc (Ag Gd (Aa 0) (eC (.int 3))) (eC (.int 12))]) (gV 6) OP) (Bq 5)))))))
def vE:List D->R W:=Aj 8 OH
def OT:FS:=(Ae (Ah 5 [1,4] (Ag Bl (Aa 1) (Ag Dm (eC (.int 3)) (Aa 4)))) (Ae (Ah 6 [0,5] (Az 3 vE #v[Ag Bf (Aa 0) (Aa 5),Ag Bf (Aa 0) (Ag Bl (Aa 5) (eC (.int 1))),Ag Bf (Aa 0) (Ag Bl (Aa 5) (eC (.int 2)))])) (Bx [3,6] (Ar (Ag (inD true) (Aa 6) (Aa 3))) (Co 3 (Aa 6)) Bi)))
def aft:FS:=(Ae (Ah 3 [] (Cc Ad)) (Ae (Do [2] (Bk Du #v[2]) (gV 4) OT) (Ae (Bx [3] (Ar (Ag Ds (Aa 3) (Cc Ad))) (Ah 3 [0,1] (Cc #v[Ag Dc (Ag Bf (Aa 0) (Aa 1)) (eC (.int 50))])) Bi) (Bq 3))))
def qc:List D->R W:=Aj 7 aft
def OG:FE:=(Ag (inD false) (Aa 1) (eC (.str "abcdefghijklmnopqrstuvwxyz0123456789-_ ")))
def NA:FS:=(Au [0] (eW (Ag vp (Al Dd #v[0]) (eC (.int 11))) (Al oU #v[(Bn 1 (Db (Aa 0)) (gC 1) (λ_=>.ok true) OG)])))
def CA:List D->R W:=Aj 1 NA
def xY:FS:=(Ae (Bx [0] (As (qb "bool" (Aa 0))) (Au [] (eC (.bl false))) Bi) (Ae (Bx [0] (As (qb "int" (Aa 0))) (Au [0] (lZ vp vp (eC (.int 0)) (Aa 0) (eC (.int 999999999999999999)))) Bi) (Au [0] (eW (qb "str" (Aa 0)) (Az 1 CA #v[0])))))
def uR:List D->R W:=Aj 1 xY
def Qu:FS:=(Bx [2] (Br (As (Az 1 uR #v[2]))) (Hf "NoKey" "at" [1] (Aa 1)) Bi)
def NQ:FS:=(Do [0] (fC (Aa 0)) (lq 1 2) Qu)
def zU:List D->R W:=Aj 3 NQ
def CH:FS:=(Ae (Bx [1,3] (Ar (Ag (iT false) (Aa 3) (Aa 1))) (Hf "Twice" "at" [2] (Aa 2)) Bi) (kh 1 [] (Aa 3) (eC (.bl true))))
def Nz:FS:=(Ae (Ah 1 [] Hg) (Do [0] (fC (Aa 0)) (lq 2 3) CH))
def BZ:List D->R W:=Aj 4 Nz
def MW:FS:=(Ae (Bx [0] (Et (Ar (Ag Ds (Al Dd #v[0]) (eC (.int 0)))) (Ar (Ag DF (Al Dd #v[0]) (eC (.int 200))))) (xC "NoKeys") Bi) (Ae (Di [0] (Az 1 zU #v[0])) (Ae (Di [0] (Az 1 BZ #v[0])) (Au [0] (Al Dd #v[0])))))
def qA:List D->R W:=Aj 1 MW
def yM:FS:=(Ae (Bx [1] (Ar (Ag CF (Aa 1) (eC (.int 3)))) (Au [0] (Ag Bl (Ag Bl (Aa 0) (Ag Gd (Aa 0) (eC (.int 8)))) (eC (.int 1)))) Bi) (Au [0] (Ag Bl (Ag Gd (Ag Dm (eC (.int 41)) (Aa 0)) (eC (.int 100))) (eC (.int 2)))))
def qz:List D->R W:=Aj 2 yM
def yr:FS:=(Ah 1 [1,2] (Ag Bl (Ag Bl (Ag Dm (eC (.int 40)) (Aa 1)) (iF "str" nX (eC (.str "abcdefghijklmnopqrstuvwxyz0123456789-_ ")) #v[2])) (eC (.int 1))))
def Yg:FS:=(Ae (Ah 1 [] (eC (.int 0))) (Ae (Do [0] (Db (Aa 0)) (gV 2) yr) (Bq 1)))
def su:List D->R W:=Aj 3 Yg
def xy:FS:=(Ae (Bx [0] (Br (As (Az 1 uR #v[0]))) (Hf "NoKey" "at" [] (eC (.int 0))) Bi) (Ae (Bx [0] (As (qb "str" (Aa 0))) (Au [0] (Ag Bl (Ag Dm (eC (.int 2)) (Az 1 su #v[0])) (eC (.int 1)))) Bi) (Au [0] (Ag Dm (eC (.int 2)) (Aa 0)))))
def kX:List D->R W:=Aj 1 xy
def IK:FS:=(Ae (Bx [2] (Ar (Ag Ds (Aa 2) (eC (.int 0)))) (Au [] (eC (.int 0))) Bi) (Ae (Ah 3 [1] (Ag Bl (eC (.int 1)) (Ag Dc (Ag Bl (Ag Dm (eC (.int 1103515245)) (Aa 1)) (eC (.int 12345))) (Ag jz (eC (.int 2305843009213693951)) (eC (.int 1)))))) (Ae (Ah 4 [1] (Ag Dc (Ag Bl (Ag Dm (Ag Dm (eC (.int 69069)) (Aa 1)) (Aa 1)) (Ag Dm (eC (.int 7)) (Aa 1))) (eC (.int 2305843009213693951)))) (Ae (Ah 5 [0,3,4] (Ag Dc (Ag Bl (Ag Dm (Aa 3) (Aa 0)) (Aa 4)) (eC (.int 2305843009213693951)))) (Au [2,5] (Ag Dc (Ag Bl (Aa 5) (Ag Gd (Aa 5) (eC (.int 2147483648)))) (Aa 2)))))))
def mU:List D->R W:=Aj 6 IK
def Ot:FE:=(Ag Bl (Ag Dm (Aa 5) (Aa 3)) (Az 3 mU #v[4,Ag Bl (Ag Dm (eC (.int 4)) (Aa 1)) (Aa 5),3]))
def MV:FS:=(Ae (Ah 4 [0] (Az 1 kX #v[0])) (Au [1,2,3,4] (Al wx #v[(Bn 1 (Bk Du #v[2]) (gC 5) (λ_=>.ok true) Ot)])))
def pX:List D->R W:=Aj 5 MV
def yR:FE:=(Az 4 pX #v[4,1,2,3])
def Mp:FS:=(Ae (Ah 3 [0,2] (Az 2 qz #v[Az 1 qA #v[0],2])) (Au [0,1,2,3] (Bn 1 (Db (Aa 0)) (gC 4) (λ_=>.ok true) yR)))
def zO:List D->R W:=Aj 4 Mp
def OE:FS:=(Ae (Bx [1,4] (Ar (Ag (iT true) (Aa 4) (Aa 1))) (rN 1 (Aa 4)) Bi) (nV 1 (Aa 4) (Aa 2) (eC (.bl true))))
def Qk:FS:=(Do [3] (Db (Aa 3)) (gV 4) OE)
def aeT:FS:=(Ae (Ah 1 [] Hg) (Ae (Do [0] (fC (Aa 0)) (lq 2 3) Qk) (Bq 1)))
def Oq:List D->R W:=Aj 5 aeT
def yT:FS:=(rO 2 (Aa 3) (Aa 0))
def MU:FS:=(Do [1] (Db (Aa 1)) (gV 3) yT)
def zT:List D->Tn->Option Tn:=nS 4 MU
def yI:FT:=(Ar (Ag DF (Al Dd #v[3]) (eC (.int 0))))
def yH:FS:=(Ae (gZ 7 3) (Bx [2,7] (Ar (Ag Ds (Al rn #v[Ag Dn (Aa 2) (Aa 7)]) (eC (.int 1)))) (Ae (Ah 8 [2,7] (Al vQ #v[Ag Dn (Aa 2) (Aa 7)])) (Ae (Co 4 (rA #v[8,7])) (Ae (kh 5 [] (Aa 8) (eC (.bl true))) (Ae (rY 2 zT (Aa 8) (Ag Bf (Aa 0) (Aa 8))) (qU 3 (Ag Bf (Aa 0) (Aa 8))))))) Bi))
def tf:FT:=(Ar (Ag (iT true) (Aa 9) (Aa 5)))
def V':FS:=(Ae (Ah 2 [0] (Az 1 Oq #v[0])) (Ae (lM 3 (Al wq #v[2])) (Ae (Ah 4 [] (Cc Ad)) (Ae (Ah 5 [] Hg) (Ae (Fq [3] yI yH 3000) (Ae (Ah 6 [0,5] (Bn 1 (Bk Du #v[Al Dd #v[0]]) (gC 9) tf (Aa 9))) (wm 4 6)))))))
def sN:List D->R W:=Aj 9 V'
def GW:FS:=(Ae (Ah 3 [0,1,2] (Az 3 zO #v[0,1,2])) (Au [0,2,3] (Az 2 sN #v[3,Ag Dm (Aa 2) (Az 2 qz #v[Al Dd #v[0],2])])))
def hV:List D->R W:=Aj 4 GW
def Mo:FS:=(Ae (Ah 3 [0,1,2] (Ag Bf (Az 3 hV #v[0,1,2]) (eC (.int 1)))) (Au [3] (Ag Ds (Al Dd #v[3]) (eC (.int 0)))))
def mZ:List D->R W:=Aj 4 Mo
def Oo:FS:=(Bx [0,1,3] (As (Az 3 mZ #v[0,3,1])) (Bq 3) Bi)
def adv:FS:=(Ae (Di [0] (Az 1 qA #v[0])) (Ae (Do [2] (Bk Du #v[2]) (gV 3) Oo) (xC "NoTry")))
def ni:List D->R W:=Aj 4 adv
def Qt:FS:=(kh 3 [5] (Aa 4) (Aa 5))
def z_4:FE:=(Ag Dn (Aa 3) (Aa 6))
def afk:FS:=(Ae (Ah 3 [] Hg) (Ae (Do [0,1,2] (Db (Ag Bf (Az 3 hV #v[0,1,2]) (eC (.int 0)))) (lq 4 5) Qt) (Au [0,3] (Bn 1 (Bk Du #v[Al Dd #v[0]]) (gC 6) (λ_=>.ok true) z_4))))
def OC:List D->R W:=Aj 6 afk
def Mn:FS:=(Au [0,1] (eW (rB (qb "bool" (Aa 0))) (lZ vp CF (eC (.int 0)) (Aa 0) (Aa 1))))
def zN:List D->R W:=Aj 2 Mn
def MT:FS:=(Au [0,1] (AN (Ar (Ag Ds (Aa 1) (eC (.int 0)))) (eC (.int 0)) (Ag Dc (Aa 0) (Aa 1))))
def zS:List D->R W:=Aj 2 MT
def yG:FE:=(Ag Bf (Aa 0) (Aa 4))
def yF:FT:=(As (Az 2 zN #v[4,Al Dd #v[0]]))
def JN:FS:=(Ae (Ah 3 [0,1] (Bn 1 (Db (Aa 1)) (gC 4) yF yG)) (Au [2,3] (Az 2 zS #v[Al nB #v[3],2])))
def tU:List D->R W:=Aj 4 JN
def yE:FS:=(Ae (Ah 8 [0,3,4,5,6] (Ag jz (Ag Bf (Aa 3) (Aa 6)) (Az 3 tU #v[5,Ag Bf (Aa 0) (Aa 6),4]))) (Bx [1,7] (As (Az 2 zN #v[7,1])) (rP 5 [4,8] (Aa 7) (Az 2 zS #v[8,4])) Bi))
def U':FS:=(Ae (Ah 5 [1] (GH #v[eC (.int 0)] (Aa 1))) (Ae (Do [2] (Hr (Aa 2)) (lq 6 7) yE) (Bq 5)))
def sM:List D->R W:=Aj 9 U'
def afs:FS:=(Ae (Gn 0 ["Table"] "by_salt" [1] (Aa 1)) (Ae (Gn 0 ["Table"] "kind" [2] (Aa 2)) (Ae (Gn 0 ["Table"] "part" [3] (Aa 3)) (Ae (Gn 0 ["Table"] "modulus" [4] (Aa 4)) (Gn 0 ["Table"] "listed" [5] (Aa 5))))))
def oE:List D->R (List Str×List D):=En 6 "Table" afs
def MS:FS:=(Ae (Ah 5 [0,2] (Az 2 qz #v[Al Dd #v[0],2])) (Ae (Ah 6 [0,1,2] (Az 3 zO #v[0,1,2])) (Ae (Ah 7 [0,1,2] (Ag Bf (Az 3 hV #v[0,1,2]) (eC (.int 0)))) (Au [1,2,3,4,5,6,7] (gY "Table" 5 oE #v[1,2,5,3,Az 5 sM #v[6,Ag Dm (Aa 2) (Aa 5),7,4,3]])))))
def zR:List D->R W:=Aj 8 MS
def OO:FE:=(AN (Ar (Ag (inD false) (Aa 2) (Aa 0))) (eC (.str "1")) (eC (.str "0")))
def NP:FS:=(Au [0,1] (iF "str" nW (eC (.str "")) #v[(Bn 1 (Bk Du #v[1]) (gC 2) (λ_=>.ok true) OO)]))
def CG:List D->R W:=Aj 2 NP
abbrev La:List Str:=["Peeled","Ordered","Buckets","Halved"]
def afS:FS:=(Gn 0 La "how_many" [1] (Aa 1))
def DK:List D->R (List Str×List D):=En 2 "Peeled" afS
def Qz:FE:=(Ag Gd (Aa 7) (Aa 5))
abbrev Lj:List Str:=["Peeled","Ordered"]
def z_5:FS:=(Ae (Ah 4 [1,2,3] (Az 3 ni #v[1,2,3])) (Ae (iA 0 "Peeled" [1] DK (Al Dd #v[1])) (Ae (Ah 5 [1,2] (Az 2 qz #v[Al Dd #v[1],2])) (Ae (Ah 6 [1,2,4] (Az 3 OC #v[1,4,2])) (Ae (Gn 0 Lj "own_table" [1,2,4,5,6] (Az 5 zR #v[1,4,2,2,(Bn 1 (Db (Aa 6)) (gC 7) (λ_=>.ok true) Qz)])) (Gn 0 ["Peeled"] "used_row" [2,5,6] (Az 2 CG #v[6,Ag Dm (Aa 2) (Aa 5)])))))))
def mq:List D->R (List Str×List D):=En 7 "Peeled" z_5
def afW:FS:=(Gn 0 La "how_many" [1] (Aa 1))
def DN:List D->R (List Str×List D):=En 2 "Ordered" afW
def x_8:FS:=(Ae (Ah 4 [1,2,3] (Az 3 ni #v[1,2,3])) (Ae (iA 0 "Ordered" [1] DN (Al Dd #v[1])) (Gn 0 Lj "own_table" [1,2,4] (Az 5 zR #v[1,4,2,Al Dd #v[1],gR Du #v[Al Dd #v[1]]]))))
def zK:List D->R (List Str×List D):=En 5 "Ordered" x_8
def MR:FS:=(Au [0,1] (Az 3 mU #v[0,eC (.int 0),1]))
def vn:List D->R W:=Aj 2 MR
def DI:FS:=(qT 2 (Az 2 vn #v[3,1]) (Aa 3))
def afF:FS:=(Ae (Ah 2 [] Hg) (Ae (Do [0] (Db (Aa 0)) (gV 3) DI) (Bq 2)))
def OR:List D->R W:=Aj 4 afF
def KZ:FS:=(Au [0,1,2] (Az 3 mU #v[0,Ag Bl (Aa 1) (eC (.int 1)),2]))
def uX:List D->R W:=Aj 3 KZ
def BY:FS:=(Ae (Ah 6 [1,2,5] (Az 3 uX #v[5,1,2])) (Ae (Bx [3,4,6] (Et (Ar (Ag (iT false) (Aa 6) (Aa 3))) (Ar (Ag (iT false) (Aa 6) (Aa 4)))) (Au [] (eC (.bl false))) Bi) (kh 4 [] (Aa 6) (eC (.bl true)))))
def adu:FS:=(Ae (Ah 4 [] Hg) (Ae (Do [0] (Db (Aa 0)) (gV 5) BY) (Au [] (eC (.bl true)))))
def Of:List D->R W:=Aj 7 adu
def ON:FS:=(Bx [0,1,2,4] (As (Az 4 Of #v[0,4,1,2])) (Bq 4) Bi)
def afh:FS:=(Ae (Do [3] (Bk Du #v[3]) (gV 4) ON) (Au [] (eC .aK)))
def vv:List D->R W:=Aj 5 afh
def uA:FE:=(rA #v[vY (Al Dd #v[Ag Dn (Aa 3) (Aa 9)]),9])
def QH:FS:=(kh 4 [] (Az 3 uX #v[8,7,Al Dd #v[0]]) (eC (.bl true)))
def QF:FS:=(Ae (nL 7 (nM [4] (Az 4 vv #v[Ag Dn (Aa 3) (Aa 6),Al Dd #v[0],4,2]))) (Ae (Bx [7] (Ar (Ag (nE false) (Aa 7) (eC .aK))) (Hf "NoFit" "at" [6] (Aa 6)) Bi) (Ae (kh 5 [7] (Aa 6) (Aa 7)) (Do [3,6] (Db (Ag Dn (Aa 3) (Aa 6))) (gV 8) QH))))
def afL:FS:=(Ae (Ah 3 [0,1] (Az 2 OR #v[0,1])) (Ae (Ah 4 [] Hg) (Ae (Ah 5 [] Hg) (Ae (Do [3] (Db (lR uA (Aa 3))) (gV 6) QF) (Bq 5)))))
def DA:List D->R W:=Aj 9 afL
def afV:FS:=(Gn 0 La "how_many" [1] (Aa 1))
def DM:List D->R (List Str×List D):=En 2 "Buckets" afV
def QD:FE:=(Az 1 kX #v[4])
def afE:FS:=(Ae (iA 0 "Buckets" [1] DM (Az 1 qA #v[1])) (Ae (Gn 0 ["Buckets"] "many_buckets" [2] (Aa 2)) (Gn 0 ["Buckets"] "by_bucket" [1,2,3] (Az 3 DA #v[(Bn 1 (Db (Aa 1)) (gC 4) (λ_=>.ok true) QD),2,3]))))
def zJ:List D->R (List Str×List D):=En 4 "Buckets" afE
def KY:FS:=(Au [0,1] (Ag vp (Aa 0) (Al maxD #v[1,eC (.int 1)])))
def tZ:List D->R W:=Aj 2 KY
def MQ:FT:=(Ar (Ag Ds (Az 3 mU #v[3,1,eC (.int 2)]) (Aa 2)))
def abr:FS:=(Au [0,1,2] (Bn 1 (Db (Aa 0)) (gC 3) MQ (Aa 3)))
def zI:List D->R W:=Aj 3 abr
def MP:FS:=(Au [0] (Ag Gd (Ag Bl (Aa 0) (eC (.int 1))) (eC (.int 2))))
def vm:List D->R W:=Aj 1 MP
def yS:FE:=(Az 3 mU #v[4,1,3])
def yL:FS:=(Ae (Ah 3 [0] (Al Dd #v[0])) (Ae (Bx [2,3] (As (Az 2 tZ #v[3,2])) (Au [0,1,3] (Ag Ds (xH (Bn 1 (Db (Aa 0)) (gC 4) (λ_=>.ok true) yS)) (Aa 3))) Bi) (Au [0,1,3] (Ag Ds (Al Dd #v[Az 3 zI #v[0,1,eC (.int 0)]]) (Az 1 vm #v[3])))))
def zQ:List D->R W:=Aj 4 yL
def Oz:FS:=(Bx [0,1,3] (As (Az 3 zQ #v[0,3,1])) (Bq 3) Bi)
def aek:FS:=(Ae (Do [2] (Bk Du #v[2]) (gV 3) Oz) (Au [] (eC .aK)))
def Oi:List D->R W:=Aj 4 aek
def pZ:FT:=(Ar (Ag DF (Al Dd #v[4]) (eC (.int 0))))
def vq:FS:=(Ae (gZ 5 4) (Ae (Ah 6 [1,2,5] (Az 3 Oi #v[5,1,2])) (Ae (Bx [6] (Ar (Ag (nE false) (Aa 6) (eC .aK))) (Hf "NoFit" "at" [3] (Al Dd #v[3])) Bi) (Ae (Co 3 (Aa 6)) (Bx [1,5] (Br (As (Az 2 tZ #v[Al Dd #v[5],1]))) (Ae (Co 4 (Az 3 zI #v[5,6,eC (.int 1)])) (Co 4 (Az 3 zI #v[5,6,eC (.int 0)]))) Bi)))))
def adt:FS:=(Ae (Ah 3 [] (Cc Ad)) (Ae (Ah 4 [0] (Cc #v[0])) (Ae (Fq [4] pZ vq 3000) (Bq 3))))
def BB:List D->R W:=Aj 7 adt
def afQ:FS:=(Gn 0 La "how_many" [1] (Aa 1))
def DJ:List D->R (List Str×List D):=En 2 "Halved" afQ
def Qy:FE:=(Az 1 kX #v[4])
def afx:FS:=(Ae (iA 0 "Halved" [1] DJ (Az 1 qA #v[1])) (Ae (Gn 0 ["Halved"] "leaf" [2] (Aa 2)) (jJ 0 ["Halved"] "salts" (Az 3 BB #v[(Bn 1 (Db (Aa 1)) (gC 4) (λ_=>.ok true) Qy),2,3]))))
def mn:List D->R (List Str×List Tn):=kg 4 "Halved" afx
def Oh:FS:=(Bx [0] (Ar (Ag Ds (Aa 0) (eC (.int 0)))) (Ah 3 [1,2] (gY "Peeled" 3 mq #v[1,Ag Bl (eC (.int 2)) (Ag Dc (Ag Bf (Aa 2) (eC (.int 1))) (eC (.int 2))),Ag Bl (eC (.int 1)) (Ag Dc (Ag Gd (Ag Bf (Aa 2) (eC (.int 1))) (eC (.int 2))) (eC (.int 30)))])) (Bx [0] (Ar (Ag Ds (Aa 0) (eC (.int 1)))) (Ah 3 [1,2] (gY "Ordered" 3 zK #v[1,Ag Bl (eC (.int 2)) (Ag Dc (Ag Bf (Aa 2) (eC (.int 1))) (eC (.int 2))),Ag Bl (eC (.int 1)) (Ag Dc (Ag Gd (Ag Bf (Aa 2) (eC (.int 1))) (eC (.int 2))) (eC (.int 30)))])) (Bx [0] (Ar (Ag Ds (Aa 0) (eC (.int 2)))) (Ah 3 [1,2] (gY "Buckets" 3 zJ #v[1,Ag Bl (eC (.int 1)) (Ag Dc (Ag Bf (Aa 2) (eC (.int 2))) (eC (.int 20))),Ag Bl (eC (.int 1)) (Ag Dc (Ag Gd (Ag Bf (Aa 2) (eC (.int 2))) (eC (.int 20))) (eC (.int 200)))])) (Ah 3 [1,2] (rH "Halved" 3 mn #v[1,Ag Bl (eC (.int 1)) (Ag Dc (Ag Bf (Aa 2) (eC (.int 3))) (eC (.int 6))),Ag Bl (eC (.int 1)) (Ag Dc (Ag Gd (Ag Bf (Aa 2) (eC (.int 3))) (eC (.int 6))) (eC (.int 200)))])))))
def aej:FS:=(Ah 3 [] (eC (.str "no try")))
def aei:FS:=(Ah 3 [] (eC (.str "no fit")))
abbrev To:List (Str×Bool):=[("NoFit",false),("NoKey",false),("NoKeys",false),("NoTry",true),("Twice",false)]
abbrev Tj:List (Str×Bool):=[("NoFit",true),("NoKey",false),("NoKeys",false),("NoTry",false),("Twice",false)]
def acF:FS:=(Ae (Ah 3 [] (eC .aK)) (Ae (jK Oh [⟨none, To,aej⟩,⟨none, Tj,aei⟩]) (Bq 3)))
def qw:List D->R W:=Aj 4 acF
def MO:FS:=(Au [0] (eW (qb "int" (Aa 0)) (rB (qb "bool" (Aa 0)))))
def zP:List D->R W:=Aj 1 MO
def Ny:FS:=(Au [0,1] (iF "str" om (By (Aa 0) Df (Cz (Al maxD #v[1,eC (.int 0)]))) #v[eC (.str "1")]))
def BQ:List D->R W:=Aj 2 Ny
def NH:FS:=(Au [0,1] (Az 4 pX #v[1,Ch ["Table"] "by_salt" (Aa 0),Ch ["Table"] "kind" (Aa 0),Ch ["Table"] "part" (Aa 0)]))
def qa:List D->R W:=Aj 2 NH
def NO:FS:=(Au [0,1] (Dl "places" 1 [("Table",qa)] (Ch Lj "own_table" (Aa 0)) #v[1]))
def ux:List D->R W:=Aj 2 NO
def Nx:FS:=(Au [0,1] (Az 3 tU #v[Ch ["Table"] "listed" (Aa 0),Dl "places" 1 [("Table",qa)] (Aa 0) #v[1],Ch ["Table"] "modulus" (Aa 0)]))
def nq:List D->R W:=Aj 2 Nx
def x_9:FS:=(Ae (Ah 2 [0,1] (Ag Bf (Dl "places" 1 [("Peeled",ux)] (Aa 0) #v[1]) (Dl "total" 1 [("Table",nq)] (Ch Lj "own_table" (Aa 0)) #v[1]))) (Au [0,2] (Az 2 BQ #v[Ch ["Peeled"] "used_row" (Aa 0),2])))
def AO:List D->R W:=Aj 3 x_9
def v_3:FS:=(Au [0,1] (Dl "total" 1 [("Table",nq)] (Ch Lj "own_table" (Aa 0)) #v[1]))
def AR:List D->R W:=Aj 2 v_3
def v_4:FS:=(Au [0,1] (wo (Ch ["Buckets"] "by_bucket" (Aa 0)) (Aa 1) (eC (.int 0))))
def uz:List D->R W:=Aj 2 v_4
def NS:FS:=(Au [0,1] (Az 2 vn #v[Az 1 kX #v[1],Ch ["Buckets"] "many_buckets" (Aa 0)]))
def qN:List D->R W:=Aj 2 NS
def v_5:FS:=(Au [0,1] (Az 3 uX #v[Az 1 kX #v[1],Dl "number_in" 1 [("Buckets",uz)] (Aa 0) #v[Dl "bucket" 1 [("Buckets",qN)] (Aa 0) #v[1]],Ch La "how_many" (Aa 0)]))
def AQ:List D->R W:=Aj 2 v_5
def Oy(e1:AF):FS:=(Ae (Bx [0,1] (As (Az 2 tZ #v[0,1])) (Au [] (eC (.int 1))) Bi) (Ae (Ah 2 [0] (Az 1 vm #v[0])) (Au [0,1,2] (Ag Bl (Ag Bl (eC (.int 1)) (Az 2 e1 #v[2,1])) (Az 2 e1 #v[Ag jz (Aa 0) (Aa 2),1])))))
def vt:Nat->List D->R W|0=>λ_=>.no|n+1=>Aj 3 (Oy (vt n))
def DH:FT:=(Br (As (Az 2 tZ #v[3,Ch ["Halved"] "leaf" (Aa 0)])))
def OV:FS:=(Ae (Ah 6 [3] (Az 1 vm #v[3])) (Bx [0,2,4] (Ar (Ag Ds (Az 3 mU #v[2,Ag Bf (Ch ["Halved"] "salts" (Aa 0)) (Aa 4),eC (.int 2)]) (eC (.int 0)))) (Ae (Ah 4 [4] (Ag Bl (Aa 4) (eC (.int 1)))) (Ah 3 [6] (Aa 6))) (Ae (Ah 4 [0,4,6] (Ag Bl (Ag Bl (Aa 4) (eC (.int 1))) (Az 2 (vt 70) #v[6,Ch ["Halved"] "leaf" (Aa 0)]))) (Ae (Ah 5 [5,6] (Ag Bl (Aa 5) (Aa 6))) (Ah 3 [3,6] (Ag jz (Aa 3) (Aa 6)))))))
def afD:FS:=(Ae (Ah 2 [1] (Az 1 kX #v[1])) (Ae (Ah 3 [0] (Ch La "how_many" (Aa 0))) (Ae (Ah 4 [] (eC (.int 0))) (Ae (Ah 5 [] (eC (.int 0))) (Ae (Fq [0,3] DH OV 3000) (Au [0,2,3,4,5] (Ag Bl (Aa 5) (Az 3 mU #v[2,Ag Bf (Ch ["Halved"] "salts" (Aa 0)) (Aa 4),3]))))))))
def DP:List D->R W:=Aj 7 afD
abbrev Qa:List (Str×(AF)):=[("Peeled",AO),("Ordered",AR),("Buckets",AQ),("Halved",DP)]
def Nw:FS:=(Au [0,1] (Al minD #v[Dl "number_of" 1 Qa (Aa 0) #v[1],Ag jz (Ch La "how_many" (Aa 0)) (eC (.int 1))]))
def mJ:List D->R W:=Aj 2 Nw
abbrev AX:List (Str×(AF)):=[("Peeled",mJ),("Ordered",mJ),("Buckets",mJ),("Halved",mJ)]
def afr:FE:=(Dl "room" 1 AX (Aa 0) #v[2])
def afg:FS:=(Ae (Di [1] (Az 1 zU #v[1])) (Au [0,1] (Bn 1 (Db (Aa 1)) (gC 2) (λ_=>.ok true) afr)))
def nv:List D->R W:=Aj 2 afg
def Nv:FS:=(Au [0] (Ch La "how_many" (Aa 0)))
def nu:List D->R W:=Aj 1 Nv
def aeS:FE:=(Dl "room" 1 AX (Aa 0) #v[10])
def Nu:FT:=(Br (As (Az 1 zP #v[10])))
def Nt:FS:=(Ae (Ah 9 [0,7] (Dl "room" 1 AX (Aa 0) #v[7])) (Bx [4,9] (Et (Br (As (Az 1 zP #v[9]))) (Et (Ar (Ag CF (Aa 9) (eC (.int 0)))) (Ar (Ag Rt (Aa 9) (Aa 4))))) (Au [] (eC (.bl false))) Bi))
def aeR:FE:=(Dl "room" 1 AX (Aa 0) #v[10])
def Nr:FS:=(Ah 4 [1] (Al Dd #v[1]))
abbrev AW:List (Str×(AF)):=[("Peeled",nv),("Ordered",nv),("Buckets",nv),("Halved",nv)]
def aeQ:FS:=(Ah 5 [0,1] (Dl "rooms" 1 AW (Aa 0) #v[Al pI #v[1]]))
abbrev Ti:List (Str×(AF)):=[("Peeled",nu),("Ordered",nu),("Buckets",nu),("Halved",nu)]
def aeP:FS:=(Bx [0,4,5] (Et (Br (As (qb "list" (Aa 5)))) (Et (Ar (Ag Gz (Al nN #v[5]) (gR Du #v[4]))) (Ar (Ag Gz (Dl "many" 0 Ti (Aa 0) Ad) (Aa 4))))) (Au [] (eC (.bl false))) Bi)
def aeO:FS:=(Bx [3,4,5] (Ex (Ar (Ag Ds (Aa 3) (eC (.int 1)))) (Ar (Ag Gz (Aa 5) (gR Du #v[4])))) (Au [] (eC (.bl false))) Bi)
def aeN:FS:=(Ah 6 [0,1] (Bn 1 (Hr (Aa 1)) (gC 10) (λ_=>.ok true) aeS))
def aeM:FS:=(Bx [5,6] (Et (Ar (Ag Gz (Bn 1 (Hr (Aa 6)) (gC 10) (λ_=>.ok true) (Aa 10)) (Aa 5))) (Ar (Ag Gz (Bn 1 (Db (Aa 5)) (gC 10) Nu (Aa 10)) (Cc Ad)))) (Au [] (eC (.bl false))) Bi)
def aeL:FS:=(Do [2] (Db (Aa 2)) (gV 7) Nt)
def aeK:FS:=(Ah 8 [1,2] (Ag Bl (Ag Bl (Ag Bl (Aa 2) (Bn 1 (Hr (Aa 1)) (gC 10) (λ_=>.ok true) (Aa 10))) (By (Aa 1) Df (Cz (eC (.int 2))))) (By (Aa 2) Df (Cz (eC (.int 1))))))
def aeJ:FS:=(Bx [0,8] (Ar (Ag Gz (Dl "rooms" 1 AW (Aa 0) #v[Al pI #v[8]]) (Bn 1 (Db (Aa 8)) (gC 10) (λ_=>.ok true) aeR))) (Au [] (eC (.bl false))) Bi)
def aff:FS:=(Au [0,1,5] (Ag Ds (Dl "rooms" 1 AW (Aa 0) #v[Al pI #v[1]]) (Aa 5)))
def ads:FS:=(Ae Nr (Ae aeQ (Ae aeP (Ae aeO (Ae aeN (Ae aeM (Ae aeL (Ae aeK (Ae aeJ aff)))))))))
def BA:List D->R W:=Aj 10 ads
noncomputable abbrev uG:List (Str×Bool):=[("Peeled",false),("Ordered",false),("Buckets",false),("Halved",false)]
def acE:FS:=(Ae (Bx [0] (As (Hn uG "str" (Aa 0))) (Bq 0) Bi) (Au [0,1] (Dl "rooms" 1 AW (Aa 0) #v[Al pI #v[1]])))
def uf:List D->R W:=Aj 2 acE
def xx:FT:=(Ar (Ag (inD true) (Aa 10) (Aa 2)))
abbrev Qb:List (Str×Bool):=[("Peeled",true),("Ordered",true),("Buckets",true),("Halved",true)]
def xw:FS:=(Ae (Ah 8 [2] (Al pI #v[2])) (Ae (nK 9 8 (Az 3 qw #v[5,8,1])) (Ae (Bx [2,8] (Ar (Ag Gz (Aa 8) (Aa 2))) (Au [] (eC (.bl false))) Bi) (Ae (Co 8 (eC (.str "later"))) (Ae (Co 4 (Aa 9)) (Bx [9] (As (Hn uG "str" (Aa 9))) (Bx [5,9] (Ar (Ag Gz (Aa 9) (Ag Bf (Cc #v[eC (.str "no try"),eC (.str "no try"),eC (.str "no fit"),eC (.str "no fit")]) (Aa 5)))) (Au [] (eC (.bl false))) Bi) (Bx [2,3,5,9] (Et (Br (As (nF Qb (Aa 9)))) (Br (As (Az 4 BA #v[9,2,3,5])))) (Au [] (eC (.bl false))) Bi)))))))
def IJ:FE:=(Az 2 uf #v[10,2])
def xu:FT:=(Ar (Ag (inD true) (Aa 11) (By (Aa 7) Df (Cz (Aa 10)))))
def Yf:FS:=(Di [1,5,7] (Az 3 qw #v[5,7,1]))
def II:FS:=(Bx [2,3,4,5] (Ex (Br (As (Hn uG "str" (Ag Bf (Aa 4) (Aa 5))))) (Br (As (Az 4 BA #v[Ag Bf (Aa 4) (Aa 5),2,3,5])))) (Au [] (eC (.bl false))) Bi)
def IH:FE:=(Az 2 uf #v[10,2])
def Ye:FS:=(Ah 1 [0] (Az 2 BC #v[0,eC (.int 140)]))
def Yd:FS:=(Ah 2 [1] (Az 3 qc #v[1,eC (.int 4),Ag Bl (eC (.int 1)) (Ag Dc (Ag Bf (Aa 1) (eC (.int 0))) (eC (.int 40)))]))
def Yc:FS:=(Ah 3 [1,2] (Bn 1 (Db (Az 3 qc #v[1,eC (.int 124),eC (.int 5)])) (gC 10) xx (Aa 10)))
def Yb:FS:=(Ah 4 [] (Cc Ad))
def IG:FS:=(Do [] (Bk Du #v[eC (.int 4)]) (gV 5) xw)
def Ya:FS:=(Ah 6 [2,4] (Bn 1 (Db (Aa 4)) (gC 10) (λ_=>.ok true) IJ))
def IF:FS:=(Ah 7 [2,3] (Ag Bl (Ag Bl (Aa 3) (Bn 1 (Hr (By (Aa 2) (Cz (eC (.int 1))) Df)) (gC 10) (λ_=>.ok true) (Aa 10))) (Cc #v[Ag Bf (Cc #v[eC (.int 7),eC (.str "7")]) (Al rQ #v[Ag (inD false) (eC (.int 7)) (Aa 2)])])))
def IE:FS:=(Ah 7 [7] (Bn 2 (fC (Aa 7)) (Ru 10 11) xu (Aa 11)))
def IC:FS:=(Do [] (Bk Du #v[eC (.int 4)]) (gV 5) Yf)
def JM:FS:=(Do [] (Bk Du #v[eC (.int 4)]) (gV 5) II)
def L':FS:=(Au [2,4,6] (eW (Ag Ds (Aa 6) (Bn 1 (Db (Aa 4)) (gC 10) (λ_=>.ok true) IH)) (Ag Ds (Hn uG "str" (Ag Bf (Aa 4) (eC (.int 0)))) (Hn uG "str" (Ag Bf (Aa 4) (eC (.int 1)))))))
def UY:FS:=(Ae Ye (Ae Yd (Ae Yc (Ae Yb (Ae IG (Ae Ya (Ae IF (Ae IE (Ae IC (Ae JM L'))))))))))
def FU:List D->R W:=Aj 10 UY
end My
namespace L3
open PySem L2
def jr:Nat->D->Bool|_,.aK=>true|_,.bl _=>true|_,.int _=>true|_,.str x=>x.cps.all (· <0x110000)|n+1,.lst M=>M.all (jr n)|n+1,.tup M=>M.all (jr n)|_,_=>false
def K':∀(n:Nat) (d:D),jr n d=true->(Dt d).canLay0=true/\(Dt d).depth<=n/\(Dt d).eqv (Dt d)=true:=by
 intro n;induction n with
 |zero=>intro d h;cases d with|aK=>exact⟨rfl,A9 _,rfl⟩|bl b=>exact⟨rfl,A9 _,by cases b<;>rfl⟩|int i=>exact⟨rfl,A9 _,by show(i ==i)=true;simp⟩|str x=>exact⟨h,A9 _,by show(x ==x)=true;simp⟩|_=>cases h
 |succ n ih=>
  have all:∀M:List D,M.all (jr n)=true->PyData.canLayAll0 (Eg M)=true/\PyData.depthAll (Eg M)<=n/\PyData.eqvAll (Eg M) (Eg M)=true:=by intro M;induction M with|nil=>intro _;exact⟨rfl,L1 _,rfl⟩|cons d M ih2=>intro h;rw[Q6,C6]at h;obtain⟨a1,a2,a3⟩:=ih d h.1;obtain⟨b1,b2,b3⟩:=ih2 h.2;refine⟨?_,?_,?_⟩;show(PyData.canLay0 (Dt d)&&PyData.canLayAll0 (Eg M))=true;rw[a1,b1];rfl;show max (PyData.depth (Dt d)) (PyData.depthAll (Eg M))<=n;exact Nat.max_le.mpr ⟨a2,b2⟩;show(PyData.eqv (Dt d) (Dt d)&&PyData.eqvAll (Eg M) (Eg M))=true;rw[a3,b3];rfl
  intro d h;cases d with|aK=>exact⟨rfl,L1 _,rfl⟩|bl b=>exact⟨rfl,L1 _,by cases b<;>rfl⟩|int i=>exact⟨rfl,L1 _,by show(i ==i)=true;simp⟩|str x=>exact⟨h,L1 _,by show(x ==x)=true;simp⟩|lst M=>obtain⟨b1,b2,b3⟩:=all M h;exact⟨b1,Nat.succ_le_succ b2,b3⟩|tup M=>obtain⟨b1,b2,b3⟩:=all M h;exact⟨b1,Nat.succ_le_succ b2,b3⟩|_=>cases h
def JL{n:Nat}{d:D}(h:jr n d=true)(hn:n<=60):kG d d=true/\Gu d d=true:=by obtain⟨a1,a2,a3⟩:=K' n d h;refine⟨?_,a3⟩;unfold kG;rw[a1,F4 (D2 a2 hn)];rfl
def xX{d:D}(n:Nat)(h:jr n d=true)(hn:n<=60:=by decide):Ds d d=.ok (.sh (.bl true)):=by obtain⟨h1,h2⟩:=JL h hn;unfold Ds;split;simp;rw[if_pos h1,h2]
def sL{d:D}(n:Nat)(h:jr n d=true)(hn:n<=60:=by decide):Gz d d=.ok (.sh (.bl false)):=by obtain⟨h1,h2⟩:=JL h hn;unfold Gz;split;simp;rw[if_pos h1,h2];rfl
def XZ(n:Nat)(i:Int):jr n (.int i)=true:=by cases n<;>rfl
def JK(n:Nat){α:Type}(f:α->Int)(l:List α):(l.map λa=>D.int (f a)).all (jr n)=true:=by rw[F9];intro d hd;obtain⟨a,_,rfl⟩:=D3.mp hd;exact XZ n _
theorem yq{α:Type}(f:α->Int):∀l:List α,Fk (l.map λa=>D.int (f a))=some (l.map f)|[]=>rfl|a::l=>by show(Fk (l.map λa=>D.int (f a))).map (f a:: ·)=_;rw[yq f l];rfl
def VZ{α:Type}(f:α->Int)(l:List α):nB [.lst (l.map λa=>D.int (f a))]=.ok (.sh (.int (l.map f).sum)):=by unfold nB;simp only[yq]
def nJ{n i:Nat}(h:i<n):iS n (i:Int)=some i:=by unfold iS;rw[if_pos (),if_pos ()];simp
def Hx{α:Type}{xs:List α}{i:Nat}{x:α}(h:xs[i]?=some x):dP xs (i:Int)=some x:=by unfold dP;rw[nJ (A7.mp h).1];exact h
end L3
namespace My
open PySem L2 L3
def GV{α:Type}(l:List α)(a:Nat)(h:a<=l.length):Ey l none (some (a:Int))=l.take a:=by
 unfold Ey;have S:HT.cJ l.length 0 none=0:=rfl;have e2:HT.cJ l.length l.length (some (a:Int))=a:=by show(if(a:Int)<0 then((a:Int)+(l.length:Int)).toNat else min (a:Int).toNat l.length)=a;rw[if_neg ()];lia
 rw[S,e2,Sz,Nat.sub_zero]
section
variable{g h:FS}{B Δ' Δ1:SE}{r:Fl}{js:List Nat}{t:FT}{d:D}{M:List D}{x:Xn}{w:W}{fg:FG}
def sq(e:g B=.nx Δ')(k:h Δ'=r):Ae g h B=r:=(HD e).trans k
def BJ(e:g B=.rt w):Ae g h B=.rt w:=by unfold Ae;rw[e]
def BI(e:g B=.ex x Δ'):Ae g h B=.ex x Δ':=by unfold Ae;rw[e]
def mY(e:t (At B)=.ok true):Bx js t g h B=g B:=by unfold Bx;rw[e];rfl
def Es(e:t (At B)=.ok false):Bx js t g h B=h B:=by unfold Bx;rw[e];rfl
def fR(e:fg d B=.ok Δ1)(k:g Δ1=.nx Δ'):Dj fg g (d::M) B=Dj fg g M Δ':=by simp only[Dj,e,k]
def wd(e:fg d B=.ok Δ1)(k:g Δ1=.rt w):Dj fg g (d::M) B=.rt w:=by simp only[Dj,e,k]
def UX(e:fg d B=.ok Δ1)(k:g Δ1=.ex x Δ'):Dj fg g (d::M) B=.ex x Δ':=by simp only[Dj,e,k]
def zH{n:Nat}(e:t (At B)=.ok true)(k:g B=.nx Δ'):Fq js t g (n+1) B=Fq js t g n Δ':=by simp only[Fq,e,k,if_true]
def Qj{n:Nat}(e:t (At B)=.ok false):Fq js t g (n+1) B=.nx B:=by unfold Fq;rw[e];rfl
def Gr{fi:FI}(e:fi (Ay B)=.ok M)(k:Dj fg g M B=r):Do js fi fg g B=r:=by unfold Do;rw[e];exact k
def nC{i:Nat}{f:FE}(e:f (Ay B)=.ok (.ow d)):Ah i js f B=.nx (B.set i (.ow d)):=by unfold Ah;rw[e]
def lx{i:Nat}{f:FE}(e:f (Ay B)=.ok (.sh d)):Ah i js f B=.nx (B.set i (.sh d)):=by unfold Ah;rw[e]
def ly{i:Nat}{f:FE}(e:f (Ay B)=.ex x):Ah i js f B=.ex x B:=by unfold Ah;rw[e]
def setG{i:Nat}{f:FE}{w0:W}(h0:f (Ay B)=.no)(h1:f (At B)=.ok w0)(h2:Av w0.d=false)(e:f (Ay (aE js B))=.ok (.ow d)):Ah i js f B=.nx ((aE js B).set i (.ow d)):=by unfold Ah;rw[h0,h1];simp only[h2,e,F6,L5,Dy]
def FR{f:FE}{δ:DE}{m:Nat}{fi:FI}{fg:fW}{p:FT}{δ1:DE}(h:fi δ=.ok (d::M))(hl:(d::M).length<=16777216)(e:fg d (δ++List.replicate m none)=.ok δ1)(k:p δ1=.no):Bn m fi fg p f δ=.no:=by unfold Bn;rw[h,R.aD,if_pos hl,eJ,e,R.aD,k];rfl
def TH{hs:List Hd}(e:g B=.nx Δ'):jK g hs B=.nx Δ':=by unfold jK;rw[e]
def EW{hs:List Hd}(e:g B=.ex x Δ')(k:Hh hs x Δ'=r):jK g hs B=r:=by unfold jK;rw[e];exact k
def ret{f:FE}(e:f (At B)=.ok w):Au js f B=.rt w:=by unfold Au;rw[e]
def rG{f:FE}{δ:DE}(e:f δ=.ok w):Ab f Ad δ=.ok [w.d]:=by unfold Ab Ad;rw[e];rfl
def wc{c:AF}{f:FE}{δ:DE}{a:R W}(e:f δ=.ok w)(k:c [w.d]=a):Al c #v[f] δ=a:=by unfold Al;rw[rG e];exact k
def eY{c:D->D->R W}{f f':FE}{δ:DE}{w w':W}{b:Bool}(e:f δ=.ok w)(e':f' δ=.ok w')(k:c w.d w'.d=.ok (.sh (.bl b))):Ar (Ag c f f') δ=.ok b:=by unfold Ar Ag;rw[e,R.aD,e',R.aD,k];rfl
def Em{m:Nat}{fi:FI}{fg:fW}{f:FE}{δ:DE}(F:D->D)(h:fi δ=.ok M)(hl:M.length<=16777216)(k:∀d∈M,∃δ1 w,fg d (δ++List.replicate m none)=.ok δ1/\f δ1=.ok w/\w.d=F d):Bn m fi fg (λ_=>.ok true) f δ=.ok (.ow (.lst (M.map F))):=by refine pP h hl ((qu (λ_=>true) F M λd hd=>?_).trans (by rw[W3.mpr λ_ _=>rfl]));obtain⟨δ1,w,a,b,c⟩:=k d hd;exact⟨δ1,a,rfl,λ_=>⟨w,b,c⟩⟩
end
section
variable{B Δ':SE}{c f:Str}{n:Nat}{g:FS}{ns:List Str}{ts:List Tn}{M vs:List D}{w:W}{x:Xn}{js:List Nat}{fe:FE}{cs:List Str}
def lE(c:Str):Fl->R (List Str×List D)|.nx B=>(match B[(0:Nat)]? with|some (.lt (.obj c' ns ts))=>if c'=c then(match uT ts with|some rs=>.ok (ns,rs)|none=>.no) else .no|_=>.no)|.ex x _=>.ex x|_=>.no
def ql{q:R (List Str×List D)}{g h:FS}(e:g B=.nx Δ')(k:lE c (h Δ')=q):lE c (Ae g h B)=q:=by rw[HD e];exact k
def wb(e:g (mC n c M)=.ex x B):En n c g M=.ex x:=by unfold En;rw[e]
def lD(hg:aE js B=.lt (.obj c ns ts)::Δ')(hc:cs.contains c=true/\ns.contains f=false/\ns.length<1000)(he:fe (none::Ay Δ')=.ok w):Gn 0 cs f js fe B=.nx (.lt (.obj c (ns++[f]) (ts++[.sh w.d]))::Δ'):=by unfold Gn;rw[hg,show Ay (.lt (.obj c ns ts)::Δ')=none::Ay Δ' from rfl,he];simp only[K0,if_pos hc,R3]
def vW(hg:aE js B=.lt (.obj c ns ts)::Δ')(hc:cs.contains c=true/\ns.contains f=false/\ns.length<1000)(he:fe (none::Ay Δ')=.ok w){CB:List Str}(hn:ns++[f]=CB)(hu:uT (ts++[.sh w.d])=some vs):lE c (Gn 0 cs f js fe B)=.ok (CB,vs):=by rw[lD hg hc he,<-hn];simp only[lE,K0,if_true,hu]
def UH(hg:aE js B=.lt (.obj c ns ts)::Δ')(hc:cs.contains c=true/\ns.contains f=false/\ns.length<1000)(he:fe (none::Ay Δ')=.ex x):Gn 0 cs f js fe B=.ex x (.lt (.obj c ns ts)::Δ'):=by unfold Gn;rw[hg,show Ay (.lt (.obj c ns ts)::Δ')=none::Ay Δ' from rfl,he];simp only[K0,if_pos hc]
def lH{F:List D->R (List Str×List D)}(hg:aE js B=.lt (.obj c [] [])::Δ')(he:fe (none::Ay Δ')=.ok w)(hF:F [w.d]=.ok (ns,vs)):iA 0 c js F fe B=.nx (.lt (.obj c ns (vs.map .sh))::Δ'):=by unfold iA;rw[hg,show Ay (.lt (.obj c [] [])::Δ')=none::Ay Δ' from rfl,he];simp only[K0,hF,if_true,R3]
end
section
variable{nm c f:Str}{k:Nat}{ns cs:List Str}{vs M:List D}{tb:List (Str×(AF))}{F:AF}{fo:FE}{fa:FA}{δ:DE}{r:D}
def Hj(h:fo δ=.ok (.sh (.obj c ns vs)))(h1:cs.contains c=true)(h2:(ns.zip vs).lookup f=some r):Ch cs f fo δ=.ok (.sh r):=by simp only[Ch,h,R.aD,W.dC,h1,h2,if_true]
def Gw(h:fo δ=.ok (.sh (.obj c ns vs)))(ha:fa δ=.ok M)(hk:M.length=k)(h1:ns.contains nm=false)(h2:tb.lookup c=some F):Dl nm k tb fo fa δ=F (.obj c ns vs::M):=by simp only[Dl,h,R.aD,W.dC,h1,F6,L5,h2,ha,hk,if_true]
end
def Eb(l:List Nat):List D:=l.map λ(b:Nat)=>D.int (b:Int)
def gU{f:FE}{δ:DE}{m:Nat}(e:f δ=.ok (.sh (.int (m:Int))))(h:m<=100000):Bk Du #v[f] δ=.ok (Eb (List.range m)):=by simp![An,e,tO (show(-4611686018427387903:Int)<=(m:Int) by lia) (),K6];unfold Eh Eb;exact K5 _ (C8 λk _=>by rw[W0])
theorem sW{fg:FG}{g:FS}(st:Sl->SE)(Q:Nat->Prop)(hg:∀(t:Nat) a,fg (.int (t:Int)) (st a)=.ok (st (.sh (.int (t:Int))))):∀(ts:List Nat) (a:Sl),(∀t∈ts,g (st (.sh (.int (t:Int))))=.nx (st (.sh (.int (t:Int))))\/g (st (.sh (.int (t:Int))))=.rt (.sh (.int (t:Int)))/\Q t)->∃r,Dj fg g (Eb ts) (st a)=r/\((∃Δ',r=.nx Δ')\/∃s:Nat,r=.rt (.sh (.int (s:Int)))/\Q s)|[],a,_=>⟨_,rfl,.inl ⟨_,rfl⟩⟩|t::ts,a,h=>by rcases h t (.head _)with e|⟨e,q⟩;obtain⟨r,e2,p⟩:=sW st Q hg ts (.sh (.int (t:Int))) λq hq=>h q (.tail _ hq);exact⟨r,(fR (hg t a) e).trans e2,p⟩;exact⟨.rt (.sh (.int (t:Int))),wd (hg t a) e,.inr ⟨t,rfl,q⟩⟩
def wa{n:Nat}{g:FS}{M:List D}{x:Xn}{B:SE}(e:g (Bh n M)=.ex x B):Aj n g M=.ex x:=by unfold Aj;rw[e]
noncomputable def vP(c k:Int):Int:=((c+1)*(48271+118*k)%2147483629/977*16807+(c+1)*(48271+118*k)%2147483629*(k*k+7)+k)%2147483587
def GU(c k:Int)(h1:-2000<=k)(h2:k<=2000):zL [.int c,.int k]=.ok (.sh (.int (vP c k))):=by
 have hk:-18446744073709551616<k*k+7/\k*k+7<18446744073709551616:=by
  have:k*k<=2000*2000:=by rcases Su 0 k with h|h;exact X3 h2 h2 h ⋯;have:(-k)*(-k)<=2000*2000:=X3 () () () ⋯;rwa[Int.neg_mul_neg]at this
  have:0<=k*k:=by rcases Su 0 k with h|h;exact V5 h h;have:=V5 (a:= -k) (b:= -k) () ();rwa[Int.neg_mul_neg]at this
  lia
 have m1:Fh 118 k=true:=fY ⋯ ⋯;have m2:Fh (c+1) (48271+118*k)=true:=oh () ();have m3:∀z:Int,Fh z 16807=true:=λz=>oh ⋯ ⋯;have m4:Fh k k=true:=fY () ();have m5:∀z:Int,Fh z (k*k+7)=true:=λz=>oh hk.1 hk.2;simp![zL,Li,An,Gi m1,Gi m2,Gi (m3 _),Gi m4,Gi (m5 _),Gh,jn (show(0:Int)<977 by decide) ⋯,Fw (show(0:Int)<2147483629 by decide),Fw (show(0:Int)<2147483587 by decide)];rfl
def Bv(l:List Nat):Str:=⟨l.toArray⟩
def qm(l:List Nat):(Bv l).cps.toList=l:=by simp[Bv]
def jR(l:List Nat):(Bv l).length=l.length:=by rw[jU,qm]
def XY(a b:List Nat):Bv a++Bv b=Bv (a++b):=IS (by rw[YG,qm,qm,qm])
noncomputable def pL:List Nat:=[97,98,99,100,101,102,103,104,105,106,107,108,109,110,111,112,113,114,115,116,117,118,119,120,121,122,48,49,50,51,52,53,54,55,56,57,45,95,32]
def XX:(Str.ofString "abcdefghijklmnopqrstuvwxyz0123456789-_ ").cps.toList=pL:=by decide +kernel
def isKey(d:D):Prop:=(∃n:Int,d=.int n/\0<=n/\n<=999999999999999999)\/(∃l:List Nat,d=.str (Bv l)/\l.length<=11/\∀c∈l,c∈pL)
def isKey.flat{d:D}(h:isKey d):Av d=true:=by rcases h with⟨n,rfl,_⟩|⟨l,rfl,_⟩<;>rfl
def UW(r:Int):∃c∈pL,Bf (.str "abcdefghijklmnopqrstuvwxyz0123456789-_ ") (.int (r%39))=.ok (.sh (.str (Bv [c]))):=by
 have h0:=R7 r (show(39:Int)≠0 by decide);have h1:=R4 r (show(0:Int)<39 by decide);have hl:(r%39).toNat<pL.length:=by show(r%39).toNat<39;lia
 refine⟨pL[(r%39).toNat],V9 hl,YE nofun ?_⟩;rw[XX];exact Wl h0 (B1 hl)
def IB{a b:D}(ha:isKey a)(J:isKey b):RD a b=true↔a=b:=by rcases ha with⟨n,rfl,_⟩|⟨l,rfl,_⟩<;>rcases J with⟨m,rfl,_⟩|⟨k,rfl,_⟩;show(n ==m)=true↔_;rw[N4];exact⟨λh=>by rw[h],λh=>by injection h⟩;show false=true↔_;exact⟨λh=>(by cases h),λh=>(by cases h)⟩;show false=true↔_;exact⟨λh=>(by cases h),λh=>(by cases h)⟩;show(Bv l ==Bv k)=true↔_;rw[N4];exact⟨λh=>by rw[h],λh=>by injection h⟩
def mem_iff{d:D}{L:List D}(hd:isKey d)(hk:∀k∈L,isKey k):Dz d L=true↔d∈L:=by unfold Dz;rw[T5];constructor;rintro ⟨y,hy,h⟩;rw[<-(IB (hk y hy) hd).mp h];exact hy;intro h;exact⟨d,h,(IB hd hd).mpr rfl⟩
def xW{L:List D}(hk:∀k∈L,isKey k):L.all Av=true:=F9.mpr λk h=>(hk k h).flat
def xV{d:D}{L:List D}(hd:isKey d)(hk:∀k∈L,isKey k):inD true d (.lst L)=.ok (.sh (.bl (!Dz d L))):=by
 have h:(Av d&&L.all Av)=true:=by rw[hd.flat,xW hk];rfl
 rcases hd with⟨n,rfl,_⟩|⟨l,rfl,_⟩;exact if_pos h;exact if_pos h
def XW{d:D}(h:isKey d):PyData.canLay0 (Dt d)=true/\PyData.depth (Dt d)=0:=by
 rcases h with⟨n,rfl,_⟩|⟨l,rfl,_,hc⟩;exact⟨rfl,rfl⟩;refine⟨?_,rfl⟩;show(Bv l).cps.all (· <0x110000)=true;rw[<-Array.all_toList,qm,F9];intro c h;have:c∈pL:=hc c h;have:∀c∈pL,c<0x110000:=by decide
 exact F4 (this c (hc c h))
theorem sJ:∀{L:List D},(∀k∈L,isKey k)->PyData.canLayAll0 (Eg L)=true/\PyData.depthAll (Eg L)=0|[],_=>⟨rfl,rfl⟩|k::L,h=>by obtain⟨a1,a2⟩:=XW (h k K7);obtain⟨b1,b2⟩:=sJ λx hx=>h x (D5 _ hx);refine⟨?_,?_⟩;show(PyData.canLay0 (Dt k)&&PyData.canLayAll0 (Eg L))=true;rw[a1,b1];rfl;show max (PyData.depth (Dt k)) (PyData.depthAll (Eg L))=0;rw[a2,b2];rfl
def JJ{L js:List D}(hk:∀k∈L,isKey k)(hj:∀k∈js,isKey k):kG (.lst L) (.lst js)=true:=by unfold kG;rw[C6,C6];refine⟨⟨(sJ hk).1,(sJ hj).1⟩,F4 ?_⟩;show PyData.depthAll (Eg L)+1<=60;rw[(sJ hk).2];decide
def XU{a b:D}(ha:isKey a)(J:isKey b):PyData.eqv (Dt a) (Dt b)=true↔a=b:=by rcases ha with⟨n,rfl,_⟩|⟨l,rfl,_⟩<;>rcases J with⟨m,rfl,_⟩|⟨k,rfl,_⟩;show(n ==m)=true↔_;rw[N4];exact⟨λh=>by rw[h],λh=>by injection h⟩;show false=true↔_;exact⟨λh=>(by cases h),λh=>(by cases h)⟩;show false=true↔_;exact⟨λh=>(by cases h),λh=>(by cases h)⟩;show(Bv l ==Bv k)=true↔_;rw[N4];exact⟨λh=>by rw[h],λh=>by injection h⟩
theorem JI:∀{L js:List D},(∀k∈L,isKey k)->(∀k∈js,isKey k)->(PyData.eqvAll (Eg L) (Eg js)=true↔L=js)|[],[],_,_=>⟨λ_=>rfl,λ_=>rfl⟩|[],_::_,_,_=>⟨λh=>(by cases h),λh=>(by cases h)⟩|_::_,[],_,_=>⟨λh=>(by cases h),λh=>(by cases h)⟩|k::L,j::js,hk,hj=>by show(PyData.eqv (Dt k) (Dt j)&&PyData.eqvAll (Eg L) (Eg js))=true↔_;rw[C6,XU (hk k K7) (hj j K7),JI (λx hx=>hk x (D5 _ hx)) (λx hx=>hj x (D5 _ hx))];exact⟨λ⟨a,b⟩=>by rw[a,b],λh=>by injection h with a b;exact⟨a,b⟩⟩
def IA(a b:List D):Ds (.lst a) (.lst b)=if kG (.lst a) (.lst b)=true then .ok (.sh (.bl (Gu (.lst a) (.lst b)))) else .no:=rfl
def XT(a b:List D):Gz (.lst a) (.lst b)=if kG (.lst a) (.lst b)=true then .ok (.sh (.bl (!Gu (.lst a) (.lst b)))) else .no:=rfl
def JH{L js:List D}(hk:∀k∈L,isKey k)(hj:∀k∈js,isKey k):∃b:Bool,(b=true↔L=js)/\Ds (.lst L) (.lst js)=.ok (.sh (.bl b))/\Gz (.lst L) (.lst js)=.ok (.sh (.bl (!b))):=by refine⟨Gu (.lst L) (.lst js),JI hk hj,?_,?_⟩;rw[IA,if_pos (JJ hk hj)];rw[XT,if_pos (JJ hk hj)]
def UU{c:Nat}(h:c∈pL):inD false (.str ⟨#[c]⟩) (.str "abcdefghijklmnopqrstuvwxyz0123456789-_ ")=.ok (.sh (.bl true)):=by show R.ok (W.sh (D.bl (!(Builtin.Str.occurrences "abcdefghijklmnopqrstuvwxyz0123456789-_ " ⟨#[c]⟩ 0 (Str.length "abcdefghijklmnopqrstuvwxyz0123456789-_ ") 1).isEmpty)))=_;rw[(by decide +kernel:∀c∈pL,(Builtin.Str.occurrences "abcdefghijklmnopqrstuvwxyz0123456789-_ " ⟨#[c]⟩ 0 (Str.length "abcdefghijklmnopqrstuvwxyz0123456789-_ ") 1).isEmpty=false) c h];rfl
def xU(l:List Nat):Eo (Bv l)=l.map λc=>.str ⟨#[c]⟩:=by unfold Eo;rw[qm]
def D'(l:List Nat):∃z,su [.str (Bv l)]=.ok (.sh (.int z)):=by
 obtain⟨Δ',e,z,a2,rfl⟩:=mW (gV 2) yr (λ_ B=>∃(z:Int) (a2:Sl),B=[.sh (.str (Bv l)),.sh (.int z),a2]) (M:=Eo (Bv l)) ⟨0,.no,rfl⟩ λk d B hk ⟨z,a2,e⟩=>by subst e;rw[xU,B3]at hk;obtain⟨c,_,rfl⟩:=F0.mp hk;exact⟨_,rfl,_,.inl (by simp![yr,An,Gi (fY (show(-18446744073709551616:Int)<40 by decide) ⋯),P6,nX,Gh];rfl),_,_,rfl⟩
 exact⟨z,Ek (sq rfl (sq (Gr rfl e) rfl))⟩
def KW{d:D}(h:isKey d):uR [d]=.ok (.sh (.bl true)):=by
 rcases h with⟨n,rfl,h0,h1⟩|⟨l,rfl,hl,hc⟩;simp![uR,xY,An,lZ,rL,h0,h1];have hx:(Bv l).length<=16777216:=by rw[jR];lia
 have ec:=JU (fg:=gC 1) (f:=OG) (δ:=[some (.str (Bv l)),none]) (λ_=>.bl true) (Eo (Bv l)) (λd hd=>by rw[xU]at hd;obtain⟨c,uu,rfl⟩:=D3.mp hd;exact⟨_,.sh (.bl true),rfl,by simp![OG,An,UU (hc c uu)],rfl⟩);have AM:=pP (m:=1) (fi:=Db (Aa 0)) (fg:=gC 1) (p:=λ_=>.ok true) (f:=OG) (δ:=[some (.str (Bv l))]) (by simp![An]) (by rw[xU,A4];lia) ec;have ha:oU [.lst ((Eo (Bv l)).map λ_=>D.bl true)]=.ok (.sh (.bl true)):=by
  have J:∀l:List D,lV (l.map λ_=>D.bl true)=some (l.map λ_=>true):=by intro l;induction l with|nil=>rfl|cons a l ih=>show(lV (l.map λ_=>D.bl true)).map (true:: ·)=_;rw[ih];rfl
  unfold oU;simp only[J];congr 3;rw[F9];intro b cR;obtain⟨_,_,rfl⟩:=D3.mp cR;rfl
 have jc:((Bv l).length:Int)<=11:=by rw[jR];lia
 have et:CA [.str (Bv l)]=.ok (.sh (.bl true)):=by simp![CA,NA,An,aap hx,rL,jc,AM,ha]
 simp![uR,xY,An,et]
def Dq(d:D):Int:=match kX [d]with|.ok (.sh (.int z))=>z|_=>0
def mj{d:D}(h:isKey d):kX [d]=.ok (.sh (.int (Dq d))):=by
 have hk:=KW h;have m2:=λj:Int=>Gi (fY (j:=j) (show(-18446744073709551616:Int)<2 by decide) ⋯);obtain⟨z,e⟩:∃z,kX [d]=.ok (.sh (.int z)):=by rcases h with⟨n,rfl,h0,h1⟩|⟨l,rfl,hl,hc⟩;exact⟨2*n,by simp![kX,xy,An,hk,m2]⟩;obtain⟨z,e⟩:=D' l;exact⟨2*z+1,by simp![kX,xy,An,hk,e,m2,Gh]⟩
 unfold Dq;rw[e]
noncomputable def Hc(n s z:Int):Int:=(((1+(1103515245*s+12345)%(2305843009213693951-1))*n+(69069*s*s+7*s)%2305843009213693951)%2305843009213693951+((1+(1103515245*s+12345)%(2305843009213693951-1))*n+(69069*s*s+7*s)%2305843009213693951)%2305843009213693951/2147483648)%z
def uQ(n s z:Int)(h1:-18446744073709551616<s)(h2:s<18446744073709551616)(hz:0<z):mU [.int n,.int s,.int z]=.ok (.sh (.int (Hc n s z)))/\True:=by
 have n0:¬z=0:=by lia
 have f0:=R7 (1103515245*s+12345) (show(2305843009213693951-1:Int)≠0 by decide);have f1:=R4 (1103515245*s+12345) (show(0:Int)<2305843009213693951-1 by decide);have a1:=Gi (fY (i:=1103515245) (j:=s) ⋯ ⋯);have a2:=Gi (fY (i:=69069) (j:=s) ⋯ ⋯);have a3:=Gi (oh (i:=69069*s) (j:=s) h1 h2);have a4:=Gi (fY (i:=7) (j:=s) ⋯ ⋯);have a5:=Gi (fY (i:=1+(1103515245*s+12345)%(2305843009213693951-1)) (j:=n) () ());have c1:=λi:Int=>Fw (i:=i) (show(0:Int)<2305843009213693951-1 by decide);have c2:=λi:Int=>Fw (i:=i) (show(0:Int)<2305843009213693951 by decide);have c3:=λi:Int=>Fw (i:=i) hz;have c4:=λi:Int=>jn (i:=i) (show(0:Int)<2147483648 by decide) ⋯;refine⟨?_,?_⟩;simp![mU,IK,An,eN,n0,og,Gh,a1,a2,a3,a4,c1,c2,a5,c4,c3];rfl;trivial
end My
namespace L3
open PySem L2
end L3
namespace My
open PySem L2 L3
def ju:D->Am|.int i=>.inl i|.str x=>.inr x|_=>.inl 0
def B'{d:D}(h:isKey d):Fm d=some (ju d):=by rcases h with⟨n,rfl,_⟩|⟨l,rfl,_⟩<;>rfl
def Iz{a b:D}(ha:isKey a)(J:isKey b)(e:ju a=ju b):a=b:=by rcases ha with⟨n,rfl,_⟩|⟨l,rfl,_⟩<;>rcases J with⟨m,rfl,_⟩|⟨k,rfl,_⟩;injection e with e;rw[e];cases e;cases e;injection e with e;rw[e]
def Iy{L:List D}(hk:∀k∈L,isKey k):zU [.lst L]=.ok (.sh .aK):=by obtain⟨Δ',e,a1,a2,rfl⟩:=mW (lq 1 2) Qu (λk B=>∃a1 a2,B=[.sh (.lst L),a1,a2]) (M:=Dx 0 L) (B:=[.sh (.lst L),.no,.no]) ⟨_,_,rfl⟩ (λk d B hd hI=>by obtain⟨a1,a2,rfl⟩:=hI;obtain⟨d',S,rfl⟩:=vf hd;refine⟨_,rfl,_,.inl ?_,.sh (.int ((0+k:Nat):Int)),.sh d',rfl⟩;simp![Qu,An,KW (hk d' (M0 S))]);simp![zU,NQ,An,Do,fC,wL,e]
def iO(L:List D):List (Am×D):=L.map λd=>(ju d,.bl true)
def JG{L:List D}{d:D}(hk:∀k∈L,isKey k)(hd:isKey d):Dg (iO L) (ju d)=true↔d∈L:=by
 unfold Dg Bs iO;rw[Q0,List.find?_isSome];constructor;rintro ⟨p,hp,e⟩;obtain⟨x,hx,rfl⟩:=D3.mp hp;have:ju x=ju d:=by simpa using e
 rw[<-Iz (hk x hx) hd this];exact hx;intro h;exact⟨(ju d,.bl true),D3.mpr ⟨d,h,rfl⟩,by simp⟩
def JF{L:List D}{d:D}(hk:∀k∈L,isKey k)(hd:isKey d)(n:d∉L):Cs (iO L) (ju d) (.bl true)=iO (L++[d]):=by
 unfold Cs;have h:((iO L).any λkv=>decide (kv.1=ju d))=false:=by cases q:(iO L).any λkv=>decide (kv.1=ju d)with|false=>rfl|true=>exfalso;obtain⟨p,hp,e⟩:=T5.mp q;obtain⟨x,hx,rfl⟩:=D3.mp hp;have:ju x=ju d:=(by simpa using e);have:=Iz (hk x hx) hd this;subst this;exact n hx
 rw[h];unfold iO;rw[B9];rfl
def adq{L:List D}{l:List D}{d:D}{k:Nat}(hl:∀x∈l,isKey x)(hd:isKey d)(n:d∉l)(hn:l.length<16777216):CH [.sh (.lst L),.ow (.aF (iO l)),.sh (.int (k:Int)),.sh d]=.nx [.sh (.lst L),.ow (.aF (iO (l++[d]))),.sh (.int (k:Int)),.sh d]:=by
 have h:Dg (iO l) (ju d)=false:=by cases q:Dg (iO l) (ju d)with|false=>rfl|true=>exact absurd ((JG hl hd).mp q) n
 have hs:(iO l).length<16777216:=by unfold iO;rw[A4];exact hn
 simp![CH,An,iT,B' hd,h,kh,hs,JF hl hd n]
def abq{L:List D}(hk:∀k∈L,isKey k)(nd:L.Nodup)(hl:L.length<16777216):BZ [.lst L]=.ok (.sh .aK):=by
 obtain⟨Δ',e,a2,a3,rfl⟩:=mW (lq 2 3) CH (λk B=>∃a2 a3,B=[.sh (.lst L),.ow (.aF (iO (L.take k))),a2,a3]) (M:=Dx 0 L) (B:=[.sh (.lst L),.ow (.aF []),.no,.no]) ⟨_,_,rfl⟩ (λk d B hd hI=>by
  obtain⟨a2,a3,rfl⟩:=hI;obtain⟨d',S,rfl⟩:=vf hd;have cK:k<L.length:=(A7.mp S).1;have nin:d'∉L.take k:=λhm=>by obtain⟨j,hj,e⟩:=W2 hm;rw[Q9]at hj;rw[List.getElem_take]at e;have:=P5.mp nd j k () cK ();rw[e]at this;rw[B1 cK]at S;injection S with S;exact this S.symm
  refine⟨_,rfl,_,.inl (adq (k:=0+k) (λx hx=>hk x (Y9 hx)) (hk d' (M0 S)) nin (by rw[Q9];lia)),.sh (.int ((0+k:Nat):Int)),.sh d',?_⟩;rw[Q3,S];rfl)
 have e':Dj (lq 2 3) CH (Dx 0 L) [.sh (.lst L),.ow (.aF []),.no,.no]=_:=e;simp![BZ,Nz,An,Hg,Do,fC,wL,e']
def sr{L:List D}(hk:∀k∈L,isKey k)(nd:L.Nodup)(h1:1<=L.length)(h2:L.length<=200):qA [.lst L]=.ok (.sh (.int (L.length:Int))):=by
 have c1:¬(L.length:Int)=0:=by lia
 have c2:¬(200:Int)<(L.length:Int):=by lia
 simp![qA,MW,An,Fy,eN,c1,wg,c2,Iy hk,abq hk nd ()]
noncomputable def Cn(n ii:Int):Int:=if ii<3 then n+n/8+1 else 41*n/100+2
def oC(n ii:Int)(h0:0<=n)(h1:n<=1000)(hk:ii=2\/ii=3):qz [.int n,.int ii]=.ok (.sh (.int (Cn n ii)))/\True/\0<Cn n ii/\Cn n ii<=2000:=by have m41:Fh 41 n=true:=fY ⋯ ⋯;rcases hk with rfl|rfl;refine⟨?_,trivial,?_,?_⟩;simp![qz,yM,An,rM,show(2:Int)<3 by decide,jn (show(0:Int)<8 by decide) ⋯,Gh,Cn];unfold Cn;rw[if_pos ⋯];lia;unfold Cn;rw[if_pos ⋯];lia;refine⟨?_,trivial,?_,?_⟩;simp![qz,yM,An,rM,show¬(3:Int)<3 by decide,jn (show(0:Int)<100 by decide) ⋯,Gh,Gi m41,Cn];unfold Cn;rw[if_neg ⋯];lia;unfold Cn;rw[if_neg ⋯];lia
def mB(d:D)(salt im:Int)(j:Int):Int:=j*im+Hc (Dq d) (4*salt+j) im
def md(d:D)(salt ii im:Int):List D:=(List.range ii.toNat).map λ(k:Nat)=>D.int (mB d salt im (0+(k:Int)))
def KS{d:D}(h:isKey d)(salt ii im:Int)(s0:0<=salt)(s1:salt<=1000000000000)(hk:ii=2\/ii=3)(p0:0<im)(p1:im<=2000):pX [d,.int salt,.int ii,.int im]=.ok (.sh (.tup (md d salt ii im)))/\True:=by
 have hr:=tO (j:=ii) () ();have hl:(Eh 0 ii.toNat).length<=16777216:=by rw[vg];lia
 have cz:∀k:Nat,k<ii.toNat->Fh (0+(k:Int)) im=true/\Fh 4 salt=true:=λk hk=>⟨fY () (),fY ⋯ ⋯⟩;refine⟨?_,trivial⟩;have ec:=abA (fg:=gC 5) (p:=λ_=>.ok true) (f:=Ot) (δ:=[some d,some (.int salt),some (.int ii),some (.int im),some (.int (Dq d)),none]) (F:=λi=>.int (mB d salt im i)) ii.toNat 0 (λk iU=>by obtain⟨m1,m2⟩:=cz k iU;refine⟨[some d,some (.int salt),some (.int ii),some (.int im),some (.int (Dq d)),some (.int (0+(k:Int)))],.sh (.int (mB d salt im (0+(k:Int)))),rfl,rfl,?_,rfl⟩;simp![Ot,An,Gi m1,Gi m2,Gh,(uQ (Dq d) (4*salt+(0+(k:Int))) im () () p0).1,mB]);have AM:=pP (m:=1) (fi:=Bk Du #v[2]) (fg:=gC 5) (p:=λ_=>.ok true) (f:=Ot) (δ:=[some d,some (.int salt),some (.int ii),some (.int im),some (.int (Dq d))]) (by simp![An,hr]) hl ec;simp![pX,MV,An,mj h,AM,wx];rfl
def wD(L:List D)(salt ii:Int):List D:=L.map λd=>.tup (md d salt ii (Cn (L.length:Int) ii))
def JE{L:List D}(hk:∀k∈L,isKey k)(nd:L.Nodup)(h1:1<=L.length)(h2:L.length<=200)(salt ii:Int)(s0:0<=salt)(s1:salt<=1000000000000)(Ph:ii=2\/ii=3):zO [.lst L,.int salt,.int ii]=.ok (.ow (.lst (wD L salt ii))):=by obtain⟨p1,p2,p3,p4⟩:=oC (L.length:Int) ii () () Ph;have ec:=pP (m:=1) (fi:=Db (Aa 0)) (fg:=gC 4) (p:=λ_=>.ok true) (f:=yR) (δ:=[some (.lst L),some (.int salt),some (.int ii),some (.int (Cn (L.length:Int) ii))]) (M:=L) (by simp![An]) () (JU (λd=>.tup (md d salt ii (Cn (L.length:Int) ii))) L λd hd=>⟨_,.sh (.tup (md d salt ii (Cn (L.length:Int) ii))),rfl,by simp![yR,An,(KS (hk d hd) salt ii (Cn (L.length:Int) ii) s0 s1 Ph p3 p4).1],rfl⟩);simp![zO,Mp,An,sr hk nd h1 h2,p1,ec];rfl
def kp(p:Nat):Am:=.inl (p:Int)
def bR{a b:Nat}:kp a=kp b↔a=b:=by unfold kp;constructor;intro h;injection h with h;exact Int.ofNat.inj h;intro h;rw[h]
def inner(ns:List Nat):List (Am×D):=ns.map λn=>(kp n,.bl true)
abbrev Cp:=List (Nat×List Nat)
def qB(ns:List Nat):Tn:=Tn.of (.aF (inner ns))
def Ce(st:Cp):List (Am×Tn):=st.map λx=>(kp x.1,qB x.2)
def Cb:Cp->Nat->Option (List Nat)|[],_=>none|(q,ns)::r,p=>if q=p then some ns else Cb r p
noncomputable def eI:Cp->Nat->List Nat->Cp|[],_,_=>[]|(q,ns)::r,p,ms=>if q=p then(q,ms)::r else(q,ns)::eI r p ms
theorem oW:∀(st:Cp) (p:Nat),Bs (Ce st) (kp p)=(Cb st p).map qB|[],_=>rfl|(q,ns)::r,p=>by have ih:=oW r p;unfold Bs at ih⊢;show(((kp q,qB ns)::Ce r).find? λkv=>decide (kv.1=kp p)).map (·.2)=_;unfold Cb;by_cases h:q=p;rw[if_pos h,P1 (by simpa[bR] using h)];rfl;rw[if_neg h,P2 (by simpa[bR] using h)];exact ih
theorem sI(ms:List Nat):∀(st:Cp) (p:Nat),Cd (Ce st) (kp p) (qB ms)=Ce (eI st p ms)|[],_=>rfl|(q,ns)::r,p=>by show Cd ((kp q,qB ns)::Ce r) (kp p) (qB ms)=_;unfold Cd eI;by_cases h:q=p;rw[if_pos h,if_pos (bR.mpr h)];rfl;rw[if_neg h,if_neg (λz=>h (bR.mp z)),sI ms r p];rfl
def XS(a b:Cp):Ce (a++b)=Ce a++Ce b:=by unfold Ce;rw[B9]
def XR(a:Cp):(Ce a).length=a.length:=by unfold Ce;rw[A4]
def UT(ns:List Nat):(qB ns).d=.aF (inner ns):=Tn.dW _
theorem wC:∀st:Cp,Tn.L (Ce st)=st.map λx=>(kp x.1,.aF (inner x.2))|[]=>rfl|(q,ns)::r=>by show(kp q,(qB ns).d)::Tn.L (Ce r)=_;rw[wC r,UT];rfl
theorem xt:∀(st:Cp) (p:Nat),Bs (Tn.L (Ce st)) (kp p)=(Cb st p).map λns=>.aF (inner ns)|[],_=>rfl|(q,ns)::r,p=>by have ih:=xt r p;rw[wC]at ih⊢;unfold Bs at ih⊢;rw[B6];unfold Cb;by_cases h:q=p;rw[if_pos h,P1 (by simpa[bR] using h)];rfl;rw[if_neg h,P2 (by simpa[bR] using h)];exact ih
def Iw(st:Cp)(p:Nat):Dg (Tn.L (Ce st)) (kp p)=(Cb st p).isSome:=by unfold Dg;rw[xt,Q0]
def yp(ns:List Nat):(inner ns).length=ns.length:=by unfold inner;rw[A4]
theorem Mm:∀(ns:List Nat) (n:Nat),Dg (inner ns) (kp n)=decide (n∈ns)|[],_=>by simp[inner,Dg,Bs]|m::ns,n=>by have ih:=Mm ns n;unfold Dg Bs at ih⊢;show((((kp m,D.bl true)::inner ns).find? λkv=>decide (kv.1=kp n)).map (·.2)).isSome=_;by_cases h:m=n;rw[P1 (by simpa[bR] using h)];simp[h];rw[P2 (by simpa[bR] using h),ih];simp[Ne.symm h]
def abp(ns:List Nat)(n:Nat):((inner ns).any λkv=>decide (kv.1=kp n))=decide (n∈ns):=by induction ns with|nil=>rfl|cons m ns ih=>show(decide (kp m=kp n)||(inner ns).any λkv=>decide (kv.1=kp n))=_;rw[ih];by_cases h:m=n;simp[h];simp[h,bR,Ne.symm h]
def KR(ns:List Nat)(n:Nat):Cs (inner ns) (kp n) (.bl true)=inner (if n∈ns then ns else ns++[n]):=by unfold Cs;rw[abp];by_cases h:n∈ns;rw[if_pos (F4 h),if_pos h];unfold inner;rw[D1];apply C8;intro m _;show(if kp m=kp n then(kp m,D.bl true) else(kp m,D.bl true))=_;split<;>rfl;rw[if_neg (by simpa using h),if_neg h];unfold inner;rw[B9];rfl
def acD(ns:List Nat)(n:Nat):Ge (inner ns) (kp n)=inner (ns.filter λm=>decide (m≠n)):=by unfold Ge inner;rw[SI];congr 1;apply X4;intro m _;show decide (kp m≠kp n)=_;by_cases h:m=n;simp[h];simp[h,bR]
theorem rF:∀(st:Cp) (p q:Nat) (ms:List Nat),Cb (eI st p ms) q=if q=p then(Cb st p).map (λ_=>ms) else Cb st q|[],p,q,ms=>by simp[eI,Cb]|(r,ns)::st,p,q,ms=>by unfold eI;by_cases h:r=p;rw[if_pos h];unfold Cb;by_cases h2:q=p;rw[if_pos (),if_pos h2,if_pos h];rfl;rw[if_neg (),if_neg h2,if_neg ()];rw[if_neg h];unfold Cb;by_cases h2:r=q;rw[if_pos h2,if_neg (),if_pos h2];rw[if_neg h2,rF st p q ms,if_neg h,if_neg h2]
theorem xr:∀(st:Cp) (p:Nat) (ms:List Nat),(eI st p ms).map (·.1)=st.map (·.1)|[],_,_=>rfl|(r,ns)::st,p,ms=>by unfold eI;split;rfl;rw[B6,B6,xr st p ms]
theorem rW:∀(a:Cp) (p q:Nat) (ms:List Nat),Cb (a++[(p,ms)]) q=match Cb a q with|some ns=>some ns|none=>if p=q then some ms else none
 |[],p,q,ms=>rfl
 |(r,ns)::a,p,q,ms=>by
  show Cb ((r,ns)::(a++[(p,ms)])) q=_;unfold Cb
  by_cases h:r=q
  rw[if_pos h,if_pos h]
  rw[if_neg h,if_neg h,rW a p q ms]
theorem GS:∀(a:Cp) (p:Nat) (ms ls:List Nat),Cb a p=none->eI (a++[(p,ms)]) p ls=a++[(p,ls)]|[],p,ms,ls,_=>by show eI [(p,ms)] p ls=_;unfold eI;rw[if_pos rfl];rfl|(r,ns)::a,p,ms,ls,h=>by unfold Cb at h;split at h;cases h;rename_i hn;show eI ((r,ns)::(a++[(p,ms)])) p ls=_;unfold eI;rw[if_neg hn,GS a p ms ls h];rfl
theorem cB:∀{st:Cp}{p:Nat},p∈st.map (·.1)↔(Cb st p).isSome=true|[],p=>by simp[Cb]|(r,ns)::st,p=>by unfold Cb;by_cases h:r=p;simp[h];rw[if_neg h,B6,C5,cB (st:=st)];constructor;rintro (z|z);exact absurd z.symm h;exact z;exact λz=>.inr z
structure Rep(st:Cp)(R:Nat->Nat->Prop):Prop where
 at_:∀p ns,Cb st p=some ns->ns.Nodup/\∀n,n∈ns↔R n p
 all:∀n p,R n p->(Cb st p).isSome=true
def jS(st:Cp)(p n:Nat):Cp:=match Cb st p with|some ns=>eI st p (if n∈ns then ns else ns++[n])|none=>st++[(p,[n])]
def Rep.add{st:Cp}{R:Nat->Nat->Prop}(h:Rep st R)(p n:Nat):Rep (jS st p n) (λn' p'=>R n' p'\/(n'=n/\p'=p)):=by
 unfold jS;cases e:Cb st p with
 |some ns=>
  obtain⟨h1,h2⟩:=h.at_ p ns e;refine⟨λq ms eq=>?_,λn' p' z=>?_⟩;simp only[rF,e,J8]at eq;by_cases hq:q=p;rw[if_pos hq]at eq;cases eq;subst hq;by_cases hn:n∈ns;rw[if_pos hn];refine⟨h1,λm=>⟨λz=>.inl ((h2 m).mp z),λz=>?_⟩⟩;rcases z with z|⟨rfl,_⟩;exact(h2 m).mpr z;exact hn;rw[if_neg hn];refine⟨S4.mpr ⟨h1,by simp,λa ha b J=>?_⟩,λm=>?_⟩;have:b=n:=by simpa using J
  rintro rfl;exact hn (this▸ha);rw[F1,h2 m,E7];constructor;rintro (z|z);exact .inl z;exact .inr ⟨z,rfl⟩;rintro (z|⟨z,_⟩);exact .inl z;exact .inr z;rw[if_neg hq]at eq;obtain⟨k1,k2⟩:=h.at_ q ms eq;refine⟨k1,λm=>⟨λz=>.inl ((k2 m).mp z),λz=>?_⟩⟩;rcases z with z|⟨_,z⟩;exact(k2 m).mpr z;exact absurd z hq;simp only[rF,e,J8];by_cases hq:p'=p;rw[if_pos hq];rfl;rw[if_neg hq];rcases z with z|⟨_,z⟩;exact h.all n' p' z;exact absurd z hq
 |none=>
  refine⟨λq ms eq=>?_,λn' p' z=>?_⟩;simp only[rW]at eq;cases e2:Cb st q with|some ns=>rw[e2]at eq;cases eq;obtain⟨k1,k2⟩:=h.at_ q _ e2;refine⟨k1,λm=>⟨λz=>.inl ((k2 m).mp z),λz=>?_⟩⟩;rcases z with z|⟨_,z⟩;exact(k2 m).mpr z;subst z;rw[e]at e2;cases e2|none=>rw[e2]at eq;by_cases hq:p=q;simp only[hq,if_true]at eq;cases eq;subst hq;refine⟨by simp,λm=>?_⟩;rw[E7];constructor;exact λz=>.inr ⟨z,rfl⟩;rintro (z|⟨z,_⟩);have:=h.all m p z;rw[e]at this;cases this;exact z;simp only[hq,L5]at eq;cases eq
  simp only[rW];rcases z with z|⟨_,z⟩;have:=h.all n' p' z;cases e2:Cb st p' with|some ns=>rfl|none=>rw[e2]at this;cases this
  subst z;rw[e];simp
def XQ(st:Cp)(p n:Nat):(jS st p n).length<=st.length+1:=by unfold jS;split;have:=K5 List.length (xr st p (if n∈(by assumption:List Nat) then(by assumption:List Nat) else(by assumption:List Nat)++[n]));rw[A4,A4]at this;lia;simp
def Hw(st:Cp)(n:Nat)(ps:List Nat):Cp:=ps.foldl (λst p=>eI st p (((Cb st p).getD []).filter λm=>decide (m≠n))) st
theorem sV(n:Nat):∀(ps:List Nat) (st:Cp),(Hw st n ps).map (·.1)=st.map (·.1)|[],_=>rfl|p::ps,st=>by show(Hw (eI st p _) n ps).map (·.1)=_;rw[sV n ps,xr]
theorem xq(n:Nat):∀(ps:List Nat) (st:Cp) (q:Nat),Cb (Hw st n ps) q=if q∈ps then(Cb st q).map (λns=>ns.filter λm=>decide (m≠n)) else Cb st q
 |[],st,q=>by simp[Hw]|p::ps,st,q=>by
  show Cb (Hw (eI st p _) n ps) q=_;rw[xq n ps,rF];by_cases h:q=p;subst h;rw[if_pos rfl,if_pos (K7 ..)];cases e:Cb st q with|none=>simp|some ns=>simp only[J8,U2];split;rw[List.filter_filter];simp;rfl
  rw[if_neg h];by_cases h2:q∈ps;rw[if_pos h2,if_pos (D5 _ h2)];rw[if_neg h2,if_neg (by simp[h,h2])]
def Rep.away{st:Cp}{R:Nat->Nat->Prop}(h:Rep st R)(n:Nat)(ps:List Nat)(hp:∀p,R n p->p∈ps):Rep (Hw st n ps) (λn' p'=>R n' p'/\n'≠n):=by refine⟨λq ms e=>?_,λn' p' ⟨z,_⟩=>?_⟩;rw[xq]at e;by_cases hq:q∈ps;rw[if_pos hq]at e;obtain⟨ns,S,rfl⟩:=F0.mp e;obtain⟨k1,k2⟩:=h.at_ q ns S;refine⟨k1.filter _,λm=>?_⟩;rw[N2,k2 m];simp;rw[if_neg hq]at e;obtain⟨k1,k2⟩:=h.at_ q ms e;refine⟨k1,λm=>⟨λz=>⟨(k2 m).mp z,?_⟩,λz=>(k2 m).mpr z.1⟩⟩;rintro rfl;exact hq (hp q ((k2 m).mp z));rw[xq];have:=h.all n' p' z;split;rw[Q0];exact this;exact this
noncomputable def zi(ps:List Nat):List D:=ps.map λp=>D.int ((p:Nat):Int)
def eT(ps:List Nat):D:=.tup (zi ps)
def eL(E:List (List Nat)):List D:=E.map eT
def mz(l:List Nat):(zi l).length=l.length:=by unfold zi;rw[A4]
def GR{l:List Nat}{i:Nat}{d:D}(h:(zi l)[i]?=some d):∃p,l[i]?=some p/\d=.int (p:Int):=by unfold zi at h;rw[B3]at h;obtain⟨p,S,e2⟩:=F0.mp h;exact⟨p,S,e2.symm⟩
def VY{E:List (List Nat)}{i:Nat}{d:D}(h:(eL E)[i]?=some d):∃ps,E[i]?=some ps/\d=eT ps:=by unfold eL at h;rw[B3]at h;obtain⟨p,S,e2⟩:=F0.mp h;exact⟨p,S,e2.symm⟩
def FQ{E:List (List Nat)}{i:Nat}{ps:List Nat}(h:E[i]?=some ps):(eL E)[i]?=some (eT ps):=by unfold eL;rw[B3,h];rfl
def cV(st:Cp)(a:Sl):Prop:=a=.tr (.aF (Ce st))\/(st=[]/\a=.ow (.aF []))
theorem cV.any{st:Cp}{a:Sl}(h:cV st a):Sl.any a=some (.aF (Tn.L (Ce st))):=by rcases h with rfl|⟨rfl,rfl⟩<;>rfl
theorem cV.tree{st:Cp}{a:Sl}(h:cV st a):Sl.tree a=some (.aF (Ce st),false):=by rcases h with rfl|⟨rfl,rfl⟩<;>rfl
def abo{st:Cp}{a1:Sl}(h:cV st a1)(a0:Sl)(n p:Nat)(a3:Sl)(hl:st.length<1000)(hi:∀q ns,Cb st q=some ns->ns.length<1000):OE [a0,a1,.sh (.int (n:Int)),a3,.sh (.int (p:Int))]=.nx [a0,.tr (.aF (Ce (jS st p n))),.sh (.int (n:Int)),a3,.sh (.int (p:Int))]:=by
 have hk:∀k:Nat,Fm (.int (k:Int))=some (kp k):=λ_=>rfl;unfold jS;cases e:Cb st p with
 |some ns=>
  have S:iT true (.int (p:Int)) (.aF (Tn.L (Ce st)))=.ok (.sh (.bl false)):=by simp only[iT,hk,Iw,e];rfl
  have e2:Bs (Ce st) (kp p)=some (.aF ((inner ns).map λp=>(p.1,Tn.sh p.2))):=by rw[oW,e];rfl
  have e3:=wJ (inner ns);have e4:(inner ns).length<16777216:=by rw[yp];have:=hi p ns e;lia
  have e5:Cd (Ce st) (kp p) (Tn.of (.aF (inner (if n∈ns then ns else ns++[n]))))=Ce (eI st p (if n∈ns then ns else ns++[n])):=sI _ st p;simp![OE,An,h.any,S,nV,T9,h.tree,hk,e2,e3,e4,KR,e5,Sl.mk]
 |none=>
  have S:iT true (.int (p:Int)) (.aF (Tn.L (Ce st)))=.ok (.sh (.bl true)):=by simp only[iT,hk,Iw,e];rfl
  have e0:(Bs (Ce st) (kp p)).isSome=false:=by rw[oW,e];rfl
  have el:(Ce st).length<16777216:=by rw[XR];lia
  have ea:Ce st++[(kp p,Tn.aF [])]=Ce (st++[(p,[])]):=by rw[XS];rfl
  have e2:Bs (Ce (st++[(p,[])])) (kp p)=some (.aF []):=by rw[oW,rW,e];simp only[if_true];rfl
  have e5:Cd (Ce (st++[(p,[])])) (kp p) (Tn.of (.aF (inner [n])))=Ce (st++[(p,[n])]):=by have:=sI [n] (st++[(p,[])]) p;rw[GS st p [] [n] e]at this;exact this
  have e6:qi []=some []:=rfl;have e7:Cs ([]:List (Am×D)) (kp n) (.bl true)=inner [n]:=rfl;have e8:(0:Nat)<16777216:=by decide
  exact sq ((mY (by simp![An,h.any,S])).trans (by simp![rN,An,T9,h.tree,hk,e0,el,ea,Sl.mk];rfl)) (by simp![nV,An,T9,Sl.tree,hk,e2,e6,e7,e8,e5,Sl.mk])
def qL{l:List Nat}{n:Nat}(h:l.Nodup)(J:∀x∈l,x<n):l.length<=n:=by have:=List.Nodup.length_le_of_subset (l₂:=List.range n) h λx hx=>J9.mpr (J x hx);rwa[M7]at this
def fP(E:List (List Nat)):Nat:=(E.map List.length).sum
def x'{E:List (List Nat)}{k:Nat}{ps:List Nat}(h:E[k]?=some ps):fP (E.take (k+1))=fP (E.take k)+ps.length:=by unfold fP;rw[Q3,h,B9,List.sum_append];simp
theorem MN:∀(l:List Nat) (k:Nat),(l.take k).sum<=l.sum|[],k=>by simp|a::l,0=>by simp|a::l,k+1=>by have:=MN l k;simp only[List.take_succ_cons,T3];lia
def VX(E:List (List Nat))(k:Nat):fP (E.take k)<=fP E:=by unfold fP;rw[List.map_take];exact MN _ k
def RE(E:List (List Nat))(n p:Nat):Prop:=∃e,E[n]?=some e/\p∈e
def Rep.imp{st:Cp}{R R':Nat->Nat->Prop}(h:Rep st R)(i:∀n p,R n p↔R' n p):Rep st R':=⟨λp ns e=>⟨(h.at_ p ns e).1,λn=>((h.at_ p ns e).2 n).trans (i n p)⟩,λn p z=>h.all n p ((i n p).mpr z)⟩
def Rep.small{st:Cp}{R:Nat->Nat->Prop}(h:Rep st R){N:Nat}(J:∀n p,R n p->n<N){q:Nat}{ns:List Nat}(e:Cb st q=some ns):ns.length<=N:=by obtain⟨h1,h2⟩:=h.at_ q ns e;exact qL h1 λx hx=>J x q ((h2 x).mp hx)
def acC{st:Cp}{a1:Sl}(h:cV st a1)(a0:Sl)(n:Nat)(ps:List Nat)(a4:Sl){R:Nat->Nat->Prop}(hR:Rep st R){N:Nat}(J:∀m p,R m p->m<N)(hn:n<N)(hN:N<=900)(hl:st.length+ps.length<=900):∃bJ qd uE,Rep bJ (λm p=>R m p\/(m=n/\p∈ps))/\cV bJ qd/\bJ.length<=st.length+ps.length/\Qk [a0,a1,.sh (.int (n:Int)),.sh (eT ps),a4]=.nx [a0,qd,.sh (.int (n:Int)),.sh (eT ps),uE]:=by obtain⟨Δ',e,bJ,qd,uE,r',s',l',rfl⟩:=mW (gV 4) OE (λk B=>∃bJ qd uE,Rep bJ (λm p=>R m p\/(m=n/\p∈ps.take k))/\cV bJ qd/\bJ.length<=st.length+k/\B=[a0,qd,.sh (.int (n:Int)),.sh (eT ps),uE]) (M:=zi ps) (B:=[a0,a1,.sh (.int (n:Int)),.sh (eT ps),a4]) ⟨st,a1,a4,hR.imp λm p=>by simp,h,by lia,rfl⟩ (λk d B hd hI=>by obtain⟨bJ,qd,uE,r',s',l',rfl⟩:=hI;obtain⟨p,hp,rfl⟩:=GR hd;have hk:k<ps.length:=(A7.mp hp).1;have bd:∀m q,(R m q\/(m=n/\q∈ps.take k))->m<N:=λm q z=>(by rcases z with z|⟨z,_⟩;exact J m q z;lia);refine⟨_,rfl,_,.inl (abo s' a0 n p (.sh (eT ps)) () λq ns e=>?_),jS bJ p n,_,_,(r'.add p n).imp λm q=>?_,.inl rfl,?_,rfl⟩;have:=r'.small bd e;lia;rw[Q3,hp];simp only[Option.toList_some,F1,E7];constructor;rintro ((z|⟨z1,z2⟩)|⟨z1,z2⟩);exact .inl z;exact .inr ⟨z1,.inl z2⟩;exact .inr ⟨z1,.inr z2⟩;rintro (z|⟨z1,z2|z2⟩);exact .inl (.inl z);exact .inl (.inr ⟨z1,z2⟩);exact .inr ⟨z1,z2⟩;have:=XQ bJ p n;lia);rw[mz,T8]at r';rw[mz]at l';refine⟨bJ,qd,uE,r',s',l',?_⟩;exact Gr rfl e
theorem xT:∀(H':List D) (n:Nat),(Dx n H').length=H'.length|[],_=>rfl|_::H',n=>K5 (·+1) (xT H' (n+1))
def abn(E:List (List Nat))(hE:E.length<=900)(hT:fP E<=900):∃st a1,Rep st (RE E)/\cV st a1/\st.length<=fP E/\∃w,Oq [.lst (eL E)]=.ok w/\((a1=.tr (.aF (Ce st))/\w=.tr (.aF (Ce st)))\/(st=[]/\a1=.ow (.aF [])/\w=.ow (.aF []))):=by
 obtain⟨Δ',e,st,a1,a2,a3,a4,r,s,l,rfl⟩:=mW (lq 2 3) Qk (λk B=>∃st a1 a2 a3 a4,Rep st (λn p=>RE E n p/\n<k)/\cV st a1/\st.length<=fP (E.take k)/\B=[.sh (.lst (eL E)),a1,a2,a3,a4]) (M:=Dx 0 (eL E)) (B:=[.sh (.lst (eL E)),.ow (.aF []),.no,.no,.no]) ⟨[],_,_,_,_,⟨λp ns e=>(by cases e),λn p z=>()⟩,.inr ⟨rfl,rfl⟩,L1 _,rfl⟩ (λk d B hd hI=>by obtain⟨st,a1,a2,a3,a4,r,s,l,rfl⟩:=hI;obtain⟨d',S,rfl⟩:=vf hd;obtain⟨ps,e2,rfl⟩:=VY S;have hk:k<E.length:=(A7.mp e2).1;have t1:=x' e2;have t2:=VX E (k+1);rw[O9];obtain⟨bJ,qd,uE,r',s',l',e3⟩:=acC s (.sh (.lst (eL E))) k ps a4 r (N:=E.length) (λm p z=>by lia) hk hE ();refine⟨_,rfl,_,.inl e3,bJ,qd,_,_,uE,r'.imp λm p=>?_,s',by lia,rfl⟩;constructor;rintro (⟨z1,z2⟩|⟨rfl,z⟩);exact⟨z1,by lia⟩;exact⟨⟨ps,e2,z⟩,by lia⟩;rintro ⟨⟨e,z1,z2⟩,z3⟩;by_cases h:m=k;subst h;rw[e2]at z1;cases z1;exact .inr ⟨rfl,z2⟩;exact .inl ⟨⟨e,z1,z2⟩,by lia⟩);have hle:(Dx 0 (eL E)).length=E.length:=by rw[xT];unfold eL;rw[A4]
 rw[hle]at r l;rw[T8]at l;refine⟨st,a1,r.imp λn p=>⟨λz=>z.1,λz=>⟨z,?_⟩⟩,s,l,?_⟩;obtain⟨e,z1,_⟩:=z;exact(A7.mp z1).1;rcases s with rfl|⟨rfl,rfl⟩;exact⟨_,Ek (sq rfl (sq (Gr rfl e) rfl)),.inl ⟨rfl,rfl⟩⟩;exact⟨_,Ek (sq rfl (sq (Gr rfl e) rfl)),.inr ⟨rfl,rfl,rfl⟩⟩
def abm(st:Cp)(n:Nat){ps:List Nat}{k p:Nat}(h:ps[k]?=some p):Hw st n (ps.take (k+1))=eI (Hw st n (ps.take k)) p (((Cb (Hw st n (ps.take k)) p).getD []).filter λm=>decide (m≠n)):=by unfold Hw;rw[Q3,h,List.foldl_append];rfl
def XN(st:Cp)(n:Nat)(ps:List Nat)(hp:∀p∈ps,(Cb st p).isSome=true):zT [.int (n:Int),eT ps] (.aF (Ce st))=some (.aF (Ce (Hw st n ps))):=by obtain⟨Δ',e,a3,rfl⟩:=mW (gV 3) yT (λk B=>∃a3,B=[.sh (.int (n:Int)),.sh (eT ps),.lt (.aF (Ce (Hw st n (ps.take k)))),a3]) (M:=zi ps) (B:=[.sh (.int (n:Int)),.sh (eT ps),.lt (.aF (Ce st)),.no]) ⟨_,rfl⟩ (λk d B hd hI=>by obtain⟨a3,rfl⟩:=hI;obtain⟨p,hk,rfl⟩:=GR hd;have hs:(Cb (Hw st n (ps.take k)) p).isSome=true:=(by rw[<-cB,sV,cB];exact hp p (M0 hk));cases S:Cb (Hw st n (ps.take k)) p with|none=>rw[S]at hs;cases hs|some ns=>have kk:∀k:Nat,Fm (.int (k:Int))=some (kp k):=λ_=>rfl;have e2:Bs (Ce (Hw st n (ps.take k))) (kp p)=some (.aF ((inner ns).map λp=>(p.1,Tn.sh p.2))):=(by rw[oW,S];rfl);have e3:=wJ (inner ns);have e5:=sI (ns.filter λm=>decide (m≠n)) (Hw st n (ps.take k)) p;unfold qB at e5;refine⟨_,rfl,[.sh (.int (n:Int)),.sh (eT ps),.lt (.aF (Ce (Hw st n (ps.take (k+1))))),.sh (.int (p:Int))],.inl ?_,_,rfl⟩;rw[abm st n hk,S,U2];simp![yT,rO,An,T9,Sl.tree,Wt,kk,e2,e3,acD,e5,Sl.mk]);rw[mz,T8]at e;unfold zT nS;rw[show MU (rZ 4 [.int (n:Int),eT ps] (.aF (Ce st)))=_ from e];rfl
def Dw(ord:List (Nat×Nat)):List D:=ord.map λx=>.tup [.int (x.1:Int),.int (x.2:Int)]
noncomputable def Ep(E:List (List Nat))(T:List Nat):Nat:=(((List.range E.length).filter λn=>decide (n∉T)).map λn=>(E.getD n []).length).sum
structure Peel(E:List (List Nat))(st:Cp)(ord:List (Nat×Nat)):Prop where
 rep:Rep st (λn p=>RE E n p/\n∉ord.map (·.1))
 nd:(ord.map (·.1)).Nodup
 ok:∀x∈ord,RE E x.1 x.2
 alone:∀x∈ord,∀m,m∉ord.map (·.1)->¬RE E m x.2
 pw:ord.Pairwise λx y=>¬RE E y.1 x.2
 keys:∀n p,RE E n p->(Cb st p).isSome=true
def RE.lt{E:List (List Nat)}{n p:Nat}(h:RE E n p):n<E.length:=by obtain⟨e,h1,_⟩:=h;exact(A7.mp h1).1
def Peel.next{E:List (List Nat)}{st:Cp}{ord:List (Nat×Nat)}(h:Peel E st ord){p n:Nat}{ps:List Nat}(hl:Cb st p=some [n])(he:E[n]?=some ps):Peel E (Hw st n ps) (ord++[(n,p)])/\n∉ord.map (·.1):=by
 obtain⟨_,h2⟩:=h.rep.at_ p [n] hl;have hn:=(h2 n).mp (by simp);have only:∀m,RE E m p->m∉ord.map (·.1)->m=n:=λm z1 z2=>by have:=(h2 m).mpr ⟨z1,z2⟩;simpa using this
 refine⟨⟨?_,?_,?_,?_,?_,?_⟩,hn.2⟩;refine(h.rep.away n ps λq z=>?_).imp λm q=>?_;obtain⟨⟨e,z1,z2⟩,_⟩:=z;rw[he]at z1;cases z1;exact z2;simp only[B9,B6,N8,F1,E7];constructor;rintro ⟨⟨z1,z2⟩,z3⟩;exact⟨z1,λz=>z.elim z2 z3⟩;rintro ⟨z1,z2⟩;exact⟨⟨z1,λz=>z2 (.inl z)⟩,λz=>z2 (.inr z)⟩;rw[B9];refine S4.mpr ⟨h.nd,by simp,λa ha b J=>?_⟩;have:b=n:=by simpa using J
 rintro rfl;exact hn.2 (this▸ha);intro x hx;rcases F1.mp hx with hx|hx;exact h.ok x hx;have:x=(n,p):=by simpa using hx
 rw[this];exact hn.1;intro x hx m hm;have qE:m∉ord.map (·.1):=λz=>hm (by rw[B9];exact N0 _ z);rcases F1.mp hx with hx|hx;exact h.alone x hx m qE;have:x=(n,p):=by simpa using hx
 subst this;intro z;have:=only m z qE;exact hm (by rw[this];simp);refine List.pairwise_append.mpr ⟨h.pw,by simp,λx hx y hy=>?_⟩;have:y=(n,p):=by simpa using hy
 subst this;exact h.alone x hx n hn.2;intro m q z;rw[<-cB,sV,cB];exact h.keys m q z
theorem NN{f:Nat->Nat}{n:Nat}:∀{l:List Nat}{P Q:Nat->Bool},l.Nodup->n∈l->P n=true->Q n=false->(∀m,m≠n->Q m=P m)->((l.filter P).map f).sum=((l.filter Q).map f).sum+f n
 |[],_,_,_,h,_,_,_=>by cases h|a::l,P,Q,nd,h,h1,h2,h3=>by
  rw[K1]at nd;by_cases ha:a=n;subst ha;have:l.filter P=l.filter Q:=X4 λm hm=>(h3 m λz=>nd.1 (z▸hm)).symm;rw[Q2 h1,Q1 (by rw[h2];decide),this,B6,T3];lia;have hm:n∈l:=by rcases C5.mp h with z|z;exact absurd z.symm ha;exact z
  have ih:=NN (f:=f) nd.2 hm h1 h2 h3;have e:=h3 a ha;cases hp:P a with|true=>rw[Q2 hp,Q2 (by rw[e];exact hp),B6,T3,B6,T3,ih];lia|false=>rw[Q1 (by rw[hp];decide),Q1 (by rw[e,hp];decide),ih]
def abk{E:List (List Nat)}{T:List Nat}{n:Nat}{ps:List Nat}(he:E[n]?=some ps)(hn:n∉T):Ep E T=Ep E (T++[n])+ps.length:=by have cK:n<E.length:=(A7.mp he).1;unfold Ep;rw[NN (f:=λn=>(E.getD n []).length) (n:=n) (Q:=λm=>decide (m∉T++[n])) SO (J9.mpr cK) (by simpa using hn) (by simp) λm hm=>by simp[hm]];simp only[B4,he,U2]
def XM(E:List (List Nat)):Ep E []=fP E:=by
 unfold Ep fP;have:(List.range E.length).filter (λn=>decide (n∉([]:List Nat)))=List.range E.length:=by rw[W3];simp
 rw[this];congr 1;apply List.ext_getElem;simp;intro i h1 h2;simp only[U1,List.getElem_range];have hi:i<E.length:=by simpa using h2
 rw[B4,B1 hi,U2]
def Ub{B:SE}{js:List Nat}{i:Nat}{f:FE}{d:D}(h0:f (Ay B)=.no)(h1:f (At B)=.ok (.sh d))(h2:Av d=true):Ah i js f B=.nx (B.set i (.sh d)):=by unfold Ah;rw[h0,h1];exact if_pos h2
theorem GQ:∀{l:List Nat}{x:Nat},x∈l->x<=l.sum|a::l,x,h=>by rw[T3];rcases C5.mp h with z|z;lia;have:=GQ z;lia
def turn{E:List (List Nat)}{st:Cp}{ord:List (Nat×Nat)}(h:Peel E st ord)(hE:E.length<=900)(a1 a6 a7 a8:Sl){s2:Sl}(hs:cV st s2){w:List Nat}{p:Nat}(hp:(Cb st p).isSome=true)(hW:w.length+fP E<=100000)(ho:ord.length<=900):∃bJ aq w' tX EI,Peel E bJ aq/\cV bJ tX/\(∀q∈w',q∈w\/∃m,RE E m q)/\aq.length<=ord.length+1/\w'.length+Ep E (aq.map (·.1))=w.length+Ep E (ord.map (·.1))/\bJ.map (·.1)=st.map (·.1)/\yH [.sh (.lst (eL E)),a1,s2,.ow (.lst (zi (w++[p]))),.ow (.lst (Dw ord)),.ow (.aF (inner (ord.map (·.1)))),a6,a7,a8]=.nx [.sh (.lst (eL E)),a1,tX,.ow (.lst (zi w')),.ow (.lst (Dw aq)),.ow (.aF (inner (aq.map (·.1)))),a6,.sh (.int (p:Int)),EI]:=by
 have kk:∀k:Nat,Fm (.int (k:Int))=some (kp k):=λ_=>rfl;have z1:(zi (w++[p]))[(zi (w++[p])).length-1]?=some (.int (p:Int)):=by rw[mz];unfold zi;rw[B3,A6];simp
 have z2:(zi (w++[p])).dropLast=zi w:=by unfold zi;rw[B9];simp
 cases e:Cb st p with
 |none=>rw[e]at hp;cases hp|some ns=>
  have g1:Dn (.aF (Tn.L (Ce st))) (.int (p:Int))=.ok (.sh (.aF (inner ns))):=by simp only[Dn,kk,xt,e,J8]
  have g2:rn [.aF (inner ns)]=.ok (.sh (.int (ns.length:Int))):=by simp only[rn,yp]
  have an:=hs.any;by_cases hl:(ns.length:Int)=1;obtain⟨n,rfl⟩:=List.length_eq_one_iff.mp (show ns.length=1 by lia);obtain⟨⟨ps,he,hpp⟩,_⟩:=((h.rep.at_ p [n] e).2 n).mp (by simp);obtain⟨h',hn⟩:=h.next e he;have m1:vQ [.aF (inner [n])]=.ok (.sh (.int (n:Int))):=rfl;have hT:=XN st n ps λq hq=>h.keys n q ⟨ps,he,hq⟩;have hI:Bf (.lst (eL E)) (.int (n:Int))=.ok (.sh (eT ps)):=iQ (Hx (FQ he));have vU:Cs (inner (ord.map (·.1))) (kp n) (.bl true)=inner ((ord++[(n,p)]).map (·.1)):=by rw[KR,if_neg hn,B9];rfl
  have hlo:(Dw ord).length<16777216:=by unfold Dw;rw[A4];lia
  have hli:(inner (ord.map (·.1))).length<16777216:=by rw[yp,A4];lia
  have hps:ps.length<=fP E:=GQ (D3.mpr ⟨ps,M0 he,rfl⟩);have hlw:(zi w).length+(zi ps).length<=16777216:=by rw[mz,mz];lia
  have ht:=hs.tree;refine⟨Hw st n ps,ord++[(n,p)],w++ps,.tr (.aF (Ce (Hw st n ps))),.sh (.int (n:Int)),h',.inl rfl,λq hq=>?_,by simp,?_,sV n ps st,sq (by simp only[gZ,O4,K0,z1,z2,SY,R3];rfl) ((mY (by simp![An,an,g1,g2,eN];rfl)).trans (sq (Ub (d:=.int (n:Int)) (by rcases hs with rfl|⟨_,rfl⟩<;>rfl) (by simp![An,an,g1,m1]) rfl) (sq (by simp![Co,An,hlo];rfl) (sq (by simp![kh,An,kk,hli,vU];rfl) (sq (by simp![rY,An,T9,ht,hI,hT,Sl.mk];rfl) ?_)))))⟩;rcases F1.mp hq with z|z;exact .inl z;exact .inr ⟨n,ps,he,z⟩;rw[A6,abk he hn,B9];show w.length+ps.length+Ep E (ord.map (·.1)++[n])=_;lia;rw[show zi (w++ps)=zi w++zi ps by unfold zi;rw[B9],show Dw (ord++[(n,p)])=Dw ord++[.tup [.int (n:Int),.int (p:Int)]] by unfold Dw;rw[B9];rfl];simp![qU,An,hI,eT,hlw];refine⟨st,ord,w,s2,a8,h,hs,λq hq=>.inl hq,by lia,rfl,rfl,sq (by simp only[gZ,O4,K0,z1,z2,SY,R3]) ((Es (by simp![An,an,g1,g2,eN,hl])).trans rfl)⟩
theorem KQ(E:List (List Nat))(hE:E.length<=900)(hT:fP E<=900)(a1 a6:Sl):∀(fuel k:Nat) (st:Cp) (ord:List (Nat×Nat)) (w:List Nat) (s2 a7 a8:Sl),Peel E st ord->cV st s2->(∀q∈w,(Cb st q).isSome=true)->w.length+Ep E (ord.map (·.1))=k->k<fuel->k<=1800->∃bJ aq tX EJ EI,Peel E bJ aq/\cV bJ tX/\Fq [3] yI yH fuel [.sh (.lst (eL E)),a1,s2,.ow (.lst (zi w)),.ow (.lst (Dw ord)),.ow (.aF (inner (ord.map (·.1)))),a6,a7,a8]=.nx [.sh (.lst (eL E)),a1,tX,.ow (.lst []),.ow (.lst (Dw aq)),.ow (.aF (inner (aq.map (·.1)))),a6,EJ,EI]
 |0,k,st,ord,w,s2,a7,a8,h,hs,hw,hk,hf,J=>by lia|f+1,k,st,ord,w,s2,a7,a8,h,hs,hw,hk,hf,J=>by
  rcases List.eq_nil_or_concat w with rfl|⟨w0,p,rfl⟩;exact⟨st,ord,s2,a7,a8,h,hs,Qj (by rcases hs with rfl|⟨_,rfl⟩<;>rfl)⟩;rw[List.concat_eq_append]at *;rw[A6,F8]at hk;have ho:=qL h.nd (n:=E.length) λx hx=>by obtain⟨y,hy,rfl⟩:=D3.mp hx;exact(h.ok y hy).lt
  rw[A4]at ho;obtain⟨bJ,aq,w',tX,EI,h',pV,hw',_,qE,iU,e⟩:=turn h hE a1 a6 a7 a8 hs (w:=w0) (p:=p) (hw p (by simp)) () ();obtain⟨aV,iy,s3,EJ,iu,h2,dO,e2⟩:=KQ E hE hT a1 a6 f (k-1) bJ aq w' tX (.sh (.int (p:Int))) EI h' pV (λq hq=>by rcases hw' q hq with z|⟨m,z⟩;rw[<-cB,iU,cB];exact hw q (by simp[z]);exact h'.keys m q z) () () ();have hz:(0:Int)<((zi (w0++[p])).length:Int):=by rw[mz,A6];simp
  exact⟨aV,iy,s3,EJ,iu,h2,dO,(zH (by simp![yI,An,Sl.any,Fy,wg,hz]) e).trans e2⟩
noncomputable def Gy(E:List (List Nat))(ord:List (Nat×Nat)):List Nat:=(List.range E.length).filter λn=>decide (n∉ord.map (·.1))
def abj(n:Nat):Eh 0 n=zi (List.range n):=by unfold Eh zi;apply C8;intro k _;rw[W0]
def lfP(ord:List (Nat×Nat)):D->Bool|.int i=>decide (i.toNat∉ord.map (·.1))|_=>false
def abi(E:List (List Nat))(size:Int)(hE:E.length<=900)(hE1:1<=E.length)(hT:fP E<=900):∃(st:Cp) (ord:List (Nat×Nat)),Peel E st ord/\sN [.lst (eL E),.int size]=.ok (.tr (.tup [Tn.of (.lst (Dw ord)),Tn.of (.lst (zi (Gy E ord)))])):=by
 obtain⟨st,s2,r,hs,hl,w,ew,hw⟩:=abn E hE hT;have P0:Peel E st []:=⟨r.imp λn p=>by simp,by simp,λx h=>by simp at h,λx h=>by simp at h,by simp,λn p z=>r.all n p z⟩;have cw:(Tn.L (Ce st)).map (λp=>kD p.1)=zi (st.map (·.1)):=by rw[wC,D1];unfold zi;rw[D1];rfl
 have hf:(zi (st.map (·.1))).all Av=true:=by unfold zi;rw[Z9,F9];intro x _;rfl
 obtain⟨bJ,ord,tX,a7,a8,h',pV,e⟩:=KQ E hE hT (.sh (.int size)) .no 3000 (st.length+fP E) st [] (st.map (·.1)) s2 .no .no P0 hs (λq hq=>cB.mp hq) (by rw[A4,N8,XM]) () ();refine⟨bJ,ord,h',?_⟩;have hr:∀a δ,Bk Du #v[Al Dd #v[0]] (some (.lst (eL E))::a::δ)=.ok (zi (List.range E.length)):=λa δ=>by
  have zk:(eL E).length=E.length:=by unfold eL;rw[A4]
  simp![An,Fy,zk,tO (show -4611686018427387903<=(E.length:Int) by lia) (),K6,abj]
 have ef:∀b1 b2 b3 b4 b6 b7 b8:Option D,Bn 1 (Bk Du #v[Al Dd #v[0]]) (gC 9) tf (Aa 9) [some (.lst (eL E)),b1,b2,b3,b4,some (.aF (inner (ord.map (·.1)))),b6,b7,b8]=.ok (.ow (.lst (zi (Gy E ord)))):=λb1 b2 b3 b4 b6 b7 b8=>by refine pP (hr _ _) (by rw[mz,M7];lia) ((qu (lfP ord) (λd=>d) _ λd hd=>?_).trans ?_);obtain⟨n,hn,rfl⟩:=D3.mp hd;refine⟨_,rfl,?_,λ_=>⟨_,rfl,rfl⟩⟩;have hk:Fm (.int (n:Int))=some (kp n):=rfl;simp![tf,An,iT,hk,Mm,lfP,K6];by_cases h:n∈ord.map (·.1);simp only[h,O5,Bool.not_true,not_true,M8];simp only[h,M8,Sx,not_false_eq_true,O5];rw[EN];unfold zi Gy;rw[SI];rfl
 have v1:∀b1 b2 b3 b4 b6 b7 b8:Option D,Bn 1 (Bk Du #v[Al Dd #v[0]]) (gC 9) tf (Aa 9) [some (.lst (eL E)),b1,b2,b3,b4,none,b6,b7,b8]=.no:=λb1 b2 b3 b4 b6 b7 b8=>by obtain⟨n,hn⟩:∃n,E.length=n+1:=⟨E.length-1,by lia⟩;refine FR (d:=.int 0) (M:=zi ((List.range n).map Nat.succ)) ((hr _ _).trans (by rw[hn,List.range_succ_eq_map];rfl)) (by rw[B7,mz];simp;lia) rfl rfl
 refine Ek (sq (Δ':=[.sh (.lst (eL E)),.sh (.int size),s2,.no,.no,.no,.no,.no,.no]) ?_ (sq (by simp![lM,An,hs.any,wq,cw,hf];rfl) (sq rfl (sq rfl ?_))));rcases hw with⟨rfl,rfl⟩|⟨_,rfl,rfl⟩<;>simp![An,ew];exact sq e (sq (setG (v1 _ _ _ _ _ _ _) (ef _ _ _ _ _ _ _) rfl (ef _ _ _ _ _ _ _)) rfl)
def MM(p n:Nat):zN [.int (p:Int),.int (n:Int)]=.ok (.sh (.bl (decide (p<n)))):=by simp![zN,Mn,An,lZ,rL,rM,show(0:Int)<=(p:Int) by lia];rw[show decide ((p:Int)<(n:Int))=decide (p<n) by simp]
def Ng(z m:Int)(h:0<m):zS [.int z,.int m]=.ok (.sh (.int (z%m))):=by simp![zS,MT,An,eN,show¬m=0 by lia,Fw h]
noncomputable def Ee(ts:List Int)(p:Nat):Int:=ts.getD p 0
def Ec(ts:List Int)(ps:List Nat):Int:=(ps.map (Ee ts)).sum
def VW{ts:List Int}{p:Nat}(h:p<ts.length):dP (ts.map D.int) (p:Int)=some (.int (Ee ts p)):=by refine Hx ?_;rw[B3];simp[Ee,List.getD,h]
def atD(ts:List Int):D->D|.int i=>.int (Ee ts i.toNat)|d=>d
def KP(ts:List Int)(ps:List Nat)(m:Int)(hm:0<m)(h:∀p∈ps,p<ts.length)(hl:ps.length<=1000):tU [.lst (ts.map .int),.tup (zi ps),.int m]=.ok (.sh (.int (Ec ts ps%m))):=by
 have ec:∀a b,Bn 1 (Db (Aa 1)) (gC 4) yF yG [some (.lst (ts.map .int)),some (.tup (zi ps)),a,b]=.ok (.ow (.lst (ps.map λp=>D.int (Ee ts p)))):=λa b=>by refine pP rfl (by rw[mz];lia) ((qu (λ_=>true) (atD ts) (zi ps) λd hd=>?_).trans ?_);obtain⟨p,hp,rfl⟩:=D3.mp hd;have hl:=h p hp;exact⟨_,rfl,by simp![yF,An,Fy,A4,MM,hl],λ_=>⟨.sh (.int (Ee ts p)),by simp![yG,An,iQ (VW hl)],rfl⟩⟩;rw[W3.mpr λ_ _=>rfl];unfold zi;rw[D1];rfl
 simp![tU,JN,An,ec,VZ,Ng _ m hm];rfl
def ma(l:List Int)(i p:Nat)(v:Int):Ee (l.set i v) p=if p=i/\i<l.length then v else Ee l p:=by unfold Ee;rw[B4,List.getElem?_set];by_cases h:i=p;subst h;by_cases h2:i<l.length;simp[h2];simp[h2,List.getD];have:¬p=i:=λz=>h z.symm;simp[h,this]
def ML{ts us:List Int}:∀{ps:List Nat},(∀p∈ps,Ee ts p=Ee us p)->Ec ts ps=Ec us ps:=by intro ps h;unfold Ec;rw[C8 h]
def ZZ(e1 w m:Int)(h0:0<=w)(h1:w<m):(e1+(w-e1%m)%m)%m=w:=by
 have e:(e1+(w-e1%m)%m)%m=(e1+(w-e1%m))%m:=by rw[Int.add_emod,Int.emod_emod_of_dvd _ (Int.dvd_refl m),<-Int.add_emod]
 rw[e];have h2:=Int.mul_ediv_add_emod e1 m;have e2:e1+(w-e1%m)=w+m*(e1/m):=by lia
 rw[e2,Int.add_mul_emod_self_left];exact Int.emod_eq_of_lt h0 h1
def kf(E:List (List Nat))(w:List Int)(m:Int)(ts:List Int)(x:Nat×Nat):List Int:=ts.set x.2 ((w.getD x.1 0-Ec ts (E.getD x.1 [])%m)%m)
def Fd(E:List (List Nat))(w:List Int)(m:Int)(size:Nat)(ks:List (Nat×Nat)):List Int:=ks.foldl (kf E w m) (List.replicate size 0)
def yo(E:List (List Nat))(w:List Int)(m:Int)(size:Nat)(ks:List (Nat×Nat)):(Fd E w m size ks).length=size:=by
 unfold Fd;have:∀(ks:List (Nat×Nat)) (ts:List Int),(ks.foldl (kf E w m) ts).length=ts.length:=λks=>by induction ks with|nil=>intro ts;rfl|cons x ks ih=>intro ts;show(ks.foldl (kf E w m) (kf E w m ts x)).length=_;rw[ih];unfold kf;rw[F7]
 rw[this,M6]
def Ml(E:List (List Nat))(w:List Int)(m:Int)(size:Nat)(ks:List (Nat×Nat))(x:Nat×Nat):Fd E w m size (ks++[x])=kf E w m (Fd E w m size ks) x:=by unfold Fd;rw[List.foldl_append];rfl
def JD{ord:List (Nat×Nat)}{i:Nat}{d:D}(h:(Dw ord)[i]?=some d):∃x,ord[i]?=some x/\d=.tup [.int (x.1:Int),.int (x.2:Int)]:=by unfold Dw at h;rw[B3]at h;obtain⟨x,S,e2⟩:=F0.mp h;exact⟨x,S,e2.symm⟩
def acB(E:List (List Nat))(w:List Int)(m:Int)(size:Nat)(ord:List (Nat×Nat))(hm:0<m)(hz:size<=100000)(ho:∀x∈ord,∃ps,E[x.1]?=some ps/\(∀p∈ps,p<size)/\ps.length<=1000/\x.2<size/\x.1<w.length):sM [.lst (eL E),.int (size:Int),.lst (Dw ord),.lst (w.map .int),.int m]=.ok (.ow (.lst ((Fd E w m size ord.reverse).map .int))):=by
 have ft:(Dw ord).reverse=Dw ord.reverse:=by unfold Dw;rw[List.map_reverse]
 obtain⟨Δ',e,a6,a7,a8,rfl⟩:=mW (lq 6 7) yE (λk B=>∃a6 a7 a8,B=[.sh (.lst (eL E)),.sh (.int (size:Int)),.sh (.lst (Dw ord)),.sh (.lst (w.map .int)),.sh (.int m),.ow (.lst ((Fd E w m size (ord.reverse.take k)).map .int)),a6,a7,a8]) (M:=(Dw ord).reverse) ⟨.no,.no,.no,rfl⟩ λk d B hk ⟨a6,a7,a8,e⟩=>by subst e;rw[ft]at hk;obtain⟨⟨n,p⟩,hx,rfl⟩:=JD hk;obtain⟨ps,he,vz,qC,kF,hw⟩:=ho (n,p) (Y6.mp (M0 hx));simp only at he kF hw;have hsn:Fd E w m size (ord.reverse.take (k+1))=(Fd E w m size (ord.reverse.take k)).set p ((w.getD n 0-Ec (Fd E w m size (ord.reverse.take k)) ps%m)%m):=(by rw[Q3,hx];show Fd E w m size (ord.reverse.take k++[(n,p)])=_;rw[Ml];unfold kf;simp only[B4,he,U2]);have hl:=yo E w m size (ord.reverse.take k);rw[hsn];generalize Fd E w m size (ord.reverse.take k)=f at *;have hs:tU [.lst (f.map .int),eT ps,.int m]=_:=KP f ps m hm (λq hq=>by rw[hl];exact vz q hq) qC;have hxn:=nJ (n:=(f.map D.int).length) (i:=p) (by rw[A4,hl];exact kF);have hI:Bf (.lst (eL E)) (.int (n:Int))=.ok (.sh (eT ps)):=iQ (Hx (FQ he));have hW:Bf (.lst (w.map .int)) (.int (n:Int))=.ok (.sh (.int (w.getD n 0))):=iQ (Hx (by rw[B3,B1 hw,B4,B1 hw];rfl));rw[Ss];exact⟨_,rfl,_,.inl (by simp![yE,An,lq,hI,hW,hs,og,MM,kF,rP,Ng _ m hm,hxn];rfl),_,_,_,rfl⟩
 have e0:(List.replicate (size:Int).toNat [D.int 0]).flatten=(Fd E w m size []).map .int:=by unfold Fd;rw[Sy,List.map_replicate,K6];generalize size=n;induction n with|zero=>rfl|succ n ih=>rw[L7,O6,ih,L7];rfl
 have hr:qW [D.int 0] (.int (size:Int))=.ok (.ow (.lst ((Fd E w m size []).map .int))):=by unfold qW;simp only[B7,Q4];rw[if_pos ⟨by lia,by lia⟩,e0]
 have hle:(Dw ord).reverse.length=ord.reverse.length:=by rw[ft];unfold Dw;rw[A4]
 rw[hle,T8]at e;exact Ek (sq (nC hr) (sq (Gr rfl e) rfl))
def ZY(E:List (List Nat))(w:List Int){m:Int}(hm:0<m)(size:Nat)(ks:List (Nat×Nat))(p:Nat):0<=Ee (Fd E w m size ks) p/\Ee (Fd E w m size ks) p<m:=by
 unfold Fd;have:∀(ks:List (Nat×Nat)) (ts:List Int),(∀p,0<=Ee ts p/\Ee ts p<m)->∀p,0<=Ee (ks.foldl (kf E w m) ts) p/\Ee (ks.foldl (kf E w m) ts) p<m:=λks=>by induction ks with|nil=>intro ts h p;exact h p|cons x ks ih=>intro ts h p;refine ih _ (λq=>?_) p;unfold kf;rw[ma];split;exact⟨R7 _ (),R4 _ hm⟩;exact h q
 refine this ks _ (λq=>?_) p;unfold Ee;rw[B4,J6];split;exact⟨Int.le_refl _,hm⟩;exact⟨Int.le_refl _,hm⟩
theorem KN{ts:List Int}{p:Nat}{v:Int}(hp:p<ts.length):∀{ps:List Nat},ps.Nodup->p∈ps->Ec (ts.set p v) ps=Ec ts ps-Ee ts p+v
 |a::ps,nd,h=>by
  rw[K1]at nd;have c1:Ec (ts.set p v) (a::ps)=Ee (ts.set p v) a+Ec (ts.set p v) ps:=by unfold Ec;rw[B6,T3]
  have c2:Ec ts (a::ps)=Ee ts a+Ec ts ps:=by unfold Ec;rw[B6,T3]
  rw[c1,c2];by_cases ha:a=p;subst ha;rw[ma,if_pos ⟨rfl,hp⟩,ML (us:=ts) λq hq=>by rw[ma,if_neg];rintro ⟨rfl,_⟩;exact nd.1 hq];lia;have hm:p∈ps:=by rcases C5.mp h with z|z;exact absurd z.symm ha;exact z
  rw[ma,if_neg (λz=>ha z.1),KN hp nd.2 hm];lia
theorem KL{E:List (List Nat)}{w:List Int}{m:Int}{size:Nat}(hm:0<m):∀(ord:List (Nat×Nat)),(∀x∈ord,∃ps,E[x.1]?=some ps/\ps.Nodup/\x.2∈ps/\x.2<size/\0<=w.getD x.1 0/\w.getD x.1 0<m)->(ord.Pairwise λx y=>¬RE E y.1 x.2)->(∀x∈ord,Ec (Fd E w m size ord.reverse) (E.getD x.1 [])%m=w.getD x.1 0)/\∀p,(∀x∈ord,x.2≠p)->Ee (Fd E w m size ord.reverse) p=0
 |[],_,_=>⟨λx h=>by simp at h,λp _=>by unfold Fd Ee;simp only[List.reverse_nil,Sy,B4,J6];split<;>rfl⟩|(n,p)::ord,h,pw=>by
  rw[P7]at pw;obtain⟨i1,i2⟩:=KL hm ord (λx hx=>h x (D5 _ hx)) pw.2;obtain⟨ps,he,nd,hp,cK,w0,w1⟩:=h (n,p) (by simp);simp only at he hp cK w0 w1;have er:Fd E w m size ((n,p)::ord).reverse=kf E w m (Fd E w m size ord.reverse) (n,p):=by rw[SX,Ml]
  have hg:E.getD n []=ps:=by rw[B4,he];rfl
  have z0:Ee (Fd E w m size ord.reverse) p=0:=i2 p λx hx z=>by obtain⟨qs,S,_,e2,_⟩:=h x (D5 _ hx);exact pw.1 x hx ⟨qs,S,z▸e2⟩
  have hl:=yo E w m size ord.reverse;rw[er];refine⟨λx hx=>?_,λq hq=>?_⟩;rcases C5.mp hx with rfl|hx;simp only;unfold kf;simp only;rw[hg,KN (by rw[hl];exact cK) nd hp,z0,Int.sub_zero];exact ZZ _ _ _ w0 w1;obtain⟨qs,S,_,_,_⟩:=h x (D5 _ hx);have hn:p∉qs:=λz=>pw.1 x hx ⟨qs,S,z⟩;have hg2:E.getD x.1 []=qs:=by rw[B4,S];rfl
  rw[<-i1 x hx];unfold kf;rw[hg2];congr 1;refine ML λq hq=>?_;rw[ma,if_neg];rintro ⟨rfl,_⟩;exact hn hq;unfold kf;rw[ma,if_neg (λz=>hq (n,p) (by simp) z.1.symm)];exact i2 q λx hx=>hq x (D5 _ hx)
def uW(n s z:Int)(hz:0<z):0<=Hc n s z/\Hc n s z<z:=⟨R7 _ (),R4 _ hz⟩
def Dr(d:D)(salt ii im:Int):List Nat:=(List.range ii.toNat).map λ(k:Nat)=>(mB d salt im (k:Int)).toNat
def pj(d:D)(salt im:Int)(hp:0<im)(j:Int)(hj:0<=j):0<=mB d salt im j/\j*im<=mB d salt im j/\mB d salt im j<(j+1)*im:=by
 obtain⟨h0,h1⟩:=uW (Dq d) (4*salt+j) im hp;have e:(j+1)*im=j*im+im:=by rw[Int.add_mul,Int.one_mul]
 have h2:0<=j*im:=V5 hj ();unfold mB;lia
def Mj(d:D)(salt ii im:Int)(hp:0<im):md d salt ii im=zi (Dr d salt ii im):=by unfold md zi Dr;rw[D1];apply C8;intro k _;show D.int (mB d salt im (0+(k:Int)))=.int (((mB d salt im (k:Int)).toNat:Nat):Int);rw[W0,Int.toNat_of_nonneg (pj d salt im hp k ()).1]
def acA(d:D)(salt ii im:Int)(hp:0<im):(Dr d salt ii im).Nodup:=by unfold Dr;rw[List.nodup_iff_pairwise_ne,S5];refine List.Pairwise.imp (R:=λa b:Nat=>a<b) (λ{a b} h=>?_) (List.pairwise_lt_range);obtain⟨a0,a1,a2⟩:=pj d salt im hp a ();obtain⟨b0,b1,b2⟩:=pj d salt im hp b ();have:((a:Int)+1)*im<=(b:Int)*im:=Y7 () ();lia
def sZ(d:D)(salt ii im:Int)(hp:0<im)(hk:0<=ii):∀p∈Dr d salt ii im,p<(ii*im).toNat:=by intro p h;obtain⟨k,iU,rfl⟩:=D3.mp h;have iU:=J9.mp iU;obtain⟨a0,a1,a2⟩:=pj d salt im hp k ();have:((k:Int)+1)*im<=ii*im:=Y7 () ();lia
def Oe(d:D)(salt ii im:Int):(Dr d salt ii im).length=ii.toNat:=by unfold Dr;simp
def Ei(L:List D)(salt ii:Int):List (List Nat):=L.map λd=>Dr d salt ii (Cn (L.length:Int) ii)
def KJ(L:List D)(salt ii:Int)(hp:0<Cn (L.length:Int) ii):wD L salt ii=eL (Ei L salt ii):=by unfold wD eL Ei;rw[D1];apply C8;intro d _;show D.tup _=D.tup _;rw[Mj d salt ii _ hp]
theorem KI{α:Type}(c:Nat):∀(l:List α) (f:α->Nat),(∀a∈l,f a=c)->(l.map f).sum=l.length*c|[],f,_=>by simp|a::l,f,h=>by rw[B6,T3,KI c l f λb J=>h b (D5 _ J),h a (by simp),B7,Nat.add_mul,Nat.one_mul,Nat.add_comm]
def acz(L:List D)(salt ii:Int):fP (Ei L salt ii)=L.length*ii.toNat:=by unfold fP Ei;rw[D1];exact KI ii.toNat L _ λd _=>Oe d salt ii _
def wB(a b:D):(W.tr (.tup [Tn.of a,Tn.of b])).d=.tup [a,b]:=by show D.tup [(Tn.of a).d,(Tn.of b).d]=_;rw[Tn.dW,Tn.dW]
structure Ks(L:List D)(salt ii:Int):Prop where
 k:∀k∈L,isKey k
 nd:L.Nodup
 h1:1<=L.length
 h2:L.length<=200
 s0:0<=salt
 s1:salt<=1000000000000
 kd:ii=2\/ii=3
def XJ{L:List D}{salt ii:Int}(h:Ks L salt ii):∃st ord,Peel (Ei L salt ii) st ord/\hV [.lst L,.int salt,.int ii]=.ok (.tr (.tup [Tn.of (.lst (Dw ord)),Tn.of (.lst (zi (Gy (Ei L salt ii) ord)))])):=by
 obtain⟨p1,_,p3,p4⟩:=oC (L.length:Int) ii (by have:=h.h1;lia) (by have:=h.h2;lia) h.kd;have h2:=h.h2;have jh:=acz L salt ii;have hk3:ii.toNat<=3:=by have:=h.kd;lia
 have hle:L.length*ii.toNat<=200*3:=Nat.mul_le_mul h2 hk3;obtain⟨st,ord,hP,e⟩:=abi (Ei L salt ii) (ii*Cn (L.length:Int) ii) (by unfold Ei;rw[A4];lia) (by unfold Ei;rw[A4];exact h.h1) ();refine⟨st,ord,hP,?_⟩;have ee:=JE h.k h.nd h.h1 h.h2 salt ii h.s0 h.s1 h.kd;rw[KJ L salt ii p3]at ee;have mm:Dm (.int ii) (.int (Cn (L.length:Int) ii))=.ok (.sh (.int (ii*Cn (L.length:Int) ii))):=Gi (fY (by have:=h.kd;lia) (by have:=h.kd;lia));simp![hV,GW,An,ee,Fy,p1,mm,e]
def xp{L:List D}{salt ii:Int}(h:Ks L salt ii):∃b:Bool,mZ [.lst L,.int salt,.int ii]=.ok (.sh (.bl b))/\(b=true->∃ord:List (Nat×Nat),(∀n,n<L.length->n∈ord.map (·.1))/\(∃st,Peel (Ei L salt ii) st ord)/\hV [.lst L,.int salt,.int ii]=.ok (.tr (.tup [Tn.of (.lst (Dw ord)),Tn.of (.lst [])]))):=by
 obtain⟨st,ord,hP,e⟩:=XJ h;have hx:Bf (.tup [.lst (Dw ord),.lst (zi (Gy (Ei L salt ii) ord))]) (.int 1)=.ok (.sh (.lst (zi (Gy (Ei L salt ii) ord)))):=sx (Hx (i:=1) rfl);refine⟨decide (((zi (Gy (Ei L salt ii) ord)).length:Int)=0),?_,λJ=>?_⟩;simp![mZ,Mo,An,e,wB,hx,Fy,eN];have J:=E8 J;have hz:Gy (Ei L salt ii) ord=[]:=by apply U3;rw[mz]at J;lia
 refine⟨ord,λn hn=>?_,⟨st,hP⟩,by rw[e,hz];rfl⟩;by_cases hm:n∈ord.map (·.1);exact hm;exfalso;have:n∈Gy (Ei L salt ii) ord:=by unfold Gy;rw[N2];exact⟨J9.mpr (by unfold Ei;rw[A4];exact hn),F4 hm⟩
 rw[hz]at this;simp at this
def fL:Xn:=⟨"NoTry",[],[]⟩
def JC{L:List D}{ii:Int}(h:Ks L 0 ii)(jk:Int)(m0:0<=jk)(m1:jk<=1000):ni [.lst L,.int ii,.int jk]=.ex fL\/∃s:Nat,(s:Int)<jk/\ni [.lst L,.int ii,.int jk]=.ok (.sh (.int (s:Int)))/\mZ [.lst L,.int (s:Int),.int ii]=.ok (.sh (.bl true)):=by
 obtain⟨ds,rfl⟩:∃ds:Nat,jk=(ds:Int):=⟨jk.toNat,by lia⟩;obtain⟨r,e,p⟩:=sW (fg:=gV 3) (g:=Oo) (λa=>[.sh (.lst L),.sh (.int ii),.sh (.int (ds:Int)),a]) (λs=>(s:Int)<(ds:Int)/\mZ [.lst L,.int (s:Int),.int ii]=.ok (.sh (.bl true))) (λ_ _=>rfl) (List.range ds) .no λt ht=>by have ht:=J9.mp ht;obtain⟨b,eb,_⟩:=xp (L:=L) (salt:=(t:Int)) (ii:=ii) ⟨h.k,h.nd,h.h1,h.h2,by lia,by lia,h.kd⟩;cases b with|true=>exact .inr ⟨by simp![Oo,An,eb],by lia,eb⟩|false=>exact .inl (by simp![Oo,An,eb])
 have t0:Di [0] (Az 1 qA #v[0]) (Bh 4 [.lst L,.int ii,.int (ds:Int)])=.nx [.sh (.lst L),.sh (.int ii),.sh (.int (ds:Int)),.no]:=by simp![An,sr h.k h.nd h.h1 h.h2]
 rcases p with⟨Δ',rfl⟩|⟨s,rfl,p1,p2⟩;exact .inl (wa (sq t0 (sq (Gr (gU rfl ()) e) rfl)));exact .inr ⟨s,p1,Ek (sq t0 (BJ (Gr (gU rfl ()) e))),p2⟩
noncomputable abbrev tN:List Str:=["by_salt","kind","part","modulus","listed"]
abbrev Fe(s ii im m:Int)(T:List Int):D:=.obj "Table" tN [.int s,.int ii,.int im,.int m,.lst (T.map .int)]
def acy(a b c d e:D):oE [a,b,c,d,e]=.ok (tN,[a,b,c,d,e]):=by rfl'
def JB{L:List D}{s ii:Int}(h:Ks L s ii)(hs:mZ [.lst L,.int s,.int ii]=.ok (.sh (.bl true)))(m:Int)(hm:0<m)(w:List Int)(hw:w.length=L.length)(J:∀i,i<w.length->0<=w.getD i 0/\w.getD i 0<m):∃T:List Int,(T.length:Int)=ii*Cn (L.length:Int) ii/\(∀t∈T,0<=t/\t<m)/\(∀i d,L[i]?=some d->Ec T (Dr d s ii (Cn (L.length:Int) ii))%m=w.getD i 0)/\zR [.lst L,.int s,.int ii,.int m,.lst (w.map .int)]=.ok (.sh (Fe s ii (Cn (L.length:Int) ii) m T)):=by
 obtain⟨p1,_,p3,p4⟩:=oC (L.length:Int) ii (by have:=h.h1;lia) (by have:=h.h2;lia) h.kd;obtain⟨b,eb,Rk⟩:=xp h;cases hs.symm.trans eb;obtain⟨ord,ay,⟨st,hP⟩,ef⟩:=Rk rfl;have Ph:=h.kd;generalize iE:Cn (L.length:Int) ii=im at *;have hsz:0<=ii*im:=V5 () ();have ib:ii*im<=3*2000:=X3 () p4 () ();obtain⟨size,uK⟩:∃n:Nat,(n:Int)=ii*im:=⟨(ii*im).toNat,by lia⟩;have ij:∀n ps,(Ei L s ii)[n]?=some ps->∃d,L[n]?=some d/\ps=Dr d s ii im:=λn ps e=>by unfold Ei at e;rw[B3]at e;obtain⟨d,S,e2⟩:=F0.mp e;exact⟨d,S,by rw[<-e2,iE]⟩
 have aJ:∀x∈ord,∃ps,(Ei L s ii)[x.1]?=some ps/\ps.Nodup/\x.2∈ps/\(∀p∈ps,p<size)/\ps.length<=1000/\x.1<L.length:=λx hx=>by obtain⟨ps,S,e2⟩:=hP.ok x hx;obtain⟨d,e3,rfl⟩:=ij x.1 ps S;refine⟨_,S,acA d s ii im p3,e2,λp hp=>?_,?_,(A7.mp e3).1⟩;have:=sZ d s ii im p3 () p hp;lia;rw[Oe];lia
 have S:=acB (Ei L s ii) w m size ord hm () λx hx=>by obtain⟨ps,k1,k2,k3,k4,k5,k6⟩:=aJ x hx;exact⟨ps,k1,k4,k5,k4 _ k3,by lia⟩
 obtain⟨q1,_⟩:=KL (E:=Ei L s ii) (w:=w) (size:=size) hm ord (λx hx=>by obtain⟨ps,k1,k2,k3,k4,k5,k6⟩:=aJ x hx;exact⟨ps,k1,k2,k3,k4 _ k3,J x.1 ()⟩) hP.pw;refine⟨Fd (Ei L s ii) w m size ord.reverse,by rw[yo];exact uK,λt ht=>?_,λi d hd=>?_,?_⟩;obtain⟨p,hp,rfl⟩:=W2 ht;have:=ZY (Ei L s ii) w hm size ord.reverse p;unfold Ee at this;rw[B4,B1 hp]at this;exact this;have hi:i<L.length:=(A7.mp hd).1;obtain⟨x,hx,rfl⟩:=D3.mp (ay i hi);have:=q1 x hx;have hg:(Ei L s ii).getD x.1 []=Dr d s ii im:=by unfold Ei;rw[B4,B3,hd,iE];rfl
 rw[hg]at this;exact this;have ee:=JE h.k h.nd h.h1 h.h2 s ii h.s0 h.s1 h.kd;rw[KJ L s ii (by rw[iE];exact p3)]at ee;have mm:Dm (.int ii) (.int im)=.ok (.sh (.int (size:Int))):=by rw[uK];exact Gi (fY () ())
 have hx:Bf (.tup [.lst (Dw ord),.lst []]) (.int 0)=.ok (.sh (.lst (Dw ord))):=sx (Hx (i:=0) rfl);simp![zR,MS,An,Fy,p1,ee,ef,wB,hx,mm,S,gY,acy]
section
variable{s ii im m:Int}{T:List Int}{d:D}{ps:List Nat}
def ZX(δ:DE):Ch ["Table"] "by_salt" (Aa 0) (some (Fe s ii im m T)::δ)=.ok (.sh (.int s)):=by rfl'
def ZW(δ:DE):Ch ["Table"] "kind" (Aa 0) (some (Fe s ii im m T)::δ)=.ok (.sh (.int ii)):=by rfl'
def ZV(δ:DE):Ch ["Table"] "part" (Aa 0) (some (Fe s ii im m T)::δ)=.ok (.sh (.int im)):=by rfl'
def adp(δ:DE):Ch ["Table"] "modulus" (Aa 0) (some (Fe s ii im m T)::δ)=.ok (.sh (.int m)):=by rfl'
def acx(δ:DE):Ch ["Table"] "listed" (Aa 0) (some (Fe s ii im m T)::δ)=.ok (.sh (.lst (T.map .int))):=by rfl'
def Mi{w:W}(h:pX [d,.int s,.int ii,.int im]=.ok w):qa [Fe s ii im m T,d]=.ok w:=by simp![qa,NH,An,ZX,ZW,ZV,h]
def abh(hm:0<m)(h:pX [d,.int s,.int ii,.int im]=.ok (.sh (eT ps)))(hp:∀p∈ps,p<T.length)(hl:ps.length<=1000):nq [Fe s ii im m T,d]=.ok (.sh (.int (Ec T ps%m))):=by have hs:tU [.lst (T.map .int),eT ps,.int m]=.ok (.sh (.int (Ec T ps%m))):=KP T ps m hm hp hl;have iz:Dl "places" 1 [("Table",qa)] (Aa 0) #v[1] [some (Fe s ii im m T),some d]=.ok (.sh (eT ps)):=(Gw rfl rfl rfl nofun ∅).trans (Mi h);simp![nq,Nx,An,iz,acx,adp,hs]
end
noncomputable def eX(ord:List (Nat×Nat)):List (Am×D):=ord.map λx=>(Sum.inl (x.1:Int),D.int (x.2:Int))
noncomputable def pM(ord:List (Nat×Nat))(i:Nat):Nat:=((ord.find? λx=>decide (x.1=i)).map (·.2)).getD 0
def XI{ord:List (Nat×Nat)}{n p:Nat}(h:n∉ord.map (·.1)):Cs (eX ord) (.inl (n:Int)) (D.int (p:Int))=eX (ord++[(n,p)]):=by
 unfold Cs;have CQ:¬((eX ord).any λkv=>decide (kv.1=Sum.inl (n:Int)))=true:=λhc=>by obtain⟨kv,hm,e⟩:=T5.mp hc;obtain⟨x,hx,rfl⟩:=D3.mp hm;have e:=E8 e;injection e with e;exact h (D3.mpr ⟨x,hx,by lia⟩)
 rw[if_neg CQ];unfold eX;rw[B9];rfl
theorem Iv:∀(ord:List (Nat×Nat)) (i:Nat),i∈ord.map (·.1)->Bs (eX ord) (.inl (i:Int))=some (D.int (pM ord i:Nat))
 |[],i,h=>by simp at h|x::ord,i,h=>by
  unfold Bs pM eX;rw[B6,N9,N9];by_cases c:x.1=i;have c':(Sum.inl (x.1:Int):Am)=Sum.inl (i:Int):=by rw[c]
  simp only[c,O5,c',J8,U2];have c':¬(Sum.inl (x.1:Int):Am)=Sum.inl (i:Int):=λz=>by injection z with z;lia
  simp only[c,M8,c'];exact Iv ord i (by rcases C5.mp h with z|z;exact absurd z.symm c;exact z)
theorem wA:∀{ord:List (Nat×Nat)}{x:Nat×Nat},(ord.map (·.1)).Nodup->x∈ord->pM ord x.1=x.2|[],x,_,h=>by simp at h|y::ord,x,nd,h=>by rw[B6,K1]at nd;unfold pM;rw[N9];rcases C5.mp h with rfl|h;simp;have c:¬y.1=x.1:=λe=>nd.1 (e▸D3.mpr ⟨x,h,rfl⟩);simp only[c,M8];exact wA nd.2 h
def abg{L:List D}{s ii:Int}(h:Ks L s ii)(hs:mZ [.lst L,.int s,.int ii]=.ok (.sh (.bl true))):∃C:List Nat,C.length=L.length/\C.Nodup/\(∀i d,L[i]?=some d->C.getD i 0∈Dr d s ii (Cn (L.length:Int) ii))/\OC [.lst L,.int s,.int ii]=.ok (.ow (.lst (zi C))):=by
 have h2:=h.h2;obtain⟨b,eb,Rk⟩:=xp h;cases hs.symm.trans eb;obtain⟨ord,ay,⟨st,hP⟩,ef⟩:=Rk rfl;have hEl:(Ei L s ii).length=L.length:=by unfold Ei;rw[A4]
 have cK:∀x∈ord,x.1<L.length:=λx hx=>by have:=(hP.ok x hx).lt;lia
 have bu:(ord.map (·.1)).Perm (List.range L.length):=(List.perm_ext_iff_of_nodup hP.nd SO).mpr λn=>by rw[J9];exact⟨λz=>by obtain⟨x,hx,rfl⟩:=D3.mp z;exact cK x hx,ay n⟩
 have hol:ord.length=L.length:=by have:=bu.length_eq;rw[A4,M7]at this;exact this
 have nd2:(ord.map (·.2)).Nodup:=by unfold List.Nodup;rw[S5];refine ZC0 (λ{a b} ha J hr=>?_) hP.pw;intro e;exact hr (by rw[e];exact hP.ok b J)
 have iq:(ord.map (·.1)).map (pM ord)=ord.map (·.2):=by rw[D1];exact C8 λx hx=>wA hP.nd hx
 refine⟨(List.range L.length).map (pM ord),by simp,?_,λi d hd=>?_,?_⟩;have:=(bu.map (pM ord)).symm;rw[iq]at this;exact this.nodup_iff.mpr nd2;have hi:i<L.length:=(A7.mp hd).1;rw[B4,B3,N5 hi];obtain⟨x,hx,rfl⟩:=D3.mp (ay i hi);show pM ord x.1∈_;rw[wA hP.nd hx];obtain⟨e,S,e2⟩:=hP.ok x hx;unfold Ei at S;rw[B3,hd]at S;cases S;exact e2;have hx:Bf (.tup [.lst (Dw ord),.lst []]) (.int 0)=.ok (.sh (.lst (Dw ord))):=sx (Hx (i:=0) rfl);obtain⟨Δ',e,a4,a5,rfl⟩:=mW (lq 4 5) Qt (λk B=>∃a4 a5,B=[.sh (.lst L),.sh (.int s),.sh (.int ii),.ow (.aF (eX (ord.take k))),a4,a5]) (M:=Dw ord) ⟨.no,.no,rfl⟩ (λk d B hd hI=>by
  obtain⟨a4,a5,rfl⟩:=hI;obtain⟨x,hx,rfl⟩:=JD hd;have CT:k<ord.length:=(A7.mp hx).1;have hn:x.1∉(ord.take k).map (·.1):=λhm=>by obtain⟨y,hy,e⟩:=D3.mp hm;obtain⟨j,hj,e2⟩:=W2 hy;rw[Q9]at hj;have nd:=hP.nd;have h1:(ord.map (·.1))[j]'(by rw[A4];lia)=(ord.map (·.1))[k]'(by rw[A4];exact CT):=(by rw[U1,U1];have:ord[k]=x:=(A7.mp hx).2;rw[this,<-e,<-e2];simp);exact P5.mp nd j k (by rw[A4];lia) (by rw[A4];exact CT) () h1
  have hp:=XI (p:=x.2) hn;have hl:(eX (ord.take k)).length<16777216:=by unfold eX;rw[A4,Q9];lia
  refine⟨_,rfl,_,.inl ?_,.sh (.int (x.1:Int)),.sh (.int (x.2:Int)),rfl⟩;rw[Q3,hx];simp![Qt,An,kh,Fm,hl,hp,Option.toList])
 have hTl:(Dw ord).length=ord.length:=by unfold Dw;rw[A4]
 rw[hTl,T8]at e;have hz:(Eh 0 L.length).map (λd=>match d with|.int j=>D.int (pM ord j.toNat:Nat)|d=>d)=zi ((List.range L.length).map (pM ord)):=by unfold Eh zi;rw[D1,D1];apply C8;intro j _;simp
 rw[<-hz];refine Ek (sq rfl (sq (Gr (by simp![An,ef,wB,hx]) e) (ret (Em _ (by simp![An,Fy,tO (show(-4611686018427387903:Int)<=(L.length:Int) by lia) (),K6]) (by rw[vg];lia) λd hd=>?_))));obtain⟨j,hj,rfl⟩:=D3.mp hd;have hv:=Iv ord j (ay j (J9.mp hj));rw[W0];exact⟨_,_,rfl,by simp![z_4,An,Dn,Fm,hv];rfl,rfl⟩
noncomputable def Cj(C:List Nat)(size:Nat):List Nat:=(List.range size).map λp=>if p∈C then 49 else 48
noncomputable def rk(C:List Nat)(p:Nat):Nat:=(C.filter λc=>decide (c<p)).length
def JA(C:List Nat)(size:Nat):(Cj C size).length=size:=by unfold Cj;simp
def XH(n:Nat)(l:List Nat):Dz (.int (n:Int)) (zi l)=decide (n∈l):=by
 induction l with
 |nil=>rfl|cons y l ih=>
  unfold Dz zi at ih⊢;rw[B6,S9,ih];have:RD (D.int (y:Int)) (D.int (n:Int))=decide ((y:Int)=(n:Int)):=rfl;rw[this];by_cases h:y=n;subst h;simp;have h':¬n=y:=λz=>h z.symm;have h3:¬((y:Int)=(n:Int)):=by lia
  simp[h3,h']
def ZU(l:List Nat):(zi l).all Av=true:=by unfold zi;rw[Z9];exact F9.mpr λ_ _=>rfl
def GP(n:Nat)(l:List Nat):inD false (.int (n:Int)) (.lst (zi l))=.ok (.sh (.bl (decide (n∈l)))):=by have h:inD false (.int (n:Int)) (.lst (zi l))=if(Av (.int (n:Int))&&(zi l).all Av)=true then .ok (.sh (.bl (Dz (.int (n:Int)) (zi l)))) else .no:=rfl;rw[h,ZU,if_pos (show(Av (.int (n:Int))&&true)=true from rfl),XH]
def VV(C:List Nat)(size:Nat)(hz:size<=100000):CG [.lst (zi C),.int (size:Int)]=.ok (.sh (.str (Bv (Cj C size)))):=by
 have ec:Bn 1 (Bk Du #v[1]) (gC 2) (λ_=>.ok true) OO [some (.lst (zi C)),some (.int (size:Int))]=_:=Em (M:=Eh 0 size) (λd=>match d with|.int j=>.str (Bv [if j.toNat∈C then 49 else 48])|d=>d) (by simp![An,tO (show(-4611686018427387903:Int)<=(size:Int) by lia) (),K6]) (by rw[vg];lia) λd hd=>by obtain⟨j,hj,rfl⟩:=D3.mp hd;refine⟨_,.sh (.str (Bv [if j∈C then 49 else 48])),rfl,?_,by simp⟩;rw[W0];by_cases c:j∈C;simp![OO,An,AN,GP,c,O5,if_true];rfl;simp![OO,An,AN,GP,c,M8,L5];rfl
 have OY:(Eh 0 size).map (λd=>match d with|.int j=>D.str (Bv [if j.toNat∈C then 49 else 48])|d=>d)=(List.range size).map λp=>.str (Bv [if p∈C then 49 else 48]):=by unfold Eh;rw[D1];apply C8;intro j _;simp
 rw[OY]at ec;have hj:=aam (λp=>Bv [if p∈C then 49 else 48]) (List.range size) (by
  rw[D1];have:((List.range size).map ((λx=>Str.length x) ∘ λp=>Bv [if p∈C then 49 else 48]))=(List.range size).map λ_=>1:=by apply C8;intro n _;show(Bv _).length=1;rw[jR];rfl
  rw[this];simp only[List.map_const',List.sum_replicate_nat,M7];lia)
 have cy:Txt.join (Str.ofString "") ((List.range size).map λp=>Bv [if p∈C then 49 else 48])=Bv (Cj C size):=by refine IS ?_;rw[qm,aan,D1];unfold Cj;generalize List.range size=l;induction l with|nil=>rfl|cons x l ih=>rw[B6,O6,ih,B6];show(Bv _).cps.toList++_=_;rw[qm];rfl
 simp![CG,NP,An,ec,P6,hj,cy]
def xo{C:List Nat}(nd:C.Nodup)(p:Nat):rk C (p+1)=rk C p+if p∈C then 1 else 0:=by
 unfold rk;induction C with
 |nil=>rfl|cons c C ih=>
  rw[K1]at nd;have ih:=ih nd.2;simp only[O0];by_cases e:c=p;subst e;have h1:c<c+1:=by lia
  have h2:¬c<c:=by lia
  have h3:c∉C:=nd.1;simp only[h1,h2,O5,M8,if_true,B7,C5,true_or,F6,L5];rw[ih];simp[h3];have h4:(p∈c::C)=(p∈C):=by have:¬p=c:=λz=>e z.symm;simp[this]
  by_cases h:c<p;have h1:c<p+1:=by lia
  simp only[h,h1,O5,if_true,B7,h4];rw[ih];lia;have h1:¬c<p+1:=by lia
  simp only[h,h1,M8,F6,L5,h4];exact ih
theorem KH{C:List Nat}(nd:C.Nodup):∀p,(Cj C p).count 49=rk C p|0=>by unfold Cj rk;rw[ZE2.mpr λc _=>by simp];rfl|p+1=>by unfold Cj;rw[List.range_succ,B9,List.count_append];have:=KH nd p;unfold Cj at this;rw[this,xo nd];by_cases c:p∈C<;>simp[c]
def ZT(C:List Nat){p size:Nat}(h:p<=size):(Cj C size).take p=Cj C p:=by unfold Cj;rw[<-List.map_take,List.take_range,Nat.min_eq_left h]
def FP{C:List Nat}{c:Nat}(h:c∈C):rk C c<C.length:=by unfold rk;exact List.length_filter_lt_length_iff_exists.mpr ⟨c,h,by simp⟩
def Iu{C:List Nat}(nd:C.Nodup){a b:Nat}(ha:a∈C)(h:a<b):rk C a<rk C b:=by
 have:∀k,rk C a<rk C (a+1+k):=λk=>by induction k with|zero=>rw[Nat.add_zero,xo nd,if_pos ha];lia|succ k ih=>rw[show a+1+(k+1)=(a+1+k)+1 by lia,xo nd];lia
 have h2:=this (b-(a+1));rwa[show a+1+(b-(a+1))=b by lia]at h2
def US{C:List Nat}(nd:C.Nodup):(C.map (rk C)).Nodup:=by unfold List.Nodup;rw[S5];refine ZC0 (λ{a b} ha J hr=>?_) nd;intro e;rcases V2 a b with z|z|z;have:=Iu nd ha z;lia;exact hr z;have:=Iu nd J z;lia
def lQ(t:Tn):Sl.qp (.lt t)=none:=rfl
def UR(d:D):DK [d]=.ok (["how_many"],[d]):=by rfl'
def UQ(d:D):DN [d]=.ok (["how_many"],[d]):=by rfl'
def VU{L:List D}{ii jk:Int}{x:Xn}(e:ni [.lst L,.int ii,.int jk]=.ex x):mq [.lst L,.int ii,.int jk]=.ex x:=wb (BI (ly e))
def VT{L:List D}{ii jk:Int}{x:Xn}(e:ni [.lst L,.int ii,.int jk]=.ex x):zK [.lst L,.int ii,.int jk]=.ex x:=wb (BI (ly e))
structure gH(L:List D)(s ii im:Int)(C:List Nat)(T:List Int)(size:Nat):Prop where
 K:Ks L s ii
 pt:im=Cn (L.length:Int) ii
 p0:0<im
 p1:im<=2000
 sz:(size:Int)=ii*im
 len:C.length=L.length
 nd:C.Nodup
 mem:∀i d,L[i]?=some d->C.getD i 0∈Dr d s ii im
 tl:T.length=size
 tb:∀t∈T,0<=t/\t<ii
 ts:∀i d,L[i]?=some d->Ec T (Dr d s ii im)%ii=((C.getD i 0:Nat):Int)/im
def Hb(s ii im:Int)(T:List Int)(d:D):Nat:=(Dr d s ii im).getD (Ec T (Dr d s ii im)%ii).toNat 0
section
variable{L:List D}{s ii im:Int}{C:List Nat}{T:List Int}{size:Nat}
def gH.k2(h:gH L s ii im C T size):2<=ii/\ii<=3:=by rcases h.K.kd with z|z<;>lia
def gH.z(h:gH L s ii im C T size):size<=6000:=by have:=h.k2;have hle:ii*im<=3*2000:=X3 () h.p1 (by have:=h.p0;lia) ();have:=h.sz;lia
def gH.tell(h:gH L s ii im C T size)(d:D):0<=Ec T (Dr d s ii im)%ii/\Ec T (Dr d s ii im)%ii<ii:=by have:=h.k2;exact⟨R7 _ (),R4 _ ()⟩
def gH.at_(h:gH L s ii im C T size)(d:D):(Dr d s ii im)[(Ec T (Dr d s ii im)%ii).toNat]?=some (Hb s ii im T d):=by
 have ht:=h.tell d;have hl:(Ec T (Dr d s ii im)%ii).toNat<(Dr d s ii im).length:=by rw[Oe];lia
 unfold Hb;rw[B4,B1 hl];rfl
def gH.lt(h:gH L s ii im C T size)(d:D):Hb s ii im T d<size:=by have:=sZ d s ii im h.p0 (by have:=h.k2;lia) _ (M0 (h.at_ d));have:=h.sz;lia
def gH.key(h:gH L s ii im C T size){i:Nat}{d:D}(hd:L[i]?=some d):Hb s ii im T d=C.getD i 0:=by
 have hm:=h.mem i d hd;have hp0:=h.p0;have hk:=h.k2;obtain⟨j,hj,e⟩:=D3.mp hm;have hj:=J9.mp hj;obtain⟨b0,b1,b2⟩:=pj d s im hp0 (j:Int) ();have hC:((C.getD i 0:Nat):Int)=mB d s im (j:Int):=by lia
 have hq:((C.getD i 0:Nat):Int)/im=(j:Int):=by rw[hC];rw[Int.ediv_eq_iff_of_pos hp0];rw[Int.add_mul,Int.one_mul]at b2;exact⟨b1,b2⟩
 have ht:=h.ts i d hd;unfold Hb;rw[ht,hq,<-e];unfold Dr;rw[B4,B3,K6,N5 hj];rfl
def Qq(C:List Nat)(s ii im:Int)(T:List Int)(d:D):Int:=min ((rk C (Hb s ii im T d):Nat):Int) ((C.length:Int)-1)
def gH.rm(h:gH L s ii im C T size){i:Nat}{d:D}(hd:L[i]?=some d):Qq C s ii im T d=((rk C (C.getD i 0):Nat):Int):=by
 have hi:i<C.length:=by rw[h.len];exact(A7.mp hd).1
 have hm:C.getD i 0∈C:=by rw[B4,B1 hi];exact V9 hi
 have:=FP hm;unfold Qq;rw[h.key hd];lia
end
noncomputable abbrev L24:List Str:=["how_many","own_table","used_row"]
def ZS{L:List D}{ii jk:Int}(h:Ks L 0 ii){s:Nat}(hs:s<=1000)(e:ni [.lst L,.int ii,.int jk]=.ok (.sh (.int (s:Int))))(e2:mZ [.lst L,.int (s:Int),.int ii]=.ok (.sh (.bl true))):∃(C:List Nat) (T:List Int) (size:Nat),gH L (s:Int) ii (Cn (L.length:Int) ii) C T size/\mq [.lst L,.int ii,.int jk]=.ok (L24,[.int (L.length:Int),Fe (s:Int) ii (Cn (L.length:Int) ii) ii T,.str (Bv (Cj C size))]):=by
 have h1:=h.h1;have h2:=h.h2;have hK:Ks L (s:Int) ii:=⟨h.k,h.nd,h.h1,h.h2,by lia,by lia,h.kd⟩;obtain⟨p1,_,p3,p4⟩:=oC (L.length:Int) ii () () h.kd;obtain⟨C,c1,c2,c3,c4⟩:=abg hK e2;have Ph:2<=ii/\ii<=3:=by rcases h.kd with z|z<;>lia
 have nh:∀i,i<L.length->∃d,L[i]?=some d:=λi hi=>⟨_,B1 hi⟩;have hq:∀i,i<L.length->0<=((C.getD i 0:Nat):Int)/Cn (L.length:Int) ii/\((C.getD i 0:Nat):Int)/Cn (L.length:Int) ii<ii:=λi hi=>by obtain⟨d,hd⟩:=nh i hi;have J:=sZ d (s:Int) ii (Cn (L.length:Int) ii) p3 () _ (c3 i d hd);have hnn:0<=ii*Cn (L.length:Int) ii:=V5 () ();refine⟨Int.ediv_nonneg () (),Int.ediv_lt_of_lt_mul p3 ?_⟩;lia
 obtain⟨T,t1,t2,t3,t4⟩:=JB hK e2 ii () (C.map λc:Nat=>(c:Int)/Cn (L.length:Int) ii) (by rw[A4];exact c1) (λi hi=>by rw[A4,c1]at hi;have:=hq i hi;rw[B4,B3,B1 (by lia:i<C.length)];rw[B4,B1 (by lia:i<C.length)]at this;exact this);generalize iE:Cn (L.length:Int) ii=im at *;have hsz:0<=ii*im:=V5 () ();have ib:ii*im<=3*2000:=X3 () p4 () ();refine⟨C,T,(ii*im).toNat,⟨hK,iE.symm,p3,p4,by lia,c1,c2,c3,by lia,t2,λi d hd=>?_⟩,?_⟩;have hi:i<C.length:=by rw[c1];exact(A7.mp hd).1
 rw[t3 i d hd,B4,B3,B1 hi,B4,B1 hi];rfl;have rw_:=VV C (ii*im).toNat ();rw[show(((ii*im).toNat:Nat):Int)=ii*im by lia]at rw_;have mm:Dm (.int ii) (.int im)=.ok (.sh (.int (ii*im))):=Gi (fY () ());have hzz:(zi C).map (λd=>match d with|.int c=>D.int (c/im)|d=>d)=(C.map λc:Nat=>(c:Int)/im).map .int:=by unfold zi;rw[D1,D1];rfl
 have ec:Bn 1 (Db (Aa 6)) (gC 7) (λ_=>.ok true) Qz [none,some (.lst L),some (.int ii),some (.int jk),some (.int (s:Int)),some (.int im),some (.lst (zi C))]=_:=Em (M:=zi C) (λd=>match d with|.int c=>.int (c/im)|d=>d) (by simp![An]) (by rw[mz];lia) λd hd=>by obtain⟨c,hc,rfl⟩:=D3.mp hd;exact⟨_,_,rfl,by simp![Qz,An,jn p3 ()];rfl,rfl⟩
 rw[hzz]at ec;show lE "Peeled" (z_5 (mC 7 "Peeled" _))=_;refine ql (lx e) (ql (lH (w:=.sh (.int (L.length:Int))) rfl rfl (UR _)) ?_);refine ql (by simp![An,lQ,Fy,p1];rfl) (ql (by simp![An,lQ,c4];rfl) ?_);refine ql (lD (w:=.sh (Fe (s:Int) ii im ii T)) rfl nofun (by simp![An,lQ,ec];exact t4)) ?_;exact vW (w:=.sh (.str (Bv (Cj C (ii*im).toNat)))) rfl nofun (by simp![An,lQ,mm,rw_]) rfl rfl
def XG(n:Nat):(Eh 0 n)=(((List.range n).map λk:Nat=>(k:Int)).map D.int):=by unfold Eh;rw[D1];apply C8;intro k _;show D.int (0+(k:Int))=.int (k:Int);rw[W0]
def ZR{L:List D}{ii jk:Int}(h:Ks L 0 ii){s:Nat}(hs:s<=1000)(e:ni [.lst L,.int ii,.int jk]=.ok (.sh (.int (s:Int))))(e2:mZ [.lst L,.int (s:Int),.int ii]=.ok (.sh (.bl true))):∃T:List Int,(T.length:Int)=ii*Cn (L.length:Int) ii/\(∀t∈T,0<=t/\t<(L.length:Int))/\(∀(i:Nat) (d:D),L[i]?=some d->Ec T (Dr d (s:Int) ii (Cn (L.length:Int) ii))%(L.length:Int)=(i:Int))/\zK [.lst L,.int ii,.int jk]=.ok (["how_many","own_table"],[.int (L.length:Int),Fe (s:Int) ii (Cn (L.length:Int) ii) (L.length:Int) T]):=by
 have h1:=h.h1;have h2:=h.h2;have rg:∀i,i<L.length->((List.range L.length).map λk:Nat=>(k:Int)).getD i 0=(i:Int):=λi hi=>by rw[B4,B3,N5 hi];rfl
 obtain⟨T,t1,t2,t3,t4⟩:=JB (s:=(s:Int)) ⟨h.k,h.nd,h.h1,h.h2,by lia,by lia,h.kd⟩ e2 (L.length:Int) () ((List.range L.length).map λk:Nat=>(k:Int)) (by simp) (λi hi=>by
  have QZ:i<L.length:=by simpa using hi
  rw[rg i QZ];lia)
 refine⟨T,t1,t2,λi d hd=>?_,?_⟩;rw[t3 i d hd,rg i (A7.mp hd).1];have hr:gR Du #v[Al Dd #v[1]] [none,some (.lst L),some (.int ii),some (.int jk),some (.int (s:Int))]=.ok (.ow (.lst (((List.range L.length).map λk:Nat=>(k:Int)).map D.int))):=by rw[<-XG];simp![An,lQ,Fy,gR,tO (show(-4611686018427387903:Int)<=(L.length:Int) by lia) (),K6];rw[if_pos (by rw[vg];lia)]
 show lE "Ordered" (x_8 (mC 5 "Ordered" _))=_;refine ql (lx e) (ql (lH (w:=.sh (.int (L.length:Int))) rfl rfl (UQ _)) ?_);exact vW (w:=.sh (Fe (s:Int) ii (Cn (L.length:Int) ii) (L.length:Int) T)) rfl nofun (by simp![An,lQ,Fy,hr];exact t4) rfl rfl
abbrev C4:List Str:=La
abbrev Om(F:AF):List (Str×(AF)):=[("Peeled",F),("Ordered",F),("Buckets",F),("Halved",F)]
abbrev tbN:List (Str×(AF)):=Qa
def QG{c:Str}(h:c∈C4)(F:AF):(Om F).lookup c=some F:=by simp only[C4,C5,SN,or_false]at h;rcases h with rfl|rfl|rfl|rfl<;>rfl'
structure gJ(ds:D)(n:Nat)(z:D->Int):Prop where
 ob:∃c ns vs,ds=.obj c ns vs/\c∈C4/\ns.contains "room"=false/\ns.contains "rooms"=false/\ns.contains "many"=false
 num:∀δ,Ch C4 "how_many" (Aa 0) (some ds::δ)=.ok (.sh (.int (n:Int)))
 nof:∀d,isKey d->∀δ,Dl "number_of" 1 tbN (Aa 0) #v[1] (some ds::some d::δ)=.ok (.sh (.int (z d)))
def rp{c:Str}{ns:List Str}{vs:List D}{n:Nat}{z:D->Int}{F:AF}(hc:c∈C4)(h1:ns.contains "room"=false/\ns.contains "rooms"=false/\ns.contains "many"=false/\ns.contains "number_of"=false)(h2:C4.contains c=true/\tbN.lookup c=some F)(hn:(ns.zip vs).lookup ("how_many" :Str)=some (D.int (n:Int)))(hz:∀d,isKey d->F [.obj c ns vs,d]=.ok (.sh (.int (z d)))):gJ (.obj c ns vs) n z:=⟨⟨c,ns,vs,rfl,hc,h1.1,h1.2.1,h1.2.2.1⟩,λ_=>Hj rfl h2.1 hn,λd hd _=>(Gw rfl rfl rfl h1.2.2.2 h2.2).trans (hz d hd)⟩
section
variable{ds d:D}{n:Nat}{z:D->Int}
noncomputable def rm(z:D->Int)(n:Nat)(d:D):Int:=min (z d) ((n:Int)-1)
def gJ.room(h:gJ ds n z)(hd:isKey d):mJ [ds,d]=.ok (.sh (.int (rm z n d))):=by simp![mJ,Nw,An,h.nof d hd,h.num,og,Wm,rm]
def gJ.qV(h:gJ ds n z)(hd:isKey d){i:Nat}{δ:DE}(e:Aa i (some ds::δ)=.ok (.sh d)):Dl "room" 1 (Om mJ) (Aa 0) #v[Aa i] (some ds::δ)=.ok (.sh (.int (rm z n d))):=by obtain⟨c,ns,vs,rfl,hc,n1,_⟩:=h.ob;exact(Gw rfl (rG e) rfl n1 (QG hc _)).trans (h.room hd)
theorem gJ.many(h:gJ ds n z)(δ:DE):Dl "many" 0 (Om nu) (Aa 0) Ad (some ds::δ)=.ok (.sh (.int (n:Int))):=by have e:=h.num [];obtain⟨c,ns,vs,rfl,hc,_,_,n3⟩:=h.ob;refine(Gw (fo:=Aa 0) (fa:=Ad) (M:=[]) rfl rfl rfl n3 (QG hc _)).trans ?_;simp![nu,Nv,An,e]
def mF(z:D->Int)(n:Nat)(ls:List D):List D:=(ls.map (rm z n)).map .int
theorem gJ.rooms(h:gJ ds n z){ls:List D}(hk:∀k∈ls,isKey k)(hl:ls.length<=1000){i:Nat}{δ:DE}(e:Aa i (some ds::δ)=.ok (.sh (.lst ls))):Dl "rooms" 1 (Om nv) (Aa 0) #v[Al pI #v[Aa i]] (some ds::δ)=.ok (.ow (.lst (mF z n ls))):=by
 have er:nv [ds,.lst ls]=.ok (.ow (.lst (mF z n ls))):=by unfold mF;rw[D1];exact Ek (sq (by simp![An,Iy hk];rfl) (ret (Em (λd=>.int (rm z n d)) (by simp![An]) () λd hd=>⟨_,_,rfl,h.qV (hk d hd) rfl,rfl⟩)))
 obtain⟨c,ns,vs,rfl,hc,_,n2,_⟩:=h.ob;exact(Gw rfl (rG (wc e rfl)) rfl n2 (QG hc _)).trans er
end
def Dv(p n:Nat):List Int:=(List.range n).map λk=>((p+k:Nat):Int)
theorem vZ:∀(n:Nat) (l:List Int),l.Nodup->(∀x∈l,0<=x/\x<(n:Int))->l.length<=n
 |0,l,_,J=>by cases l with|nil=>exact A9 _|cons x l=>have:=J x (by simp);lia
 |n+1,l,nd,J=>by by_cases c:(n:Int)∈l;have h1:=(List.perm_cons_erase c).length_eq;have h2:=vZ n (l.erase (n:Int)) (nd.erase _) (λx hx=>by have hm:=(ZC1 nd).mp hx;have:=J x hm.2;have:=hm.1;lia);rw[B7]at h1;lia;have:=vZ n l nd (λx hx=>by have:=J x hx;have:x≠(n:Int):=λe=>c (e▸hx);lia);lia
theorem sk:∀(n:Nat) (l:List Int),l.Nodup->(∀x∈l,0<=x/\x<(n:Int))->l.length=n->l.Perm (Dv 0 n)
 |0,l,_,J,hl=>by rw[U3 hl];exact List.Perm.refl _|n+1,l,nd,J,hl=>by
  have c:(n:Int)∈l:=W1 λc=>by have:=vZ n l nd (λx hx=>by have:=J x hx;have:x≠(n:Int):=λe=>c (e▸hx);lia);lia
  have h1:=List.perm_cons_erase c;have h2:=sk n (l.erase (n:Int)) (nd.erase _) (λx hx=>by have hm:=(ZC1 nd).mp hx;have:=J x hm.2;have:=hm.1;lia) (by have:=h1.length_eq;rw[B7]at this;lia);have h3:Dv 0 (n+1)=Dv 0 n++[(n:Int)]:=by unfold Dv;rw[List.range_succ,B9];simp
  rw[h3];exact(h1.trans (h2.cons _)).trans (List.perm_append_singleton _ _).symm
def Ir(l:List Int):Fk (l.map .int)=some l:=by have e:=yq (λi:Int=>i) l;rwa[EN]at e
def UP{l:List Int}{n:Nat}(hp:l.Perm (Dv 0 n))(hl:l.length<64):nN [.lst (l.map .int)]=.ok (.ow (.lst ((Dv 0 n).map .int))):=by have h2:nQ l=Dv 0 n:=JT hp.symm (by unfold Dv;rw[S5];exact List.pairwise_lt_range.imp λh=>by lia);simp only[nN,Ir,hl,if_true,h2]
def UO(n:Nat):(Dv 0 n).map D.int=Eh 0 n:=by unfold Dv Eh;rw[D1];apply C8;intro k _;show D.int ((0+k:Nat):Int)=.int (0+(k:Int));rw[O9,W0]
def OJ{p q:FT}{δ:DE}(h1:p δ=.ok false)(h2:q δ=.ok false):Et p q δ=.ok false:=by unfold Et;rw[h1];exact h2
def vh{c:D->D->R W}{f f':FE}{δ:DE}{w w':W}{a:R W}(e:f δ=.ok w)(e':f' δ=.ok w')(k:c w.d w'.d=a):Ag c f f' δ=a:=by unfold Ag;rw[e,R.aD,e',R.aD,k]
def xn(T:List Int):jr 1 (.lst (T.map .int))=true:=JK 0 (λi:Int=>i) T
def QB(T:List Int):Gz (.lst (T.map .int)) (.lst (T.map .int))=.ok (.sh (.bl false)):=sL 1 (xn T)
def xm{l:List D}{a b:Option Int}:∀d∈Ey l a b,d∈l:=λd h=>by unfold Ey at h;exact List.mem_of_mem_drop (Y9 h)
def xk(l:List D)(a b:Option Int):(Ey l a b).length<=l.length:=by unfold Ey;rw[Q9,List.length_drop];lia
def Jz(n:Int):zP [.int n]=.ok (.sh (.bl true)):=by simp![zP,MO,An]
def Nf{ds:D}{z:D->Int}{L ss:List D}{jl:Int}(h:gJ ds L.length z)(hk:∀k∈L,isKey k)(hs:∀k∈ss,isKey k)(h1:1<=L.length)(h2:L.length<=40)(h3:ss.length<=10)(bd:∀d,isKey d->0<=z d)(pm:(L.map (rm z L.length)).Perm (Dv 0 L.length))(fo:jl=1->L.map (rm z L.length)=Dv 0 L.length):BA [ds,.lst L,.lst ss,.int jl]=.ok (.sh (.bl true)):=by
 have hr:∀a b c e δ,gR Du #v[4] (a::b::c::e::some (.int (L.length:Int))::δ)=.ok (.ow (.lst ((Dv 0 L.length).map .int))):=λa b c e δ=>by rw[UO];simp![An,gR,tO (show(-4611686018427387903:Int)<=(L.length:Int) by lia) (),K6];rw[if_pos (by rw[vg];lia)]
 have gz:=UP pm (by rw[A4];lia);have e0:Gz (.int (L.length:Int)) (.int (L.length:Int))=.ok (.sh (.bl false)):=by rw[YF,F4 rfl];rfl
 have J:∀d,isKey d->0<=rm z L.length d/\rm z L.length d<(L.length:Int):=λd hd=>by have:=bd d hd;unfold rm;lia
 refine Ek (sq (by simp![Nr,An,Fy];rfl) (sq (nC (h.rooms hk () rfl)) ?_));refine sq (Es (OJ (by simp![An,Sl.any]) (OJ (eY (wc rfl gz) (hr _ _ _ _ _) (QB _)) (eY (h.many _) rfl e0)))) ?_;refine sq (Es ?_) ?_;by_cases hf:jl=1;have:=fo hf;simp![mF,this,An,Sl.any,hr,hf,eN,QB];simp![An,Sl.any,eN,hf];refine sq (nC (Em (λd=>.int (rm z L.length d)) rfl (by rw[M5];lia) λd hd=>⟨_,_,rfl,h.qV (hk d (Y6.mp hd)) rfl,rfl⟩)) (sq (Es (OJ (eY (Em (λd=>d) rfl ?_ λd _=>⟨_,_,rfl,rfl,rfl⟩) rfl ?_) (eY (pP (M:=mF z L.length L) rfl ?_ (qu (λ_=>false) (λd=>d) _ λd hd=>?_)) rfl ?_))) ?_);rw[M5,A4,M5];lia;rw[show((L.reverse.map λd=>D.int (rm z L.length d)).reverse.map λd=>d)=mF z L.length L by unfold mF;simp[Function.comp_def]];exact QB _;unfold mF;rw[A4,A4];lia;unfold mF at hd;obtain⟨r,_,rfl⟩:=D3.mp hd;exact⟨_,rfl,by simp![Nu,An,Jz],λq=>by cases q⟩;rw[ZE2.mpr λ_ _=>B5];exact sL 1 rfl;obtain⟨Δ',el,a7,a9,rfl⟩:=mW (gV 7) Nt (λ_ B=>∃a7 a9:Sl,B=[.sh ds,.sh (.lst L),.sh (.lst ss),.sh (.int jl),.sh (.int (L.length:Int)),.ow (.lst (mF z L.length L)),.ow (.lst (L.reverse.map λd=>.int (rm z L.length d))),a7,.no,a9]) (M:=ss) ⟨.no,.no,rfl⟩ (λi d B hd ⟨a7,a9,e⟩=>by subst e;have hd:=hs d (M0 hd);obtain⟨b0,b1⟩:=J d hd;refine⟨_,rfl,_,.inl (sq (lx (h.qV hd rfl)) ?_),.sh d,.sh (.int (rm z L.length d)),rfl⟩;simp![An,Sl.any,Jz,rM,Ve,show¬rm z L.length d<0 by lia,show¬(L.length:Int)<=rm z L.length d by lia]);have hS:∀d∈ss++L.reverse++Ey L none (some 2)++Ey ss none (some 1),isKey d:=λd hd=>by simp only[F1,Y6]at hd;rcases hd with((hd|hd)|hd)|hd;exact hs d hd;exact hk d hd;exact hk d (xm d hd);exact hs d (xm d hd)
 have l1:=xk L none (some 2);have l2:=xk ss none (some 1);have hSl:(ss++L.reverse++Ey L none (some 2)++Ey ss none (some 1)).length<=1000:=by rw[A6,A6,A6,M5];lia
 have er:∀a b c e f g i j k,Bn 1 (Hr (Aa 1)) (gC 10) (λ_=>.ok true) (Aa 10) [a,some (.lst L),b,c,e,f,g,i,j,k]=.ok (.ow (.lst (L.reverse.map λd=>d))):=λ_ _ _ _ _ _ _ _ _=>Em (λd=>d) rfl (by rw[M5];lia) λd _=>⟨_,_,rfl,rfl,rfl⟩;simp only[EN]at er;refine sq (Gr rfl el) (sq (show Ah 8 _ _ _=.nx ([.sh ds,.sh (.lst L),.sh (.lst ss),.sh (.int jl),.sh (.int (L.length:Int)),.ow (.lst (mF z L.length L)),.ow (.lst (L.reverse.map λd=>.int (rm z L.length d))),a7,.ow (.lst (ss++L.reverse++Ey L none (some 2)++Ey ss none (some 1))),a9]) from ?_) ?_);simp![An,er,lW,Ea,Df,Cz,By,Bl,A6,M5,show ss.length+L.length<=16777216 by lia,show ss.length+L.length+(Ey L none (some 2)).length<=16777216 by lia,show ss.length+L.length+(Ey L none (some 2)).length+(Ey ss none (some 1)).length<=16777216 by lia,if_true];generalize ss++L.reverse++Ey L none (some 2)++Ey ss none (some 1)=e1 at hS hSl⊢;refine sq (Es (eY (h.rooms hS hSl rfl) (Em (λd=>.int (rm z L.length d)) rfl () λd hd=>⟨_,_,rfl,h.qV (hS d hd) rfl,rfl⟩) ?_)) (ret ?_);unfold mF;rw[D1];exact sL 1 (JK 0 _ _);exact vh (h.rooms hk () rfl) rfl (xX 1 (xn _))
def Jy{s ii im m:Int}{T:List Int}(s0:0<=s)(s1:s<=1000000000000)(hk:ii=2\/ii=3)(p0:0<im)(p1:im<=2000)(hm:0<m)(hT:(T.length:Int)=ii*im){d:D}(hd:isKey d):pX [d,.int s,.int ii,.int im]=.ok (.sh (eT (Dr d s ii im)))/\nq [Fe s ii im m T,d]=.ok (.sh (.int (Ec T (Dr d s ii im)%m)))/\(∀p∈Dr d s ii im,p<T.length):=by
 obtain⟨q1,_⟩:=KS hd s ii im s0 s1 hk p0 p1;rw[Mj d s ii im p0]at q1;have J:∀p∈Dr d s ii im,p<T.length:=λp hp=>by have:=sZ d s ii im p0 () p hp;lia
 exact⟨q1,abh hm q1 J (by rw[Oe];lia),J⟩
def ZQ(x:Str)(p:Nat)(h:p<=x.length):(Txt.slice x none (some (p:Int))).cps.toList=x.cps.toList.take p:=by rw[acN,GV x.cps.toList p (by rw[<-jU];exact h)]
def ZP{U:List Nat}(hU:U.length<=100000){p:Nat}(hp:p<=U.length):BQ [.str (Bv U),.int (p:Int)]=.ok (.sh (.int ((U.take p).count 49:Nat))):=by
 have e:max (p:Int) 0=(p:Int):=by lia
 have hl:(Bv U).length<=16777216:=by rw[jR];lia
 have c:Txt.count (Txt.slice (Bv U) none (some (p:Int))) "1"=((U.take p).count 49:Nat):=by have c:=abC (Txt.slice (Bv U) none (some (p:Int))) 49;rw[ZQ _ p (by rw[jR];exact hp),qm]at c;exact c
 simp![BQ,Ny,An,HE,e,lW,hl,om,P6,c]
def UN{ps:List Nat}{j p:Nat}(h:ps[j]?=some p):Bf (eT ps) (.int (j:Int))=.ok (.sh (.int (p:Int))):=by exact sx (Hx (show(zi ps)[j]?=some (.int (p:Int)) by unfold zi;rw[B3,h];rfl))
section
variable{L:List D}{s ii im m:Int}{C:List Nat}{T:List Int}{size:Nat}{ds d:D}{ps:List Nat}
abbrev C2:List Str:=Lj
def Iq(h:∀δ,Ch C2 "own_table" (Aa 0) (some ds::δ)=.ok (.sh (Fe s ii im m T))){z:Int}(ht:nq [Fe s ii im m T,d]=.ok (.sh (.int z)))(δ:DE):Dl "total" 1 [("Table",nq)] (Ch C2 "own_table" (Aa 0)) #v[1] (some ds::some d::δ)=.ok (.sh (.int z)):=(Gw (h _) rfl rfl nofun ∅).trans ht
def XF(h:∀δ,Ch C2 "own_table" (Aa 0) (some ds::δ)=.ok (.sh (Fe s ii im m T)))(hp:pX [d,.int s,.int ii,.int im]=.ok (.sh (eT ps))):ux [ds,d]=.ok (.sh (eT ps)):=by have e:∀δ,Dl "places" 1 [("Table",qa)] (Ch C2 "own_table" (Aa 0)) #v[1] (some ds::some d::δ)=.ok (.sh (eT ps)):=λ δ=>(Gw (h _) rfl rfl nofun ∅).trans (Mi hp);simp![ux,NO,An,e]
abbrev lA(n:Int)(t:D)(u:Str):D:=.obj "Peeled" L24 [.int n,t,.str u]
abbrev qY(n:Int)(t:D):D:=.obj "Ordered" ["how_many","own_table"] [.int n,t]
def XD(h:Ks L s ii)(p3:0<im)(p4:im<=2000)(ht:(T.length:Int)=ii*im):gJ (qY (L.length:Int) (Fe s ii im (L.length:Int) T)) L.length (λd=>Ec T (Dr d s ii im)%(L.length:Int)):=by have h1:=h.h1;refine rp (F:=AR) (by simp[C4]) nofun ⟨by decide +kernel,by rfl'⟩ ∅ λd hd=>?_;have e:=Iq (ds:=qY (L.length:Int) (Fe s ii im (L.length:Int) T)) (λ_=>Hj rfl ∅ ∅) (Jy (m:=(L.length:Int)) h.s0 h.s1 h.kd p3 p4 () ht hd).2.1;show AR [qY _ _,d]=_;generalize qY _ _=ds at *;simp![AR,v_3,An,e]
def XA(h:gH L s ii im C T size):gJ (lA (L.length:Int) (Fe s ii im ii T) (Bv (Cj C size))) L.length (λd=>((rk C (Hb s ii im T d):Nat):Int)):=by have hz:=h.z;have hk:=h.k2;refine rp (F:=AO) (by simp[C4]) nofun ⟨by decide +kernel,by rfl'⟩ ∅ λd hd=>?_;obtain⟨f1,f2,f3⟩:=Jy (m:=ii) h.K.s0 h.K.s1 h.K.kd h.p0 h.p1 () (by rw[h.tl];exact h.sz) hd;have ht:=h.tell d;have hx:=UN (h.at_ d);have o:=ZP (U:=Cj C size) (p:=Hb s ii im T d) (by rw[JA];lia) (by rw[JA];exact P8 (h.lt d));rw[ZT C (P8 (h.lt d)),KH h.nd]at o;have ho:∀δ,Ch C2 "own_table" (Aa 0) (some (lA (L.length:Int) (Fe s ii im ii T) (Bv (Cj C size)))::δ)=.ok (.sh (Fe s ii im ii T)):=λ_=>Hj rfl ∅ ∅;have hu:∀δ,Ch ["Peeled"] "used_row" (Aa 0) (some (lA (L.length:Int) (Fe s ii im ii T) (Bv (Cj C size)))::δ)=.ok (.sh (.str (Bv (Cj C size)))):=λ_=>Hj rfl ∅ ∅;have S:∀δ,Dl "places" 1 [("Peeled",ux)] (Aa 0) #v[1] (some (lA (L.length:Int) (Fe s ii im ii T) (Bv (Cj C size)))::some d::δ)=_:=λ δ=>(Gw rfl rfl rfl nofun ∅).trans (XF ho f1);have e2:=Iq ho f2;show AO [lA _ _ _,d]=_;generalize lA _ _ _=ds at *;generalize Ec T (Dr d s ii im)%ii=j at *;rw[show((j.toNat:Nat):Int)=j by lia]at hx;simp![AO,x_9,An,S,e2,hx,hu,o]
def ZO(h:gH L s ii im C T size):(L.map (rm (λd=>((rk C (Hb s ii im T d):Nat):Int)) L.length)).Perm (Dv 0 L.length):=by
 have hA:L.map (rm (λd=>((rk C (Hb s ii im T d):Nat):Int)) L.length)=C.map λc=>((rk C c:Nat):Int):=by refine S3 λi=>?_;rw[B3,B3];cases hd:L[i]? with|none=>rw[K8 (by rw[h.len];exact List.getElem?_eq_none_iff.mp hd)];rfl|some d=>have:=h.rm hd;have hi:i<C.length:=(by rw[h.len];exact(A7.mp hd).1);unfold Qq at this;rw[h.len]at this;rw[B1 hi,J8,J8];unfold rm;rw[this,B4,B1 hi];rfl
 rw[hA];refine sk _ _ ?_ ?_ (by rw[A4,h.len]);have e3:(C.map λc=>((rk C c:Nat):Int))=(C.map (rk C)).map λn:Nat=>(n:Int):=by rw[D1];rfl
 rw[e3];exact S5.mpr ((US h.nd).imp λmH hq=>mH ());intro x hx;obtain⟨c,hc,rfl⟩:=D3.mp hx;have:=FP hc;rw[h.len]at this;lia
end
def Hu(n:Nat)(s x:Int):Int:=Hc x (s+1) (n:Int)
def rV{n:Nat}(s x:Int)(h1:1<=n):0<=Hu n s x/\Hu n s x<(n:Int):=uW _ _ _ ()
def iN(T:List Int):List (Am×D):=iO (T.map .int)
def eD(n:Nat)(T:List Int):Prop:=∀r∈T,0<=r/\r<(n:Int)
def xj{r:Int}(h:0<=r)(h2:r<1000000):isKey (.int r):=.inl ⟨r,rfl,h,by lia⟩
def iH{r:Int}{T:List Int}:D.int r∈T.map D.int↔r∈T:=⟨λh=>by obtain⟨x,hx,e⟩:=D3.mp h;cases e;exact hx,λh=>List.mem_map_of_mem h⟩
def Hk:Option Nat->D|none=>.aK|some s=>.int (s:Int)
def EU(T R:List Int):Prop:=R.Nodup/\∀r∈R,r∉T
def xh{α:Type}{H':List α}{r:α}(nd:H'.Nodup)(c:r∉H'):(H'++[r]).Nodup:=S4.mpr ⟨nd,by simp,λa ha b J z=>c (by rw[<-E7.mp J,<-z];exact ha)⟩
section
variable{n:Nat}{T X:List Int}{s r:Int}{ks:D}
def eD.keys(h:eD n T)(hn:n<=1000):∀k∈T.map D.int,isKey k:=λk hk=>by obtain⟨r,hr,rfl⟩:=D3.mp hk;have:=h r hr;exact xj this.1 ()
def KG(h:eD n T)(hn:n<=1000)(hr:0<=r/\r<(n:Int)):Dg (iN T) (.inl r)=decide (r∈T):=by have:=JG (h.keys hn) (xj hr.1 ());rw[iH]at this;rw[U6,decide_eq_true_eq];exact this
def KD(h:eD n T)(hn:n<=1000)(hr:0<=r/\r<(n:Int))(no:r∉T):Cs (iN T) (.inl r) (.bl true)=iN (T++[r]):=by have:=JF (h.keys hn) (xj hr.1 ()) (λz=>no (iH.mp z));unfold iN;rw[B9];exact this
def KC:(iN T).length=T.length:=by unfold iN iO;rw[A4,A4]
def xg(kvs:List (Am×D))(r:Int):iT false (.int r) (.aF kvs)=.ok (.sh (.bl (Dg kvs (.inl r)))):=rfl
def eD.app{R:List Int}(h:eD n T)(hR:eD n R):eD n (T++R):=λx hx=>(F1.mp hx).elim (h x) (hR x)
def eD.snoc(h:eD n T)(hr:0<=r/\r<(n:Int)):eD n (T++[r]):=h.app λx hx=>by rw[E7.mp hx];exact hr
def eD.rm(h1:1<=n)(s:Int)(X:List Int):eD n (X.map (Hu n s)):=λr hr=>by obtain⟨x,_,rfl⟩:=D3.mp hr;exact rV s x h1
def eD.nil:eD n []:=λ_ h=>by simp at h
variable(h1:1<=n)
include h1
theorem yD(x:Int)(s0:0<=s)(s1:s<=1000):uX [.int x,.int s,.int (n:Int)]=.ok (.sh (.int (Hu n s x))):=by simp![uX,KZ,An,Gh,(uQ x (s+1) (n:Int) () () ()).1,Hu]
variable(hn:n<=1000)(hT:eD n T)
include hn hT
theorem Jx(s0:0<=s)(s1:s<=1000):∀(X H':List Int) (a5 a6:Sl),eD n H'->H'.length+X.length<100000->H'.Nodup->(∀r∈H',r∉T)->∃r,Dj (gV 5) BY (X.map .int) [.sh ks,.sh (.int s),.sh (.int (n:Int)),.sh (.aF (iN T)),.ow (.aF (iN H')),a5,a6]=r/\(r=.rt (.sh (.bl false))\/(∃Δ',r=.nx Δ')/\EU T (H'++X.map (Hu n s)))
 |[],H',a5,a6,_,_,nd,no=>⟨_,rfl,.inr ⟨⟨_,rfl⟩,by rw[N8,G6];exact⟨nd,no⟩⟩⟩|x::X,H',a5,a6,hO,hl,nd,no=>by
  have hr:=rV s x h1;have S:=yD h1 x s0 s1;have Rl:=KG hT hn hr;have hO':=KG hO hn hr;rw[B7]at hl;by_cases c1:Hu n s x∈T;exact⟨_,wd rfl (by simp![BY,An,S,xg,Rl,c1,O5]),.inl rfl⟩;by_cases c2:Hu n s x∈H';exact⟨_,wd rfl (by simp![BY,An,S,xg,Rl,hO',c1,c2,O5,M8]),.inl rfl⟩;have hz:(iN H').length<16777216:=by rw[KC];lia
  obtain⟨r,e,p⟩:=Jx s0 s1 X (H'++[Hu n s x]) (.sh (.int x)) (.sh (.int (Hu n s x))) (hO.snoc hr) (by rw[A6,F8];lia) (xh nd c2) (λr hr=>(F1.mp hr).elim (no r) λz=>by rw[E7.mp z];exact c1);rw[J7]at p;exact⟨r,(fR rfl (by simp![BY,An,S,xg,Rl,hO',c1,c2,M8];simp![kh,An,Fm,hz,KD hO hn hr c2,if_true])).trans e,p⟩
theorem VS(s0:0<=s)(s1:s<=1000)(hX:X.length<=1000):∃b,Of [.lst (X.map .int),.int s,.int (n:Int),.aF (iN T)]=.ok (.sh (.bl b))/\(b=true->EU T (X.map (Hu n s))):=by obtain⟨r,e,p⟩:=Jx (ks:=.lst (X.map .int)) h1 hn hT s0 s1 X [] .no .no .nil (by simp;lia) V6 (λ_ h=>by simp at h);rcases p with rfl|⟨⟨Δ',rfl⟩,p⟩;exact⟨false,Ek (sq rfl (BJ (Gr rfl e))),λh=>by cases h⟩;exact⟨true,Ek (sq rfl (sq (Gr rfl e) rfl)),λ_=>p⟩
theorem ZN{jk:Nat}(hm:jk<=1000)(hX:X.length<=1000):∃o,vv [.lst (X.map .int),.int (n:Int),.aF (iN T),.int (jk:Int)]=.ok (.sh (Hk o))/\∀s,o=some s->s<jk/\EU T (X.map (Hu n (s:Int))):=by
 obtain⟨r,e,p⟩:=sW (fg:=gV 4) (g:=ON) (λa=>[.sh (.lst (X.map .int)),.sh (.int (n:Int)),.sh (.aF (iN T)),.sh (.int (jk:Int)),a]) (λs=>s<jk/\EU T (X.map (Hu n (s:Int)))) (λ_ _=>rfl) (List.range jk) .no λt ht=>by have ht:=J9.mp ht;obtain⟨b,e,p⟩:=VS h1 hn hT (X:=X) (s:=(t:Int)) () () hX;cases b with|true=>exact .inr ⟨by simp![ON,An,e],ht,p rfl⟩|false=>exact .inl (by simp![ON,An,e])
 rcases p with⟨Δ',rfl⟩|⟨s,rfl,p⟩;exact⟨none,Ek (sq (Gr (gU rfl ()) e) rfl),λ_ h=>by cases h⟩;exact⟨some s,Ek (BJ (Gr (gU rfl ()) e)),λ_ h=>by cases h;exact p⟩
end
def bk(Δ:Nat)(x:Int):Nat:=(Hc x 0 (Δ:Int)).toNat
def VR{Δ:Nat}(x:Int)(h:1<=Δ):Hc x 0 (Δ:Int)=((bk Δ x:Nat):Int):=by have:=uW x 0 (Δ:Int) ();unfold bk;lia
def UM{Δ:Nat}(x:Int)(h:1<=Δ):bk Δ x<Δ:=by have:=uW x 0 (Δ:Int) ();unfold bk;lia
def Hv(Δ:Nat)(ks:List Int)(b:Nat):List Int:=ks.filter λx=>decide (bk Δ x=b)
def oV(Δ:Nat)(ks:List Int)(x:Int)(b:Nat):Hv Δ (ks++[x]) b=if b=bk Δ x then Hv Δ ks b++[x] else Hv Δ ks b:=by unfold Hv;rw[List.filter_append];by_cases h:b=bk Δ x;rw[if_pos h,O0,if_pos (F4 h.symm)];rfl;rw[if_neg h,O0,if_neg (by simpa using λz=>h z.symm)];simp
def Ip(Δ:Nat)(ks:List Int)(b:Nat):(Hv Δ ks b).length<=ks.length:=X9 _ _
section
variable{α:Type}
def ph(x:Am)(v:α)(l:List (Am×α))(k:Am):Bs ((x,v)::l) k=if x=k then some v else Bs l k:=by unfold Bs;rw[N9];by_cases h:x=k;rw[if_pos h,F4 h];rfl;rw[if_neg h,L8 h]
def ZM(l r:List (Am×α))(k:Am):Bs (l++r) k=(Bs l k).or (Bs r k):=by induction l with|nil=>rfl|cons q l ih=>rw[V8,ph,ph,ih];split<;>rfl
def kb{a b:Nat}:(Sum.inl (a:Int):Am)=.inl (b:Int)↔a=b:=⟨λz=>by injection z with z;lia,λz=>by rw[z]⟩
theorem rT(f:Nat->α)(b:Nat):∀os:List Nat,Bs (os.map λ(b:Nat)=>((Sum.inl (b:Int):Am),f b)) (.inl (b:Int))=if b∈os then some (f b) else none|[]=>rfl|o::os=>by rw[B6,ph,rT f b os];by_cases h:o=b;subst h;rw[if_pos rfl,if_pos (by simp)];rw[if_neg (λz=>h (kb.mp z))];by_cases h2:b∈os;rw[if_pos h2,if_pos (by simp[h2])];rw[if_neg h2,if_neg (λz=>(C5.mp z).elim (λz=>h z.symm) h2)]
theorem Im(v:α)(k:Am)(v0:α):∀l:List (Am×α),Bs l k=none->Cd (l++[(k,v0)]) k v=l++[(k,v)]|[],_=>by rw[U7,Cd,if_pos rfl];rfl|(x,w)::l,h=>by rw[ph]at h;rw[V8,Cd];by_cases e:x=k;rw[if_pos e]at h;cases h;rw[if_neg e]at h⊢;rw[Im v k v0 l h];rfl
theorem GO(f:Nat->α)(b:Nat)(v:α):∀os:List Nat,os.Nodup->Cd (os.map λ(b:Nat)=>((Sum.inl (b:Int):Am),f b)) (.inl (b:Int)) v=os.map λ(q:Nat)=>((Sum.inl (q:Int):Am),if q=b then v else f q)|[],_=>rfl|o::os,nd=>by rw[B6,Cd,B6];obtain⟨n1,n2⟩:=K1.mp nd;by_cases h:o=b;subst h;rw[if_pos rfl,if_pos rfl];refine K5 _ (C8 λq hq=>?_);rw[if_neg (λz:q=o=>n1 (by rw[<-z];exact hq))];rw[if_neg (λz=>h (kb.mp z)),if_neg h,GO f b v os n2]
end
noncomputable def mS(l:List Int):List Tn:=l.map λx=>.sh (.int x)
def DG(g:Nat->List Int)(os:List Nat):List (Am×Tn):=os.map λ(b:Nat)=>(Sum.inl (b:Int),Tn.lst (mS (g b)))
structure GK(Δ:Nat)(ks:List Int)(os:List Nat)(kts:List (Am×Tn)):Prop where
 eq:kts=DG (Hv Δ ks) os
 nd:os.Nodup
 mem:∀b,b∈os↔Hv Δ ks b≠ []
 len:os.length<=ks.length
section
variable{Δ:Nat}(hB:1<=Δ){ks:List Int}{os:List Nat}{kts:List (Am×Tn)}{Ld:D}
include hB
theorem GK.lt(h:GK Δ ks os kts):∀b∈os,b<Δ:=λb J=>by obtain⟨x,hx⟩:=List.exists_mem_of_ne_nil _ ((h.mem b).mp J);rw[<-E8 (N2.mp hx).2];exact UM x hB
theorem Nd(x:Int):vn [.int x,.int (Δ:Int)]=.ok (.sh (.int ((bk Δ x:Nat):Int))):=by simp![vn,MR,An,(uQ x 0 (Δ:Int) ⋯ ⋯ ()).1,VR x hB]
theorem Il(h:GK Δ ks os kts)(x:Int)(hl:ks.length<=1000){sl:Sl}(hs:sl.tree=some (.aF kts,false)):∃qr av,DI [.sh Ld,.sh (.int (Δ:Int)),sl,.sh (.int x)]=.nx [.sh Ld,.sh (.int (Δ:Int)),.tr (.aF av),.sh (.int x)]/\GK Δ (ks++[x]) qr av:=by
 have hv:Bs kts (.inl ((bk Δ x:Nat):Int))=if bk Δ x∈os then some (.lst (mS (Hv Δ ks (bk Δ x)))) else none:=by rw[h.eq];exact rT _ _ os
 have hlk:kts.length=os.length:=by rw[h.eq];exact A4 _
 have gl:=Ip Δ ks (bk Δ x);have ho:=h.len;have e:=Nd hB x;have go:∀ck,mT kts (.inl ((bk Δ x:Nat):Int))=ck->∀ts,Bs ck (.inl ((bk Δ x:Nat):Int))=some (.lst ts)->ts.length<16777216->DI [.sh Ld,.sh (.int (Δ:Int)),sl,.sh (.int x)]=.nx [.sh Ld,.sh (.int (Δ:Int)),.tr (.aF (Cd ck (.inl ((bk Δ x:Nat):Int)) (.lst (ts++[.sh (.int x)])))),.sh (.int x)]:=λck e2 ts e3 e4=>by
  have f1:Az 2 vn #v[3,1] (At [.sh Ld,.sh (.int (Δ:Int)),sl,.sh (.int x)])=.ok (.sh (.int ((bk Δ x:Nat):Int))):=by simp![An,e]
  unfold DI qT;rw[show(([.sh Ld,.sh (.int (Δ:Int)),sl,.sh (.int x)]:SE)[2]?).bind Sl.tree=some (.aF kts,false) from hs];simp only[f1,W.dC,Fm,e2,e3];rw[if_pos (),if_pos e4];rfl
 by_cases J:bk Δ x∈os;rw[if_pos J]at hv;have hs:mT kts (.inl ((bk Δ x:Nat):Int))=kts:=by unfold mT;rw[hv]
 refine⟨os,_,go kts hs _ hv (by unfold mS;rw[A4];lia),?_,h.nd,λb=>?_,by simp;lia⟩;rw[h.eq];unfold DG;rw[GO _ _ _ os h.nd];refine C8 λq _=>?_;rw[oV];by_cases z:q=bk Δ x;rw[if_pos z,if_pos z,z];unfold mS;rw[B9];rfl;rw[if_neg z,if_neg z];rw[oV];by_cases z:b=bk Δ x;rw[if_pos z,z];exact⟨λ_=>by simp,λ_=>J⟩;rw[if_neg z];exact h.mem b;rw[if_neg J]at hv;have hg:Hv Δ ks (bk Δ x)=[]:=W1 λz=>J ((h.mem _).mpr z);have hs:mT kts (.inl ((bk Δ x:Nat):Int))=kts++[(.inl ((bk Δ x:Nat):Int),.lst [])]:=by unfold mT;rw[hv]
 have vw:Bs (kts++[(.inl ((bk Δ x:Nat):Int),Tn.lst [])]) (.inl ((bk Δ x:Nat):Int))=some (.lst []):=by rw[ZM,hv,ph,if_pos rfl];rfl
 refine⟨os++[bk Δ x],_,go _ hs [] vw ⋯,?_,xh h.nd J,λb=>?_,by simp;lia⟩;rw[Im _ _ _ _ hv,h.eq];unfold DG;rw[B9,List.map_singleton,oV,if_pos rfl,hg];refine K5 (·++_) (C8 λq hq=>?_);rw[oV,if_neg (λz:q=bk Δ x=>J (by rw[<-z];exact hq))];rw[oV,F1,E7];by_cases z:b=bk Δ x;rw[if_pos z];exact⟨λ_=>by simp,λ_=>.inr z⟩;rw[if_neg z];exact⟨λy=>y.elim (h.mem b).mp λy=>absurd y z,λy=>.inl ((h.mem b).mpr y)⟩
theorem Ik:∀(X ks:List Int) (os:List Nat) (kts:List (Am×Tn)) (a3:Sl),GK Δ ks os kts->ks.length+X.length<=1000->∃qr av b3,Dj (gV 3) DI (X.map .int) [.sh Ld,.sh (.int (Δ:Int)),.tr (.aF kts),a3]=.nx [.sh Ld,.sh (.int (Δ:Int)),.tr (.aF av),b3]/\GK Δ (ks++X) qr av|[],ks,os,kts,a3,h,_=>⟨os,kts,a3,rfl,by rw[G6];exact h⟩|x::X,ks,os,kts,a3,h,hl=>by rw[B7]at hl;obtain⟨Qw,dz,S,h1⟩:=Il hB h x () (Ld:=Ld) (sl:=.tr (.aF kts)) rfl;obtain⟨qr,av,b3,e2,h2⟩:=Ik X (ks++[x]) Qw dz (.sh (.int x)) h1 (by simp;lia);rw[J7]at h2;exact⟨qr,av,b3,(fR rfl S).trans e2,h2⟩
theorem aeh(l1:1<=ks.length)(hl:ks.length<=1000):∃os kts,OR [.lst (ks.map .int),.int (Δ:Int)]=.ok (.tr (.aF kts))/\GK Δ ks os kts:=by cases ks with|nil=>simp at l1|cons x X=>obtain⟨Qw,dz,S,h1⟩:=Il hB (ks:=[]) (os:=[]) (kts:=[]) ⟨rfl,V6,λb=>by simp[Hv],A9 _⟩ x (by simp) (Ld:=.lst ((x::X).map .int)) (sl:=.ow (.aF [])) rfl;rw[B7]at hl;obtain⟨qr,av,b3,e2,h2⟩:=Ik hB (Ld:=.lst ((x::X).map .int)) X [x] Qw dz (.sh (.int x)) h1 (by simp;lia);exact⟨qr,av,Ek (sq rfl (sq (Gr rfl ((fR rfl S).trans e2)) rfl)),h2⟩
end
def gN(g:Nat->List Int)(b:Nat):Int:= -((g b).length:Int)*4611686018427387904+(b:Int)
noncomputable def Ha(g:Nat->List Int)(os:List Nat):List (Am×D):=os.map λ(b:Nat)=>(Sum.inl (b:Int),D.lst ((g b).map .int))
theorem wz:∀l:List Int,Tn.M (mS l)=l.map .int|[]=>rfl|x::l=>by show(Tn.sh (.int x)).d::Tn.M (mS l)=_;rw[wz l];rfl
theorem FN(g:Nat->List Int):∀os:List Nat,Tn.L (DG g os)=Ha g os|[]=>rfl|b::os=>by show(Sum.inl (b:Int),(Tn.lst (mS (g b))).d)::Tn.L (DG g os)=_;rw[FN g os,Tn.d,wz];rfl
def Ij{g:Nat->List Int}{os:List Nat}{b:Nat}(h:b∈os):Dn (.aF (Ha g os)) (.int (b:Int))=.ok (.sh (.lst ((g b).map .int))):=by have:=rT (λb=>D.lst ((g b).map .int)) b os;rw[if_pos h]at this;unfold Dn;simp only[Fm];unfold Ha;rw[this]
theorem Mh{F:AF}{f:Nat->Int}:∀{os:List Nat},(∀b∈os,F [.int (b:Int)]=.ok (.sh (.int (f b))))->fF F (os.map λ(b:Nat)=>D.int (b:Int))=.ok (os.map λ(b:Nat)=>(f b,D.int (b:Int)))|[],_=>rfl|b::os,h=>by rw[B6,fF,h b (by simp),R.aD,W.dC];simp only;rw[Mh λq hq=>h q (by simp[hq])];rfl
def ZL{fb:FE}{δ:DE}{d:D}{x y:Int}(h:fb (δ++[some d])=.ok (.sh (.tup [.int x,.int y])))(h0:0<=y/\y<4611686018427387904):Fj fb δ [d]=.ok (.sh (.int (x*4611686018427387904+y))):=by unfold Fj;dsimp only;rw[h];exact if_pos h0
def AZ:D->Nat|.int z=>z.toNat|_=>0
def ZK{g:Nat->List Int}{Δ:Nat}{os:List Nat}(hB:Δ<=1000)(nd:os.Nodup)(lt:∀b∈os,b<Δ)(hl:os.length<64){a0 a1 a2 a4 a5 a6 a7 a8:Option D}:∃P,P.Perm os/\lR uA (Aa 3) [a0,a1,a2,some (.aF (Ha g os)),a4,a5,a6,a7,a8]=.ok (.ow (.lst (Eb P))):=by
 have hk:∀b∈os,Fj uA [a0,a1,a2,some (.aF (Ha g os)),a4,a5,a6,a7,a8] [.int (b:Int)]=.ok (.sh (.int (gN g b))):=λb J=>by have h1:=Ij (g:=g) J;have Pl:=lt b J;refine ZL (show uA [a0,a1,a2,some (.aF (Ha g os)),a4,a5,a6,a7,a8,some (.int (b:Int))]=_ from ?_) ();simp![uA,An,h1,Fy,A4,vY,FD]
 have pm:=yJ (os.map λ(b:Nat)=>(gN g b,D.int (b:Int)));have S:(Ha g os).map (λp=>kD p.1)=os.map λ(b:Nat)=>D.int (b:Int):=by unfold Ha;rw[D1];rfl
 have ev:Aa 3 [a0,a1,a2,some (.aF (Ha g os)),a4,a5,a6,a7,a8]=.ok (.sh (.aF (Ha g os))):=Eq.refl _;generalize hF:Fj uA [a0,a1,a2,some (.aF (Ha g os)),a4,a5,a6,a7,a8]=F at hk;have ndk:((os.map λ(b:Nat)=>(gN g b,D.int (b:Int))).map (·.1)).Nodup:=by rw[D1];refine S5.mpr (nd.imp_of_mem λ{a b} ha J h z=>h ?_);have h1:=lt a ha;have h2:=lt b J;have z:gN g a=gN g b:=z;unfold gN at z;lia
 refine⟨(eZ (os.map λ(b:Nat)=>(gN g b,D.int (b:Int)))).map λp=>AZ p.2,?_,?_⟩;have:=pm.map λp=>AZ p.2;rw[D1,show((λp:Int×D=>AZ p.2) ∘ λ(b:Nat)=>(gN g b,D.int (b:Int)))=id from funext λb=>K6 b,List.map_id]at this;exact this;unfold lR;rw[ev];simp only[R.aD,W.dC,hF];unfold lK;rw[S,Mh hk];simp only;rw[if_pos ⟨by rw[A4];exact hl,ndk⟩];unfold Eb;rw[D1];refine K5 (λl=>R.ok (W.ow (D.lst l))) (C8 λp hp=>?_);obtain⟨b,_,rfl⟩:=D3.mp (pm.mem_iff.mp hp);show D.int (b:Int)=.int (((b:Int).toNat:Nat):Int);rw[K6]
noncomputable def El(P:List Nat)(ds:Nat->Nat):List (Am×D):=P.map λ(b:Nat)=>(Sum.inl (b:Int),D.int (ds b:Int))
def VQ{P:List Nat}{ds:Nat->Nat}{b s:Nat}(h:b∉P):Cs (El P ds) (.inl (b:Int)) (.int (s:Int))=El (P++[b]) λq=>if q=b then s else ds q:=by
 have S:((El P ds).any λkv=>decide (kv.1=Sum.inl (b:Int)))=false:=by rw[List.any_eq_false];intro kv hkv z;obtain⟨q,hq,rfl⟩:=D3.mp hkv;exact h (by rw[<-kb.mp (E8 z)];exact hq)
 unfold Cs;rw[S,if_neg B5];unfold El;rw[B9,List.map_singleton];simp only[if_true];refine K5 (·++_) (C8 λq hq=>?_);rw[if_neg (λz:q=b=>h (z▸hq))]
theorem KA:∀l:List (Am×D),Tn.cC (l.map λp=>(p.1,Tn.sh p.2))=true|[]=>by simp only[N8,Tn.cC]|a::l=>by simp only[B6,Tn.cC,Tn.bO,KA l,Q7]
def abf(aL:List (Am×D)):(Tn.of (.aF aL)).bO=true:=by show Tn.bO (.aF (aL.map λp=>(p.1,.sh p.2)))=true;simp only[Tn.bO];exact KA aL
def qf(z:Int):Xn:=⟨"NoFit",["at"],[.int z]⟩
structure uP(n:Nat)(g:Nat->List Int)(l:List Nat)(T:List Int)(ds:Nat->Nat)(T':List Int)(M':Nat->Nat):Prop where
 out:∀q,q∉l->M' q=ds q
 bd:∀q∈l,M' q<=1000
 eq:T'=T++l.flatMap λb=>(g b).map (Hu n (M' b:Int))
 nd:T.Nodup->T'.Nodup
def stN(ks:List Int)(Bd:D)(jk:Nat)(kd:List (Am×D))(T:List Int)(N:List (Am×D))(a6 a7 a8:Sl):SE:=[.sh (.lst (ks.map .int)),.sh Bd,.sh (.int (jk:Int)),.sh (.aF kd),.ow (.aF (iN T)),.ow (.aF N),a6,a7,a8]
section
variable{jk:Nat}{g:Nat->List Int}{ks:List Int}{Bd:D}{kd N:List (Am×D)}(h1:1<=ks.length)(hL:ks.length<=1000)
include h1 hL
theorem Jw{a6:Sl}{s:Nat}(hs:s<=1000):∀(X T:List Int) (a:Sl),eD ks.length T->EU T (X.map (Hu ks.length (s:Int)))->T.length+X.length<100000->∃a',Dj (gV 8) QH (X.map .int) (stN ks Bd jk kd T N a6 (.sh (.int (s:Int))) a)=.nx (stN ks Bd jk kd (T++X.map (Hu ks.length (s:Int))) N a6 (.sh (.int (s:Int))) a')
 |[],T,a,_,_,_=>⟨a,by rw[N8,N8,G6];rfl⟩|x::X,T,a,hT,⟨nd,no⟩,hl=>by
  rw[B6]at nd no;obtain⟨n1,n2⟩:=K1.mp nd;rw[B7]at hl;have hr:=rV (s:Int) x h1;obtain⟨a',e⟩:=Jw hs X (T++[Hu ks.length (s:Int) x]) (.sh (.int x)) (hT.snoc hr) ⟨n2,λr hr q=>by rcases F1.mp q with q|q;exact no r (.tail _ hr) q;rw[E7.mp q]at hr;exact n1 hr⟩ (by rw[A6,F8];lia);rw[J7]at e;have S:=yD (s:=(s:Int)) h1 x () ();have hz:(iN T).length<16777216:=by rw[KC];lia
  have hp:=KD hT hL hr (no _ (.head _));exact⟨a',(fR rfl (by simp![QH,stN,kh,An,Fy,A4,S,Fm,hz,hp,if_true])).trans e⟩
theorem Kz{os:List Nat}(hm:jk<=1000)(hg:∀b,(g b).length<=1000):∀(l P:List Nat) (T:List Int) (ds:Nat->Nat) (a6 a7 a8:Sl),(∀b∈l,b∈os)->(P++l).Nodup->eD ks.length T->T.length+1001*l.length<90000->P.length+l.length<=1000->∃r,Dj (gV 6) QF (Eb l) (stN ks Bd jk (Ha g os) T (El P ds) a6 a7 a8)=r/\((∃q Δ',r=.ex (qf q) Δ')\/∃T' M' b6 b7 b8,r=.nx (stN ks Bd jk (Ha g os) T' (El (P++l) M') b6 b7 b8)/\uP ks.length g l T ds T' M')
 |[],P,T,ds,a6,a7,a8,_,_,_,_,_=>⟨_,rfl,.inr ⟨T,ds,a6,a7,a8,by rw[G6];rfl,λ_ _=>rfl,λq hq=>by simp at hq,by simp,λh=>h⟩⟩|b::l,P,T,ds,a6,a7,a8,hos,nd,hT,hl,hP=>by
  have fq:=Ij (g:=g) (hos b (by simp));obtain⟨o,hle,ho⟩:=ZN (X:=g b) h1 hL hT hm (hg b);have CQ:b∉P:=λz=>(S4.mp nd).2.2 b z b (by simp) rfl;rw[B7]at hl hP;have q1:nL 7 (nM [4] (Az 4 vv #v[Ag Dn (Aa 3) (Aa 6),Al Dd #v[0],4,2])) (stN ks Bd jk (Ha g os) T (El P ds) (.sh (.int (b:Int))) a7 a8)=.nx (stN ks Bd jk (Ha g os) T (El P ds) (.sh (.int (b:Int))) (.sh (Hk o)) a8):=by have hld:oX [4] (stN ks Bd jk (Ha g os) T (El P ds) (.sh (.int (b:Int))) a7 a8)=true:=(by show((Tn.of (.aF (iN T))).bO&&true)=true;rw[abf];rfl);have he:Az 4 vv #v[Ag Dn (Aa 3) (Aa 6),Al Dd #v[0],4,2] (Hl [4] (stN ks Bd jk (Ha g os) T (El P ds) (.sh (.int (b:Int))) a7 a8))=.ok (.sh (Hk o)):=(by show Az 4 vv #v[Ag Dn (Aa 3) (Aa 6),Al Dd #v[0],4,2] [some (.lst (ks.map .int)),some Bd,some (.int (jk:Int)),some (.aF (Ha g os)),some (.aF (iN T)),none,some (.int (b:Int)),a7.qp,a8.qp]=_;simp![An,fq,Fy,A4,hle]);have bM:wH (.sh (Hk o))=true:=(by cases o<;>rfl);unfold nL nM;rw[hld,if_pos rfl,he];simp only[bM,if_true];rfl
  cases o with|none=>exact⟨_,UX rfl (sq q1 (by simp![stN,Hk,An,Hf];rfl)),.inl ⟨(b:Int),_,rfl⟩⟩|some s=>obtain⟨s1,s2⟩:=ho s rfl;have s1:s<=1000:=(by lia);have hz:(El P ds).length<16777216:=(by unfold El;rw[A4];lia);obtain⟨c8,e4⟩:=Jw (jk:=jk) (Bd:=Bd) (kd:=Ha g os) (N:=El (P++[b]) λq=>if q=b then s else ds q) (a6:=.sh (.int (b:Int))) h1 hL s1 (g b) T a8 hT s2 (by have:=hg b;lia);obtain⟨r,e,p⟩:=Kz (os:=os) hm hg l (P++[b]) (T++(g b).map (Hu ks.length (s:Int))) (λq=>if q=b then s else ds q) (.sh (.int (b:Int))) (.sh (.int (s:Int))) c8 (λq hq=>hos q (by simp[hq])) (by rw[J7];exact nd) (hT.app (eD.rm h1 _ _)) (by rw[A6,A4];have:=hg b;lia) (by rw[A6,F8];lia);rw[J7,List.singleton_append]at p;refine⟨r,(fR rfl (sq q1 (sq (by simp![stN,Hk,An];rfl) (sq (by simp![stN,kh,An,Fm,hz,if_true,VQ CQ]) (Gr (by simp![stN,An,fq]) e4))))).trans e,p.imp id λ⟨T',M',b6,b7,b8,er,d⟩=>⟨T',M',b6,b7,b8,er,?_⟩⟩;have n1:=(K1.mp (S4.mp nd).2.1).1;have mb:M' b=s:=(by rw[d.out b n1,if_pos rfl]);refine⟨λq hq=>?_,λq hq=>?_,?_,λhT=>d.nd ?_⟩;rw[d.out q (λz=>hq (by simp[z])),if_neg (λz=>hq (by simp[z]))];rcases C5.mp hq with rfl|hq;rw[mb];exact s1;exact d.bd q hq;rw[d.eq,List.flatMap_cons,J7,mb];exact S4.mpr ⟨hT,s2.1,λa ha c hc z=>s2.2 c hc (z▸ha)⟩
end
theorem Ky(Δ:Nat):∀(P:List Nat) (ks:List Int),P.Nodup->(∀x∈ks,bk Δ x∈P)->(P.flatMap (Hv Δ ks)).Perm ks
 |[],ks,_,h=>by cases ks with|nil=>exact List.Perm.refl _|cons x ks=>exact absurd (h x (by simp)) (by simp)
 |b::P,ks,nd,h=>by
  obtain⟨n1,n2⟩:=K1.mp nd;have e:P.flatMap (Hv Δ ks)=P.flatMap (Hv Δ (ks.filter λx=>!decide (bk Δ x=b))):=K5 List.flatten (C8 λq hq=>by unfold Hv;rw[List.filter_filter];refine X4 λx _=>?_;by_cases z:bk Δ x=q;have:¬bk Δ x=b:=λy=>n1 (by rw[<-y,z];exact hq);simp[z,this];rw[<-z];exact this;simp[z]);rw[List.flatMap_cons,e];have ih:=Ky Δ P (ks.filter λx=>!decide (bk Δ x=b)) n2 λx hx=>by obtain⟨x1,x2⟩:=N2.mp hx;rcases C5.mp (h x x1)with z|z;rw[z]at x2;simp at x2;exact z
  exact(ih.append_left _).trans (ZD1 _ _)
def Uz{js:List Nat}{fi:FI}{fg:FG}{g:FS}{B Δ1:SE}{M:List D}{r:Fl}(h0:fi (Ay B)=.no)(hg:aE js B=Δ1)(e:fi (Ay Δ1)=.ok M)(k:Dj fg g M Δ1=r):Do js fi fg g B=r:=by unfold Do;rw[h0,hg];simp only[e];exact k
def aeI{Δ jk:Nat}{ks:List Int}(hB:1<=Δ)(hB2:Δ<=60)(h1:1<=ks.length)(hL:ks.length<=60)(hm:jk<=1000):(∃q,DA [.lst (ks.map .int),.int (Δ:Int),.int (jk:Int)]=.ex (qf q))\/∃P ds T,DA [.lst (ks.map .int),.int (Δ:Int),.int (jk:Int)]=.ok (.ow (.aF (El P ds)))/\(∀x∈ks,bk Δ x∈P)/\P.Nodup/\uP ks.length (Hv Δ ks) P [] (λ_=>0) T ds:=by obtain⟨os,kts,S,hg⟩:=aeh hB h1 ();have ol:=hg.len;obtain⟨P,pm,ho⟩:=ZK (g:=Hv Δ ks) (a0:=some (.lst (ks.map .int))) (a1:=some (.int (Δ:Int))) (a2:=some (.int (jk:Int))) (a4:=none) (a5:=none) (a6:=none) (a7:=none) (a8:=none) (show Δ<=1000 by lia) hg.nd (hg.lt hB) ();have pl:=pm.length_eq;have pn:=pm.nodup_iff.mpr hg.nd;obtain⟨r,e,p⟩:=Kz (g:=Hv Δ ks) (os:=os) (Bd:=.int (Δ:Int)) h1 () hm (λb=>D2 (Ip Δ ks b) ()) P [] [] (λ_=>0) .no .no .no (λb J=>pm.mem_iff.mp J) pn .nil (by rw[Q4];lia) (by rw[Q4];lia);have el:Do [3] (Db (lR uA (Aa 3))) (gV 6) QF [.sh (.lst (ks.map .int)),.sh (.int (Δ:Int)),.sh (.int (jk:Int)),.tr (.aF kts),.ow (.aF []),.ow (.aF []),.no,.no,.no]=r:=Uz rfl (show [.sh (.lst (ks.map .int)),.sh (.int (Δ:Int)),.sh (.int (jk:Int)),Sl.sh ((Tn.aF kts).d),.ow (.aF []),.ow (.aF []),.no,.no,.no]=stN ks (.int (Δ:Int)) jk (Ha (Hv Δ ks) os) [] (El [] λ_=>0) .no .no .no by rw[hg.eq,Tn.d,FN];rfl) (show(lR uA (Aa 3) [some (.lst (ks.map .int)),some (.int (Δ:Int)),some (.int (jk:Int)),some (.aF (Ha (Hv Δ ks) os)),none,none,none,none,none]).bind _=_ by rw[ho];rfl) e;rcases p with⟨q,Δ',rfl⟩|⟨T,ds,b6,b7,b8,rfl,d⟩;refine .inl ⟨q,wa (B:=Δ') (sq (by simp![An,S];rfl) ?_)⟩;exact sq rfl (sq rfl (BI el));refine .inr ⟨P,ds,T,Ek (sq (by simp![An,S];rfl) ?_),λx hx=>pm.mem_iff.mpr ((hg.mem _).mpr λz=>?_),pn,d⟩;exact sq rfl (sq rfl (sq el rfl));have:x∈Hv Δ ks (bk Δ x):=N2.mpr ⟨hx,F4 rfl⟩;rw[z]at this;simp at this
noncomputable abbrev lG(n Δ:Nat)(N:List (Am×D)):D:=.obj "Buckets" ["how_many","many_buckets","by_bucket"] [.int (n:Int),.int (Δ:Int),.aF N]
def FL(d:D):DM [d]=.ok (["how_many"],[d]):=by rfl'
def gM(n Δ:Nat)(ds:Nat->Nat)(d:D):Int:=Hu n (ds (bk Δ (Dq d)):Int) (Dq d)
section
variable{n Δ:Nat}{P:List Nat}{ds:Nat->Nat}{N:List (Am×D)}{H' d:D}{b:Nat}{z:Int}
def Xz(h:∀δ,Ch ["Buckets"] "many_buckets" (Aa 0) (some H'::δ)=.ok (.sh (.int (Δ:Int))))(hB:1<=Δ)(hd:isKey d):qN [H',d]=.ok (.sh (.int ((bk Δ (Dq d):Nat):Int))):=by simp![qN,NS,An,h,mj hd,Nd hB]
def Xy(h:∀δ,Ch ["Buckets"] "by_bucket" (Aa 0) (some H'::δ)=.ok (.sh (.aF N)))(hg:nU N (.int z) (.int 0)=.ok (.sh d)):uz [H',.int z]=.ok (.sh d):=by simp![uz,v_4,An,wo,h,hg]
def Xx(n1:1<=n)(b1:1<=Δ)(out:∀q,q∉P->ds q=0)(bd:∀q,ds q<=1000):gJ (lG n Δ (El P ds)) n (gM n Δ ds):=by
 refine rp (F:=AQ) (by simp[C4]) nofun ⟨by decide +kernel,by rfl'⟩ ∅ λd hd=>?_;have f3:∀δ,Ch C4 "how_many" (Aa 0) (some (lG n Δ (El P ds))::δ)=.ok (.sh (.int (n:Int))):=λ_=>Hj rfl ∅ ∅;have hg:nU (El P ds) (.int ((bk Δ (Dq d):Nat):Int)) (.int 0)=.ok (.sh (.int (ds (bk Δ (Dq d)):Int))):=by unfold nU;simp only[Fm];unfold El;rw[rT (λb=>D.int (ds b:Int)) _ P];by_cases z:bk Δ (Dq d)∈P;rw[if_pos z];rw[if_neg z,out _ z];rfl
 have m1:∀δ,Dl "bucket" 1 [("Buckets",qN)] (Aa 0) #v[1] (some (lG n Δ (El P ds))::some d::δ)=_:=λ δ=>(Gw rfl rfl rfl nofun ∅).trans (Xz (λ_=>Hj rfl ∅ ∅) b1 hd);have m2:∀δ,Dl "number_in" 1 [("Buckets",uz)] (Aa 0) #v[Dl "bucket" 1 [("Buckets",qN)] (Aa 0) #v[1]] (some (lG n Δ (El P ds))::some d::δ)=_:=λ δ=>(Gw rfl (rG (m1 δ)) rfl nofun ∅).trans (Xy (λ_=>Hj rfl ∅ ∅) hg);have e:=yD (s:=(ds (bk Δ (Dq d)):Int)) n1 (Dq d) () (by have:=bd (bk Δ (Dq d));lia);show AQ [lG n Δ (El P ds),d]=_;generalize lG n Δ (El P ds)=H' at *;unfold gM;simp![AQ,v_5,An,mj hd,m2,f3,e]
end
structure Good(L:List D)(ds:D)(z:D->Int):Prop where
 h:gJ ds L.length z
 bd:∀d,isKey d->0<=z d
 pm:(L.map (rm z L.length)).Perm (Dv 0 L.length)
def Mg(L:List D):(L.map λd=>D.int (Dq d))=(L.map Dq).map .int:=by rw[D1];rfl
theorem Kx(L:List D)(ds:Nat->Nat):∀P:List Nat,jC L (El P ds)=true|[]=>by unfold El;simp only[N8,jC]|p::P=>by show(Er L (.int (ds p:Int))&&jC L (El P ds))=true;rw[Kx L ds P];simp only[Er,Q7]
def ZJ{L:List D}{Δ jk:Nat}(hk:∀k∈L,isKey k)(nd:L.Nodup)(h1:1<=L.length)(h2:L.length<=60)(hB:1<=Δ)(hB2:Δ<=60)(hm:jk<=1000):(∃q,zJ [.lst L,.int (Δ:Int),.int (jk:Int)]=.ex (qf q))\/∃ns vs z,zJ [.lst L,.int (Δ:Int),.int (jk:Int)]=.ok (ns,vs)/\Good L (.obj "Buckets" ns vs) z/\Ck L vs=true:=by
 have lk:=sr hk nd h1 ();have ln:(L.map Dq).length=L.length:=A4 _;have ec:Bn 1 (Db (Aa 1)) (gC 4) (λ_=>.ok true) QD [none,some (.lst L),some (.int (Δ:Int)),some (.int (jk:Int))]=.ok (.ow (.lst ((L.map Dq).map .int))):=by rw[<-Mg];exact Em (λd=>.int (Dq d)) rfl () λd hd=>⟨_,_,rfl,by simp![QD,An,mj (hk d hd)];rfl,rfl⟩
 rcases aeI (ks:=L.map Dq) (Δ:=Δ) (jk:=jk) hB hB2 () () hm with⟨q,e⟩|⟨P,ds,T,e,hP,pn,d⟩;exact .inl ⟨q,wb (sq (lH rfl lk (FL _)) (sq (lD rfl nofun rfl) (UH rfl nofun (by simp![An,ec,e]))))⟩;rw[ln]at d;have b0:∀q,ds q<=1000:=λq=>by by_cases z:q∈P;exact d.bd q z;rw[d.out q z];lia
 have rb:∀d,0<=gM L.length Δ ds d/\gM L.length Δ ds d<(L.length:Int):=λd=>rV _ _ h1;refine .inr ⟨_,[.int (L.length:Int),.int (Δ:Int),.aF (El P ds)],gM L.length Δ ds,ql (lH rfl lk (FL _)) (ql (lD rfl nofun rfl) (vW rfl nofun (by simp![An,ec,e];rfl) rfl rfl)),⟨Xx h1 hB d.out b0,λd _=>(rb d).1,?_⟩,by simp only[Ck,Er,Kx,Q7]⟩;rw[show L.map (rm (gM L.length Δ ds) L.length)=L.map (gM L.length Δ ds) from C8 λk _=>by have:=rb k;unfold rm;lia];have pf:=(Ky Δ P (L.map Dq) pn hP).map λx=>Hu L.length (ds (bk Δ x):Int) x;rw[D1]at pf;have pe:T.Perm (L.map (gM L.length Δ ds)):=by refine List.Perm.trans (W6 ?_) pf;rw[d.eq,U7,List.map_flatMap];refine K5 List.flatten (C8 λb _=>C8 λx hx=>?_);rw[E8 (N2.mp hx).2]
 refine sk L.length _ (pe.nodup_iff.mp (d.nd V6)) (λx hx=>?_) (A4 _);obtain⟨k,_,rfl⟩:=D3.mp hx;exact rb k
theorem Jv:∀(l zm:List Int),(l.foldl PyProof.Rows.step_dedup zm).length<=zm.length+l.length/\((l.foldl PyProof.Rows.step_dedup zm).length=zm.length+l.length->l.Nodup/\∀x∈l,x∉zm)
 |[],zm=>⟨A9 _,λ_=>⟨V6,λx hx=>by simp at hx⟩⟩|x::l,zm=>by
  rw[Z0];obtain⟨i1,i2⟩:=Jv l (PyProof.Rows.step_dedup zm x);by_cases c:zm.any (· ==x)=true;have e:PyProof.Rows.step_dedup zm x=zm:=by unfold PyProof.Rows.step_dedup;rw[if_pos c]
  rw[e]at i1⊢;simp only[B7];exact⟨by lia,λz=>by lia⟩;have e:PyProof.Rows.step_dedup zm x=zm++[x]:=by unfold PyProof.Rows.step_dedup;rw[if_neg c]
  have hx:x∉zm:=λhx=>c (T5.mpr ⟨x,hx,by simp⟩);rw[e]at i1 i2⊢;simp only[A6,B7,Q4]at i1 i2⊢;refine⟨by lia,λz=>?_⟩;obtain⟨j1,j2⟩:=i2 ();exact⟨K1.mpr ⟨λhm=>j2 x hm (by simp),j1⟩,λy hy=>(C5.mp hy).elim (λz=>by rw[z];exact hx) λhy hm=>j2 y hy (by simp[hm])⟩
def VP{l:List Int}(h:(met l).length=l.length):l.Nodup:=by
 unfold met PyProof.Rows.firstMet at h;have e:(List.range l.length).map (λi=>l.getD i 0)=l:=by refine S3 λi=>?_;rw[B3];by_cases hi:i<l.length;rw[N5 hi,B1 hi];simp[List.getD,hi];rw[K8 (by simp;lia),K8 ()];rfl
 rw[e]at h;exact((Jv l []).2 (by simpa using h)).1
def Ht(b:Int)(ks:List Int)(s:Int):List Int:=ks.filter λx=>decide (Hc x s 2=b)
def sdP(s b:Int):D->Bool|.int x=>decide (Hc x s 2=b)|_=>false
def Ga(ks:List Int)(s:Int):List Int:=ks.map λx=>Hc x s (ks.length:Int)
def mxD(s n:Int):D->D|.int x=>.int (Hc x s n)|d=>d
def Ju(ks:List Int)(s:Int):(Ga ks s).length=ks.length:=A4 _
def pA(leaf:Int)(ks:List Int)(s:Int):Prop:=if(ks.length:Int)<=leaf then(Ga ks s).Nodup else(Ht 0 ks s).length=(ks.length+1)/2
section
variable{ks:List Int}{s b leaf:Int}
def xf(s0:0<=s)(s1:s<1000)(hl:ks.length<=1000):zI [.lst (ks.map .int),.int s,.int b]=.ok (.ow (.lst ((Ht b ks s).map .int))):=by refine Ek (ret (pP rfl (by rw[A4];lia) ((qu (sdP s b) (λd=>d) (ks.map .int) λd hd=>?_).trans ?_)));obtain⟨x,hx,rfl⟩:=D3.mp hd;exact⟨_,rfl,by simp![MQ,An,(uQ x s 2 () () ⋯).1,eN,sdP],λ_=>⟨_,rfl,rfl⟩⟩;rw[EN,SI];rfl
variable(hf:1<=leaf)
include hf
theorem ue(z:Int):tZ [.int z,.int leaf]=.ok (.sh (.bl (decide (z<=leaf)))):=by
 have e:max leaf 1=leaf:=by lia
 simp![tZ,KY,An,HE,e,rL]
omit hf
theorem sj(z:Int):vm [.int z]=.ok (.sh (.int ((z+1)/2))):=by simp![vm,MP,An,Gh,jn (show(0:Int)<2 by decide) ⋯]
include hf
theorem aeg(s0:0<=s)(s1:s<1000)(h1:1<=ks.length)(hl:ks.length<=1000):∃b,zQ [.lst (ks.map .int),.int s,.int leaf]=.ok (.sh (.bl b))/\(b=true->pA leaf ks s):=by
 unfold pA;by_cases c:(ks.length:Int)<=leaf;have ec:∀a,Bn 1 (Db (Aa 0)) (gC 4) (λ_=>.ok true) yS [some (.lst (ks.map .int)),some (.int s),a,some (.int (ks.length:Int))]=.ok (.ow (.lst ((Ga ks s).map .int))):=λa=>by refine(Em (mxD s (ks.length:Int)) rfl (by rw[A4];lia) λd hd=>?_).trans ?_;obtain⟨x,hx,rfl⟩:=D3.mp hd;exact⟨_,.sh (.int (Hc x s (ks.length:Int))),rfl,by simp![yS,An,(uQ x s (ks.length:Int) () () ()).1],rfl⟩;unfold Ga;rw[D1,D1];rfl
 have ml:=Ju ks s;have ls:sC (.lst ((Ga ks s).map .int))=.ok (.sh (.int (met (Ga ks s)).length)):=by unfold sC;simp only[Ir,if_pos (show(Ga ks s).length<=4000 by lia)]
 refine⟨decide (((met (Ga ks s)).length:Int)=(ks.length:Int)),?_,λz=>?_⟩;simp![zQ,yL,An,Fy,A4,ue hf,c,O5,ec,xH,ls,eN];rw[if_pos c];have:=E8 z;exact VP ();refine⟨decide (((Ht 0 ks s).length:Int)=((ks.length:Int)+1)/2),?_,λz=>?_⟩;simp![zQ,yL,An,Fy,A4,ue hf,c,M8,xf s0 s1 hl,sj,eN];rw[if_neg c];have:=E8 z;lia
theorem ZI{jk:Nat}(hm:jk<=1000)(h1:1<=ks.length)(hl:ks.length<=1000):∃o,Oi [.lst (ks.map .int),.int leaf,.int (jk:Int)]=.ok (.sh (Hk o))/\∀s,o=some s->s<jk/\pA leaf ks (s:Int):=by
 obtain⟨r,e,p⟩:=sW (fg:=gV 3) (g:=Oz) (λa=>[.sh (.lst (ks.map .int)),.sh (.int leaf),.sh (.int (jk:Int)),a]) (λs=>s<jk/\pA leaf ks (s:Int)) (λ_ _=>rfl) (List.range jk) .no λt ht=>by have ht:=J9.mp ht;obtain⟨b,e,p⟩:=aeg hf (ks:=ks) (s:=(t:Int)) () () h1 hl;cases b with|true=>exact .inr ⟨by simp![Oz,An,e],ht,p rfl⟩|false=>exact .inl (by simp![Oz,An,e])
 rcases p with⟨Δ',rfl⟩|⟨s,rfl,p⟩;exact⟨none,Ek (sq (Gr (gU rfl ()) e) rfl),λ_ h=>by cases h⟩;exact⟨some s,Ek (BJ (Gr (gU rfl ()) e)),λ_ h=>by cases h;exact p⟩
end
noncomputable def Gx(leaf:Int):Nat->Nat->Nat|0,_=>1|n+1,z=>if(z:Int)<=leaf then 1 else 1+Gx leaf n ((z+1)/2)+Gx leaf n (z-(z+1)/2)
def Xw(leaf:Int):∀n z,1<=Gx leaf n z|0,_=>A9 _|n+1,z=>by unfold Gx;split;exact A9 _;lia
def kq(leaf:Int)(e1:List Int)(x:Int):Nat->Nat->Nat->Nat->Int
 |0,_,_,_=>0|n+1,z,a,p=>if(z:Int)<=leaf then(p:Int)+Hc x (e1.getD a 0) (z:Int) else
  if Hc x (e1.getD a 0) 2=0 then kq leaf e1 x n ((z+1)/2) (a+1) p else kq leaf e1 x n (z-(z+1)/2) (a+1+Gx leaf n ((z+1)/2)) (p+(z+1)/2)
def acw(p n:Nat):(Dv 0 n).map (λy=>(p:Int)+y)=Dv p n:=by unfold Dv;rw[D1];exact C8 λk _=>by simp
def ZH(p a b:Nat):Dv p (a+b)=Dv p a++Dv (p+a) b:=by unfold Dv;rw[List.range_add,B9,D1];exact K5 _ (C8 λk _=>by simp;lia)
def Mf(ks:List Int)(s:Int):(Ht 0 ks s++Ht 1 ks s).Perm ks:=by
 have:Ht 1 ks s=ks.filter λx=>!decide (Hc x s 2=0):=X4 λx _=>by have J:=uW x s 2 ⋯;rcases(show Hc x s 2=0\/Hc x s 2=1 by lia)with e|e<;>simp[e]
 rw[this];exact ZD1 _ _
def Jt(a:List Int)(s:Int)(r:List Int):(a++s::r).getD a.length 0=s:=by simp[List.getD]
structure Cut(leaf:Int)(n:Nat)(ks T:List Int):Prop where
 len:T.length=Gx leaf n ks.length
 le:T.length<=2*ks.length-1
 bd:∀t∈T,0<=t/\t<1000
 pm:∀(A U:List Int) (p:Nat),(ks.map λx=>kq leaf (A++T++U) x n ks.length A.length p).Perm (Dv p ks.length)
section
variable{leaf:Int}{n:Nat}{ks:List Int}{s:Int}
def Xv(h1:1<=ks.length)(c:(ks.length:Int)<=leaf)(nd:(Ga ks s).Nodup)(hs:0<=s/\s<1000):Cut leaf (n+1) ks [s]:=by
 refine⟨by rw[Gx,if_pos c];rfl,by rw[F8];lia,λt ht=>by rw[E7.mp ht];exact hs,λA U p=>?_⟩;have hp:=(sk ks.length (Ga ks s) nd (λx hx=>by obtain⟨y,_,rfl⟩:=D3.mp hx;exact uW y s _ ()) (Ju ks _)).map λy=>(p:Int)+y;rw[acw]at hp;refine List.Perm.trans (W6 ?_) hp;unfold Ga;rw[D1];refine C8 λx _=>?_;have g:(A++[s]++U).getD A.length 0=s:=by rw[J7];exact Jt A s U
 simp only[kq,c,if_true,g];rfl
def Xu{T1 T2:List Int}(h1:1<=leaf)(c:¬(ks.length:Int)<=leaf)(e0:(Ht 0 ks s).length=(ks.length+1)/2)(S:(Ht 1 ks s).length=ks.length-(ks.length+1)/2)(hs:0<=s/\s<1000)(c0:Cut leaf n (Ht 0 ks s) T1)(c1:Cut leaf n (Ht 1 ks s) T2):Cut leaf (n+1) ks ([s]++T1++T2):=by
 have l0:=c0.len;have l1:=c1.len;have m0:=c0.le;have m1:=c1.le;rw[e0]at l0 m0;rw[S]at l1 m1;refine⟨by rw[Gx,if_neg c];simp only[A6,F8];lia,by simp only[A6,F8];lia,λt ht=>?_,λA U p=>?_⟩;rcases F1.mp ht with ht|ht;rcases F1.mp ht with ht|ht;rw[E7.mp ht];exact hs;exact c0.bd t ht;exact c1.bd t ht;have p0:=c0.pm (A++[s]) (T2++U) p;have p1:=c1.pm (A++[s]++T1) U (p+(ks.length+1)/2);have g:(A++([s]++T1++T2)++U).getD A.length 0=s:=by simp only[J7];exact Jt A s _
 rw[show A++[s]++T1++(T2++U)=A++([s]++T1++T2)++U by simp only[J7]]at p0;rw[show A++[s]++T1++T2++U=A++([s]++T1++T2)++U by simp only[J7]]at p1;generalize A++([s]++T1++T2)++U=e1 at *;have hE:Dv p ks.length=Dv p (Ht 0 ks s).length++Dv (p+(ks.length+1)/2) (Ht 1 ks s).length:=by rw[<-e0,<-ZH,e0,S,show(ks.length+1)/2+(ks.length-(ks.length+1)/2)=ks.length by lia]
 rw[hE];refine((Mf ks s).symm.map _).trans ?_;rw[B9];refine List.Perm.append (List.Perm.trans (W6 (C8 λx hx=>?_)) p0) (List.Perm.trans (W6 (C8 λx hx=>?_)) p1);have d:=E8 (N2.mp hx).2;simp only[kq,c,L5,g,d,if_true,e0,A6,B7,Q4];have d:=E8 (N2.mp hx).2;have d':¬Hc x s 2=0:=by lia
 simp only[kq,c,L5,g,d',S,A6,B7,Q4,l0]
end
def whX{js:List Nat}{t:FT}{g:FS}{B Δ':SE}{x:Xn}{n:Nat}(e:t (At B)=.ok true)(k:g B=.ex x Δ'):Fq js t g (n+1) B=.ex x Δ':=by simp only[Fq,e,k,if_true]
section
variable{leaf:Int}{jk:Nat}{L0:D}(hf:1<=leaf)(hm:jk<=1000)
noncomputable abbrev kl(leaf:Int)(jk:Nat)(L0:D)(zm:List Int)(W:List D)(a5 a6:Sl):SE:=[.sh L0,.sh (.int leaf),.sh (.int (jk:Int)),.ow (.lst (zm.map .int)),.ow (.lst W),a5,a6]
theorem Me(zm:List Int)(W:List D)(a5 a6:Sl):pZ (At (kl leaf jk L0 zm W a5 a6))=.ok (decide (0<(W.length:Int))):=by show pZ [some L0,some (.int leaf),some (.int (jk:Int)),some (.lst (zm.map .int)),some (.lst W),a5.any,a6.any]=_;simp![pZ,An,Fy,wg]
include hf hm
theorem yn:∀(n:Nat) (ks zm:List Int) (W:List D) (a5 a6:Sl),1<=ks.length->ks.length<=n->n<=100->zm.length+2*ks.length<=10000->W.length+2*ks.length<=10000->∃k,k<=2*ks.length-1/\((∃q,∀m,∃B,Fq [4] pZ vq (m+k) (kl leaf jk L0 zm (W++[.lst (ks.map .int)]) a5 a6)=.ex (qf q) B)\/∃T b5 b6,Cut leaf n ks T/\∀m,Fq [4] pZ vq (m+k) (kl leaf jk L0 zm (W++[.lst (ks.map .int)]) a5 a6)=Fq [4] pZ vq m (kl leaf jk L0 (zm++T) W b5 b6))
 |0,ks,zm,W,a5,a6,h1,h2,_,_,_=>by lia|n+1,ks,zm,W,a5,a6,h1,h2,h3,h4,h5=>by
  have ht:pZ (At (kl leaf jk L0 zm (W++[.lst (ks.map .int)]) a5 a6))=.ok true:=by rw[Me,F4 (by rw[A6];simp)]
  obtain⟨o,hle,ho⟩:=ZI hf (ks:=ks) hm h1 ();have u1:gZ 5 4 (kl leaf jk L0 zm (W++[.lst (ks.map .int)]) a5 a6)=.nx (kl leaf jk L0 zm W (.sh (.lst (ks.map .int))) a6):=by unfold gZ;show(match(W++[D.lst (ks.map .int)])[(W++[D.lst (ks.map .int)]).length-1]? with|some d=>Fl.nx _|none=>.no)=_;rw[show(W++[D.lst (ks.map .int)])[(W++[D.lst (ks.map .int)]).length-1]?=some (.lst (ks.map .int)) by simp];show Fl.nx [_,_,_,_,Sl.ow (.lst (W++[D.lst (ks.map .int)]).dropLast),_,_]=_;rw[show(W++[D.lst (ks.map .int)]).dropLast=W by simp]
  cases o with|none=>exact⟨1,by lia,.inl ⟨(zm.length:Int),λm=>⟨_,whX ht (sq u1 (sq (by simp![An,hle,Hk];rfl) (BI (by simp![An,Hf,Fy,A4];rfl))))⟩⟩⟩|some s=>obtain⟨hs,fit⟩:=ho s rfl;have pV:0<=(s:Int)/\(s:Int)<1000:=(by lia);have zY:(zm.map D.int).length<16777216:=(by rw[A4];lia);have u4:Co 3 (Aa 6) (kl leaf jk L0 zm W (.sh (.lst (ks.map .int))) (.sh (.int (s:Int))))=.nx (kl leaf jk L0 (zm++[(s:Int)]) W (.sh (.lst (ks.map .int))) (.sh (.int (s:Int)))):=(by simp![Co,An,zY];unfold kl;rw[B9];rfl);unfold pA at fit;by_cases c:(ks.length:Int)<=leaf;rw[if_pos c]at fit;exact⟨1,by lia,.inr ⟨[(s:Int)],_,_,Xv h1 c fit pV,λm=>zH ht (sq u1 (sq (by simp![An,hle,Hk];rfl) (sq (by simp![An]) (sq u4 (by simp![An,Fy,A4,ue hf,c,O5];rfl)))))⟩⟩;rw[if_neg c]at fit;have S:(Ht 1 ks (s:Int)).length=ks.length-(ks.length+1)/2:=(by have:=(Mf ks (s:Int)).length_eq;rw[A6]at this;lia);have g1:=xf (ks:=ks) (b:=1) (s:=(s:Int)) () () ();have g0:=xf (ks:=ks) (b:=0) (s:=(s:Int)) () () ();have hW:W.length<16777216:=(by lia);have hW1:(W++[D.lst ((Ht 1 ks (s:Int)).map .int)]).length<16777216:=(by rw[A6];simp;lia);have J:vq (kl leaf jk L0 zm (W++[.lst (ks.map .int)]) a5 a6)=.nx (kl leaf jk L0 (zm++[(s:Int)]) ((W++[.lst ((Ht 1 ks (s:Int)).map .int)])++[.lst ((Ht 0 ks (s:Int)).map .int)]) (.sh (.lst (ks.map .int))) (.sh (.int (s:Int)))):=sq u1 (sq (by simp![An,hle,Hk];rfl) (sq (by simp![An]) (sq u4 (by simp![An,Fy,A4,ue hf,c,M8,Co,hW,g1,hW1,g0]))));obtain⟨k,hk,r⟩:=yn n (Ht 0 ks (s:Int)) (zm++[(s:Int)]) (W++[.lst ((Ht 1 ks (s:Int)).map .int)]) (.sh (.lst (ks.map .int))) (.sh (.int (s:Int))) () () () (by rw[A6];simp;lia) (by rw[A6];simp;lia);rcases r with⟨q,w⟩|⟨T,b5,b6,ct,w⟩;exact⟨k+1,by lia,.inl ⟨q,λm=>(w m).imp λ B e=>(zH (n:=m+k) ht J).trans e⟩⟩;have tl:=ct.le;obtain⟨j,hj,r⟩:=yn n (Ht 1 ks (s:Int)) (zm++[(s:Int)]++T) W b5 b6 () () () (by simp only[A6,F8];lia) ();have go:∀m,Fq [4] pZ vq (m+(j+k+1)) (kl leaf jk L0 zm (W++[.lst (ks.map .int)]) a5 a6)=Fq [4] pZ vq (m+j) (kl leaf jk L0 (zm++[(s:Int)]++T) (W++[.lst ((Ht 1 ks (s:Int)).map .int)]) b5 b6):=λm=>(by rw[show m+(j+k+1)=m+j+k+1 by lia];exact(zH ht J).trans (w (m+j)));rcases r with⟨q,w'⟩|⟨T',c5,c6,ct',w'⟩;exact⟨j+k+1,by lia,.inl ⟨q,λm=>(w' m).imp λ B e=>(go m).trans e⟩⟩;refine⟨j+k+1,by lia,.inr ⟨_,c5,c6,Xu hf c fit S pV ct ct',λm=>(go m).trans ?_⟩⟩;rw[<-J7,<-J7];exact w' m
theorem ZG{ks:List Int}(h1:1<=ks.length)(h2:ks.length<=60):(∃q,BB [.lst (ks.map .int),.int leaf,.int (jk:Int)]=.ex (qf q))\/∃T,BB [.lst (ks.map .int),.int leaf,.int (jk:Int)]=.ok (.ow (.lst (T.map .int)))/\Cut leaf 60 ks T:=by obtain⟨k,hk,r⟩:=yn (L0:=.lst (ks.map .int)) hf hm 60 ks [] [] .no .no h1 h2 () (by simp;lia) (by simp;lia);rcases r with⟨q,w⟩|⟨T,b5,b6,ct,w⟩;obtain⟨B,w⟩:=w (3000-k);rw[show 3000-k+k=3000 by lia]at w;exact .inl ⟨q,wa (sq rfl (sq (by simp![An];rfl) (BI w)))⟩;have w:=w (2999-k+1);rw[show 2999-k+1+k=3000 by lia]at w;exact .inr ⟨T,Ek (sq rfl (sq (by simp![An];rfl) (sq (w.trans (Qj (by rw[Me];rfl))) rfl))),ct⟩
end
noncomputable abbrev lC(n:Nat)(leaf:Int)(e1:List Int):D:=.obj "Halved" ["how_many","leaf","salts"] [.int (n:Int),.int leaf,.lst (e1.map .int)]
section
variable{leaf:Int}{e1:List Int}(hf:1<=leaf)
def xb{a:Nat}(h:a<e1.length):Bf (.lst (e1.map .int)) (.int (a:Int))=.ok (.sh (.int (e1.getD a 0))):=by refine iQ (Hx ?_);rw[B3,B1 h];simp[List.getD,h]
theorem Ii(hS:∀s∈e1,0<=s/\s<1000){a:Nat}(h:a<e1.length):0<=e1.getD a 0/\e1.getD a 0<1000:=by rw[show e1.getD a 0=e1[a] by simp[List.getD,h]];exact hS _ (V9 h)
include hf
theorem xS:∀(m n z:Nat),z<m->z<=n->vt m [.int (z:Int),.int leaf]=.ok (.sh (.int (Gx leaf n z:Nat)))
 |0,_,z,h,_=>by lia|m+1,n,z,h,hn=>by
  show Aj 3 (Oy (vt m)) _=_;by_cases c:(z:Int)<=leaf;rw[show Gx leaf n z=1 by cases n<;>simp only[Gx,c,if_true]];simp![Oy,An,ue hf,c,O5];rfl;obtain⟨n,rfl⟩:∃j,n=j+1:=⟨n-1,by lia⟩;have a2:=xS m n ((z+1)/2) () ();have b2:=xS m n (z-(z+1)/2) () ();have S:((z:Int)+1)/2=(((z+1)/2:Nat):Int):=by lia
  have e2:(z:Int)-(((z+1)/2:Nat):Int)=((z-(z+1)/2:Nat):Int):=by lia
  have e3:(1:Int)+(Gx leaf n ((z+1)/2):Nat)+(Gx leaf n (z-(z+1)/2):Nat)=(Gx leaf (n+1) z:Nat):=by rw[Gx,if_neg c];lia
  simp![Oy,An,ue hf,c,M8,sj,S,og,e2,a2,b2,Gh,e3]
theorem wy(e1:List Int)(x:Int):∀(n z a p:Nat),1<=z->z<=n->(p:Int)<=kq leaf e1 x n z a p/\kq leaf e1 x n z a p<((p+z:Nat):Int)|0,z,a,p,h1,h2=>by lia|n+1,z,a,p,h1,h2=>by unfold kq;by_cases c:(z:Int)<=leaf;simp only[c,if_true];have:=uW x (e1.getD a 0) (z:Int) ();lia;simp only[c,L5];by_cases d:Hc x (e1.getD a 0) 2=0;simp only[d,if_true];have:=wy e1 x n ((z+1)/2) (a+1) p () ();lia;simp only[d,L5];have:=wy e1 x n (z-(z+1)/2) (a+1+Gx leaf n ((z+1)/2)) (p+(z+1)/2) () ();lia
variable{x:Int}{d ds:D}(fl:∀r,Ch ["Halved"] "leaf" (Aa 0) (some ds::r)=.ok (.sh (.int leaf)))(fs:∀r,Ch ["Halved"] "salts" (Aa 0) (some ds::r)=.ok (.sh (.lst (e1.map .int))))(hS:∀s∈e1,0<=s/\s<1000)
include fl fs hS
theorem wZ:∀(n z a p:Nat) (a6:Sl),1<=z->z<=n->n<=69->a+Gx leaf n z<=e1.length->∀m,n<m->∃(z' a' p':Nat) (b6:Sl),1<=z'/\a'<e1.length/\kq leaf e1 x n z a p=(p':Int)+Hc x (e1.getD a' 0) (z':Int)/\Fq [0,3] DH OV m [.sh ds,.sh d,.sh (.int x),.sh (.int (z:Int)),.sh (.int (a:Int)),.sh (.int (p:Int)),a6]=.nx [.sh ds,.sh d,.sh (.int x),.sh (.int (z':Int)),.sh (.int (a':Int)),.sh (.int (p':Int)),b6]
 |0,z,a,p,a6,h1,h2,_,_,_,_=>by lia|n+1,z,a,p,a6,h1,h2,h3,h4,m,hm=>by
  obtain⟨m,rfl⟩:∃j,m=j+1:=⟨m-1,by lia⟩;by_cases c:(z:Int)<=leaf;rw[Gx,if_pos c]at h4;exact⟨z,a,p,a6,h1,by lia,by simp only[kq,c,if_true],Qj (by simp![DH,An,Sl.any,fl,ue hf,c,O5])⟩;rw[Gx,if_neg c]at h4;have q2:=Xw leaf n (z-(z+1)/2);have ha:a<e1.length:=by lia
  obtain⟨s0,s1⟩:=Ii hS ha;have S:((z:Int)+1)/2=(((z+1)/2:Nat):Int):=by lia
  have mx:=(uQ x (e1.getD a 0) 2 () () ⋯).1;have ht:DH (At [.sh ds,.sh d,.sh (.int x),.sh (.int (z:Int)),.sh (.int (a:Int)),.sh (.int (p:Int)),a6])=.ok true:=by simp![DH,An,Sl.any,fl,ue hf,c,M8]
  by_cases dd:Hc x (e1.getD a 0) 2=0;obtain⟨z',a',p',b6,g2,g3,g4,g5⟩:=wZ n ((z+1)/2) (a+1) p (.sh (.int (((z+1)/2:Nat):Int))) () () () () m ();exact⟨z',a',p',b6,g2,g3,by simp only[kq,c,dd,if_true,L5];exact g4,(zH ht (by simp![OV,An,sj,S,fs,xb ha,mx,dd,eN,O5,Gh];rfl)).trans g5⟩;have e2:(z:Int)-(((z+1)/2:Nat):Int)=((z-(z+1)/2:Nat):Int):=by lia
  have mp:=xS hf 70 n ((z+1)/2) () ();obtain⟨z',a',p',b6,g2,g3,g4,g5⟩:=wZ n (z-(z+1)/2) (a+1+Gx leaf n ((z+1)/2)) (p+(z+1)/2) (.sh (.int (((z+1)/2:Nat):Int))) () () () () m ();exact⟨z',a',p',b6,g2,g3,by simp only[kq,c,dd,L5];exact g4,(zH ht (by simp![OV,An,sj,S,fs,fl,xb ha,mx,dd,eN,M8,Gh,mp,og,e2];rfl)).trans g5⟩
end
def gL(leaf:Int)(e1:List Int)(n:Nat)(d:D):Int:=kq leaf e1 (Dq d) 60 n 0 0
def Xt{n:Nat}{leaf:Int}{e1:List Int}(hf:1<=leaf)(h1:1<=n)(h2:n<=60)(hl:Gx leaf 60 n<=e1.length)(hS:∀s∈e1,0<=s/\s<1000):gJ (lC n leaf e1) n (gL leaf e1 n):=by refine rp (F:=DP) (by simp[C4]) nofun ⟨by decide +kernel,by rfl'⟩ ∅ λd hd=>?_;have fm:∀δ,Ch C4 "how_many" (Aa 0) (some (lC n leaf e1)::δ)=.ok (.sh (.int (n:Int))):=λ_=>Hj rfl ∅ ∅;have fl:∀δ,Ch ["Halved"] "leaf" (Aa 0) (some (lC n leaf e1)::δ)=.ok (.sh (.int leaf)):=λ_=>Hj rfl ∅ ∅;have fs:∀δ,Ch ["Halved"] "salts" (Aa 0) (some (lC n leaf e1)::δ)=.ok (.sh (.lst (e1.map .int))):=λ_=>Hj rfl ∅ ∅;show DP [lC n leaf e1,d]=_;generalize lC n leaf e1=ds at *;obtain⟨z',a',p',b6,g2,g3,g4,g5⟩:=wZ (x:=Dq d) (d:=d) hf fl fs hS 60 n 0 0 .no h1 h2 () () 3000 ();obtain⟨s0,s1⟩:=Ii hS g3;have mx:=(uQ (Dq d) (e1.getD a' 0) (z':Int) () () ()).1;unfold gL;rw[g4];refine Ek (sq (by simp![An,mj hd];rfl) (sq (by simp![An,fm];rfl) (sq (by simp![An];rfl) (sq (by simp![An];rfl) ?_))));exact sq g5 (ret (by simp![An,Sl.any,fs,xb g3,mx,Gh]))
def UL{n:Nat}{c:Str}{g:FS}{M:List D}{ns:List Str}{ts:List Tn}{B:SE}(e:g (mC n c M)=.nx (.lt (.obj c ns ts)::B)):kg n c g M=.ok (ns,ts):=by unfold kg;rw[e];exact if_pos rfl
def UK{n:Nat}{c:Str}{g:FS}{M:List D}{x:Xn}{B:SE}(e:g (mC n c M)=.ex x B):kg n c g M=.ex x:=by unfold kg;rw[e]
section
variable{B:SE}{c f:Str}{ns cs:List Str}{ts:List Tn}{fe:FE}{d:D}{x:Xn}(hc:cs.contains c=true/\ns.contains f=false/\ns.length<1000)
include hc
theorem UG(he:fe (none::Ay B)=.ok (.ow d)):jJ 0 cs f fe (.lt (.obj c ns ts)::B)=.nx (.lt (.obj c (ns++[f]) (ts++[Tn.of d]))::B):=by unfold jJ;simp only[K0,if_pos hc,show Ay (.lt (.obj c ns ts)::B)=none::Ay B from rfl,he,R3]
theorem UE(he:fe (none::Ay B)=.ex x):jJ 0 cs f fe (.lt (.obj c ns ts)::B)=.ex x (.lt (.obj c ns ts)::B):=by unfold jJ;simp only[K0,if_pos hc,show Ay (.lt (.obj c ns ts)::B)=none::Ay B from rfl,he]
end
def FK(d:D):DJ [d]=.ok (["how_many"],[d]):=by rfl'
def Xs(T:List Int):Tn.of (.lst (T.map .int))=.lst (mS T):=by show Tn.lst ((T.map D.int).map Tn.sh)=_;unfold mS;rw[D1];rfl
def ZF{L:List D}{leaf:Int}{jk:Nat}(hk:∀k∈L,isKey k)(nd:L.Nodup)(h1:1<=L.length)(h2:L.length<=60)(hf:1<=leaf)(hm:jk<=1000):(∃q,mn [.lst L,.int leaf,.int (jk:Int)]=.ex (qf q))\/∃ns ts z,mn [.lst L,.int leaf,.int (jk:Int)]=.ok (ns,ts)/\Good L (Tn.obj "Halved" ns ts).d z/\Rx (.obj "Halved" ns ts)=true:=by
 have lk:=sr hk nd h1 ();have ln:(L.map Dq).length=L.length:=A4 _;have ec:Bn 1 (Db (Aa 1)) (gC 4) (λ_=>.ok true) Qy [none,some (.lst L),some (.int leaf),some (.int (jk:Int))]=.ok (.ow (.lst ((L.map Dq).map .int))):=by rw[<-Mg];exact Em (λd=>.int (Dq d)) rfl () λd hd=>⟨_,_,rfl,by simp![Qy,An,mj (hk d hd)];rfl,rfl⟩
 rcases ZG (ks:=L.map Dq) hf hm () ()with⟨q,e⟩|⟨T,e,ct⟩;exact .inl ⟨q,UK (sq (lH rfl lk (FK _)) (sq (lD rfl nofun rfl) (UE nofun (by simp![An,ec,e]))))⟩;have cl:=ct.len;rw[ln]at cl;have rb:∀d,0<=gL leaf T L.length d/\gL leaf T L.length d<(L.length:Int):=λd=>by have:=wy hf T (Dq d) 60 L.length 0 0 h1 h2;unfold gL;lia
 refine .inr ⟨_,[.sh (.int (L.length:Int)),.sh (.int leaf),.lst (mS T)],gL leaf T L.length,UL (sq (lH rfl lk (FK _)) (sq (lD rfl nofun rfl) ((UG (d:=.lst (T.map .int)) nofun (by simp![An,ec,e])).trans (by rw[Xs];rfl)))),⟨?_,λd _=>(rb d).1,?_⟩,?_⟩;simp only[Tn.d,Tn.M,wz];exact Xt hf h1 h2 () ct.bd;rw[show L.map (rm (gL leaf T L.length) L.length)=L.map (gL leaf T L.length) from C8 λk _=>by have:=rb k;unfold rm;lia];have:=ct.pm [] [] 0;rw[ln,D1,U7,G6]at this;exact this;show([_,_,_]:List Tn).all Pr=true;simp only[Q6,List.all_nil,Pr,Pu,Av,mS,Z9,Bool.and_true,Bool.true_and];exact F9.mpr λ_ _=>rfl
def mL{Q:List Int}{j:Nat}(h:j<Q.length):Bf (.lst (Q.map .int)) (.int (j:Int))=.ok (.sh (.int (Q.getD j 0))):=by refine iQ (Hx ?_);rw[B3,B1 h];simp[List.getD,h]
def wY(Q:List Int)(j:Nat)(z:Int):(Q.map D.int).set j (.int z)=(Q.set j z).map .int:=by rw[Ss]
def abe(Q:List Int):(Q.map D.int).all Av=true:=by rw[Z9,F9];exact λ_ _=>rfl
noncomputable abbrev BH(ns:D)(m:Int)(Q:List Int)(b:Bool)(e1 F:List Int)(a6 a7:Sl):SE:=[.sh ns,.sh (.int m),.ow (.lst (Q.map .int)),.sh (.bl b),.ow (.lst (e1.map .int)),.ow (.lst (F.map .int)),a6,a7]
def abd{ns:D}{Q e1 F:List Int}{m:Int}{b:Bool}{a7:Sl}{k:Nat}(hk:k<1000)(hR:0<Q.length)(hS:e1.length=Q.length)(hF:F.length=k):∃Q' F' EJ,Q'.length=Q.length/\F'.length=k+1/\yU (BH ns m Q b e1 F (.sh (.int (k:Int))) a7)=.nx (BH ns m Q' b e1 F' (.sh (.int (k:Int))) EJ):=by
 obtain⟨j,hj,ej⟩:∃j:Nat,j<Q.length/\(k:Int)%(Q.length:Int)=(j:Int):=⟨k%Q.length,Nat.mod_lt _ hR,by rw[Int.natCast_emod]⟩;have q1:=Fw (i:=(k:Int)) (show(0:Int)<(Q.length:Int) by lia);have i2:=mL hj;have i4:=mL (Q:=e1) (j:=j) ();have hl:(F.map D.int).length<16777216:=by rw[A4];lia
 have mk:Dm (.int (k:Int)) (.int (k:Int))=.ok (.sh (.int ((k:Int)*(k:Int)))):=Gi (fY () ());have hx:iS (Q.map D.int).length (j:Int)=some j:=nJ (by rw[A4];exact hj);by_cases J:b=false/\¬Q.getD j 0=0;obtain⟨rfl,J⟩:=J;refine⟨Q.set j (Q.getD j 0/2147483587),F++[Q.getD j 0%2147483587],.sh (.int (j:Int)),by rw[F7],by rw[A6,hF];rfl,sq (by simp![An,Fy,A4,q1,ej];rfl) ((Es (by simp![An,Sl.any,i2,eN,J])).trans ?_)⟩;unfold BH;rw[B9,<-wY];simp![An,Co,hl,i2,Fw (show(0:Int)<2147483587 by decide),jn (show(0:Int)<2147483587 by decide) ⋯,hG,hx];refine⟨Q,F++[vP (vP (e1.getD j 0%2147483647) ((k:Int)+7)) ((k:Int)*(k:Int)%1009+3)],.sh (.int (j:Int)),rfl,by rw[A6,hF];rfl,sq (by simp![An,Fy,A4,q1,ej];rfl) ((mY ?_).trans ?_)⟩;cases b with|true=>simp![An,Sl.any]|false=>simp![An,Sl.any,i2,eN,W1 λz=>J ⟨rfl,z⟩]
 unfold BH;rw[B9];simp![An,Co,hl,i4,Fw (show(0:Int)<2147483647 by decide),Gh,GU _ ((k:Int)+7) () (),mk,Fw (show(0:Int)<1009 by decide),GU _ ((k:Int)*(k:Int)%1009+3) () ()]
def GN{m k:Nat}{d:D}(h:(Eb (List.range m))[k]?=some d):d=.int (k:Int)/\k<m:=by unfold Eb at h;rw[B3]at h;by_cases c:k<m;rw[N5 c]at h;cases h;exact⟨rfl,c⟩;rw[K8 (by simpa using c)]at h;cases h
def ZE(ns:List Int)(hn:ns.length<=63)(m:Nat)(hm:m<=1000):∃zs:List Int,zs.length=m/\BC [.lst (ns.map .int),.int (m:Int)]=.ok (.ow (.lst (zs.map .int))):=by
 obtain⟨Q,hR,q2⟩:∃Q:List Int,0<Q.length/\∀d,Bx [2] (Ar (Ag Ds (Aa 2) (Cc Ad))) (Ah 2 [] (Cc #v[eC (.int 0)])) Bi [.sh d,.sh (.int (m:Int)),.ow (.lst (ns.map .int)),.no,.no,.no,.no,.no]=.nx [.sh d,.sh (.int (m:Int)),.ow (.lst (Q.map .int)),.no,.no,.no,.no,.no]:=by cases ns with|nil=>exact⟨[0],by decide,λ_=>rfl⟩|cons x ns=>exact⟨x::ns,by simp,λ_=>(Es (eY rfl rfl (by rw[W.dC,W.HY,IA];exact if_pos (aao (x::ns) [])))).trans rfl⟩
 have i0:Bf (.lst (Q.map .int)) (.int 0)=.ok (.sh (.int (Q.getD 0 0))):=mL (Q:=Q) (j:=0) hR;have hx:iS (Q.map D.int).length (0:Int)=some 0:=nJ (by rw[A4];exact hR);have hS:(Q.set 0 (Q.getD 0 0/2)).length=Q.length:=F7;generalize hq:Q.set 0 (Q.getD 0 0/2)=e1 at *;obtain⟨B,e,Q',F,a6,a7,_,hF,rfl⟩:=mW (gV 6) yU (λk B=>∃(Q' F:List Int) (a6 a7:Sl),Q'.length=e1.length/\F.length=k/\B=BH (.lst (ns.map .int)) (m:Int) Q' (decide (Q.getD 0 0%2=1)) e1 F a6 a7) (M:=Eb (List.range m)) ⟨e1,[],.no,.no,rfl,rfl,rfl⟩ λk d B hd ⟨Q',F,a6,a7,h1,h2,e⟩=>by obtain⟨rfl,hk⟩:=GN hd;subst e;obtain⟨R2,F2,a72,g1,g2,g3⟩:=abd (ns:=.lst (ns.map .int)) (m:=(m:Int)) (b:=decide (Q.getD 0 0%2=1)) (a7:=a7) (k:=k) () () h1.symm h2;exact⟨_,rfl,_,.inl g3,R2,F2,_,_,g1.trans h1,g2,rfl⟩
 rw[show(Eb (List.range m)).length=m by unfold Eb;simp]at hF;refine⟨F,hF,Ek (sq rfl (sq (q2 _) (sq (by simp![An,i0,Fw (show(0:Int)<2 by decide),eN];rfl) (sq (by simp![hG,An,i0,jn (show(0:Int)<2 by decide) ⋯,hx,wY,hq];rfl) (sq (by simp![lM,An,pI,abe];rfl) (sq rfl ?_))))))⟩;exact sq (Gr (gU (m:=m) rfl ()) e) rfl
def aef(a b c:Int):∃d,isKey d/\vE [.int a,.int b,.int c]=.ok (.sh d):=by
 have d3:=jn (i:=a) (show(0:Int)<3 by decide) ⋯;have m3:=Fw (i:=a) (show(0:Int)<3 by decide);have p18:=Wn (aaq (i:=10) (j:=18) ⋯ ⋯ ⋯ ⋯);have e18:(10:Int)^(18:Int).toNat=1000000000000000000:=by decide
 rw[e18]at p18;have m7:Dm (.int 700000000) (.int b)=.ok (.sh (.int (700000000*b))):=Gi (fY ⋯ ⋯);have:a%3=0\/a%3=2\/a%3=1:=by lia
 rcases this with h|h|h;refine⟨.int ((a/3+700000000*b)%1000000000000000000),.inl ⟨_,rfl,by lia,by lia⟩,?_⟩;simp![vE,OH,An,d3,m3,m7,Gh,eN,h,p18,Fw (show(0:Int)<1000000000000000000 by decide)];refine⟨.int (a/3%50),.inl ⟨_,rfl,by lia,by lia⟩,?_⟩;have n0:¬(2:Int)=0:=by decide
 simp![vE,OH,An,d3,m3,eN,h,n0,Fw (show(0:Int)<50 by decide)];have n0:¬(1:Int)=0:=by decide
 have n2:¬(1:Int)=2:=by decide
 have b0:=R7 (a/3) (show(12:Int)≠0 by decide);have b1:=R4 (a/3) (show(0:Int)<12 by decide);have m36:Dm (.int (a/36)) (.int 1500000000)=.ok (.sh (.int (a/36*1500000000))):=Gi (oh ⋯ ⋯);obtain⟨Δ',e,l,zc,a6,a7,rfl,hZ,hl,hc⟩:=abB (gV 6) OP (λk B=>∃(l:List Nat) (zc:List Int) (a6 a7:Sl),B=[.sh (.int a),.sh (.int b),.sh (.int c),.sh (.str "abcdefghijklmnopqrstuvwxyz0123456789-_ "),.ow (.lst (zc.map .int)),.sh (.str (Bv l)),a6,a7]/\zc.length=2/\l.length=k/\∀c∈l,c∈pL) (n:=(a/3%12).toNat) (lo:=0) (B:=[.sh (.int a),.sh (.int b),.sh (.int c),.sh (.str "abcdefghijklmnopqrstuvwxyz0123456789-_ "),.ow (.lst ([a/36*1500000000+b,c].map .int)),.sh (.str ""),.no,.no]) ⟨[],_,.no,.no,rfl,rfl,rfl,λc hc=>absurd hc (by simp)⟩ (λk B hk hI=>by
  obtain⟨l,zc,a6,a7,rfl,hZ,hl,hc⟩:=hI;obtain⟨j,hj,ej⟩:∃j:Nat,j<2/\(0+(k:Int))/6=(j:Int):=⟨k/6,by lia,by lia⟩;have i4:=mL (Q:=zc) (j:=j) ();obtain⟨y,hy,ec⟩:=UW (zc.getD j 0);have zk:(Bv l).length+(Bv [y]).length<=16777216:=by rw[jR,jR];simp;lia
  have hx:iS (zc.map D.int).length (j:Int)=some j:=nJ (by rw[A4];lia);refine⟨_,rfl,[.sh (.int a),.sh (.int b),.sh (.int c),.sh (.str "abcdefghijklmnopqrstuvwxyz0123456789-_ "),.ow (.lst ((zc.set j (zc.getD j 0/39)).map .int)),.sh (.str (Bv (l++[y]))),.sh (.int (0+(k:Int))),.sh (.int (j:Int))],.inl ?_,l++[y],zc.set j (zc.getD j 0/39),_,_,rfl,by rw[F7];exact hZ,by simp[hl],?_⟩;rw[<-wY];simp![OP,An,jn (show(0:Int)<6 by decide) ⋯,ej,i4,Fw (show(0:Int)<39 by decide),ec,Wo zk,XY,hG,hx,jn (show(0:Int)<39 by decide) ⋯];intro d hd;rcases F1.mp hd with hd|hd;exact hc d hd;have:d=y:=by simpa using hd
  rw[this];exact hy)
 refine⟨.str (Bv l),.inr ⟨l,rfl,by lia,hc⟩,?_⟩;have e:Dj (gV 6) OP (Eh 0 (a/3%12).toNat) [.sh (.int a),.sh (.int b),.sh (.int c),.sh (.str "abcdefghijklmnopqrstuvwxyz0123456789-_ "),.ow (.lst [.int (a/36*1500000000+b),.int c]),.sh (.str ""),.no,.no]=_:=e;simp![vE,OH,An,d3,m3,eN,h,n0,n2,jn (i:=a) (show(0:Int)<36 by decide) ⋯,m36,Gh,Fw (show(0:Int)<12 by decide),Do,tO (show -4611686018427387903<=a/3%12 by lia) (),e]
def Nq(zs:List Int)(s m:Nat)(h0:s+3*m<=zs.length)(h1:zs.length<=1000)(hm:1<=m):∃L:List D,L≠ []/\L.length<=m/\(∀k∈L,isKey k)/\L.Nodup/\qc [.lst (zs.map .int),.int (s:Int),.int (m:Int)]=.ok (.ow (.lst L)):=by
 obtain⟨Δ',e,L,a4,a5,a6,rfl,hl,hk,hd,hp⟩:=mW (gV 4) OT (λk B=>∃(L:List D) (a4 a5 a6:Sl),B=[.sh (.lst (zs.map .int)),.sh (.int (s:Int)),.sh (.int (m:Int)),.ow (.lst L),a4,a5,a6]/\L.length<=k/\(∀k∈L,isKey k)/\L.Nodup/\(1<=k->L≠ [])) (M:=Eb (List.range m)) ⟨[],.no,.no,.no,rfl,A9 _,λk hk=>absurd hk (by simp),V6,λz=>by lia⟩ λk d B hd ⟨L,a4,a5,a6,e,hl,Pg,nd,ne⟩=>by
  obtain⟨rfl,hk⟩:=GN hd;subst e;have m3:Dm (.int 3) (.int (k:Int))=.ok (.sh (.int (3*(k:Int)))):=Gi (fY ⋯ ⋯);have e0:(s:Int)+3*(k:Int)=((s+3*k:Nat):Int):=by lia
  have S:((s+3*k:Nat):Int)+1=((s+3*k+1:Nat):Int):=by lia
  have e2:((s+3*k:Nat):Int)+2=((s+3*k+2:Nat):Int):=by lia
  have i0:=mL (Q:=zs) (j:=s+3*k) ();have i1:=mL (Q:=zs) (j:=s+3*k+1) ();have i2:=mL (Q:=zs) (j:=s+3*k+2) ();obtain⟨d,Rg,ed⟩:=aef (zs.getD (s+3*k) 0) (zs.getD (s+3*k+1) 0) (zs.getD (s+3*k+2) 0);have QV:L.length<16777216:=by lia
  have Pd:=xV Rg Pg;cases hm:Dz d L with|true=>rw[hm]at Pd;exact⟨_,rfl,_,.inl (by simp![OT,An,m3,Gh,e0,S,e2,i0,i1,i2,ed,Pd];rfl),L,_,_,_,rfl,by lia,Pg,nd,λ_ z=>by rw[z]at hm;cases hm⟩|false=>rw[hm]at Pd;refine⟨_,rfl,_,.inl (by simp![OT,An,m3,Gh,e0,S,e2,i0,i1,i2,ed,Pd,Co,QV];rfl),L++[d],_,_,_,rfl,by simp;lia,λx hx=>(F1.mp hx).elim (Pg x) λz=>by rw[E7.mp z];exact Rg,xh nd λz=>?_,λ_=>by simp⟩;rw[(mem_iff Rg Pg).mpr z]at hm;cases hm
 rw[show(Eb (List.range m)).length=m by unfold Eb;simp]at hl hp;have mH:=hp hm;refine⟨L,mH,hl,hk,hd,Ek (sq rfl (sq (Gr (gU (m:=m) rfl ()) e) ?_))⟩;obtain⟨b,J,eb,_⟩:=JH hk (js:=[]) (λ_ h=>by simp at h);cases b with|true=>exact absurd (J.mp rfl) mH|false=>exact sq (Es (eY rfl rfl eb)) rfl
def UJ{B:SE}{js:List Nat}{i:Nat}{f:FE}{t:Tn}(e:f (Ay B)=.ok (.tr t)):Ah i js f B=.nx (B.set i (.tr t)):=by unfold Ah;rw[e]
structure Wd(L:List D)(jl:Nat)(N:Prop)(w:W):Prop where
 ok:(Er L w.d||Pq w)=true
 q:(w.d=.str (if jl<=1 then "no try" else "no fit")/\(jl<=1->N))\/∃z,Good L w.d z/\(jl=1->L.map (rm z L.length)=Dv 0 L.length)/\(jl<=1->¬N)
def lB{c:Str}{n:Nat}{F:List D->R (List Str×List D)}{fa:FA}{δ:DE}{M:List D}(ha:fa δ=.ok M)(hn:M.length=n):gY c n F fa δ=(F M).bind λp=>.ok (.sh (.obj c p.1 p.2)):=by unfold gY;rw[ha,R.aD,if_pos hn]
def FH{c:Str}{n:Nat}{F:List D->R (List Str×List Tn)}{fa:FA}{δ:DE}{M:List D}(ha:fa δ=.ok M)(hn:M.length=n):rH c n F fa δ=(F M).bind λp=>.ok (.tr (.obj c p.1 p.2)):=by unfold rH;rw[ha,R.aD,if_pos hn]
theorem Kw(L:List D):∀T:List Int,Ck L (T.map .int)=true|[]=>by simp only[N8,Ck]|t::T=>by simp only[B6,Ck,Er,Kw L T,Q7]
def Ih{L:List D}{s ii:Int}{m:Int}{T:List Int}(hk:ii=2\/ii=3)(ht:(T.length:Int)=ii*Cn (L.length:Int) ii):Er L (Fe s ii (Cn (L.length:Int) ii) m T)=true:=by
 have:lL L (T.map .int)=false:=by cases e:lL L (T.map .int)with|false=>rfl|true=>have:=abD e;rw[A4]at this;unfold Cn at ht;rcases hk with rfl|rfl;rw[if_pos ⋯]at ht;lia;rw[if_neg ⋯]at ht;lia
 simp only[Er,Ck,this,Kw,Sx,Q7]
def FJ{L:List D}{c:Str}{ns:List Str}{n:Int}{t:D}{r:List D}(h:Er L t=true)(hr:Ck L r=true):Er L (.obj c ns (.int n::t::r))=true:=by simp only[Er,Ck,h,hr,Q7]
section
variable{jl:Int}{L zs:List D}
noncomputable abbrev stM(jl:Int)(L zs:List D)(a:Sl):SE:=[.sh (.int jl),.sh (.lst L),.sh (.lst zs),a]
def si{a:Sl}{w:W}(e:Oh (stM jl L zs (.sh .aK))=.nx (stM jl L zs a))(h:Bq 3 (stM jl L zs a)=.rt w):qw [.int jl,.lst L,.lst zs]=.ok w:=Ek (sq rfl (sq (TH e) h))
def Ig(e:Oh (stM jl L zs (.sh .aK))=.ex fL (stM jl L zs (.sh .aK))):qw [.int jl,.lst L,.lst zs]=.ok (.sh (.str "no try")):=by refine Ek (sq rfl (sq (EW (r:=.nx (stM jl L zs (.sh (.str "no try")))) e ?_) rfl));unfold Hh;rw[show List.lookup fL.c _=some true by decide +kernel];rfl
def Ie{q:Int}(e:Oh (stM jl L zs (.sh .aK))=.ex (qf q) (stM jl L zs (.sh .aK))):qw [.int jl,.lst L,.lst zs]=.ok (.sh (.str "no fit")):=by refine Ek (sq rfl (sq (EW (r:=.nx (stM jl L zs (.sh (.str "no fit")))) e ?_) rfl));unfold Hh;rw[show List.lookup (qf q).c _=some false by show List.lookup (Str.ofString "NoFit") _=_;decide +kernel];unfold Hh;rw[show List.lookup (qf q).c _=some true by show List.lookup (Str.ofString "NoFit") _=_;decide +kernel];rfl
end
def Ic{L:List D}{zs:List Int}(hk:∀k∈L,isKey k)(nd:L.Nodup)(h1:1<=L.length)(h2:L.length<=60)(hz:4<=zs.length):∃N:Prop,∀jl:Nat,jl<4->∃w,qw [.int (jl:Int),.lst L,.lst (zs.map .int)]=.ok w/\Wd L jl N w:=by
 have i1:Bf (.lst (zs.map .int)) (.int 1)=.ok (.sh (.int (zs.getD 1 0))):=mL (j:=1) ();have i2:Bf (.lst (zs.map .int)) (.int 2)=.ok (.sh (.int (zs.getD 2 0))):=mL (j:=2) ();have i3:Bf (.lst (zs.map .int)) (.int 3)=.ok (.sh (.int (zs.getD 3 0))):=mL (j:=3) ();generalize zs.map D.int=zd at *;generalize zs.getD 1 0=z1 at *;generalize zs.getD 2 0=z2 at *;generalize zs.getD 3 0=z3 at *;refine⟨ni [.lst L,.int (2+z1%2),.int (1+z1/2%30)]=.ex fL,λjl hf=>?_⟩;have K:Ks L 0 (2+z1%2):=⟨hk,nd,h1,by lia,by lia,by lia,by lia⟩;have A1:∀a b,Ab (Aa 1) #v[Ag Bl (eC (.int 2)) (Ag Dc (Ag Bf (Aa 2) (eC (.int 1))) (eC (.int 2))),Ag Bl (eC (.int 1)) (Ag Dc (Ag Gd (Ag Bf (Aa 2) (eC (.int 1))) (eC (.int 2))) (eC (.int 30)))] [a,some (.lst L),some (.lst zd),b]=.ok [.lst L,.int (2+z1%2),.int (1+z1/2%30)]:=λa b=>by simp![An,i1,Fw (show(0:Int)<2 by decide),Fw (show(0:Int)<30 by decide),jn (show(0:Int)<2 by decide) ⋯,Gh]
 have A2:∀a b,Ab (Aa 1) #v[Ag Bl (eC (.int 1)) (Ag Dc (Ag Bf (Aa 2) (eC (.int 2))) (eC (.int 20))),Ag Bl (eC (.int 1)) (Ag Dc (Ag Gd (Ag Bf (Aa 2) (eC (.int 2))) (eC (.int 20))) (eC (.int 200)))] [a,some (.lst L),some (.lst zd),b]=.ok [.lst L,.int (((1+z2%20).toNat:Nat):Int),.int (((1+z2/20%200).toNat:Nat):Int)]:=λa b=>by rw[show(((1+z2%20).toNat:Nat):Int)=1+z2%20 by lia,show(((1+z2/20%200).toNat:Nat):Int)=1+z2/20%200 by lia];simp![An,i2,Fw (show(0:Int)<20 by decide),Fw (show(0:Int)<200 by decide),jn (show(0:Int)<20 by decide) ⋯,Gh]
 have A3:∀a b,Ab (Aa 1) #v[Ag Bl (eC (.int 1)) (Ag Dc (Ag Bf (Aa 2) (eC (.int 3))) (eC (.int 6))),Ag Bl (eC (.int 1)) (Ag Dc (Ag Gd (Ag Bf (Aa 2) (eC (.int 3))) (eC (.int 6))) (eC (.int 200)))] [a,some (.lst L),some (.lst zd),b]=.ok [.lst L,.int (1+z3%6),.int (((1+z3/6%200).toNat:Nat):Int)]:=λa b=>by rw[show(((1+z3/6%200).toNat:Nat):Int)=1+z3/6%200 by lia];simp![An,i3,Fw (show(0:Int)<6 by decide),Fw (show(0:Int)<200 by decide),jn (show(0:Int)<6 by decide) ⋯,Gh]
 rcases(show jl=0\/jl=1\/jl=2\/jl=3 by lia)with rfl|rfl|rfl|rfl;rcases JC K (1+z1/2%30) () ()with e|⟨s,s1,e,e2⟩;exact⟨_,Ig ((mY rfl).trans (ly ((lB (A1 _ _) rfl).trans (by rw[VU e];rfl)))),by simp[Er],.inl ⟨rfl,λ_=>e⟩⟩;obtain⟨C,T,size,hp,ei⟩:=ZS K () e e2;refine⟨_,si ((mY rfl).trans (lx ((lB (A1 _ _) rfl).trans (by rw[ei];rfl)))) rfl,?_,.inr ⟨_,⟨XA hp,λ_ _=>by lia,ZO hp⟩,λz=>by lia,λ_ z=>by rw[e]at z;cases z⟩⟩;have:=Ih (L:=L) (s:=(s:Int)) (m:=2+z1%2) (T:=T) K.kd (by rw[hp.tl];exact hp.sz);rw[W.dC,FJ this (by simp only[Ck,Er,Q7]),PV];rcases JC K (1+z1/2%30) () ()with e|⟨s,s1,e,e2⟩;exact⟨_,Ig ((Es rfl).trans ((mY rfl).trans (ly ((lB (A1 _ _) rfl).trans (by rw[VT e];rfl))))),by simp[Er],.inl ⟨rfl,λ_=>e⟩⟩;obtain⟨T,t1,t2,t3,ei⟩:=ZR K () e e2;obtain⟨_,_,p3,p4⟩:=oC (L.length:Int) (2+z1%2) () () K.kd;have hr:L.map (rm (λd=>Ec T (Dr d (s:Int) (2+z1%2) (Cn (L.length:Int) (2+z1%2)))%(L.length:Int)) L.length)=Dv 0 L.length:=S3 λi=>by unfold Dv;rw[B3,B3];cases hd:L[i]? with|none=>rw[K8 (by simpa using hd)];rfl|some d=>have hi:=(A7.mp hd).1;rw[N5 hi,J8,J8,O9];refine K5 some ?_;have:=t3 i d hd;show min (_%_) _=_;rw[this];lia
 refine⟨_,si ((Es rfl).trans ((mY rfl).trans (lx ((lB (A1 _ _) rfl).trans (by rw[ei];rfl))))) rfl,?_,.inr ⟨_,⟨XD ⟨hk,nd,h1,by lia,by lia,by lia,K.kd⟩ p3 p4 t1,λ_ _=>R7 _ (),by rw[hr]⟩,λ_=>hr,λ_ z=>by rw[e]at z;cases z⟩⟩;have:=Ih (L:=L) (s:=(s:Int)) (m:=(L.length:Int)) (T:=T) K.kd t1;rw[W.dC,FJ this (by simp only[Ck,Er,Q7]),PV];rcases ZJ (Δ:=(1+z2%20).toNat) (jk:=(1+z2/20%200).toNat) hk nd h1 h2 () () ()with⟨q,e⟩|⟨ns,vs,z,e,g,n⟩;exact⟨_,Ie ((Es rfl).trans ((Es rfl).trans ((mY rfl).trans (ly ((lB (A2 _ _) rfl).trans (by rw[e];rfl)))))),by simp[Er],.inl ⟨rfl,λz=>by lia⟩⟩;exact⟨_,si ((Es rfl).trans ((Es rfl).trans ((mY rfl).trans (lx ((lB (A2 _ _) rfl).trans (by rw[e];rfl)))))) rfl,by simp only[W.dC,Er,n,PV],.inr ⟨z,g,λz=>by lia,λz=>by lia⟩⟩;rcases ZF (leaf:=1+z3%6) (jk:=(1+z3/6%200).toNat) hk nd h1 h2 () ()with⟨q,e⟩|⟨ns,ts,z,e,g,n⟩;exact⟨_,Ie ((Es rfl).trans ((Es rfl).trans ((Es rfl).trans (ly ((FH (A3 _ _) rfl).trans (by rw[e];rfl)))))),by simp[Er],.inl ⟨rfl,λz=>by lia⟩⟩;exact⟨.tr (.obj "Halved" ns ts),si (a:=.tr (.obj "Halved" ns ts)) ((Es rfl).trans ((Es rfl).trans ((Es rfl).trans (UJ ((FH (A3 _ _) rfl).trans (by rw[e];rfl)))))) rfl,by simp only[Pq,n,PX],.inr ⟨z,g,λz=>by lia,λz=>by lia⟩⟩
def Xr{L:List D}(hk:∀k∈L,isKey k):Gz (.lst L) (.lst L)=.ok (.sh (.bl false)):=by obtain⟨b,J,_,e⟩:=JH hk hk;rw[e,J.mpr rfl];rfl
def jG(H':List D):D->Bool|.tup [.int i,d]=>!Dz d (H'.take i.toNat)|_=>false
def qS:D->D|.tup [_,d]=>d|d=>d
def gS(H' E:List D):List D:=(E.filter (jG H')).map qS
theorem GL{H':List D}(hk:∀k∈H',isKey k):∀mE pre:List D,H'=pre++mE->(gS H' (Dx pre.length mE)).Nodup/\(∀d∈gS H' (Dx pre.length mE),d∈mE/\d∉pre)/\(gS H' (Dx pre.length mE)).length<=mE.length
 |[],pre,_=>⟨V6,λ_ h=>absurd h (by simp[gS,Dx]),A9 _⟩|d::mE,pre,e=>by
  obtain⟨i1,i2,i3⟩:=GL hk mE (pre++[d]) (by rw[e,J7];rfl);rw[A6,F8]at i1 i2 i3;have hm:Dz d (H'.take pre.length)=true↔d∈pre:=by rw[e,List.take_left];exact mem_iff (hk d (by rw[e];simp)) λk h=>hk k (by rw[e];simp[h])
  have ht:gS H' (Dx pre.length (d::mE))=if Dz d (H'.take pre.length)=true then gS H' (Dx (pre.length+1) mE) else d::gS H' (Dx (pre.length+1) mE):=by show((D.tup [.int (pre.length:Int),d]::Dx (pre.length+1) mE).filter (jG H')).map qS=_;rw[O0,show jG H' (.tup [.int (pre.length:Int),d])= !Dz d (H'.take pre.length) by show(!Dz d (H'.take ((pre.length:Int)).toNat))=_;rw[K6]];cases Dz d (H'.take pre.length)<;>rfl
  rw[ht];by_cases c:Dz d (H'.take pre.length)=true;rw[if_pos c];exact⟨i1,λx hx=>⟨.tail _ (i2 x hx).1,λz=>(i2 x hx).2 (by simp[z])⟩,by rw[B7];lia⟩;rw[if_neg c];refine⟨K1.mpr ⟨λz=>(i2 d z).2 (by simp),i1⟩,λx hx=>?_,by rw[B7,B7];lia⟩;rcases C5.mp hx with rfl|hx;exact⟨.head _,λz=>c (hm.mpr z)⟩;exact⟨.tail _ (i2 x hx).1,λz=>(i2 x hx).2 (by simp[z])⟩
def VO{H':List D}(hk:∀k∈H',isKey k)(hl:H'.length<=1000)(mH:H'≠ []):∃R:List D,(∀k∈R,isKey k)/\R.Nodup/\1<=R.length/\R.length<=H'.length/\∀a b c d e f g i j,Bn 2 (fC (Aa 7)) (Ru 10 11) xu (Aa 11) [a,b,c,d,e,f,g,some (.lst H'),i,j]=.ok (.ow (.lst R)):=by
 obtain⟨i1,i2,i3⟩:=GL hk H' [] rfl;refine⟨gS H' (Dx 0 H'),λk h=>hk k (i2 k h).1,i1,?_,i3,λa b c d e f g i j=>pP (M:=Dx 0 H') rfl ?_ (qu (jG H') qS (Dx 0 H') λp hp=>?_)⟩;cases H' with|nil=>exact absurd rfl mH|cons x H'=>show 1<=(((D.tup [.int 0,x]::Dx 1 H').filter (jG (x::H'))).map qS).length;rw[O0,if_pos (show jG (x::H') (.tup [.int 0,x])=true from rfl)];simp
 rw[show(Dx 0 H').length=H'.length from xT H' 0];lia;obtain⟨i,hi⟩:=List.mem_iff_getElem?.mp hp;obtain⟨d,hd,rfl⟩:=vf hi;rw[O9];refine⟨_,rfl,?_,λ_=>⟨_,rfl,rfl⟩⟩;have hn:=xV (hk d (M0 hd)) (λk h=>hk k (Y9 h):∀k∈H'.take i,isKey k);have hc:=GV H' i (P8 (A7.mp hd).1);simp![xu,An,By,Df,Cz,Ea,lW,hc,hn,jG,K6]
abbrev zM:List (Str×Bool):=uG
abbrev tbO:List (Str×Bool):=Qb
section
variable{B:SE}{js:List Nat}{i j:Nat}{f:FE}{M:List D}{w w0:W}{d ds:D}{δ:DE}{t t':FT}{b:Bool}{n:Nat}{z:D->Int}
def Ua(hj:B[j]?=some (.ow (.lst M)))(e:f (Ay (B.set j (.sh (.lst M))))=.ok w)(h1:M.all Av=true)(h2:(Er M w.d||Pq w)=true):nK i j f B=.nx (B.set i (.sh w.d)):=by unfold nK;simp only[hj,e,if_pos (And.intro h1 h2)]
def Nh(hi:B[i]?=some (.ow (.lst M)))(hl:M.length<16777216)(e:f (Ay B)=.ok w):Co i f B=.nx (B.set i (.ow (.lst (M++[w.d])))):=by unfold Co;simp only[hi,if_pos hl,e]
def lu{tb:List (Str×Bool)}{T:String}(e:f δ=.ok w)(h:uh tb T w.d=some b):As (Hn tb T f) δ=.ok b:=by unfold As Hn;rw[e];simp only[R.aD,h];rfl
def TJ{tb:List (Str×Bool)}{c:Str}{ns:List Str}(e:f δ=.ok (.sh (.obj c ns M)))(h:tb.lookup c=some b):As (nF tb f) δ=.ok b:=by unfold As nF;rw[e];simp only[R.aD,W.dC,h];rfl
def EY(e:f δ=.ok (.sh (.bl b))):As f δ=.ok b:=by unfold As;rw[e];rfl
def rq(e:f (At B)=.ok w):Di js f B=.nx B:=by unfold Di;rw[e]
def rf(e:t δ=.ok true):Br t δ=.ok false:=by unfold Br;rw[e];rfl
def Uo(e:t δ=.ok false):Br t δ=.ok true:=by unfold Br;rw[e];rfl
def afz(e:t δ=.ok true)(k:t' δ=.ok b):Ex t t' δ=.ok b:=by unfold Ex;rw[e];exact k
def afA(e:t δ=.ok false):Ex t t' δ=.ok false:=by unfold Ex;rw[e];rfl
def nI(h:gJ ds n z):uh zM "str" ds=some false:=by obtain⟨c,ns,vs,rfl,hc,_⟩:=h.ob;simp only[C4,C5,SN,or_false]at hc;rcases hc with rfl|rfl|rfl|rfl<;>rfl'
def UI(h:gJ ds n z)(e:f δ=.ok (.sh ds)):As (nF tbO f) δ=.ok true:=by obtain⟨c,ns,vs,rfl,hc,_⟩:=h.ob;simp only[C4,C5,SN,or_false]at hc;rcases hc with rfl|rfl|rfl|rfl<;>exact TJ e ∅
end
def Tz(L:List D)(jl:Nat)(N:Prop)(d:D):Prop:=(d=.str (if jl<=1 then "no try" else "no fit")/\(jl<=1->N))\/∃z,Good L d z/\(jl=1->L.map (rm z L.length)=Dv 0 L.length)/\(jl<=1->¬N)
section
variable{L ss ws:List D}{k:Nat}{N:Prop}{ku iM d:D}{w:W}{a6 a7 a8 a9:Sl}(hk:∀k∈L,isKey k)(h1:1<=L.length)(h2:L.length<=40)(hs:∀k∈ss,isKey k)(h3:ss.length<=10)
theorem GJ(k:Nat):jr 1 (.str (if k<=1 then "no try" else "no fit"))=true:=by by_cases c:k<=1;rw[if_pos c];decide +kernel;rw[if_neg c];decide +kernel
include hk h1 h2 in
theorem se(hd:Tz L k N d):∃w,uf [d,.lst L]=.ok w/\jr 1 w.d=true:=by rcases hd with⟨rfl,_⟩|⟨z,g,_⟩;exact⟨_,Ek (BJ ((mY (lu rfl rfl)).trans rfl)),GJ k⟩;exact⟨_,Ek (sq (Es (lu rfl (nI g.h))) (ret (g.h.rooms hk () rfl))),xn _⟩
include hk h1 h2 hs h3
theorem rE(k4:k<4)(hw:qw [.int (k:Int),.lst L,iM]=.ok w)(hq:Wd L k N w)(hl:ws.length<10):xw [.sh ku,.sh iM,.sh (.lst L),.ow (.lst ss),.ow (.lst ws),.sh (.int (k:Int)),a6,a7,a8,a9]=.nx [.sh ku,.sh iM,.sh (.lst L),.ow (.lst ss),.ow (.lst (ws++[w.d])),.sh (.int (k:Int)),a6,a7,.ow (.lst (L++[.str "later"])),.sh w.d]:=by
 refine sq (nC (d:=.lst L) (wc rfl rfl)) (sq (Ua rfl hw (xW hk) hq.ok) (sq (Es (eY rfl rfl (Xr hk))) (sq (Nh (M:=L) rfl () rfl) (sq (Nh (M:=ws) rfl () rfl) ?_))));have hq1:Tz L k N w.d:=hq.q;rcases hq.q with⟨e,_⟩|⟨z,g,f,_⟩;refine(mY (lu rfl (by show uh zM "str" w.d=some true;rw[e];rfl))).trans ((Es ?_).trans rfl);have hx:Bf (.lst [.str "no try",.str "no try",.str "no fit",.str "no fit"]) (.int (k:Int))=.ok (.sh w.d):=by rw[e];rcases(show k=0\/k=1\/k=2\/k=3 by lia)with rfl|rfl|rfl|rfl;exact iQ (Hx (i:=0) rfl);exact iQ (Hx (i:=1) rfl);exact iQ (Hx (i:=2) rfl);exact iQ (Hx (i:=3) rfl)
 exact eY rfl (vh rfl rfl hx) (sL 1 (by rw[show(W.sh w.d).d=w.d from rfl,e];exact GJ k));refine(Es (lu (w:=.sh w.d) rfl (nI g.h))).trans ((Es (OJ (rf (UI g.h rfl)) (rf (EY ?_)))).trans rfl);exact Nf g.h hk hs h1 h2 h3 g.bd g.pm λe=>f ()
theorem rC(hx:Bf (.lst ws) (.int (k:Int))=.ok (.sh d))(hq:Tz L k N d):II [.sh ku,.sh iM,.sh (.lst L),.sh (.lst ss),.sh (.lst ws),.sh (.int (k:Int)),a6,a7,a8,a9]=.nx [.sh ku,.sh iM,.sh (.lst L),.sh (.lst ss),.sh (.lst ws),.sh (.int (k:Int)),a6,a7,a8,a9]:=by rcases hq with⟨e,_⟩|⟨z,g,f,_⟩;exact(Es (afA (rf (lu (vh rfl rfl hx) (by rw[e];rfl))))).trans rfl;refine(Es (afz (Uo (lu (w:=.sh d) (vh rfl rfl hx) (nI g.h))) (rf (EY ?_)))).trans rfl;have:=Nf g.h hk hs h1 h2 h3 g.bd g.pm (jl:=(k:Int)) λe=>f ();simp![An,Sl.any,hx,this]
end
def ZD(ns:List Int)(hn:ns.length<=63):∃v,FU [.lst (ns.map .int)]=.ok v/\v.d=.bl true:=by
 obtain⟨zs,hz,ez⟩:=ZE ns hn 140 ⋯;have ez:BC [.lst (ns.map .int),.int 140]=.ok (.ow (.lst (zs.map .int))):=ez;obtain⟨K,hK0,hK1,eK⟩:∃K:Nat,1<=K/\K<=40/\1+zs.getD 0 0%40=(K:Int):=⟨(1+zs.getD 0 0%40).toNat,by lia,by lia,by lia⟩;obtain⟨L,mH,hl,hk,hd,ek⟩:=Nq zs 4 K () () hK0;obtain⟨js,jne,hjl,hjk,_,ej⟩:=Nq zs 124 5 () () ⋯;have ek:qc [.lst (zs.map .int),.int 4,.int (K:Int)]=.ok (.ow (.lst L)):=ek;have ej:qc [.lst (zs.map .int),.int 124,.int 5]=.ok (.ow (.lst js)):=ej;have h1:1<=L.length:=List.length_pos_iff.mpr mH;have i0:Bf (.lst (zs.map .int)) (.int 0)=.ok (.sh (.int (zs.getD 0 0))):=mL (Q:=zs) (j:=0) ();obtain⟨N,made⟩:=Ic (zs:=zs) hk hd h1 () ();obtain⟨w0,m0,q0⟩:=made 0 ⋯;obtain⟨w1,m1,q1⟩:=made 1 ⋯;obtain⟨w2,m2,q2⟩:=made 2 ⋯;obtain⟨w3,m3,q3⟩:=made 3 ⋯;have c0:(0:Int)<40:=by decide
 generalize D.lst (ns.map .int)=ku at *;obtain⟨ss,hs,uo,es⟩:∃ss:List D,(∀d∈ss,isKey d)/\ss.length<=10/\∀a b c d e f g i,Bn 1 (Db (Az 3 qc #v[1,eC (.int 124),eC (.int 5)])) (gC 10) xx (Aa 10) [a,some (.lst (zs.map .int)),some (.lst L),b,c,d,e,f,g,i]=.ok (.ow (.lst ss)):=by refine⟨((js.filter λd=>!Dz d L).map id),λk hm=>?_,by rw[A4];exact D2 (X9 _ _) (),λa b c d e f g i=>?_⟩;obtain⟨d,hd,rfl⟩:=D3.mp hm;exact hjk d (N2.mp hd).1;refine pP (M:=js) (by simp![An,ej]) () (qu (λd=>!Dz d L) id js λd hd=>⟨_,rfl,?_,λ_=>⟨.sh d,rfl,rfl⟩⟩);simp![xx,An,xV (hjk d hd) hk]
 have T:∀d,d=w0.d\/d=w1.d\/d=w2.d\/d=w3.d->∃w,uf [d,.lst L]=.ok w/\jr 1 w.d=true:=λd h=>by rcases h with rfl|rfl|rfl|rfl;exact se hk h1 () q0.q;exact se hk h1 () q1.q;exact se hk h1 () q2.q;exact se hk h1 () q3.q
 obtain⟨ws,pS⟩:∃ws,ws=[w0.d,w1.d,w2.d,w3.d]:=⟨_,rfl⟩;have x0:Bf (.lst ws) (.int ((0:Nat):Int))=.ok (.sh w0.d):=by rw[pS];exact iQ (Hx (i:=0) rfl)
 have x1:Bf (.lst ws) (.int ((1:Nat):Int))=.ok (.sh w1.d):=by rw[pS];exact iQ (Hx (i:=1) rfl)
 have x2:Bf (.lst ws) (.int ((2:Nat):Int))=.ok (.sh w2.d):=by rw[pS];exact iQ (Hx (i:=2) rfl)
 have x3:Bf (.lst ws) (.int ((3:Nat):Int))=.ok (.sh w3.d):=by rw[pS];exact iQ (Hx (i:=3) rfl)
 obtain⟨ts,ht,et⟩:∃ts:List D,jr 2 (.lst ts)=true/\∀a b c d e f g i,Bn 1 (Db (Aa 4)) (gC 10) (λ_=>.ok true) IJ [a,b,some (.lst L),c,some (.lst ws),d,e,f,g,i]=.ok (.ow (.lst ts)):=by refine⟨ws.map λd=>match uf [d,.lst L]with|.ok w=>w.d|_=>.aK,?_,λa b c d e f g i=>Em (λd=>match uf [d,.lst L]with|.ok w=>w.d|_=>.aK) rfl (by rw[pS];simp) λd hd=>?_⟩;show(ws.map _).all (jr 1)=true;rw[Z9,F9];intro d hd;obtain⟨w,e,o⟩:=T d (by rw[pS]at hd;simpa using hd);simp only[Function.comp_apply,e,o];obtain⟨w,e,o⟩:=T d (by rw[pS]at hd;simpa using hd);exact⟨_,w,rfl,e,by simp only[e]⟩
 have b7:inD false (.int 7) (.lst L)=.ok (.sh (.bl (Dz (.int 7) L))):=by unfold inD;simp only[show Av (.int 7)=true from rfl,xW hk,Bool.and_true,if_true,F6,L5]
 obtain⟨s7,k7,e7⟩:∃s7,isKey s7/\Bf (.lst [.int 7,.str "7"]) (.int (if Dz (.int 7) L=true then 1 else 0))=.ok (.sh s7):=by by_cases c:Dz (.int 7) L=true;rw[if_pos c];exact⟨.str "7",.inr ⟨[55],by rfl',by decide,by decide⟩,iQ (Hx (i:=1) rfl)⟩;rw[if_neg c];exact⟨.int 7,.inl ⟨7,rfl,by decide,by decide⟩,iQ (Hx (i:=0) rfl)⟩
 obtain⟨H',hO,hOl,hOn,eO⟩:∃H':List D,(∀k∈H',isKey k)/\H'.length<=60/\H'≠ []/\∀a b c d e f g i,Ag Bl (Ag Bl (Aa 3) (Bn 1 (Hr (By (Aa 2) (Cz (eC (.int 1))) Df)) (gC 10) (λ_=>.ok true) (Aa 10))) (Cc #v[Ag Bf (Cc #v[eC (.int 7),eC (.str "7")]) (Al rQ #v[Ag (inD false) (eC (.int 7)) (Aa 2)])]) [a,b,some (.lst L),some (.lst ss),c,d,e,f,g,i]=.ok (.ow (.lst H')):=by have l1:=xk L (some 1) none;refine⟨ss++(Ey L (some 1) none).reverse++[s7],λk h=>?_,by simp;lia,by simp,λa b c d e f g i=>?_⟩;simp only[F1,Y6,E7]at h;rcases h with(h|h)|rfl;exact hs k h;exact hk k (xm k h);exact k7;have er:Bn 1 (Hr (By (Aa 2) (Cz (eC (.int 1))) Df)) (gC 10) (λ_=>.ok true) (Aa 10) [a,b,some (.lst L),some (.lst ss),c,d,e,f,g,i]=.ok (.ow (.lst ((Ey L (some 1) none).reverse.map λd=>d))):=Em (λd=>d) rfl (by rw[M5];lia) λd _=>⟨_,_,rfl,rfl,rfl⟩;simp only[EN]at er;simp![An,er,b7,rQ,e7,Bl,A6,M5,show ss.length+(Ey L (some 1) none).length<=16777216 by lia,show ss.length+(Ey L (some 1) none).length+1<=16777216 by lia,if_true]
 obtain⟨R,hR,hRd,hR1,hRl,eR⟩:=VO hO () hOn;obtain⟨N',aw⟩:=Ic (zs:=zs) hR hRd hR1 () ();obtain⟨v0,n0,_⟩:=aw 0 ⋯;obtain⟨v1,n1,_⟩:=aw 1 ⋯;obtain⟨v2,n2,_⟩:=aw 2 ⋯;obtain⟨v3,n3,_⟩:=aw 3 ⋯;have ek':∀a b c d e f g i j,Az 3 qc #v[1,eC (.int 4),Ag Bl (eC (.int 1)) (Ag Dc (Ag Bf (Aa 1) (eC (.int 0))) (eC (.int 40)))] [a,some (.lst (zs.map .int)),b,c,d,e,f,g,i,j]=.ok (.ow (.lst L)):=λa b c d e f g i j=>by simp![An,i0,Fw c0,Gh,eK,ek]
 generalize D.lst (zs.map .int)=iM at *;obtain⟨dj,CL,rfl⟩:∃d CL,js=d::CL:=by cases js with|nil=>exact absurd rfl jne|cons d CL=>exact⟨_,_,rfl⟩
 have hjl:(dj::CL).length<=16777216:=by lia
 have ej:∀a b c d e f g i,Db (Az 3 qc #v[1,eC (.int 124),eC (.int 5)]) [a,some iM,b,c,d,e,f,g,i,none]=.ok (dj::CL):=λa b c d e f g i=>by simp![An,ej]
 have h2:L.length<=40:=by lia
 refine⟨.sh (.bl true),Ek (sq (nC ez) (sq (setG rfl (ek' _ _ _ _ _ _ _ _ _) rfl (ek' _ _ _ _ _ _ _ _ _)) (sq (setG (FR (ej _ _ _ _ _ _ _ _) hjl rfl rfl) (es _ _ _ _ _ _ _ _) rfl (es _ _ _ _ _ _ _ _)) (sq rfl ?_)))),rfl⟩;show Ae IG _ [.sh ku,.sh iM,.sh (.lst L),.ow (.lst ss),.ow (.lst []),.no,.no,.no,.no,.no]=_;obtain⟨a8,a9,l5⟩:∃a8 a9,Dj (gV 5) xw [.int ((0:Nat):Int),.int ((1:Nat):Int),.int ((2:Nat):Int),.int ((3:Nat):Int)] [.sh ku,.sh iM,.sh (.lst L),.ow (.lst ss),.ow (.lst []),.no,.no,.no,.no,.no]=.nx [.sh ku,.sh iM,.sh (.lst L),.ow (.lst ss),.ow (.lst ws),.sh (.int ((3:Nat):Int)),.no,.no,a8,a9]:=⟨.ow (.lst (L++[.str "later"])),.sh w3.d,by rw[pS,fR rfl (rE hk h1 h2 hs uo (ws:=[]) ⋯ m0 q0 ⋯),fR rfl (rE hk h1 h2 hs uo (ws:=[]++[w0.d]) ⋯ m1 q1 (by simp)),fR rfl (rE hk h1 h2 hs uo (ws:=[]++[w0.d]++[w1.d]) ⋯ m2 q2 (by simp)),fR rfl (rE hk h1 h2 hs uo (ws:=[]++[w0.d]++[w1.d]++[w2.d]) ⋯ m3 q3 (by simp))];rfl⟩;have r4:∀δ,Bk Du #v[eC (.int 4)] δ=.ok [.int ((0:Nat):Int),.int ((1:Nat):Int),.int ((2:Nat):Int),.int ((3:Nat):Int)]:=λ_=>rfl;refine sq (Gr (r4 _) l5) ?_;refine sq (setG rfl (et _ _ _ _ _ _ _ _) rfl (et _ _ _ _ _ _ _ _)) ?_;show Ae IF _ [.sh ku,.sh iM,.sh (.lst L),.ow (.lst ss),.sh (.lst ws),.sh (.int ((3:Nat):Int)),.ow (.lst ts),.no,a8,a9]=_;refine sq (setG rfl (eO _ _ _ _ _ _ _ _) rfl (eO _ _ _ _ _ _ _ _)) ?_;show Ae IE _ [.sh ku,.sh iM,.sh (.lst L),.sh (.lst ss),.sh (.lst ws),.sh (.int ((3:Nat):Int)),.ow (.lst ts),.ow (.lst H'),a8,a9]=_;refine sq (setG rfl (eR _ _ _ _ _ _ _ _ _) rfl (eR _ _ _ _ _ _ _ _ _)) ?_;show Ae IC _ [.sh ku,.sh iM,.sh (.lst L),.sh (.lst ss),.sh (.lst ws),.sh (.int ((3:Nat):Int)),.ow (.lst ts),.ow (.lst R),a8,a9]=_;refine sq (Gr (r4 _) ((fR rfl (rq n0)).trans ((fR rfl (rq n1)).trans ((fR rfl (rq n2)).trans ((fR rfl (rq n3)).trans rfl))))) ?_;show Ae JM _ [.sh ku,.sh iM,.sh (.lst L),.sh (.lst ss),.sh (.lst ws),.sh (.int ((3:Nat):Int)),.ow (.lst ts),.ow (.lst R),a8,a9]=_;refine sq (Gr (r4 _) ((fR rfl (rC hk h1 h2 hs uo (k:=0) x0 q0.q)).trans ((fR rfl (rC hk h1 h2 hs uo (k:=1) x1 q1.q)).trans ((fR rfl (rC hk h1 h2 hs uo (k:=2) x2 q2.q)).trans ((fR rfl (rC hk h1 h2 hs uo (k:=3) x3 q3.q)).trans rfl))))) (ret ?_);show eW _ _ [some ku,some iM,some (.lst L),some (.lst ss),some (.lst ws),some (.int ((3:Nat):Int)),some (.lst ts),some (.lst R),a8.any,a9.any]=_;have hE:Ag Ds (Aa 6) (Bn 1 (Db (Aa 4)) (gC 10) (λ_=>.ok true) IH) [some ku,some iM,some (.lst L),some (.lst ss),some (.lst ws),some (.int ((3:Nat):Int)),some (.lst ts),some (.lst R),a8.any,a9.any]=.ok (.sh (.bl true)):=vh rfl (et _ _ _ _ _ _ _ _) (xX 2 ht);unfold eW;rw[hE];have x0':Bf (.lst ws) (.int 0)=.ok (.sh w0.d):=x0;have x1':Bf (.lst ws) (.int 1)=.ok (.sh w1.d):=x1;obtain⟨b,hb0,Pl⟩:∃b:Bool,uh zM "str" w0.d=some b/\uh zM "str" w1.d=some b:=by rcases q0.q with⟨e,n⟩|⟨z,g,_,n⟩;rcases q1.q with⟨e',_⟩|⟨_,_,_,n'⟩;exact⟨true,by rw[e];rfl,by rw[e'];rfl⟩;exact absurd (n ⋯) (n' ⋯);rcases q1.q with⟨_,n'⟩|⟨z',g',_⟩;exact absurd (n' ⋯) (n ⋯);exact⟨false,nI g.h,nI g'.h⟩
 have hu:∀{d:D}(z:Int),Bf (.lst ws) (.int z)=.ok (.sh d)->uh zM "str" d=some b->∀a1 a2 a3 a4 δ,Hn zM "str" (Ag Bf (Aa 4) (eC (.int z))) (a1::a2::a3::a4::some (.lst ws)::δ)=.ok (.sh (.bl b)):=λ{d} z hx hi a1 a2 a3 a4 δ=>by unfold Hn;rw[vh rfl rfl hx];simp only[L3.R.aD,W.dC,hi]
 exact vh (hu 0 x0' hb0 _ _ _ _ _) (hu 1 x1' Pl _ _ _ _ _) (by cases b<;>exact xX 1 rfl)
end My
set_option maxHeartbeats 20000000
namespace My
open PySem PyProof.Rows L2 L3
local macro_rules|`(#v[])=>`(Ak)|`(#v[$n:num])=>`(Af (Ac $n) Ak)|`(#v[$x])=>`(Af $x Ak)|`(#v[$n:num,$xs,*])=>`(Af (Ac $n) #v[$xs,*])|`(#v[$x,$xs,*])=>`(Af $x #v[$xs,*])
noncomputable def Ba(i:Nat):Stmt:=PySem.Challenge.pw_lodge_k81_whole_rooms.main.body.getD i (.Pass ⟨0,0,0,0⟩)
def sU:Stmt->List Stmt|.ClassDef (body:=b) .. =>b|_=>[]
def Bu(i j:Nat):Stmt:=(sU (Ba i)).getD j (.Pass ⟨0,0,0,0⟩)
abbrev AH(P:Program)(w:World)(K:Frag)(p:Str->Option Value)(r:Heap)(f:Addr)(u:FuncData)(x:Str)(i k:Nat)(ps:List Str)(n:Nat)(g:List D->R W):Prop:=aY K x x (Ba i) f u->bF P w K p r true k f u ps (Bj K n g)
abbrev AI(P:Program)(w:World)(K:Frag)(p:Str->Option Value)(r:Heap)(f:Addr)(u:FuncData)(x:Str)(q:Str)(i j k:Nat)(ps:List Str)(n:Nat)(g:List D->R W):Prop:=aY K x q (Bu i j) f u->bF P w K p r true k f u ps (Bj K n g)
section
variable{P:Program}{w:World}{K:Frag}{p:AB}{r:Heap}{f:Addr}{u:FuncData}
abbrev TF(c:Bool)(x:Str)(k:Nat)(ps:List Str)(F:AF)(P:Program)(w:World)(K:Frag)(p:AB)(r:Heap):Prop:=AY P w K p r c x k ps F
abbrev Kv:=TF true "_law_mix" 1 ["_law_cell","_law_k"] zL
abbrev MK:=TF true "_law_draws" 2 ["_law_script","_law_many"] BC
abbrev L23:List Str:=["_law_one","_law_two","_law_three"]
abbrev NM:=TF true "_law_drawn_key" 1 L23 vE
abbrev L11:List Str:=["_law_draws_here","_law_start","_law_many"]
abbrev NR:=TF true "_law_drawn_keys" 2 L11 qc
abbrev Np:=TF true "is_key_text" 1 ["text"] CA
abbrev Js:=TF true "is_key" 2 ["thing"] uR
abbrev NL:=TF true "look_each_key" 3 ["keys"] zU
abbrev Nn:=TF true "look_unlike" 3 ["keys"] BZ
abbrev MJ:=TF true "look_keys" 4 ["keys"] qA
abbrev MI:=TF true "part_size" 1 ["many","kind"] qz
abbrev Ib:=TF true "worth" 1 ["text"] su
abbrev Ia:=TF true "stamp" 3 ["key"] kX
abbrev HZ:=TF true "mixed" 1 ["number","salt","size"] mU
abbrev MH:=TF true "places_of" 4 ["key","salt","kind","part"] pX
abbrev Lh:List Str:=["keys","salt","kind"]
abbrev Md:=TF true "edges_of" 5 Lh zO
abbrev Nm:=TF true "standing_at" 1 ["edges"] Oq
abbrev Jr:=TF true "peeled" 2 ["edges","size"] sN
abbrev GI:=TF true "fate" 6 Lh hV
abbrev Mc:=TF true "succeeds" 7 Lh mZ
abbrev MG:=TF true "first_try" 8 ["keys","kind","most"] ni
abbrev NK:=TF true "chosen_places" 7 Lh OC
abbrev Mb:=TF true "is_below" 1 ["number","limit"] zN
abbrev Tp:List Str:=["number","modulus"]
abbrev MF:=TF true "remainder" 1 Tp zS
abbrev Jq:=TF true "summed" 2 ["table","places","modulus"] tU
abbrev Ly:List Str:=["edges","size","order","wanted","modulus"]
abbrev Jp:=TF true "filled" 3 Ly sM
abbrev L13:List Str:=["keys","salt","kind","modulus","wanted"]
abbrev ME:=TF true "table_for" 7 L13 zR
abbrev NJ:=TF true "row_with_ones" 1 ["places","size"] CG
abbrev Ts:List Str:=["number","many_buckets"]
abbrev MD:=TF true "bucket_of" 2 Ts vn
abbrev y_2:=TF true "stamps_by_bucket" 3 ["stamps","many_buckets"] OR
abbrev Lp:List Str:=["number","bucket_number","how_many"]
abbrev Ku:=TF true "room_by" 2 Lp uX
abbrev Lx:List Str:=["stamps","bucket_number","how_many","taken"]
abbrev MC:=TF true "rooms_fit" 3 Lx Of
abbrev L21:List Str:=["stamps","how_many","taken","most"]
abbrev NG:=TF true "least_number" 4 L21 vv
abbrev v_8:=TF true "numbers_by_bucket" 5 ["stamps","many_buckets","most"] DA
abbrev Lr:List Str:=["size","leaf"]
abbrev ym:=TF true "is_last" 1 Lr tZ
abbrev Tq:List Str:=["stamps","salt","side"]
abbrev Kt:=TF true "on_side" 2 Tq zI
abbrev yK:=TF true "left_size" 1 ["size"] vm
abbrev MB:=TF true "salt_fits" 3 ["stamps","salt","leaf"] zQ
abbrev Lu:List Str:=["stamps","leaf","most"]
abbrev Nc:=TF true "least_salt" 4 Lu Oi
abbrev MA:=TF true "salts_for" 5 Lu BB
abbrev L14:List Str:=["_law_form","_law_keys","_law_draws_here"]
abbrev Ma:=TF true "_law_made" 11 L14 qw
abbrev Mz:=TF true "_law_whole" 1 ["_law_found"] zP
abbrev Nl:=TF true "ones_before" 1 ["bits","place"] BQ
abbrev NF:=TF true "parts_within" 71 Lr (vt 70)
abbrev Lq:List Str:=["_law_house","_law_keys","_law_strangers","_law_form"]
abbrev Mx:=TF true "_law_rooms" 75 Lq BA
abbrev Tt:List Str:=["_law_house","_law_keys"]
abbrev LZ:=TF true "_law_told" 75 Tt uf
def kH:= @aY.zF
def Cy:= @aY.zE
def gG:= @aY.zD
def uB:= @aY.zC
def bn5:= @aY.zB
def bn6:= @aY.zA
abbrev yQ:Stmt:=(sU (Ba 7)).getD 0 (.Pass ⟨0,0,0,0⟩)
abbrev Lo:List Str:=["self","at"]
def aeH:aS Lo Lo (Bt yQ):=⟨rfl,rfl,rfl,by decide +kernel,rfl,by decide +kernel,by decide +kernel⟩
def aeG{C f:Addr}{u:FuncData}(F:aY K "__init__" "NoFit.__init__" yQ f u)(xc:dX K C)(hn:findIn K (.ref C) "at"=some none):bF P w K p r false 1 f u Lo (jO C "at"):=xD (k:=0) F aeH λzn A outer s H E=>sH (xE xc hn (Fp rfl (.inl rfl)) (Fp rfl (.inl rfl)))
abbrev yP:Stmt:=(sU (Ba 5)).getD 0 (.Pass ⟨0,0,0,0⟩)
def aeF:aS Lo Lo (Bt yP):=⟨rfl,rfl,rfl,by decide +kernel,rfl,by decide +kernel,by decide +kernel⟩
def aeE{C f:Addr}{u:FuncData}(F:aY K "__init__" "Twice.__init__" yP f u)(xc:dX K C)(hn:findIn K (.ref C) "at"=some none):bF P w K p r false 1 f u Lo (jO C "at"):=xD (k:=0) F aeF λzn A outer s H E=>sH (xE xc hn (Fp rfl (.inl rfl)) (Fp rfl (.inl rfl)))
abbrev yO:Stmt:=(sU (Ba 4)).getD 0 (.Pass ⟨0,0,0,0⟩)
def aeD:aS Lo Lo (Bt yO):=⟨rfl,rfl,rfl,by decide +kernel,rfl,by decide +kernel,by decide +kernel⟩
def aeC{C f:Addr}{u:FuncData}(F:aY K "__init__" "NoKey.__init__" yO f u)(xc:dX K C)(hn:findIn K (.ref C) "at"=some none):bF P w K p r false 1 f u Lo (jO C "at"):=xD (k:=0) F aeD λzn A outer s H E=>sH (xE xc hn (Fp rfl (.inl rfl)) (Fp rfl (.inl rfl)))
def acv:AH P w K p r f u "_law_mix" 68 1 ["_law_cell","_law_k"] 2 zL:=λF=>Bp (N:=["_law_cell","_law_k","_law_first"]) F λzp zq m d o=>(Ao (Bg (i:=2) [0,1] (Aw Ef (Aw Fx (Aw Bw (Ac 0) Ap) (Aw Bw Ap (Aw Fx Ap (Ac 1)))) Ap) d) (Aq (Bm [1,2] (Aw Ef (Aw Bw (Aw Bw (Aw Fx (Aw fU (Ac 2) Ap) Ap) (Aw Fx (Ac 2) (Aw Bw (Aw Fx (Ac 1) (Ac 1)) Ap))) (Ac 1)) Ap))))
variable(PL:Kv P w K p r)(k9:p "list"=none)(d5:p "range"=none)(d8:p "len"=none)
def aee:AH P w K p r f u "_law_draws" 69 2 ["_law_script","_law_many"] 2 BC:=λF=>Bp (N:=["_law_script","_law_many","_law_rest","_law_twice","_law_seeds","_law_found","_law_k","_law_at"]) F λzp zq m d o=>(Ao (Bg (i:=2) [0] (pR vo rfl k9 K4 #v[0]) d) (Ao (Ci [2] (Cr (Gj m) (Ac 2) (jo Ak) (Cq _)) (Aq (Bg (i:=2) [] (jo #v[Ap]) d)) De) (Ao (Bg (i:=3) [2] (mQ (Gj m) (Aw Ef (Cv (Ac 2) Ap) Ap) Ap (Cq _)) d) (Ao (xI (i:=2) (Aw fU (Cv (Ac 2) Ap) Ap) Ap) (Ao (IT (i:=4) (pR vo rfl k9 K4 #v[2]) d) (Ao (Bg (i:=5) [] (jo Ak) d) (Ao (Go [1] Fc zp (lh d5 #v[1]) (gA (i:=6) d) (Ao (Bg (i:=7) [2,6] (Aw Ef (Ac 6) (Dk Ew rfl d8 D8 #v[2])) d) (Aq (Ci [2,3,7] (eS (fE (Fs (Ac 3)) (jP (Cr (Gj m) (Cv (Ac 2) (Ac 7)) Ap (Cq _))))) (Aq (fG (i:=5) (Bc zq o PL #v[Bc zq o PL #v[Aw Ef (Cv (Ac 4) (Ac 7)) Ap,Aw Bw (Ac 6) Ap],Aw Bw (Aw Ef (Aw Fx (Ac 6) (Ac 6)) Ap) Ap]))) (Ao (fG (i:=5) (Aw Ef (Cv (Ac 2) (Ac 7)) Ap)) (Aq (xI (i:=2) (Aw fU (Cv (Ac 2) (Ac 7)) Ap) (Ac 7)))))))) (Aq (ky 5)))))))))
def afq:AH P w K p r f u "_law_drawn_key" 70 1 L23 3 vE:=λF=>Bp (N:=["_law_one","_law_two","_law_three","_law_signs","_law_rest","_law_found","_law_k","_law_at"]) F λzp zq m d o=>(Ao (Bg (i:=3) [] kr d) (Ao (Ci [0] (Cr (Gj m) (Aw Ef (Ac 0) Ap) Ap (Cq _)) (Aq (Bm [0,1] (Aw Ef (Aw Bw (Aw fU (Ac 0) Ap) (Aw Fx Ap (Ac 1))) (Aw Ze Ap Ap)))) De) (Ao (Ci [0] (Cr (Gj m) (Aw Ef (Ac 0) Ap) Ap (Cq _)) (Aq (Bm [0] (Aw Ef (Aw fU (Ac 0) Ap) Ap))) De) (Ao (Bg (i:=4) [0,1,2] (jo #v[Aw Bw (Aw Fx (Aw fU (Ac 0) Ap) Ap) (Ac 1),2]) d) (Ao (Bg (i:=5) [] kr d) (Ao (Go [0] Fc zp (lh d5 #v[Aw Ef (Aw fU (Ac 0) Ap) Ap]) (gA (i:=6) d) (Ao (Bg (i:=7) [6] (Aw fU (Ac 6) Ap) d) (Ao (Bg (i:=5) [3,4,5,7] (Aw Bw (Ac 5) (Cv (Ac 3) (Aw Ef (Cv (Ac 4) (Ac 7)) Ap))) d) (Aq (xI (i:=4) (Aw fU (Cv (Ac 4) (Ac 7)) Ap) (Ac 7)))))) (Aq (ky 5))))))))
variable(t8:NM P w K p r)
def afw:AH P w K p r f u "_law_drawn_keys" 71 2 L11 3 qc:=λF=>Bp (N:=["_law_draws_here","_law_start","_law_many","_law_found","_law_k","_law_at","_law_key"]) F λzp zq m d o=>(Ao (Bg (i:=3) [] (jo Ak) d) (Ao (Go [2] Fc zp (lh d5 #v[2]) (gA (i:=4) d) (Ao (Bg (i:=5) [1,4] (Aw Bw (Ac 1) (Aw Fx Ap (Ac 4))) d) (Ao (Bg (i:=6) [0,5] (Bc zq o t8 #v[Cv (Ac 0) (Ac 5),Cv (Ac 0) (Aw Bw (Ac 5) Ap),Cv (Ac 0) (Aw Bw (Ac 5) Ap)]) d) (Aq (Ci [3,6] (Cr yA (Ac 6) (Ac 3) (by with_unfolding_all rfl)) (Aq (fG (i:=3) (Ac 6))) De))))) (Ao (Ci [3] (Cr (Gj m) (Ac 3) (jo Ak) (Cq _)) (Aq (Bg (i:=3) [0,1] (jo #v[Aw Ef (Cv (Ac 0) (Ac 1)) Ap]) d)) De) (Aq (ky 3)))))
variable(RM:p "all"=none){al4:Tok}(z7:p "MOST_SIGNS"=some (.int 11 al4)){as1:Tok}(DX:p "SIGNS"=some (.str "abcdefghijklmnopqrstuvwxyz0123456789-_ " as1))
def afe:AH P w K p r f u "is_key_text" 17 1 ["text"] 1 CA:=λF=>Bp (N:=["text"]) F λzp zq m d o=>(Aq (Bm [0] (ou (mQ ot (Dk Ew rfl d8 D8 #v[0]) (jV rfl z7) (Cq _)) (oy (Dk (abK zp) rfl RM PyProof.Rows.boot_all #v[(fS (N':=["text","sign"]) zp (Ft (Fz (Ac 0))) ⟨rfl,by rfl',rfl,λC s0 H0 fp pn=>⟨(Gk (i:=1)),fZ,(mQ wN (Ac 1) (Jf rfl DX) (by with_unfolding_all rfl))⟩⟩)])))))
variable(x9:Np P w K p r)(d0:p "isinstance"=none)(vK:p "bool"=none)(vI:p "int"=none)(mK:p "str"=none)(u6:dD K "bool")(DY:dD K "int")(n9:dD K "str"){ae5:Tok}(o9:p "GREATEST_NUMBER"=some (.int 999999999999999999 ae5))
def abc:AH P w K p r f u "is_key" 18 2 ["thing"] 1 uR:=λF=>Bp (N:=["thing"]) F λzp zq m d o=>(Ao (Ci [0] (Fs (iB u6 (Ac 0) d0 vK yz)) (Aq (Bm [] fX)) De) (Ao (Ci [0] (Fs (iB DY (Ac 0) d0 vI Y2)) (Aq (Bm [0] (Ko ot ot Ap (Ac 0) (jV rfl o9)))) De) (Aq (Bm [0] (ou (iB n9 (Ac 0) d0 mK N6) (oy (Bc zq o x9 #v[0])))))))
variable(EG:Js P w K p r)(j3:p "enumerate"=none){z6:Addr}(EB:XC P w K p r "NoKey" "at" z6)
def afp:AH P w K p r f u "look_each_key" 22 3 ["keys"] 1 zU:=λF=>Bp (N:=["keys","place","key"]) F λzp zq m d o=>(Aq (Go [0] Fc zp (sD j3 (Ac 0)) (oo (i:=1) (j:=2) zp d) (Aq (Ci [2] (mP (Fs (Bc zq o EG #v[2]))) (Aq (oY [1] EB (aC.mono zq ⋯) jT (Ac 1))) De))))
variable{y9:Addr}(RP:XC P w K p r "Twice" "at" y9)
def afd:AH P w K p r f u "look_unlike" 23 3 ["keys"] 1 BZ:=λF=>Bp (N:=["keys","seen","place","key"]) F λzp zq m d o=>(Ao (Bg (i:=1) [] tR d) (Aq (Go [0] Fc zp (sD j3 (Ac 0)) (oo (i:=2) (j:=3) zp d) (Ao (Ci [1,3] (Cr (wK m) (Ac 3) (Ac 1) (by with_unfolding_all rfl)) (Aq (oY [2] RP (aC.mono zq ⋯) jT (Ac 2))) De) (Aq (mf (i:=1) [] m fX (Ac 3)))))))
variable(f7:NL P w K p r)(y3:Nn P w K p r){u9:Addr}(Sd:AV K p "NoKeys" u9){am0:Tok}(Sn:p "MOST_KEYS"=some (.int 200 am0))
def aed:AH P w K p r f u "look_keys" 24 4 ["keys"] 1 qA:=λF=>Bp (N:=["keys"]) F λzp zq m d o=>(Ao (Ci [0] (eS (fE (Cr (Gj m) (Dk Ew rfl d8 D8 #v[0]) Ap (Cq _)) (jP (Cr wO (Dk Ew rfl d8 D8 #v[0]) (jV rfl Sn) (Cq _))))) (Aq (Lz Sd (aC.mono zq ⋯) jT)) De) (Ao (oO [0] (Bc zq o f7 #v[0])) (Ao (oO [0] (Bc zq o y3 #v[0])) (Aq (Bm [0] (Dk Ew rfl d8 D8 #v[0]))))))
def aec:AH P w K p r f u "part_size" 34 1 ["many","kind"] 2 qz:=λF=>Bp (N:=["many","kind"]) F λzp zq m d o=>(Ao (Ci [1] (Cr wQ (Ac 1) Ap (Cq _)) (Aq (Bm [0] (Aw Bw (Aw Bw (Ac 0) (Aw fU (Ac 0) Ap)) Ap))) De) (Aq (Bm [0] (Aw Bw (Aw fU (Aw Fx Ap (Ac 0)) Ap) Ap))))
def ZC:AH P w K p r f u "worth" 19 1 ["text"] 1 su:=λF=>Bp (N:=["text","total","sign"]) F λzp zq m d o=>(Ao (Bg (i:=1) [] Ap d) (Ao (Go [0] Fc zp (Fz (Ac 0)) (gA (i:=2) d) (Aq (Bg (i:=1) [1,2] (Aw Bw (Aw Bw (Aw Fx Ap (Ac 1)) (xJ X5 PySem.F.slot_str_find PySem.F.type_str_find aaA (Jf rfl DX) #v[2])) Ap) d))) (Aq (ky 1))))
variable(RO:Ib P w K p r)
def ZA:AH P w K p r f u "stamp" 20 3 ["key"] 1 kX:=λF=>Bp (N:=["key"]) F λzp zq m d o=>(Ao (Ci [0] (mP (Fs (Bc zq o EG #v[0]))) (Aq (oY [] EB (aC.mono zq ⋯) jT Ap)) De) (Ao (Ci [0] (Fs (iB n9 (Ac 0) d0 mK N6)) (Aq (Bm [0] (Aw Bw (Aw Fx Ap (Bc zq o RO #v[0])) Ap))) De) (Aq (Bm [0] (Aw Fx Ap (Ac 0))))))
variable{as3:Tok}(DZ:p "PRIME"=some (.int 2305843009213693951 as3))
def Zz:AH P w K p r f u "mixed" 21 1 ["number","salt","size"] 3 mU:=λF=>Bp (N:=["number","salt","size","factor","shift","first"]) F λzp zq m d o=>(Ao (Ci [2] (Cr (Gj m) (Ac 2) Ap (Cq _)) (Aq (Bm [] Ap)) De) (Ao (Bg (i:=3) [1] (Aw Bw Ap (Aw Ef (Aw Bw (Aw Fx Ap (Ac 1)) Ap) (Aw oQ (jV rfl DZ) Ap))) d) (Ao (Bg (i:=4) [1] (Aw Ef (Aw Bw (Aw Fx (Aw Fx Ap (Ac 1)) (Ac 1)) (Aw Fx Ap (Ac 1))) (jV rfl DZ)) d) (Ao (Bg (i:=5) [0,3,4] (Aw Ef (Aw Bw (Aw Fx (Ac 3) (Ac 0)) (Ac 4)) (jV rfl DZ)) d) (Aq (Bm [2,5] (Aw Ef (Aw Bw (Ac 5) (Aw fU (Ac 5) Ap)) (Ac 2))))))))
variable(m8:Ia P w K p r)(l7:HZ P w K p r)(RQ:p "tuple"=none)
def aeb:AH P w K p r f u "places_of" 35 4 ["key","salt","kind","part"] 4 pX:=λF=>Bp (N:=["key","salt","kind","part","number"]) F λzp zq m d o=>(Ao (Bg (i:=4) [0] (Bc zq o m8 #v[0]) d) (Aq (Bm [1,2,3,4] (pR acV rfl RQ PyProof.Rows.boot_tuple #v[(fS (N':=["key","salt","kind","part","number","turn"]) zp (Ft (lh d5 #v[2])) ⟨rfl,by rfl',rfl,λC s0 H0 fp pn=>⟨(Gk (i:=5)),fZ,(Aw Bw (Aw Fx (Ac 5) (Ac 3)) (Bc (lg zq) kB l7 #v[4,Aw Bw (Aw Fx Ap (Ac 1)) (Ac 5),3]))⟩⟩)]))))
variable(i9:MI P w K p r)(j6:MJ P w K p r)(q9:MH P w K p r)
def ado:AH P w K p r f u "edges_of" 36 5 Lh 3 zO:=λF=>Bp (N:=["keys","salt","kind","part"]) F λzp zq m d o=>(Ao (Bg (i:=3) [0,2] (Bc zq o i9 #v[Bc zq o j6 #v[0],2]) d) (Aq (Bm [0,1,2,3] (fS (N':=["keys","salt","kind","part","key"]) zp (Ft (Fz (Ac 0))) ⟨rfl,by rfl',rfl,λC s0 H0 fp pn=>⟨(Gk (i:=4)),fZ,(Bc (lg zq) kB q9 #v[4,1,2,3])⟩⟩))))
def afc:AH P w K p r f u "standing_at" 30 1 ["edges"] 1 Oq:=λF=>Bp (N:=["edges","standing","number","edge","place"]) F λzp zq m d o=>(Ao (Bg (i:=1) [] tR d) (Ao (Go [0] Fc zp (sD j3 (Ac 0)) (oo (i:=2) (j:=3) zp d) (Aq (Go [3] Fc zp (Fz (Ac 3)) (gA (i:=4) d) (Ao (Ci [1,4] (Cr (LG m) (Ac 4) (Ac 1) (by with_unfolding_all rfl)) (Aq (YQ (i:=1) m (Ac 4))) De) (Aq (YS (i:=1) m fX (Ac 4) (Ac 2))))))) (Aq (ky 1))))
abbrev Tu:List Str:=["number","edge","standing"]
def aea(F:aY K "take_away" "take_away" (Ba 31) f u):bF P w K p r true 1 f u Tu (BK K 2 zT):=Vd (n:=2) (N:=["number","edge","standing","place"]) F ⋯ ⋯ λzp zq m d o=>(Aq (Go [1] Fc zp (Fz (Ac 1)) (gA (i:=3) d) (Aq (YR (i:=2) m (Ac 3) (Ac 0)))))
variable(y0:Nm P w K p r)(Sq:tB P w K p r true "take_away" 1 2 Tu zT)(uC:p "min"=none)
def abb:AH P w K p r f u "peeled" 32 2 ["edges","size"] 2 sN:=λF=>Bp (N:=["edges","size","standing","waiting","order","taken","left","place","number"]) F λzp zq m d o=>(Ao (Bg (i:=2) [0] (Bc zq o y0 #v[0]) d) (Ao (IT (i:=3) (pR (acR zp) rfl k9 K4 #v[2]) d) (Ao (Bg (i:=4) [] (jo Ak) d) (Ao (Bg (i:=5) [] tR d) (Ao (yi [3] 3000 Fc (Cr wO (Dk Ew rfl d8 D8 #v[3]) Ap (Cq _)) (Ao (IU (i:=7) (j:=3) d) (Aq (Ci [2,7] (Cr (Gj m) (Dk abG rfl d8 D8 #v[mh m (Ac 2) (Ac 7)]) Ap (Cq _)) (Ao (Bg (i:=8) [2,7] (Dk (abF zp) rfl uC PyProof.Rows.boot_min #v[mh m (Ac 2) (Ac 7)]) d) (Ao (fG (i:=4) (HG #v[8,7])) (Ao (mf (i:=5) [] m fX (Ac 8)) (Ao (aat (i:=2) zq o Sq (Ac 8) (Cv (Ac 0) (Ac 8))) (Aq (Ws (i:=3) (Cv (Ac 0) (Ac 8)))))))) De)))) (Ao (oN (i:=6) [0,5] (N':=["edges","size","standing","waiting","order","taken","left","place","?8","number"]) zp (Ft (lh d5 #v[Dk Ew rfl d8 D8 #v[0]])) ⟨rfl,by rfl',rfl,λC s0 H0 fp pn=>⟨(Gk (i:=9)),(lX (Cr (LG m) (Ac 9) (Ac 5) (by with_unfolding_all rfl))),(Ac 9)⟩⟩ d) (Aq (YM (i:=4) (j:=6)))))))))
variable(v6:Md P w K p r)(RW:Jr P w K p r)
def Xq:AH P w K p r f u "fate" 37 6 Lh 3 hV:=λF=>Bp (N:=["keys","salt","kind","edges"]) F λzp zq m d o=>(Ao (Bg (i:=3) [0,1,2] (Bc zq o v6 #v[0,1,2]) d) (Aq (Bm [0,2,3] (Bc zq o RW #v[3,Aw Fx (Ac 2) (Bc zq o i9 #v[Dk Ew rfl d8 D8 #v[0],2])]))))
variable(vJ:GI P w K p r)
def adn:AH P w K p r f u "succeeds" 38 7 Lh 3 mZ:=λF=>Bp (N:=["keys","salt","kind","left"]) F λzp zq m d o=>(Ao (Bg (i:=3) [0,1,2] (Cv (Bc zq o vJ #v[0,1,2]) Ap) d) (Aq (Bm [3] (mQ (Gj m) (Dk Ew rfl d8 D8 #v[3]) Ap (Cq _)))))
variable(Sh:Mc P w K p r){k8:Addr}(RT:AV K p "NoTry" k8)
def adZ:AH P w K p r f u "first_try" 39 8 ["keys","kind","most"] 3 ni:=λF=>Bp (N:=["keys","kind","most","salt"]) F λzp zq m d o=>(Ao (oO [0] (Bc zq o j6 #v[0])) (Ao (Go [2] Fc zp (lh d5 #v[2]) (gA (i:=3) d) (Aq (Ci [0,1,3] (Fs (Bc zq o Sh #v[0,3,1])) (Aq (ky 3)) De))) (Aq (Lz RT (aC.mono zq ⋯) jT))))
def afo:AH P w K p r f u "chosen_places" 45 7 Lh 3 OC:=λF=>Bp (N:=["keys","salt","kind","chosen","number","place"]) F λzp zq m d o=>(Ao (Bg (i:=3) [] tR d) (Ao (Go [0,1,2] Fc zp (Fz (Cv (Bc zq o vJ #v[0,1,2]) Ap)) (oo (i:=4) (j:=5) zp d) (Aq (mf (i:=3) [5] m (Ac 5) (Ac 4)))) (Aq (Bm [0,3] (fS (N':=["keys","salt","kind","chosen","?4","place","number"]) zp (Ft (lh d5 #v[Dk Ew rfl d8 D8 #v[0]])) ⟨rfl,by rfl',rfl,λC s0 H0 fp pn=>⟨(Gk (i:=6)),fZ,(mh m (Ac 3) (Ac 6))⟩⟩)))))
def adm:AH P w K p r f u "is_below" 9 1 ["number","limit"] 2 zN:=λF=>Bp (N:=["number","limit"]) F λzp zq m d o=>(Aq (Bm [0,1] (ou (HH (iB u6 (Ac 0) d0 vK yz)) (oy (Ko ot wQ Ap (Ac 0) (Ac 1))))))
def adY:AH P w K p r f u "remainder" 26 1 Tp 2 zS:=λF=>Bp (N:=Tp) F λzp zq m d o=>(Aq (Bm [0,1] (GA (Cr (Gj m) (Ac 1) Ap (Cq _)) Ap (Aw Ef (Ac 0) (Ac 1)))))
variable(v7:Mb P w K p r)(p9:MF P w K p r)(RN:p "sum"=none)
def aba:AH P w K p r f u "summed" 27 2 ["table","places","modulus"] 3 tU:=λF=>Bp (N:=["table","places","modulus","found"]) F λzp zq m d o=>(Ao (oN (i:=3) [0,1] (N':=["table","places","modulus","found","place"]) zp (Ft (Fz (Ac 1))) ⟨rfl,by rfl',rfl,λC s0 H0 fp pn=>⟨(Gk (i:=4)),(lX (Fs (Bc (lg zq) kB v7 #v[4,Dk Ew rfl d8 D8 #v[0]]))),(Cv (Ac 0) (Ac 4))⟩⟩ d) (Aq (Bm [2,3] (Bc zq o p9 #v[Dk (abJ zp) rfl RN PyProof.Rows.boot_sum #v[3],2]))))
variable(EH:Jq P w K p r)(j9:p "reversed"=none)
def aaZ:AH P w K p r f u "filled" 28 3 Ly 5 sM:=λF=>Bp (N:=["edges","size","order","wanted","modulus","table","number","place","lacking"]) F λzp zq m d o=>(Ao (Bg (i:=5) [1] (Wu #v[Ap] (Ac 1)) d) (Ao (Go [2] Fc zp (oi j9 (Ac 2)) (oo (i:=6) (j:=7) zp d) (Ao (Bg (i:=8) [0,3,4,5,6] (Aw oQ (Cv (Ac 3) (Ac 6)) (Bc zq o EH #v[5,Cv (Ac 0) (Ac 6),4])) d) (Aq (Ci [1,7] (Fs (Bc zq o v7 #v[7,1])) (Aq (YT (i:=5) [4,8] (Bc zq o p9 #v[8,4]) (Ac 7))) De)))) (Aq (ky 5))))
variable(u7:aZ K ["Table"] "by_salt")(EE:aZ K ["Table"] "kind")(EC:aZ K ["Table"] "part")(u5:aZ K ["Table"] "modulus")(y4:aZ K ["Table"] "listed")
abbrev Ls:List Str:=["self","salt","kind","part","modulus","listed"]
def afv(F:aY K "__init__" "Table.__init__" (Bu 41 0) f u){CI:Addr}(gF:ClsAt K "Table" CI):bF P w K p r true 1 f u Ls (kU K CI 5 oE):=gX (n:=5) (cn:="Table") (N:=Ls) F gF ⋯ ⋯ λzp zq m d o=>(Ao (jt (i:=0) [1] u7 (Ac 1)) (Ao (jt (i:=0) [2] EE (Ac 2)) (Ao (jt (i:=0) [3] EC (Ac 3)) (Ao (jt (i:=0) [4] u5 (Ac 4)) (Aq (jt (i:=0) [5] y4 (Ac 5)))))))
variable(RY:Jp P w K p r)(RU:jZ P w K p r true "Table" 1 5 oE)
def adX:AH P w K p r f u "table_for" 42 7 L13 5 zR:=λF=>Bp (N:=["keys","salt","kind","modulus","wanted","part","edges","order"]) F λzp zq m d o=>(Ao (Bg (i:=5) [0,2] (Bc zq o i9 #v[Dk Ew rfl d8 D8 #v[0],2]) d) (Ao (Bg (i:=6) [0,1,2] (Bc zq o v6 #v[0,1,2]) d) (Ao (Bg (i:=7) [0,1,2] (Cv (Bc zq o vJ #v[0,1,2]) Ap) d) (Aq (Bm [1,2,3,4,5,6,7] (sy zq o RU #v[1,2,5,3,Bc zq o RY #v[6,Aw Fx (Ac 2) (Ac 5),7,4,3]]))))))
def afn:AH P w K p r f u "row_with_ones" 46 1 ["places","size"] 2 CG:=λF=>Bp (N:=["places","size"]) F λzp zq m d o=>(Aq (Bm [0,1] (xJ X5 PySem.F.slot_str_join PySem.F.type_str_join aaz kr #v[(fS (N':=["places","size","place"]) zp (Ft (lh d5 #v[1])) ⟨rfl,by rfl',rfl,λC s0 H0 fp pn=>⟨(Gk (i:=2)),fZ,(GA (Cr wN (Ac 2) (Ac 0) (by with_unfolding_all rfl)) kr kr)⟩⟩)])))
variable(d4:aZ K La "how_many")
abbrev Ll:List Str:=["self","how_many"]
def afU(F:aY K "__init__" "House.__init__" (Bu 44 0) f u){CI:Addr}(gF:ClsAt K "Peeled" CI):bF P w K p r true 1 f u Ll (kU K CI 1 DK):=gX (n:=1) (cn:="Peeled") (N:=Ll) F gF ⋯ ⋯ λzp zq m d o=>(Aq (jt (i:=0) [1] d4 (Ac 1)))
variable(q8:MG P w K p r)(r9:NK P w K p r)(r6:ME P w K p r)(t7:NJ P w K p r)(j7:fH P w K p r true "House" "Peeled" 1 1 DK)(f6:aZ K Lj "own_table")(q5:aZ K ["Peeled"] "used_row")
def afC(F:aY K "__init__" "Peeled.__init__" (Bu 47 0) f u){CI:Addr}(gF:ClsAt K "Peeled" CI):bF P w K p r true 9 f u ["self","keys","kind","most"] (kU K CI 3 mq):=gX (n:=3) (cn:="Peeled") (N:=["self","keys","kind","most","salt","part","chosen"]) F gF ⋯ ⋯ λzp zq m d o=>(Ao (Bg (i:=4) [1,2,3] (Bc zq o q8 #v[1,2,3]) d) (Ao (sP (i:=0) [1] zq o j7 (Dk Ew rfl d8 D8 #v[1])) (Ao (Bg (i:=5) [1,2] (Bc zq o i9 #v[Dk Ew rfl d8 D8 #v[1],2]) d) (Ao (Bg (i:=6) [1,2,4] (Bc zq o r9 #v[1,4,2]) d) (Ao (jt (i:=0) [1,2,4,5,6] f6 (Bc zq o r6 #v[1,4,2,2,(fS (N':=["self","keys","kind","most","salt","part","chosen","place"]) zp (Ft (Fz (Ac 6))) ⟨rfl,by rfl',rfl,λC s0 H0 fp pn=>⟨(Gk (i:=7)),fZ,(Aw fU (Ac 7) (Ac 5))⟩⟩)])) (Aq (jt (i:=0) [2,5,6] q5 (Bc zq o t7 #v[6,Aw Fx (Ac 2) (Ac 5)]))))))))
def y_5(F:aY K "__init__" "House.__init__" (Bu 44 0) f u){CI:Addr}(gF:ClsAt K "Ordered" CI):bF P w K p r true 1 f u Ll (kU K CI 1 DN):=gX (n:=1) (cn:="Ordered") (N:=Ll) F gF ⋯ ⋯ λzp zq m d o=>(Aq (jt (i:=0) [1] d4 (Ac 1)))
variable(i7:fH P w K p r true "House" "Ordered" 1 1 DN)
def afK(F:aY K "__init__" "Ordered.__init__" (Bu 48 0) f u){CI:Addr}(gF:ClsAt K "Ordered" CI):bF P w K p r true 9 f u ["self","keys","kind","most"] (kU K CI 3 zK):=gX (n:=3) (cn:="Ordered") (N:=["self","keys","kind","most","salt"]) F gF ⋯ ⋯ λzp zq m d o=>(Ao (Bg (i:=4) [1,2,3] (Bc zq o q8 #v[1,2,3]) d) (Ao (sP (i:=0) [1] zq o i7 (Dk Ew rfl d8 D8 #v[1])) (Aq (jt (i:=0) [1,2,4] f6 (Bc zq o r6 #v[1,4,2,Dk Ew rfl d8 D8 #v[1],yV zp k9 d5 #v[Dk Ew rfl d8 D8 #v[1]]])))))
variable{ak8:Tok}(y1:p "BUCKET_SALT"=some (.int 0 ak8))
def adW:AH P w K p r f u "bucket_of" 51 2 Ts 2 vn:=λF=>Bp (N:=Ts) F λzp zq m d o=>(Aq (Bm [0,1] (Bc zq o l7 #v[0,jV rfl y1,1])))
variable(r0:MD P w K p r)
def afJ:AH P w K p r f u "stamps_by_bucket" 53 3 ["stamps","many_buckets"] 2 OR:=λF=>Bp (N:=["stamps","many_buckets","found","number"]) F λzp zq m d o=>(Ao (Bg (i:=2) [] tR d) (Ao (Go [0] Fc zp (Fz (Ac 0)) (gA (i:=3) d) (Aq (Wa (i:=2) (Bc zq o r0 #v[3,1]) (Ac 3)))) (Aq (ky 2))))
def acu:AH P w K p r f u "room_by" 52 2 Lp 3 uX:=λF=>Bp (N:=Lp) F λzp zq m d o=>(Aq (Bm [0,1,2] (Bc zq o l7 #v[0,Aw Bw (Ac 1) Ap,2])))
variable(p6:Ku P w K p r)
def adV:AH P w K p r f u "rooms_fit" 54 3 Lx 4 Of:=λF=>Bp (N:=["stamps","bucket_number","how_many","taken","own","number","room"]) F λzp zq m d o=>(Ao (Bg (i:=4) [] tR d) (Ao (Go [0] Fc zp (Fz (Ac 0)) (gA (i:=5) d) (Ao (Bg (i:=6) [1,2,5] (Bc zq o p6 #v[5,1,2]) d) (Ao (Ci [3,4,6] (eS (fE (Cr (wK m) (Ac 6) (Ac 3) (by with_unfolding_all rfl)) (jP (Cr (wK m) (Ac 6) (Ac 4) (by with_unfolding_all rfl))))) (Aq (Bm [] fX)) De) (Aq (mf (i:=4) [] m fX (Ac 6)))))) (Aq (Bm [] fX))))
variable(Sm:MC P w K p r)
def afj:AH P w K p r f u "least_number" 55 4 L21 4 vv:=λF=>Bp (N:=["stamps","how_many","taken","most","bucket_number"]) F λzp zq m d o=>(Ao (Go [3] Fc zp (lh d5 #v[3]) (gA (i:=4) d) (Aq (Ci [0,1,2,4] (Fs (Bc zq o Sm #v[0,4,1,2])) (Aq (ky 4)) De))) (Aq (Bm [] oz)))
variable(o5:y_2 P w K p r)(u0:NG P w K p r)(EF:p "sorted"=none){l3:Addr}(EA:XC P w K p r "NoFit" "at" l3){cT:Addr}{pT:Addr}(bj:PySem.W.tabIn K "numbers_by_bucket"=some (cT,pT))(RK:PySem.W.codeHdIn K cT pT=true)
def afP(F:aY K "numbers_by_bucket" "numbers_by_bucket" (Ba 56) f u)(ag:u.code=.ref cT):bF P w K p r true 5 f u ["stamps","many_buckets","most"] (Bj K 3 DA):=UZ (N:=["stamps","many_buckets","most","within","taken","numbers","bucket","found","number"]) F ag λzp zq m d o=>(Ao (Bg (i:=3) [0,1] (Bc zq o o5 #v[0,1]) d) (Ao (Bg (i:=4) [] tR d) (Ao (Bg (i:=5) [] tR d) (Ao (Go [3] Fc zp (Fz (aab zp zq EF bj RK (Ac 3) ⟨rfl,rfl,rfl,rfl,rfl,rfl,by rfl',λ_ _ _ _ _=>rfl,λA f c s H Z m=>(HG #v[Wz (Dk Ew rfl d8 D8 #v[mh m (Ac 3) (Ac 9)]),9])⟩)) (gA (i:=6) d) (Ao (Ys (i:=7) (Yt [4] (Bc zq (Lk.lend o) u0 #v[mh m (Ac 3) (Ac 6),Dk Ew rfl d8 D8 #v[0],4,2])) d) (Ao (Ci [7] (Cr IY (Ac 7) oz (Cq _)) (Aq (oY [6] EA (aC.mono zq ⋯) jT (Ac 6))) De) (Ao (mf (i:=5) [7] m (Ac 7) (Ac 6)) (Aq (Go [3,6] Fc zp (Fz (mh m (Ac 3) (Ac 6))) (gA (i:=8) d) (Aq (mf (i:=4) [] m fX (Bc zq o p6 #v[8,7,Dk Ew rfl d8 D8 #v[0]]))))))))) (Aq (ky 5))))))
def y_6(F:aY K "__init__" "House.__init__" (Bu 44 0) f u){CI:Addr}(gF:ClsAt K "Buckets" CI):bF P w K p r true 1 f u Ll (kU K CI 1 DM):=gX (n:=1) (cn:="Buckets") (N:=Ll) F gF ⋯ ⋯ λzp zq m d o=>(Aq (jt (i:=0) [1] d4 (Ac 1)))
variable(n5:v_8 P w K p r)(i8:fH P w K p r true "House" "Buckets" 1 1 DM)(l6:aZ K ["Buckets"] "many_buckets")(p5:aZ K ["Buckets"] "by_bucket")
abbrev L19:List Str:=["self","keys","many_buckets","most"]
def afI(F:aY K "__init__" "Buckets.__init__" (Bu 57 0) f u){CI:Addr}(gF:ClsAt K "Buckets" CI):bF P w K p r true 6 f u L19 (kU K CI 3 zJ):=gX (n:=3) (cn:="Buckets") (N:=L19) F gF ⋯ ⋯ λzp zq m d o=>(Ao (sP (i:=0) [1] zq o i8 (Bc zq o j6 #v[1])) (Ao (jt (i:=0) [2] l6 (Ac 2)) (Aq (jt (i:=0) [1,2,3] p5 (Bc zq o n5 #v[(fS (N':=["self","keys","many_buckets","most","key"]) zp (Ft (Fz (Ac 1))) ⟨rfl,by rfl',rfl,λC s0 H0 fp pn=>⟨(Gk (i:=4)),fZ,(Bc (lg zq) kB m8 #v[4])⟩⟩),2,3])))))
variable(DW:p "max"=none)
def acs:AH P w K p r f u "is_last" 60 1 Lr 2 tZ:=λF=>Bp (N:=Lr) F λzp zq m d o=>(Aq (Bm [0,1] (mQ ot (Ac 0) (Dk (LK zp) rfl DW PyProof.Rows.boot_max #v[1,Ap]) (Cq _))))
def acr:AH P w K p r f u "on_side" 61 2 Tq 3 zI:=λF=>Bp (N:=Tq) F λzp zq m d o=>(Aq (Bm [0,1,2] (fS (N':=["stamps","salt","side","number"]) zp (Ft (Fz (Ac 0))) ⟨rfl,by rfl',rfl,λC s0 H0 fp pn=>⟨(Gk (i:=3)),(lX (Cr (Gj m) (Bc (lg zq) kB l7 #v[3,1,Ap]) (Ac 2) (Cq _))),(Ac 3)⟩⟩)))
def adU:AH P w K p r f u "left_size" 59 1 ["size"] 1 vm:=λF=>Bp (N:=["size"]) F λzp zq m d o=>(Aq (Bm [0] (Aw fU (Aw Bw (Ac 0) Ap) Ap)))
variable(aR:ym P w K p r)(t9:Kt P w K p r)(aO:yK P w K p r)(RL:p "set"=none)
def adT:AH P w K p r f u "salt_fits" 62 3 ["stamps","salt","leaf"] 3 zQ:=λF=>Bp (N:=["stamps","salt","leaf","size"]) F λzp zq m d o=>(Ao (Bg (i:=3) [0] (Dk Ew rfl d8 D8 #v[0]) d) (Ao (Ci [2,3] (Fs (Bc zq o aR #v[3,2])) (Aq (Bm [0,1,3] (mQ (Gj m) (abH zp d8 RL (fS (N':=["stamps","salt","leaf","size","number"]) zp (Ft (Fz (Ac 0))) ⟨rfl,by rfl',rfl,λC s0 H0 fp pn=>⟨(Gk (i:=4)),fZ,(Bc (lg zq) kB l7 #v[4,1,3])⟩⟩)) (Ac 3) (Cq _)))) De) (Aq (Bm [0,1,3] (mQ (Gj m) (Dk Ew rfl d8 D8 #v[Bc zq o t9 #v[0,1,Ap]]) (Bc zq o aO #v[3]) (Cq _))))))
variable(Sk:MB P w K p r)
def aeB:AH P w K p r f u "least_salt" 63 4 Lu 3 Oi:=λF=>Bp (N:=["stamps","leaf","most","salt"]) F λzp zq m d o=>(Ao (Go [2] Fc zp (lh d5 #v[2]) (gA (i:=3) d) (Aq (Ci [0,1,3] (Fs (Bc zq o Sk #v[0,3,1])) (Aq (ky 3)) De))) (Aq (Bm [] oz)))
variable(z9:Nc P w K p r)
def adS:AH P w K p r f u "salts_for" 64 5 Lu 3 BB:=λF=>Bp (N:=["stamps","leaf","most","salts","waiting","part","salt"]) F λzp zq m d o=>(Ao (Bg (i:=3) [] (jo Ak) d) (Ao (Bg (i:=4) [0] (jo #v[0]) d) (Ao (yi [4] 3000 Fc (Cr wO (Dk Ew rfl d8 D8 #v[4]) Ap (Cq _)) (Ao (IU (i:=5) (j:=4) d) (Ao (Bg (i:=6) [1,2,5] (Bc zq o z9 #v[5,1,2]) d) (Ao (Ci [6] (Cr IY (Ac 6) oz (Cq _)) (Aq (oY [3] EA (aC.mono zq ⋯) jT (Dk Ew rfl d8 D8 #v[3]))) De) (Ao (fG (i:=3) (Ac 6)) (Aq (Ci [1,5] (mP (Fs (Bc zq o aR #v[Dk Ew rfl d8 D8 #v[5],1]))) (Ao (fG (i:=4) (Bc zq o t9 #v[5,6,Ap])) (Aq (fG (i:=4) (Bc zq o t9 #v[5,6,Ap])))) De))))))) (Aq (ky 3)))))
def afT(F:aY K "__init__" "House.__init__" (Bu 44 0) f u){CI:Addr}(gF:ClsAt K "Halved" CI):bF P w K p r true 1 f u Ll (kU K CI 1 DJ):=gX (n:=1) (cn:="Halved") (N:=Ll) F gF ⋯ ⋯ λzp zq m d o=>(Aq (jt (i:=0) [1] d4 (Ac 1)))
variable(Sr:MA P w K p r)(j8:fH P w K p r true "House" "Halved" 1 1 DJ)(AU:aZ K ["Halved"] "leaf")(y7:aZ K ["Halved"] "salts")
def afB(F:aY K "__init__" "Halved.__init__" (Bu 66 0) f u){CI:Addr}(gF:ClsAt K "Halved" CI):bF P w K p r true 6 f u ["self","keys","leaf","most"] (BL K CI "Halved" 3 mn):=Vb (n:=3) (cn:="Halved") (N:=["self","keys","leaf","most"]) F gF ⋯ ⋯ λzp zq m d o=>(Ao (sP (i:=0) [1] zq o j8 (Bc zq o j6 #v[1])) (Ao (jt (i:=0) [2] AU (Ac 2)) (Aq (Yr (i:=0) y7 (Bc zq o Sr #v[(fS (N':=["self","keys","leaf","most","key"]) zp (Ft (Fz (Ac 1))) ⟨rfl,by rfl',rfl,λC s0 H0 fp pn=>⟨(Gk (i:=4)),fZ,(Bc (lg zq) kB m8 #v[4])⟩⟩),2,3])))))
variable(Se:jZ P w K p r true "Peeled" 9 3 mq)(Si:jZ P w K p r true "Ordered" 9 3 zK)(Sj:jZ P w K p r true "Buckets" 6 3 zJ)(Sf:tq P w K p r true "Halved" 6 3 mn)(PD:p "NoTry"=some (.ref k8))(PH:p "NoFit"=some (.ref l3))(RX:bE K k8 To)(RV:bE K l3 Tj)
def adl:AH P w K p r f u "_law_made" 73 11 L14 3 qw:=λF=>Bp (N:=["_law_form","_law_keys","_law_draws_here","_law_found"]) F λzp zq m d o=>(Ao (Bg (i:=3) [] oz d) (Ao (Yx d rfl rfl (λZ W TC OQ=>(Aq (Ci [0] (Cr (Gj m) (Ac 0) Ap (Cq _)) (Aq (Bg (i:=3) [1,2] (sy (sQ zq) OQ Se #v[1,Aw Bw Ap (Aw Ef (Cv (Ac 2) Ap) Ap),Aw Bw Ap (Aw Ef (Aw fU (Cv (Ac 2) Ap) Ap) Ap)]) d)) (Aq (Ci [0] (Cr (Gj m) (Ac 0) Ap (Cq _)) (Aq (Bg (i:=3) [1,2] (sy (sQ zq) OQ Si #v[1,Aw Bw Ap (Aw Ef (Cv (Ac 2) Ap) Ap),Aw Bw Ap (Aw Ef (Aw fU (Cv (Ac 2) Ap) Ap) Ap)]) d)) (Aq (Ci [0] (Cr (Gj m) (Ac 0) Ap (Cq _)) (Aq (Bg (i:=3) [1,2] (sy (sQ zq) OQ Sj #v[1,Aw Bw Ap (Aw Ef (Cv (Ac 2) Ap) Ap),Aw Bw Ap (Aw Ef (Aw fU (Cv (Ac 2) Ap) Ap) Ap)]) d)) (Aq (Bg (i:=3) [1,2] (Yq (sQ zq) OQ Sf #v[1,Aw Bw Ap (Aw Ef (Cv (Ac 2) Ap) Ap),Aw Bw Ap (Aw Ef (Aw fU (Cv (Ac 2) Ap) Ap) Ap)]) d))))))))) (fJ.bare PD RX (λe=>(Aq (Bg (i:=3) [] kr d))) (fJ.bare PH RV (λe=>(Aq (Bg (i:=3) [] kr d))) .nil))) (Aq (ky 3))))
def adR:AH P w K p r f u "_law_whole" 72 1 ["_law_found"] 1 zP:=λF=>Bp (N:=["_law_found"]) F λzp zq m d o=>(Aq (Bm [0] (ou (iB DY (Ac 0) d0 vI Y2) (oy (HH (iB u6 (Ac 0) d0 vK yz))))))
def afb:AH P w K p r f u "ones_before" 10 1 ["bits","place"] 2 BQ:=λF=>Bp (N:=["bits","place"]) F λzp zq m d o=>(Aq (Bm [0,1] (xJ X5 PySem.F.slot_str_count PySem.F.type_str_count abM (oZ (Ac 0) oM (oK (Dk (LK zp) rfl DW PyProof.Rows.boot_max #v[1,Ap]))) #v[kr])))
abbrev Lg:List Str:=["self","key"]
def afi:AI P w K p r f u "places" "Table.places" 41 3 5 Lg 2 qa:=λF=>Bp (N:=Lg) F λzp zq m d o=>(Aq (Bm [0,1] (Bc zq o q9 #v[1,eM u7 (Ac 0),eM EE (Ac 0),eM EC (Ac 0)])))
variable(l4:bA P w K p r true 5 1 "places" [("Table",qa)])
def afm:AI P w K p r f u "places" "Peeled.places" 47 4 6 Lg 2 ux:=λF=>Bp (N:=Lg) F λzp zq m d o=>(Aq (Bm [0,1] (iR l4 zq o (eM f6 (Ac 0)) #v[1])))
def afa:AI P w K p r f u "total" "Table.total" 41 4 6 Lg 2 nq:=λF=>Bp (N:=Lg) F λzp zq m d o=>(Aq (Bm [0,1] (Bc zq o EH #v[eM y4 (Ac 0),iR l4 zq o (Ac 0) #v[1],eM u5 (Ac 0)])))
variable(y2:Nl P w K p r)(p8:bA P w K p r true 6 1 "places" [("Peeled",ux)])(l9:bA P w K p r true 6 1 "total" [("Table",nq)])
def afH:AI P w K p r f u "number_of" "Peeled.number_of" 47 5 7 Lg 2 AO:=λF=>Bp (N:=["self","key","choice"]) F λzp zq m d o=>(Ao (Bg (i:=2) [0,1] (Cv (iR p8 zq o (Ac 0) #v[1]) (iR l9 zq o (eM f6 (Ac 0)) #v[1])) d) (Aq (Bm [0,2] (Bc zq o y2 #v[eM q5 (Ac 0),2]))))
def afO:AI P w K p r f u "number_of" "Ordered.number_of" 48 4 7 Lg 2 AR:=λF=>Bp (N:=Lg) F λzp zq m d o=>(Aq (Bm [0,1] (iR l9 zq o (eM f6 (Ac 0)) #v[1])))
def afN:AI P w K p r f u "number_in" "Buckets.number_in" 57 3 1 ["self","bucket"] 2 uz:=λF=>Bp (N:=["self","bucket"]) F λzp zq m d o=>(Aq (Bm [0,1] (YN m (eM p5 (Ac 0)) (Ac 1) Ap)))
def afu:AI P w K p r f u "bucket" "Buckets.bucket" 57 2 4 Lg 2 qN:=λF=>Bp (N:=Lg) F λzp zq m d o=>(Aq (Bm [0,1] (Bc zq o r0 #v[Bc zq o m8 #v[1],eM l6 (Ac 0)])))
variable(m6:bA P w K p r true 1 1 "number_in" [("Buckets",uz)])(o8:bA P w K p r true 4 1 "bucket" [("Buckets",qN)])
def afM:AI P w K p r f u "number_of" "Buckets.number_of" 57 4 5 Lg 2 AQ:=λF=>Bp (N:=Lg) F λzp zq m d o=>(Aq (Bm [0,1] (Bc zq o p6 #v[Bc zq o m8 #v[1],iR m6 zq o (Ac 0) #v[iR o8 zq o (Ac 0) #v[1]],eM d4 (Ac 0)])))
theorem NI(F:aY K "parts_within" "parts_within" (Ba 65) f u)(hm:p "parts_within"=some (.ref f))(J:Binds K u Lr [])(aR:ym P w K p r)(aO:yK P w K p r):∀n:Nat,bF P w K p r true (n+1) f u Lr (Bj K 2 (vt n))
 |0=>bF.never rfl
 |n+1=>Bp (N:=["size","leaf","left"]) F λzp zq m d o=>have c_S:AY P w K p r true "parts_within" (n+1) Lr (vt n):=sd F hm J (NI F hm J aR aO n)
  (Ao (Ci [0,1] (Fs (Bc zq o aR #v[0,1] ()))
   (Aq (Bm [] Ap))
   De)
  (Ao (Bg (i:=2) [0] (Bc zq o aO #v[0] ()) d)
  (Aq (Bm [0,1,2] (Aw Bw (Aw Bw Ap (Bc zq o c_S #v[2,1] (A9 _))) (Bc zq o c_S #v[Aw oQ (Ac 0) (Ac 2),1] (A9 _)))))))
variable(u3:NF P w K p r)
def afG:AI P w K p r f u "number_of" "Halved.number_of" 66 2 72 Lg 2 DP:=λF=>Bp (N:=["self","key","number","size","turn","passed","left"]) F λzp zq m d o=>(Ao (Bg (i:=2) [1] (Bc zq o m8 #v[1]) d) (Ao (Bg (i:=3) [0] (eM d4 (Ac 0)) d) (Ao (Bg (i:=4) [] Ap d) (Ao (Bg (i:=5) [] Ap d) (Ao (yi [0,3] 3000 Fc (mP (Fs (Bc zq o aR #v[3,eM AU (Ac 0)]))) (Ao (Bg (i:=6) [3] (Bc zq o aO #v[3]) d) (Aq (Ci [0,2,4] (Cr (Gj m) (Bc zq o l7 #v[2,Cv (eM y7 (Ac 0)) (Ac 4),Ap]) Ap (Cq _)) (Ao (Bg (i:=4) [4] (Aw Bw (Ac 4) Ap) d) (Aq (Bg (i:=3) [6] (Ac 6) d))) (Ao (Bg (i:=4) [0,4,6] (Aw Bw (Aw Bw (Ac 4) Ap) (Bc zq o u3 #v[6,eM AU (Ac 0)])) d) (Ao (Bg (i:=5) [5,6] (Aw Bw (Ac 5) (Ac 6)) d) (Aq (Bg (i:=3) [3,6] (Aw oQ (Ac 3) (Ac 6)) d)))))))) (Aq (Bm [0,2,3,4,5] (Aw Bw (Ac 5) (Bc zq o l7 #v[2,Cv (eM y7 (Ac 0)) (Ac 4),3])))))))))
variable(c9:bA P w K p r true 72 1 "number_of" Qa)
def Ox:AI P w K p r f u "room" "House.room" 44 2 73 Lg 2 mJ:=λF=>Bp (N:=Lg) F λzp zq m d o=>(Aq (Bm [0,1] (Dk (abS zp) rfl uC PyProof.Rows.boot_min #v[iR c9 zq o (Ac 0) #v[1],Aw oQ (eM d4 (Ac 0)) Ap])))
variable(b9:bA P w K p r true 73 1 "room" AX)
def OB:AI P w K p r f u "rooms" "House.rooms" 44 3 74 ["self","keys"] 2 nv:=λF=>Bp (N:=["self","keys"]) F λzp zq m d o=>(Ao (oO [1] (Bc zq o f7 #v[1])) (Aq (Bm [0,1] (fS (N':=["self","keys","key"]) zp (Ft (Fz (Ac 1))) ⟨rfl,by rfl',rfl,λC s0 H0 fp pn=>⟨(Gk (i:=2)),fZ,(iR b9 (lg zq) kB (Ac 0) #v[2])⟩⟩))))
def Ov:AI P w K p r f u "many" "House.many" 44 1 1 ["self"] 1 nu:=λF=>Bp (N:=["self"]) F λzp zq m d o=>(Aq (Bm [0] (eM d4 (Ac 0))))
variable(v9:Mz P w K p r)(c7:bA P w K p r true 74 1 "rooms" AW)(d6:bA P w K p r true 1 0 "many" Ti)(RZ:dD K "list")
abbrev Lb:List Str:=["_law_house","_law_keys","_law_strangers","_law_form","_law_many","_law_rooms_here","_law_backward","?7","_law_some","_law_room","_law_key"]
abbrev Lf:List Str:=["_law_house","_law_keys","_law_strangers","_law_form","_law_many","_law_rooms_here","_law_backward","_law_key","_law_some","?9","_law_room"]
def adQ:AH P w K p r f u "_law_rooms" 74 75 Lq 4 BA:=λF=>Bp (N:=["_law_house","_law_keys","_law_strangers","_law_form","_law_many","_law_rooms_here","_law_backward","_law_key","_law_some","_law_room"]) F λzp zq m d o=>(Ao (Bg (i:=4) [1] (Dk Ew rfl d8 D8 #v[1]) d) (Ao (Bg (i:=5) [0,1] (iR c7 zq o (Ac 0) #v[pR vo rfl k9 K4 #v[1]]) d) (Ao (Ci [0,4,5] (eS (fE (mP (Fs (iB RZ (Ac 5) d0 k9 K4))) (fE (Cr (iC m) (Dk (acI zp) rfl EF ZB9 #v[5]) (yV zp k9 d5 #v[4]) (Cq _)) (jP (Cr (iC m) (aar d6 zq o (Ac 0)) (Ac 4) (Cq _)))))) (Aq (Bm [] fX)) De) (Ao (Ci [3,4,5] (eS (HI (Cr (Gj m) (Ac 3) Ap (Cq _)) (Je (Cr (iC m) (Ac 5) (yV zp k9 d5 #v[4]) (Cq _))))) (Aq (Bm [] fX)) De) (Ao (oN (i:=6) [0,1] (N':=Lb) zp (Ft (oi j9 (Ac 1))) ⟨rfl,by rfl',rfl,λC s0 H0 fp pn=>⟨(Gk (i:=10)),fZ,(iR b9 (lg zq) kB (Ac 0) #v[10])⟩⟩ d) (Ao (Ci [5,6] (eS (fE (Cr (iC m) (fS (N':=Lf) zp (Ft (oi j9 (Ac 6))) ⟨rfl,by rfl',rfl,λC s0 H0 fp pn=>⟨(Gk (i:=10)),fZ,(Ac 10)⟩⟩) (Ac 5) (Cq _)) (jP (Cr (iC m) (fS (N':=Lf) zp (Ft (Fz (Ac 5))) ⟨rfl,by rfl',rfl,λC s0 H0 fp pn=>⟨(Gk (i:=10)),(lX (mP (Fs (Bc (lg zq) kB v9 #v[10])))),(Ac 10)⟩⟩) (jo Ak) (Cq _))))) (Aq (Bm [] fX)) De) (Ao (Go [2] Fc zp (Fz (Ac 2)) (gA (i:=7) d) (Ao (Bg (i:=9) [0,7] (iR b9 zq o (Ac 0) #v[7]) d) (Aq (Ci [4,9] (eS (fE (mP (Fs (Bc zq o v9 #v[9]))) (fE (Cr wQ (Ac 9) Ap (Cq _)) (jP (Cr WE (Ac 9) (Ac 4) (Cq _)))))) (Aq (Bm [] fX)) De)))) (Ao (Bg (i:=8) [1,2] (Aw Bw (Aw Bw (Aw Bw (Ac 2) (fS (N':=Lb) zp (Ft (oi j9 (Ac 1))) ⟨rfl,by rfl',rfl,λC s0 H0 fp pn=>⟨(Gk (i:=10)),fZ,(Ac 10)⟩⟩)) (oZ (Ac 1) oM (oK Ap))) (oZ (Ac 2) oM (oK Ap))) d) (Ao (Ci [0,8] (Cr (iC m) (iR c7 zq o (Ac 0) #v[pR vo rfl k9 K4 #v[8]]) (fS (N':=Lb) zp (Ft (Fz (Ac 8))) ⟨rfl,by rfl',rfl,λC s0 H0 fp pn=>⟨(Gk (i:=10)),fZ,(iR b9 (lg zq) kB (Ac 0) #v[10])⟩⟩) (Cq _)) (Aq (Bm [] fX)) De) (Aq (Bm [0,1,5] (mQ (Gj m) (iR c7 zq o (Ac 0) #v[pR vo rfl k9 K4 #v[1]]) (Ac 5) (Cq _)))))))))))))
variable(uD:bG K (.type "str") uG)
def adk:AH P w K p r f u "_law_told" 75 75 Tt 2 uf:=λF=>Bp (N:=Tt) F λzp zq m d o=>(Ao (Ci [0] (Fs (oe n9 uD (Ac 0) d0 mK N6)) (Aq (ky 0)) De) (Aq (Bm [0,1] (iR c7 zq o (Ac 0) #v[pR vo rfl k9 K4 #v[1]]))))
variable(So:MK P w K p r)(m9:NR P w K p r)(z8:Ma P w K p r)(x8:Mx P w K p r)(y8:LZ P w K p r){j5:Addr}(RS:bG K (.ref j5) Qb)(v5:p "House"=some (.ref j5))
noncomputable abbrev Lc:List Str:=["_law_script","_law_draws_here","_law_keys","_law_strangers","_law_made_here","_law_form","_law_told_here","_law_others","_law_handed","_law_house","_law_key"]
abbrev Le:List Str:=["_law_script","_law_draws_here","_law_keys","_law_strangers","_law_made_here","_law_form","_law_told_here","_law_others","_law_handed","?9","_law_house"]
def VN:AH P w K p r f u "law" 76 76 ["_law_script"] 1 FU:=λF=>Bp (N:=["_law_script","_law_draws_here","_law_keys","_law_strangers","_law_made_here","_law_form","_law_told_here","_law_others","_law_handed","_law_house"]) F λzp zq m d o=>(Ao (Bg (i:=1) [0] (Bc zq o So #v[0,Ap]) d) (Ao (Bg (i:=2) [1] (Bc zq o m9 #v[1,Ap,Aw Bw Ap (Aw Ef (Cv (Ac 1) Ap) Ap)]) d) (Ao (oN (i:=3) [1,2] (N':=Lc) zp (Ft (Fz (Bc (do_1 zq) kB m9 #v[1,Ap,Ap]))) ⟨rfl,by rfl',rfl,λC s0 H0 fp pn=>⟨(Gk (i:=10)),(lX (Cr yA (Ac 10) (Ac 2) (by with_unfolding_all rfl))),(Ac 10)⟩⟩ d) (Ao (Bg (i:=4) [] (jo Ak) d) (Ao (Go [] Fc zp (lh d5 #v[Ap]) (gA (i:=5) d) (Ao (Bg (i:=8) [2] (pR vo rfl k9 K4 #v[2]) d) (Ao (Yh (i:=9) (j:=8) (Bc zq o z8 #v[5,8,1]) d) (Ao (Ci [2,8] (Cr (iC m) (Ac 8) (Ac 2) (Cq _)) (Aq (Bm [] fX)) De) (Ao (fG (i:=8) kr) (Ao (fG (i:=4) (Ac 9)) (Aq (Ci [9] (Fs (oe n9 uD (Ac 9) d0 mK N6)) (Aq (Ci [5,9] (Cr (iC m) (Ac 9) (Cv (jo #v[kr,kr,kr,kr]) (Ac 5)) (Cq _)) (Aq (Bm [] fX)) De)) (Aq (Ci [2,3,5,9] (eS (fE (mP (Fs (Wc RS (Ac 9) d0 v5))) (jP (mP (Fs (Bc zq o x8 #v[9,2,3,5])))))) (Aq (Bm [] fX)) De)))))))))) (Ao (oN (i:=6) [2,4] (N':=Le) zp (Ft (Fz (Ac 4))) ⟨rfl,by rfl',rfl,λC s0 H0 fp pn=>⟨(Gk (i:=10)),fZ,(Bc (lg zq) kB y8 #v[10,2])⟩⟩ d) (Ao (Bg (i:=7) [2,3] (Aw Bw (Aw Bw (Ac 3) (fS (N':=Lc) zp (Ft (oi j9 (oZ (Ac 2) (oK Ap) oM))) ⟨rfl,by rfl',rfl,λC s0 H0 fp pn=>⟨(Gk (i:=10)),fZ,(Ac 10)⟩⟩)) (jo #v[Cv (jo #v[Ap,kr]) (pR acW rfl vI Y2 #v[mQ wN Ap (Ac 2) (by with_unfolding_all rfl)])])) d) (Ao (Bg (i:=7) [7] (fS (N':=["_law_script","_law_draws_here","_law_keys","_law_strangers","_law_made_here","_law_form","_law_told_here","_law_others","_law_handed","_law_house","_law_at","_law_key"]) zp (Ft (sD j3 (Ac 7))) ⟨rfl,by rfl',rfl,λC s0 H0 fp pn=>⟨(Wx (i:=10) (j:=11) (abN zp) (show List.Nodup [("_law_script" :Str),("_law_draws_here" :Str),("_law_keys" :Str),("_law_strangers" :Str),("_law_made_here" :Str),("_law_form" :Str),("_law_told_here" :Str),("_law_others" :Str),("_law_handed" :Str),("_law_house" :Str),("_law_at" :Str),("_law_key" :Str)] from by decide +kernel)),(lX (Cr yA (Ac 11) (oZ (Ac 7) oM (oK (Ac 10))) (by with_unfolding_all rfl))),(Ac 11)⟩⟩) d) (Ao (Go [] Fc zp (lh d5 #v[Ap]) (gA (i:=5) d) (Aq (oO [1,5,7] (Bc zq o z8 #v[5,7,1])))) (Ao (Go [] Fc zp (lh d5 #v[Ap]) (gA (i:=5) d) (Aq (Ci [2,3,4,5] (eS (HI (mP (Fs (oe n9 uD (Cv (Ac 4) (Ac 5)) d0 mK N6))) (Je (mP (Fs (Bc zq o x8 #v[Cv (Ac 4) (Ac 5),2,3,5])))))) (Aq (Bm [] fX)) De))) (Aq (Bm [2,4,6] (ou (mQ (Gj m) (Ac 6) (fS (N':=Le) zp (Ft (Fz (Ac 4))) ⟨rfl,by rfl',rfl,λC s0 H0 fp pn=>⟨(Gk (i:=10)),fZ,(Bc (lg zq) kB y8 #v[10,2])⟩⟩) (Cq _)) (oy (mQ (Gj m) (oe n9 uD (Cv (Ac 4) Ap) d0 mK N6) (oe n9 uD (Cv (Ac 4) Ap) d0 mK N6) (Cq _))))))))))))))))
abbrev jI:Stmt:=Ba 76
end
def VM{l:PySem.W.OpenLaw}{w:World}{K:Frag}{h:Heap}{p:AB}{fa:Addr}(X:K.In h)(G:h.Ns mainGlobals p)(hfa:p "law"=some (.ref fa)){j5 n8 g8 f9 d9 i6 z6 y9 l3 u9 k8:Addr}{Ry:Addr}{au4 as8:Option Addr}{au5:Array (Option Value)}{au6 au3 au2 at6 RJ at9:Value}{fT cT pT:Addr}{oT BW:Value}{BV BU:Option Addr}{DV:Option Addr}{va tW:Array (Option Value)}{DU:Arguments}{DS:List Stmt}{BM:Scope}{CK DO BP DQ:Value}{tT:Array Value}{ak6 aq3 ad1 al0 ar4 ai6:Tok}(aq4:PySem.W.nsIn K mainGlobals "House"=some (some (.ref j5)))(n6:PySem.W.nsIn K mainGlobals "Table"=some (some (.ref n8)))(p7:eP K n8)(ar5:makesIn K n8=true)(aq2:keepIn K (.ref n8)=true)(ae9:aM K n8 "by_salt")(ak5:aM K n8 "kind")(ak9:aM K n8 "part")(af2:aM K n8 "modulus")(ah2:aM K n8 "listed")(g7:PySem.W.nsIn K mainGlobals "Peeled"=some (some (.ref g8)))(l8:eP K g8)(ap3:makesIn K g8=true)(ao7:keepIn K (.ref g8)=true)(ac6:aM K g8 "how_many")(ac0:aM K g8 "own_table")(ac4:aM K g8 "used_row")(f8:PySem.W.nsIn K mainGlobals "Ordered"=some (some (.ref f9)))(o7:eP K f9)(an0:makesIn K f9=true)(an3:keepIn K (.ref f9)=true)(ab9:aM K f9 "how_many")(ab0:aM K f9 "own_table")(d7:PySem.W.nsIn K mainGlobals "Buckets"=some (some (.ref d9)))(j4:eP K d9)(an6:makesIn K d9=true)(am1:keepIn K (.ref d9)=true)(ac1:aM K d9 "how_many")(y6:aM K d9 "many_buckets")(aa5:aM K d9 "by_bucket")(g9:PySem.W.nsIn K mainGlobals "Halved"=some (some (.ref i6)))(o6:eP K i6)(ap4:makesIn K i6=true)(ao2:keepIn K (.ref i6)=true)(ac8:aM K i6 "how_many")(ai1:aM K i6 "leaf")(ag2:aM K i6 "salts")(w1:aI K "_law_mix" (Ba 68))(w2:aI K "_law_draws" (Ba 69))(w3:aI K "_law_drawn_key" (Ba 70))(w4:aI K "_law_drawn_keys" (Ba 71))(w5:aI K "is_key_text" (Ba 17))(w6:aI K "is_key" (Ba 18))(w7:aI K "look_each_key" (Ba 22))(w8:aI K "look_unlike" (Ba 23))(w9:aI K "look_keys" (Ba 24))(w10:aI K "part_size" (Ba 34))(w11:aI K "worth" (Ba 19))(w12:aI K "stamp" (Ba 20))(w13:aI K "mixed" (Ba 21))(w14:aI K "places_of" (Ba 35))(w15:aI K "edges_of" (Ba 36))(w16:aI K "standing_at" (Ba 30))(w17:aI K "take_away" (Ba 31))(w18:aI K "peeled" (Ba 32))(w19:aI K "fate" (Ba 37))(w20:aI K "succeeds" (Ba 38))(w21:aI K "first_try" (Ba 39))(w22:aI K "chosen_places" (Ba 45))(w23:aI K "is_below" (Ba 9))(w24:aI K "remainder" (Ba 26))(w25:aI K "summed" (Ba 27))(w26:aI K "filled" (Ba 28))(w27:aN K n8 "__init__" "Table.__init__" (Bu 41 0))(w28:aI K "table_for" (Ba 42))(w29:aI K "row_with_ones" (Ba 46))(w30:cP K j5 "House.__init__" (Bu 44 0))(w31:aN K g8 "__init__" "Peeled.__init__" (Bu 47 0))(w32:cP K j5 "House.__init__" (Bu 44 0))(w33:aN K f9 "__init__" "Ordered.__init__" (Bu 48 0))(w34:aI K "bucket_of" (Ba 51))(w35:aI K "stamps_by_bucket" (Ba 53))(w36:aI K "room_by" (Ba 52))(w37:aI K "rooms_fit" (Ba 54))(w38:aI K "least_number" (Ba 55))(w39:aI K "numbers_by_bucket" (Ba 56))(w40:cP K j5 "House.__init__" (Bu 44 0))(w41:aN K d9 "__init__" "Buckets.__init__" (Bu 57 0))(w42:aI K "is_last" (Ba 60))(w43:aI K "on_side" (Ba 61))(w44:aI K "left_size" (Ba 59))(w45:aI K "salt_fits" (Ba 62))(w46:aI K "least_salt" (Ba 63))(w47:aI K "salts_for" (Ba 64))(w48:cP K j5 "House.__init__" (Bu 44 0))(w49:aN K i6 "__init__" "Halved.__init__" (Bu 66 0))(w50:aI K "_law_made" (Ba 73))(w51:aI K "_law_whole" (Ba 72))(w52:aI K "ones_before" (Ba 10))(w53:aN K n8 "places" "Table.places" (Bu 41 3))(w54:aN K g8 "places" "Peeled.places" (Bu 47 4))(w55:aN K n8 "total" "Table.total" (Bu 41 4))(w56:aN K g8 "number_of" "Peeled.number_of" (Bu 47 5))(w57:aN K f9 "number_of" "Ordered.number_of" (Bu 48 4))(w58:aN K d9 "number_in" "Buckets.number_in" (Bu 57 3))(w59:aN K d9 "bucket" "Buckets.bucket" (Bu 57 2))(w60:aN K d9 "number_of" "Buckets.number_of" (Bu 57 4))(w61:aI K "parts_within" (Ba 65))(w62:aN K i6 "number_of" "Halved.number_of" (Bu 66 2))(w63:aN K g8 "room" "House.room" (Bu 44 2))(w64:aN K f9 "room" "House.room" (Bu 44 2))(w65:aN K d9 "room" "House.room" (Bu 44 2))(w66:aN K i6 "room" "House.room" (Bu 44 2))(w67:aN K g8 "rooms" "House.rooms" (Bu 44 3))(w68:aN K f9 "rooms" "House.rooms" (Bu 44 3))(w69:aN K d9 "rooms" "House.rooms" (Bu 44 3))(w70:aN K i6 "rooms" "House.rooms" (Bu 44 3))(w71:aN K g8 "many" "House.many" (Bu 44 1))(w72:aN K f9 "many" "House.many" (Bu 44 1))(w73:aN K d9 "many" "House.many" (Bu 44 1))(w74:aN K i6 "many" "House.many" (Bu 44 1))(w75:aI K "_law_rooms" (Ba 74))(w76:aI K "_law_told" (Ba 75))(a77:PySem.W.nsIn K mainGlobals "law"=some (some (.ref Ry))) (l77:K.lookup Ry=some ⟨au6,au4,.func (fnOf "law" "law" (gB jI) (Fg jI) (Bt jI) .none au3 au2 at6 as8 RJ at9),au5⟩) (c77:codeIn K RJ "law"=true) (k77:keepIn K (.ref Ry)=true)(as5:PySem.W.nsIn K mainGlobals "list"=some none)(ar8:PySem.W.nsIn K mainGlobals "range"=some none)(at5:PySem.W.nsIn K mainGlobals "len"=some none)(at3:PySem.W.nsIn K mainGlobals "all"=some none)(al1:PySem.W.nsIn K mainGlobals "isinstance"=some none)(as7:PySem.W.nsIn K mainGlobals "bool"=some none)(at8:PySem.W.nsIn K mainGlobals "int"=some none)(au0:PySem.W.nsIn K mainGlobals "str"=some none)(al7:PySem.W.nsIn K mainGlobals "enumerate"=some none)(as0:PySem.W.nsIn K mainGlobals "tuple"=some none)(at7:PySem.W.nsIn K mainGlobals "min"=some none)(at4:PySem.W.nsIn K mainGlobals "sum"=some none)(am8:PySem.W.nsIn K mainGlobals "reversed"=some none)(aq1:PySem.W.nsIn K mainGlobals "sorted"=some none)(au1:PySem.W.nsIn K mainGlobals "max"=some none)(as9:PySem.W.nsIn K mainGlobals "set"=some none)(am3:kitOne K (.type "NoneType") (.type "bool")=some false)(ap6:kitOne K (.type "bool") (.type "bool")=some true)(am4:kitOne K (.type "int") (.type "bool")=some false)(am9:kitOne K (.type "str") (.type "bool")=some false)(an7:kitOne K (.type "list") (.type "bool")=some false)(am5:kitOne K (.type "tuple") (.type "bool")=some false)(ao4:kitOne K (.type "NoneType") (.type "int")=some false)(aq8:kitOne K (.type "bool") (.type "int")=some true)(ao8:kitOne K (.type "int") (.type "int")=some true)(ap5:kitOne K (.type "str") (.type "int")=some false)(ao6:kitOne K (.type "list") (.type "int")=some false)(ap8:kitOne K (.type "tuple") (.type "int")=some false)(ap1:kitOne K (.type "NoneType") (.type "str")=some false)(aq6:kitOne K (.type "bool") (.type "str")=some false)(ao1:kitOne K (.type "int") (.type "str")=some false)(ao3:kitOne K (.type "str") (.type "str")=some true)(ap0:kitOne K (.type "list") (.type "str")=some false)(ao0:kitOne K (.type "tuple") (.type "str")=some false)(am2:kitOne K (.type "NoneType") (.type "list")=some false)(ap7:kitOne K (.type "bool") (.type "list")=some false)(an5:kitOne K (.type "int") (.type "list")=some false)(an8:kitOne K (.type "str") (.type "list")=some false)(an1:kitOne K (.type "list") (.type "list")=some true)(am7:kitOne K (.type "tuple") (.type "list")=some false)(al5:PySem.W.nsIn K mainGlobals "MOST_SIGNS"=some (some (.int 11 ak6)))(ar9:PySem.W.nsIn K mainGlobals "SIGNS"=some (some (.str "abcdefghijklmnopqrstuvwxyz0123456789-_ " aq3)))(ad9:PySem.W.nsIn K mainGlobals "GREATEST_NUMBER"=some (some (.int 999999999999999999 ad1)))(al9:PySem.W.nsIn K mainGlobals "MOST_KEYS"=some (some (.int 200 al0)))(as2:PySem.W.nsIn K mainGlobals "PRIME"=some (some (.int 2305843009213693951 ar4)))(ak4:PySem.W.nsIn K mainGlobals "BUCKET_SALT"=some (some (.int 0 ai6)))(PK:PySem.W.nsIn K mainGlobals "NoKey"=some (some (.ref z6)))(PJ:PySem.W.nsIn K mainGlobals "Twice"=some (some (.ref y9)))(PC:PySem.W.nsIn K mainGlobals "NoFit"=some (some (.ref l3)))(PM:PySem.W.nsIn K mainGlobals "NoKeys"=some (some (.ref u9)))(PF:PySem.W.nsIn K mainGlobals "NoTry"=some (some (.ref k8)))(ai3:cW K g8)(ak7:KU K g8 "str")(ag9:KO K g8 j5 true)(af9:cW K f9)(ak0:KU K f9 "str")(af8:KO K f9 j5 true)(ag1:cW K d9)(ai0:KU K d9 "str")(af5:KO K d9 j5 true)(ah8:cW K i6)(ak3:KU K i6 "str")(ag5:KO K i6 j5 true)(ar7:XB K z6 "NoKey.__init__" "at" yO)(aj6:exmOne K (.ref z6) (.ref k8)=some false)(ah9:exmOne K (.ref z6) (.ref l3)=some false)(aq9:XB K y9 "Twice.__init__" "at" yP)(aj5:exmOne K (.ref y9) (.ref k8)=some false)(aj0:exmOne K (.ref y9) (.ref l3)=some false)(ar6:XB K l3 "NoFit.__init__" "at" yQ)(ai8:exmOne K (.ref l3) (.ref k8)=some false)(aj3:exmOne K (.ref l3) (.ref l3)=some true)(ao9:Tc K u9)(ah0:exmOne K (.ref u9) (.ref k8)=some false)(ah3:exmOne K (.ref u9) (.ref l3)=some false)(aq7:Tc K k8)(ai5:exmOne K (.ref k8) (.ref k8)=some true)(ah5:exmOne K (.ref k8) (.ref l3)=some false)(tA:PySem.W.nsIn K mainGlobals "numbers_by_bucket"=some (some (.ref fT)))(tL:K.lookup fT=some ⟨oT,BV,.func (fnOf "numbers_by_bucket" "numbers_by_bucket" DU DS BM .none CK DO BP DV (.ref cT) DQ),va⟩)(tC:K.lookup cT=some ⟨BW,BU,.fields tT,tW⟩)(tE:tT[11]?=some (.ref pT))(RK:PySem.W.codeHdIn K cT pT=true):∃u:FuncData,(∀(s:Shared) (v:Value),BindsTo s u ⟨[v],[]⟩ [("_law_script",v)])/\∀r:Heap,K.In r->r.Ns mainGlobals p->pz l.prog w K p r Qg 76 fa u ["_law_script"] (oj K):=by
 have v5:=mg_of X G aq4;have aq0:=mg_of X G n6;have an9:=mg_of X G g7;have am6:=mg_of X G f8;have an4:=mg_of X G d7;have ao5:=mg_of X G g9;have u7:aZ K ["Table"] "by_salt" :=(.one n6 p7 ae9 .nil);have EE:aZ K ["Table"] "kind" :=(.one n6 p7 ak5 .nil);have EC:aZ K ["Table"] "part" :=(.one n6 p7 ak9 .nil);have u5:aZ K ["Table"] "modulus" :=(.one n6 p7 af2 .nil);have y4:aZ K ["Table"] "listed" :=(.one n6 p7 ah2 .nil);have d4:aZ K La "how_many" :=(.one g7 l8 ac6 (.one f8 o7 ab9 (.one d7 j4 ac1 (.one g9 o6 ac8 .nil))));have f6:aZ K Lj "own_table" :=(.one g7 l8 ac0 (.one f8 o7 ab0 .nil));have q5:aZ K ["Peeled"] "used_row" :=(.one g7 l8 ac4 .nil);have l6:aZ K ["Buckets"] "many_buckets" :=(.one d7 j4 y6 .nil);have p5:aZ K ["Buckets"] "by_bucket" :=(.one d7 j4 aa5 .nil);have AU:aZ K ["Halved"] "leaf" :=(.one g9 o6 ai1 .nil);have y7:aZ K ["Halved"] "salts" :=(.one g9 o6 ag2 .nil);have aq5:=mg_of X G PK;have ar3:=mg_of X G PJ;have PH:=mg_of X G PC;have ap2:=mg_of X G PM;have PD:=mg_of X G PF;have Sd:AV K p "NoKeys" u9:=HC PM ap2 ao9;have RT:AV K p "NoTry" k8:=HC PF PD aq7;have RX:bE K k8 To:=(.one PC ai8 (.one PK aj6 (.one PM ah0 (.one PF ai5 (.one PJ aj5 .nil)))));have RV:bE K l3 Tj:=(.one PC aj3 (.one PK ah9 (.one PM ah3 (.one PF ah5 (.one PJ aj0 .nil)))));have uD:bG K (.type "str") uG:=(.one g7 ai3 ak7 (.one f8 af9 ak0 (.one d7 ag1 ai0 (.one g9 ah8 ak3 .nil))));have RS:bG K (.ref j5) Qb:=(.one g7 ai3 ag9 (.one f8 af9 af8 (.one d7 ag1 af5 (.one g9 ah8 ag5 .nil))));have e:=hfa.symm.trans (mg_of X G a77);cases e;have k9:=N3 X G as5;have d5:=N3 X G ar8;have d8:=N3 X G at5;have RM:=N3 X G at3;have d0:=N3 X G al1;have vK:=N3 X G as7;have vI:=N3 X G at8;have mK:=N3 X G au0;have j3:=N3 X G al7;have RQ:=N3 X G as0;have uC:=N3 X G at7;have RN:=N3 X G at4;have j9:=N3 X G am8;have EF:=N3 X G aq1;have DW:=N3 X G au1;have RL:=N3 X G as9;have u6:dD K "bool" :=⟨am3,ap6,am4,am9,an7,am5⟩;have DY:dD K "int" :=⟨ao4,aq8,ao8,ap5,ao6,ap8⟩;have n9:dD K "str" :=⟨ap1,aq6,ao1,ao3,ap0,ao0⟩;have RZ:dD K "list" :=⟨am2,ap7,an5,an8,an1,am7⟩;have z7:=mg_of X G al5;have DX:=mg_of X G ar9;have o9:=mg_of X G ad9;have Sn:=mg_of X G al9;have DZ:=mg_of X G as2;have y1:=mg_of X G ak4;have bj:=GX tA tL tC tE;obtain⟨f17,a17,d17,TB⟩:=w17;obtain⟨f30,a30,⟨d30,F30⟩⟩:=w30;obtain⟨f32,a32,⟨d32,F32⟩⟩:=w32;obtain⟨f40,a40,⟨d40,F40⟩⟩:=w40;obtain⟨f48,a48,⟨d48,F48⟩⟩:=w48;have F77:=wV (st:=jI) l77 c77 k77;refine⟨fnOf "law" "law" (gB jI) (Fg jI) (Bt jI) .none au3 au2 at6 as8 RJ at9,λs v=>.of_eq rfl,λr _ _=>?_⟩;let dS:=iG l.prog w K p r true;let qx:=bA l.prog w K p r true;let OU:=jZ l.prog w K p r true;let QI:=XC l.prog w K p r;let lT:=λt:Program->World->Frag->(AB)->Heap->Prop=>t l.prog w K p r;have EB:QI "NoKey" "at" z6:=we PK aq5 ar7 λF y z=>⟨aeC F y z,Cy F⟩;have RP:QI "Twice" "at" y9:=we PJ ar3 aq9 λF y z=>⟨aeE F y z,Cy F⟩;have EA:QI "NoFit" "at" l3:=we PC PH ar6 λF y z=>⟨aeG F y z,Cy F⟩;have PL:lT Kv:=Cg X G w1 λF=>⟨acv F,Cy F⟩;have So:lT MK:=Cg X G w2 λF=>⟨aee PL k9 d5 d8 F,Cy F⟩;have t8:lT NM:=Cg X G w3 λF=>⟨afq d5 F,gG F⟩;have m9:lT NR:=Cg X G w4 λF=>⟨afw d5 t8 F,gG F⟩;have x9:lT Np:=Cg X G w5 λF=>⟨afe d8 RM z7 DX F,kH F⟩;have EG:lT Js:=Cg X G w6 λF=>⟨abc x9 d0 vK vI mK u6 DY n9 o9 F,kH F⟩;have f7:lT NL:=Cg X G w7 λF=>⟨afp EG j3 EB F,kH F⟩;have y3:lT Nn:=Cg X G w8 λF=>⟨afd j3 RP F,kH F⟩;have j6:lT MJ:=Cg X G w9 λF=>⟨aed d8 f7 y3 Sd Sn F,kH F⟩;have i9:lT MI:=Cg X G w10 λF=>⟨aec F,Cy F⟩;have RO:lT Ib:=Cg X G w11 λF=>⟨ZC DX F,kH F⟩;have m8:lT Ia:=Cg X G w12 λF=>⟨ZA d0 mK n9 EG EB RO F,kH F⟩;have l7:lT HZ:=Cg X G w13 λF=>⟨Zz DZ F,gG F⟩;have q9:lT MH:=Cg X G w14 λF=>⟨aeb d5 m8 l7 RQ F,uB F⟩;have v6:lT Md:=Cg X G w15 λF=>⟨ado i9 j6 q9 F,gG F⟩;have y0:lT Nm:=Cg X G w16 λF=>⟨afc j3 F,kH F⟩;have Sq:tB l.prog w K p r true "take_away" 1 2 Tu zT:=Wr TB (mg_of X G a17) (gG TB) (aea TB);have RW:lT Jr:=Cg X G w18 λF=>⟨abb k9 d5 d8 y0 Sq uC F,Cy F⟩;have vJ:lT GI:=Cg X G w19 λF=>⟨Xq d8 i9 v6 RW F,gG F⟩;have Sh:lT Mc:=Cg X G w20 λF=>⟨adn d8 vJ F,gG F⟩;have q8:lT MG:=Cg X G w21 λF=>⟨adZ d5 j6 Sh RT F,gG F⟩;have r9:lT NK:=Cg X G w22 λF=>⟨afo d5 d8 vJ F,gG F⟩;have v7:lT Mb:=Cg X G w23 λF=>⟨adm d0 vK u6 F,Cy F⟩;have p9:lT MF:=Cg X G w24 λF=>⟨adY F,Cy F⟩;have EH:lT Jq:=Cg X G w25 λF=>⟨aba d8 v7 p9 RN F,gG F⟩;have RY:lT Jp:=Cg X G w26 λF=>⟨aaZ v7 p9 EH j9 F,bn5 F⟩;have RU:OU "Table" 1 5 oE:=rJ n6 aq0 ar5 aq2 w27 λF=>⟨afv u7 EE EC u5 y4 F n6,bn6 F⟩;have r6:lT ME:=Cg X G w28 λF=>⟨adX d8 i9 v6 vJ RY RU F,bn5 F⟩;have t7:lT NJ:=Cg X G w29 λF=>⟨afn d5 F,Cy F⟩;have j7:fH l.prog w K p r true "House" "Peeled" 1 1 DK:=⟨j5,g8,_,_,_,g7,v5,a30,afU d4 F30 g7,(Cy F30)⟩;have Se:OU "Peeled" 9 3 mq:=rJ g7 an9 ap3 ao7 w31 λF=>⟨afC d8 i9 q8 r9 r6 t7 j7 f6 q5 F g7,uB F⟩;have i7:fH l.prog w K p r true "House" "Ordered" 1 1 DN:=⟨j5,f9,_,_,_,f8,v5,a32,y_5 d4 F32 f8,(Cy F32)⟩;have Si:OU "Ordered" 9 3 zK:=rJ f8 am6 an0 an3 w33 λF=>⟨afK k9 d5 d8 q8 r6 f6 i7 F f8,uB F⟩;have r0:lT MD:=Cg X G w34 λF=>⟨adW l7 y1 F,Cy F⟩;have o5:lT y_2:=Cg X G w35 λF=>⟨afJ r0 F,Cy F⟩;have p6:lT Ku:=Cg X G w36 λF=>⟨acu l7 F,gG F⟩;have Sm:lT MC:=Cg X G w37 λF=>⟨adV p6 F,uB F⟩;have u0:lT NG:=Cg X G w38 λF=>⟨afj d5 Sm F,uB F⟩;have n5:lT v_8:=Yi X G w39 bj λF hc=>⟨afP d8 p6 o5 u0 EF EA bj RK F hc,gG F⟩;have i8:fH l.prog w K p r true "House" "Buckets" 1 1 DM:=⟨j5,d9,_,_,_,d7,v5,a40,y_6 d4 F40 d7,(Cy F40)⟩;have Sj:OU "Buckets" 6 3 zJ:=rJ d7 an4 an6 am1 w41 λF=>⟨afI m8 j6 n5 i8 l6 p5 F d7,uB F⟩;have aR:lT ym:=Cg X G w42 λF=>⟨acs DW F,Cy F⟩;have t9:lT Kt:=Cg X G w43 λF=>⟨acr l7 F,gG F⟩;have aO:lT yK:=Cg X G w44 λF=>⟨adU F,kH F⟩;have Sk:lT MB:=Cg X G w45 λF=>⟨adT d8 l7 aR t9 aO RL F,gG F⟩;have z9:lT Nc:=Cg X G w46 λF=>⟨aeB d5 Sk F,gG F⟩;have Sr:lT MA:=Cg X G w47 λF=>⟨adS d8 EA aR t9 z9 F,gG F⟩;have j8:fH l.prog w K p r true "House" "Halved" 1 1 DJ:=⟨j5,i6,_,_,_,g9,v5,a48,afT d4 F48 g9,(Cy F48)⟩;have Sf:tq l.prog w K p r true "Halved" 6 3 mn:=Wb g9 ao5 ap4 ao2 w49 λF=>⟨afB m8 j6 Sr j8 AU y7 F g9,uB F⟩;have z8:lT Ma:=Cg X G w50 λF=>⟨adl Se Si Sj Sf PD PH RX RV F,gG F⟩;have v9:lT Mz:=Cg X G w51 λF=>⟨adR d0 vK vI u6 DY F,kH F⟩;have y2:lT Nl:=Cg X G w52 λF=>⟨afb DW F,Cy F⟩;have ah4:dS 5 1 "places" "Table" qa:=Hs n6 p7 w53 λF=>⟨afi q9 u7 EE EC F,Cy F⟩;have l4:qx 5 1 "places" [("Table",qa)]:=(Ho ah4 qv);have af4:dS 6 1 "places" "Peeled" ux:=Hs g7 l8 w54 λF=>⟨afm f6 l4 F,Cy F⟩;have ak2:dS 6 1 "total" "Table" nq:=Hs n6 p7 w55 λF=>⟨afa EH u5 y4 l4 F,Cy F⟩;have p8:qx 6 1 "places" [("Peeled",ux)]:=(Ho af4 qv);have l9:qx 6 1 "total" [("Table",nq)]:=(Ho ak2 qv);have ac2:dS 7 1 "number_of" "Peeled" AO:=Hs g7 l8 w56 λF=>⟨afH f6 q5 y2 p8 l9 F,Cy F⟩;have ab2:dS 7 1 "number_of" "Ordered" AR:=Hs f8 o7 w57 λF=>⟨afO f6 l9 F,Cy F⟩;have aa4:dS 1 1 "number_in" "Buckets" uz:=Hs d7 j4 w58 λF=>⟨afN p5 F,Cy F⟩;have ae1:dS 4 1 "bucket" "Buckets" qN:=Hs d7 j4 w59 λF=>⟨afu m8 r0 l6 F,Cy F⟩;have m6:qx 1 1 "number_in" [("Buckets",uz)]:=(Ho aa4 qv);have o8:qx 4 1 "bucket" [("Buckets",qN)]:=(Ho ae1 qv);have aa6:dS 5 1 "number_of" "Buckets" AQ:=Hs d7 j4 w60 λF=>⟨afM m8 d4 p6 m6 o8 F,Cy F⟩;have u3:lT NF:=by obtain⟨f,a,u,F⟩:=w61;exact sd F (mg_of X G a) (Cy F) (NI F (mg_of X G a) (Cy F) (aR:=aR) (aO:=aO) 70)
 have ac3:dS 72 1 "number_of" "Halved" DP:=Hs g9 o6 w62 λF=>⟨afG m8 l7 d4 aR aO AU y7 u3 F,Cy F⟩;have c9:qx 72 1 "number_of" Qa:=(Ho ac2 (Ho ab2 (Ho aa6 (Ho ac3 qv))));have ai4:dS 73 1 "room" "Peeled" mJ:=Hs g7 l8 w63 λF=>⟨Ox uC d4 c9 F,Cy F⟩;have ag7:dS 73 1 "room" "Ordered" mJ:=Hs f8 o7 w64 λF=>⟨Ox uC d4 c9 F,Cy F⟩;have ag3:dS 73 1 "room" "Buckets" mJ:=Hs d7 j4 w65 λF=>⟨Ox uC d4 c9 F,Cy F⟩;have ai7:dS 73 1 "room" "Halved" mJ:=Hs g9 o6 w66 λF=>⟨Ox uC d4 c9 F,Cy F⟩;have b9:qx 73 1 "room" AX:=(Ho ai4 (Ho ag7 (Ho ag3 (Ho ai7 qv))));have ag8:dS 74 1 "rooms" "Peeled" nv:=Hs g7 l8 w67 λF=>⟨OB f7 b9 F,Cy F⟩;have af1:dS 74 1 "rooms" "Ordered" nv:=Hs f8 o7 w68 λF=>⟨OB f7 b9 F,Cy F⟩;have af3:dS 74 1 "rooms" "Buckets" nv:=Hs d7 j4 w69 λF=>⟨OB f7 b9 F,Cy F⟩;have ag6:dS 74 1 "rooms" "Halved" nv:=Hs g9 o6 w70 λF=>⟨OB f7 b9 F,Cy F⟩;have ak1:dS 1 0 "many" "Peeled" nu:=Hs g7 l8 w71 λF=>⟨Ov d4 F,kH F⟩;have ah1:dS 1 0 "many" "Ordered" nu:=Hs f8 o7 w72 λF=>⟨Ov d4 F,kH F⟩;have ag4:dS 1 0 "many" "Buckets" nu:=Hs d7 j4 w73 λF=>⟨Ov d4 F,kH F⟩;have ai2:dS 1 0 "many" "Halved" nu:=Hs g9 o6 w74 λF=>⟨Ov d4 F,kH F⟩;have c7:qx 74 1 "rooms" AW:=(Ho ag8 (Ho af1 (Ho af3 (Ho ag6 qv))));have d6:qx 1 0 "many" Ti:=(Ho ak1 (Ho ah1 (Ho ag4 (Ho ai2 qv))));have x8:lT Mx:=Cg X G w75 λF=>⟨adQ k9 d5 d8 d0 j9 EF b9 v9 c7 d6 RZ F,uB F⟩;have y8:lT LZ:=Cg X G w76 λF=>⟨adk k9 d0 mK n9 c7 uD F,Cy F⟩;exact WA (VN (P:=l.prog) (w:=w) (r:=r) k9 d5 d0 vI mK n9 j3 j9 uD So m9 z8 x8 y8 RS v5 F77) ZD
end My


open PySem PySem.W PyProof.Rows
set_option maxRecDepth 100000 in
set_option maxHeartbeats 0 in
theorem PySem.Challenge.cw_lodge_k81_whole_rooms_holds : PySem.Challenge.rw_lodge_k81_whole_rooms.Holds := by
 w_on; o_law; k_head; (case hw => w_witness2)
 k_fill
 refine L3.ew_0 (l := PySem.Challenge.rw_lodge_k81_whole_rooms) (x := "_law_script") (k := 76) rfl rfl ⟨rfl, by decide, by decide⟩ (λw h Y => PySem.W.km_in_of Y) ?T ?F
 case T =>
  intro w h Y
  have KX := PySem.W.km_in_of Y
  refine' L3.Y' KX ?t1 ?t2 ?t3 ?t4 ?t5 ?t6 (PySem.W.km_tabs_of Y _ ?t7)
  (case t1 | t2 | t3 => k_is)
  (case t4 => rfl)
  (case t5 | t6 => rfl')
  (case t7 => simp)
 case F =>
  intro w mg fa h KX G CS
  refine' My.VM KX G CS ?c1 ?c2 ?c3 ?c4 ?c5 ?c6 ?c7 ?c8 ?c9 ?c10 ?c11 ?c12 ?c13 ?c14 ?c15 ?c16 ?c17 ?c18 ?c19 ?c20 ?c21 ?c22 ?c23 ?c24 ?c25 ?c26 ?c27 ?c28 ?c29 ?c30 ?c31 ?c32 ?c33 ?c34 ?c35 ?c36 ?c37 ?c38 ?c39 ?c40 ?c41 ?c42 ?c43 ?c44 ?c45 ?c46 ?c47 ?c48 ?c49 ?c50 ?c51 ?c52 ?c53 ?c54 ?c55 ?c56 ?c57 ?c58 ?c59 ?c60 ?c61 ?c62 ?c63 ?c64 ?c65 ?c66 ?c67 ?c68 ?c69 ?c70 ?c71 ?c72 ?c73 ?c74 ?c75 ?c76 ?c77 ?c78 ?c79 ?c80 ?c81 ?c82 ?c83 ?c84 ?c85 ?c86 ?c87 ?c88 ?c89 ?c90 ?c91 ?c92 ?c93 ?c94 ?c95 ?c96 ?c97 ?c98 ?c99 ?c100 ?c101 ?c102 ?c103 ?c104 ?c105 ?c106 ?c107 ?c108 ?c109 ?c110 ?c111 ?c112 ?c113 ?c114 ?c115 ?c116 ?c117 ?c118 ?c119 ?c120 ?c121 ?c122 ?c123 ?c124 ?c125 ?c126 ?c127 ?c128 ?c129 ?c130 ?c131 ?c132 ?c133 ?c134 ?c135 ?c136 ?c137 ?c138 ?c139 ?c140 ?c141 ?c142 ?c143 ?c144 ?c145 ?c146 ?c147 ?c148 ?c149 ?c150 ?c151 ?c152 ?c153 ?c154 ?c155 ?c156 ?c157 ?c158 ?c159 ?c160 ?c161 ?c162 ?c163 ?c164 ?c165 ?c166 ?c167 ?c168 ?c169 ?c170 ?c171 ?c172 ?c173 ?c174 ?c175 ?c176 ?c177 ?c178 ?c179 ?c180 ?c181 ?c182 ?c183 ?c184 ?c185 ?c186 ?c187 ?c188 ?c189 ?c190 ?c191 ?c192 ?c193 ?c194 ?c195 ?c196 ?c197 ?c198 ?c199 ?c200
  (case c1|c2|c4|c5|c11|c13|c14|c18|c20|c21|c24|c26|c27|c31|c33|c34|c114|c115|c116|c117|c118|c119|c120|c121|c122|c123|c124|c125|c126|c127|c128|c129|c130|c131|c132|c133|c158|c159|c160|c161|c162|c163|c164|c165|c166|c167|c168|c196|c197|c198=>k_is)
  (case c3|c12|c19|c25|c32=>(refine' L2.eP.mk ?z0 ?z1 ?z2 ?z3;(case z0=>k_is);(case z1=>k_is);(case z2=>k_is);(case z3=>k_is)))
  (case c6|c7|c8|c9|c10|c15|c16|c17|c22|c23|c28|c29|c30|c35|c36|c37=>(refine' L3.aM.mk ?z0;(case z0=>k_is)))
  (case c38|c39|c40|c41|c42|c43|c44|c45|c46|c47|c48|c49|c50|c51|c52|c53|c54|c55|c56|c57|c58|c59|c60|c61|c62|c63|c65|c66|c71|c72|c73|c74|c75|c76|c79|c80|c81|c82|c83|c84|c87|c88|c89|c98|c112|c113=>(refine' L3.aI.mk ?a ?l ?c ?k;(case a=>k_is);(case l=>k_is);(case c=>k_is);(case k=>k_is)))
  (case c64|c68|c70|c78|c86|c90|c91|c92|c93|c94|c95|c96|c97|c99|c100|c101|c102|c103|c104|c105|c106|c107|c108|c109|c110|c111=>(refine' L3.aN.mk ?a ?l ?c ?k ?i;(case a=>k_is);(case l=>k_is);(case c=>k_is);(case k=>k_is);(case i=>k_is)))
  (case c67|c69|c77|c85=>(refine' L3.cP.mk ?s ?r ?a ?l ?c ?k;(case s=>k_is);(case r=>k_is);(case a=>k_is);(case l=>k_is);(case c=>k_is);(case k=>k_is)))
  (case c134|c135|c136|c137|c138|c139|c140|c141|c142|c143|c144|c145|c146|c147|c148|c149|c150|c151|c152|c153|c154|c155|c156|c157=>kit_is)
  (case c169|c172|c175|c178=>(refine' L3.cW.mm ?z0 ?z1 ?z2 ?z3 ?z4 ?z5;(case z0=>k_is);(case z1=>k_is);(case z2=>k_is);(case z3=>k_is);(case z4=>k_is);(case z5=>k_is)))
  (case c170|c173|c176|c179=>(refine' L3.KU.mk ?z0;(case z0=>kit_is)))
  (case c171|c174|c177|c180=>(refine' L3.KO.mk ?z0;(case z0=>kit_is)))
  (case c181|c184|c187=>(refine' L3.XB.mk ?z0 ?z1 ?z2 ?z3 ?z4 ?z5 ?z6 ?z7 ?z8 ?z9 ?z10 ?z11 ?z12 ?z13 ?z14;(case z0=>k_is);(case z1=>k_is);(case z2=>k_is);(case z3=>rfl);(case z4=>rfl);(case z5=>k_is);(case z6=>k_is);(case z7=>rfl);(case z8=>rfl);(case z9=>k_is);(case z10=>k_is);(case z11=>k_is);(case z12=>k_is);(case z13=>k_is);(case z14=>k_is)))
  (case c182|c183|c185|c186|c188|c189|c191|c192|c194|c195=>kts_exm)
  (case c190|c193=>(refine' L3.XB0 ?z0 ?z1 ?z2 ?z3 ?z4 ?z5 ?z6 ?z7 ?z8;(case z0=>k_is);(case z1=>k_is);(case z2=>rfl);(case z3=>rfl);(case z4=>k_is);(case z5=>k_is);(case z6=>rfl);(case z7=>rfl);(case z8=>k_is)))
  (case c199=>rfl)
  (case c200=>rfl')

end
