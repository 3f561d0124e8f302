import PyProof.Rows.All
import Wide.All
import OpenK.AllK
import Wide.FinOn
import Lean
import PyProof.EqAt
import PyProof.EqKinds
import PyProof.TupleCall
import PySem.Challenge.RW_lodge_k59_refused_at_each_door
set_option Elab.async false
set_option linter.all false
set_option maxRecDepth 100000
set_option genSizeOf false
set_option compiler.extract_closed false
def A0:=@List.length_map
def A3:=@PySem.wpAny_bind
def A4:=@PySem.Heap.get?_push_of_some
def A5:=@List.getElem?_eq_some_iff
def A6:=@Bool.false_ne_true
def A7:=@PySem.Heap.lt_size
def A8:=@List.getElem?_map
def A9:=@List.map_cons
def B0:=@Nat.le_refl
def B1:=@List.mem_of_getElem?
def B2:=@List.getElem?_eq_getElem
def B3:=@List.mem_cons
def B4:=@List.size_toArray
def B5:=@Nat.lt_of_lt_of_le
def B6:=@List.length_append
def B7:=@List.getElem?_append_left
def B8:=@PySem.boot_len
def B9:=@List.getElem?_set_ne
def C1:=@PySem.Heap.get?_push_size
def C4:=@Bool.and_eq_true
def C5:=@Nat.le_trans
def C6:=@PySem.wpAny_pure
def C7:=@Nat.ne_of_lt
def C9:=@List.mem_cons_of_mem
def D0:=@List.mem_map
def D1:=@List.map_append
def D2:=@List.length_cons
def D3:=@Option.map_eq_some_iff
def D4:=@List.map_map
def D5:=@List.mem_append_right
def D6:=@List.getElem?_append_right
def D7:=@List.getD_eq_getElem?_getD
def D8:=@decide_eq_false
def D9:=@decide_eq_true
def E5:=@PySem.sizeLine_eq
def E7:=@List.lookup_cons
def E8:=@List.getElem?_replicate
def E9:=@List.all_eq_true
def F0:=@List.mem_cons_self
def F1:=@PySem.wpAny_mono
def F2:=@List.length_set
def F3:=@List.replicate_succ
def F4:=@PySem.Heap.get?_update_other
def F5:=@Nat.lt_irrefl
def F6:=@List.mem_append
def F7:=@List.mem_singleton
def F8:=@List.map_congr_left
def F9:=@List.append_nil
def G6:=@List.length_take
def I0:=@List.flatten_cons
def J0:=@List.length_range
def J6:=@PyProof.Rows.callWith_type1
def J7:=@List.getElem?_eq_none
def J8:=@Option.some.inj
def J9:=@List.mem_range
def K0:=@of_decide_eq_true
def K1:=@List.getElem?_set_self
def K2:=@Int.emod_lt_of_pos
def K3:=@List.length_replicate
def K4:=@List.take_add_one
def K5:=@List.mem_append_left
def K6:=@List.take_length
def K7:=@List.not_mem_nil
def K8:=@Int.toNat_natCast
def K9:=@PySem.wpAny_holding
def L4:=@PySem.Heap.size_push
def L5:=@Option.map_some
def L6:=@Int.emod_nonneg
def L7:=@PySem.W.mg_none_of
def L8:=@PySem.wpAny_Call_Name_kw
def L9:=@Nat.zero_le
def M0:=@Option.bind_eq_some_iff
def M3:=@beq_iff_eq
def M4:=@PySem.wpAny_loadPart_at
def M5:=@decide_false
def M6:=@PySem.mem_of_lookup
def M7:=@List.getElem?_range
def M8:=@List.getElem_of_mem
def M9:=@List.find?_cons
def N0:=@decide_true
def N1:=@List.pairwise_iff_getElem
def N2:=@PySem.Heap.get?_update_self
def N3:=@PyProof.Rows.boot_max
def N4:=@List.filter_cons
def N5:=@Bool.false_eq_true
def N6:=@Option.bind_some
def N7:=@List.map_nil
def N8:=@PySem.Heap.get?_none_of_le
def N9:=@List.eq_nil_of_length_eq_zero
def O0:=@Option.isSome_map
def O4:=@List.filter_cons_of_neg
def O5:=@List.filter_cons_of_pos
def O6:=@List.getElem?_cons_succ
def O7:=@Bool.eq_iff_iff
def O8:=@List.nodup_cons
def O9:=@Nat.zero_add
def P3:=@PyProof.Rows.boot_list
def P4:=@List.find?_cons_of_pos
def P5:=@List.find?_cons_of_neg
def P6:=@Int.zero_add
def P7:=@Nat.lt_succ_self
def P8:=@beq_self_eq_true
def P9:=@Array.getElem?_eq_some_iff
def Q0:=@List.contains_cons
def Q1:=@Int.mul_le_mul
def Q2:=@PyProof.Rows.boot_int
def Q3:=@PySem.wpAny_passesOwn
def Q4:=@PySem.wpAny_truthy_bool
def Q5:=@congrArg
def Q6:=@List.mem_of_mem_take
def Q7:=@PySem.wpAny_standAt
def Q8:=@List.all_cons
def Q9:=@List.any_cons
def R0:=@beq_eq_false_iff_ne
def R1:=@List.any_eq_true
def R3:=@PySem.wpAny_getItem_str_slice
def R4:=@List.getElem?_cons_zero
def R5:=@Int.mul_nonneg
def R6:=@Option.getD_some
def R7:=@PySem.wpAny_call
def R8:=@PySem.F.plainAttrs_str
def R9:=@PySem.Obj.isFreed_of_fields
def S3:=@PyProof.Rows.boot_min
def S4:=@if_false
def S5:=@PySem.wpAny_field
def S6:=@PySem.codeAny_call_builtin
def S7:=@PySem.W.looks_findIn
def S8:=@Nat.le_of_lt
def S9:=@List.length_drop
def T3:=@PySem.codeAny_mono
def T4:=@List.sum_cons
def T5:=@PySem.wpAny_execs_nil
def T6:=@PyProof.Rows.boot_isinstance
def T7:=@List.cons.injEq
def T8:=@PySem.W.callWith_K
def T9:=@PySem.Calls.spliced_cons
def U1:=@PySem.Obj.data_mapFields
def U2:=@PySem.Code.quiet_builtin
def U3:=@PySem.tupleKind_room_in1
def U4:=@List.set_cons_zero
def U5:=@List.set_cons_succ
def U6:=@Nat.le_succ
def U7:=@PySem.F.plainAttrs_list
def U8:=@Nat.le_of_eq
def U9:=@PySem.Calls.callWith_builtin
def V0:=@PySem.wpAny_newObj_type
def V1:=@List.drop_eq_nil_of_le
def V2:=@PySem.wpAny_pyIter_enum
def V3:=@List.drop_zero
def V4:=@List.take_of_length_le
def V5:=@List.foldl_append
def V6:=@List.nodup_append
def V7:=@or_false
def V8:=@PySem.plainObj_wpAny_Assign_Attribute
def V9:=@List.contains_iff_mem
def W0:=@PySem.F.slot_dict_pop
def W1:=@PyProof.Rows.boot_str
def W2:=@List.mem_iff_getElem
def W3:=@List.take_append_of_le_length
def W4:=@List.mem_filter
def W5:=@List.of_mem_zip
def W6:=@List.length_nil
def W7:=@Bool.or_eq_true
def W8:=@PySem.post_val_or_str
def W9:=@List.filterMap_cons
def X0:=@Array.length_toList
def X1:=@PySem.wpAny_isSubtype_exc
def X2:=@List.filter_eq_self
def X3:=@PySem.W.cellsFrom_some
def X4:=@PySem.Calls.Name_function_global
def X5:=@PySem.F.slot_range_iterator_next
def X6:=@PySem.wpAny_newFunctionEnv_cells
def X7:=@PySem.wpAny_letOwnedTupleGo_enum
def X8:=@List.zip_cons_cons
def X9:=@PySem.F.excBase_ValueError
def Y0:=@Bool.not_false
def Y1:=@PySem.codeAny_call_builtin_code
def Y2:=@PySem.wpAny_check_type_call_sub
def Y3:=@List.drop_eq_getElem_cons
def Y4:=@PySem.Calls.spliced_nil
def Y5:=@List.ext_getElem?
def Y6:=@PySem.wpAny_pyIter_list
def Y7:=@Nat.lt_succ_of_lt
def Y8:=@PySem.W.methodCall_KW
def Y9:=@PySem.Paired.length
def Z0:=@Option.isSome_iff_exists
def Z1:=@PySem.wpAny_attempt
def Z2:=@PySem.wpAny_comprehension_free
def Z3:=@PySem.F.slot_list_extend
def Z4:=@PySem.W.any_some
def Z5:=@PySem.codeAny_call_builtin_at
def Z6:=@PySem.F.args_dict_pop_3
def Z7:=@PySem.wpAny_pyNext_enum_itemD
def Z8:=@List.getElem_map
def Z9:=@PyProof.Rows.subscriptTail_builtinR
def ZA0:=@PySem.call_meets
def ZA1:=@PySem.F.entry_dict_pop
def ZA2:=@PySem.Txt.slice_le
def ZA3:=@PySem.wpAny_pyNext_enum_endD
def ZA4:=@Nat.mul_succ
def ZA5:=@List.sum_replicate_nat
def ZA6:=@PySem.wpAny_loadPart'
def ZA7:=@List.foldl_cons
def ZA8:=@List.nil_append
def ZA9:=@Nat.min_le_left
def ZB0:=@PySem.W.looks_clsIn
def ZB1:=@PySem.W.looks_mroIn
def ZB2:=@PySem.W.plainGet_of
def ZB3:=@PySem.wpAny_loadPart
def ZB4:=@PySem.wpAny_setField
def ZB5:=@Int.pow_pos
def ZB6:=@Nat.mul_le_mul
def ZB7:=@PySem.rangeSize_one
def ZB8:=@PySem.W.check_slot
def ZB9:=@PySem.W.Looks.here
def ZC0:=@PySem.call_range_1
def ZC1:=@PySem.seqIndex_neg
def ZC2:=@Bool.or_true
def ZC3:=@Int.pow_succ
local macro_rules|`(tactic|trivial)=>`(tactic|first|exact Or.inl rfl|exact Or.inr rfl|exact Or.inr (Or.inl rfl)|exact Or.inr (Or.inr rfl))
namespace PySem.W.Fast
def tw17523288148879910037:=0
def tw14341183031380929389:=0
def tw8567461682000979624:=0
def tw1173710425484274482:=0
def tw17176485058096787765:=0
def tw13179876183922393330:=0
def tw2183615633546339665:=0
def tw13975812266398743742:=0
def tw10988192026394103789:=0
def tw11584202733911991862:=0
def tw2334909149749675693:=0
def tw4445478412591956065:=0
def tw2928585345271553143:=0
def tw10831002222611969421:=0
def tw17824338937223891561:=0
def tw16516787367808300860:=0
def tw13155560803114633452:=0
def tw8631974850967604262:=0
def tw5006952826859858134:=0
def tw7113544541619291013:=0
def tw13535134488740865254:=0
def tw14665192048489384891:=0
def tw3704397229037760839:=0
def tw6767010584427256416:=0
def tw18364836568403485563:=0
def tw2821317391433906055:=0
def tw748981056423229515:=0
def tw16420473079016718100:=0
def tw17261744773987010268:=0
def tw205077019259896614:=0
def tw462376047395047903:=0
def tw12225105890909541468:=0
def tw8528410256738950893:=0
def tw16363375049488323784:=0
def tw15427105347671150865:=0
def tw8061330471067503768:=0
def tw13087393929289672304:=0
def tw1487096505943710336:=0
def tw14908032357676124291:=0
def tw11192582896616012287:=0
def tw10264219817677651392:=0
def tw9646330233572801130:=0
def tw2819405786939616088:=0
def tw3802648802599541566:=0
def tw4376086609458566371:=0
def tw3778172581354041437:=0
def tw16883314376399181497:=0
def tw17296069043654092948:=0
def tw18082808165002874500:=0
def tw11180249471259716577:=0
def tw5683660225927931160:=0
def tw9981703460452155370:=0
def tw2240872292061030717:=0
def tw8999985983892217706:=0
def tw16496425558827467883:=0
def tw12648080990366458559:=0
def tw12493017901624212346:=0
def tw93968847126127168:=0
def tw14170509944670507423:=0
def tw14664466210343932144:=0
def tw16060055961635731793:=0
def tw15965019387747925157:=0
def tw4569658066230688522:=0
def tw9864787521877152456:=0
def tw10940832773750068295:=0
def tw13885214098981408908:=0
def tw4926418797983235735:=0
def tw4609524947572074866:=0
def tw1217550968260444696:=0
def tw5684696494237436256:=0
def tw3514267825049597990:=0
def tw10829270563771304483:=0
def tw5427827583882404423:=0
def tw1751398590867169229:=0
def tw11895092846715936632:=0
def tw18271814549199562473:=0
def tw15559748659643205129:=0
def tw9809610417471008584:=0
def tw13834862836468299954:=0
def tw14262323422515502305:=0
def tw12329899083304097970:=0
def tw11733662246993377482:=0
def tw5106481110913640217:=0
def tw12942917678378327852:=0
def tw3743809621660109577:=0
def tw11528673763156829656:=0
def tw13016574770877545605:=0
def tw7420839027434126309:=0
def tw17915827661369889512:=0
def tw6844128309114395648:=0
def tw10624702877463211921:=0
def tw16562845458043677540:=0
def tw3587906190396317180:=0
def tw9924697669176759151:=0
def tw2221733489513023070:=0
def tw8932964594454164694:=0
def tw12804681818583782226:=0
def tw12706088832449023749:=0
def tw12039446259946578907:=0
def tw13104481046055207545:=0
def tw751718629980585778:=0
def tw3134204119885557110:=0
def tw9675977168919943164:=0
def tw4566160763213527783:=0
def tw18363486854509565824:=0
def tw10549174181003999857:=0
def tw5501860845680027918:=0
def tw11537867372361504312:=0
def tw17692397869807777761:=0
def tw9964858575344069305:=0
def tw8277542422662075930:=0
def tw14645257154418757497:=0
def tw7787442254317662919:=0
def tw11705465639448933653:=0
def tw4949633809672548671:=0
def tw8211315023149911285:=0
def tw13943523744679193234:=0
def tw4316036608115594608:=0
def tw14872927000091172857:=0
def tw6795167837173664089:=0
def tw14438527249584685493:=0
def tw11439293667229399424:=0
def tw5281735914707489111:=0
def tw3632796988571222786:=0
def tw4719769661756653761:=0
def tw13320837662659753924:=0
def tw10324217707409380901:=0
def tw8651912294446000708:=0
def tw5512694834744162206:=0
def tw17780234216410866060:=0
def tw11807172294616283199:=0
def tw4433180176823387284:=0
def tw13847453528507723704:=0
def tw18126706394918626146:=0
def tw3083901370683149302:=0
def tw14446185382774515918:=0
def tw3735175541239107625:=0
def tw8834927799445099458:=0
def tw3344234192248694105:=0
def tw11368283757605488913:=0
def tw8623819154741423980:=0
def tw16282825463314151902:=0
def tw12228981321657577279:=0
def tw1420778518680154276:=0
def tw1247750316986169092:=0
def tw13996922037019020898:=0
def tw8290927704177608861:=0
def tw2545432586646685300:=0
def tw7152639415433797009:=0
def tw5778296062503876905:=0
def tw16136489614763185155:=0
def tw1304324883409969061:=0
def tw9396725968412454694:=0
def tw7620236140543194531:=0
def tw7616345610150943258:=0
def tw9848160442858965737:=0
def tw2769404530640430992:=0
def tw8911030817076260353:=0
def tw8748037614099124010:=0
def tw11134753796351290578:=0
def tw2514984695806551638:=0
def tw2770901892188560484:=0
def tw10892201791322460811:=0
def tw16986725628682653790:=0
def tw10565446581833496951:=0
def tw16229997341011581743:=0
def tw13753788309593912449:=0
def tw299208310650797666:=0
def tw8701168762382083408:=0
def tw2912593596098563920:=0
def tw4380212449508089577:=0
def tw11307144886263599836:=0
def tw17913106870789718023:=0
def tw4970851395551061017:=0
def tw3527691322659852222:=0
def tw284813240759374301:=0
def tw6634411130445701929:=0
def tw16149482556645663729:=0
def tw11511023298001457464:=0
def tw15176767696213701611:=0
def tw2961810430714570459:=0
def tw14572323021867435862:=0
def tw12966891737799891734:=0
def tw12257654750106652579:=0
def tw3684827943390630214:=0
def tw17115309698138324976:=0
def tw10110931251654273735:=0
def tw1766025264295915558:=0
def tw18413311077128125672:=0
def tw2421276513209516003:=0
def tw3991173256040581828:=0
def tw13856170603374741193:=0
def tw12947379202919094446:=0
def tw12453448759408405003:=0
def tw10348158834790898546:=0
def tw17555529577724503352:=0
def tw15424064233319943838:=0
def tw2885092486689768964:=0
def tw15447077982288663840:=0
def tw5328499844952241777:=0
def tw15989731472222772211:=0
def tw6032913912624118642:=0
def tw12628291286684532581:=0
def tw4781070556059804106:=0
def tw15422297818371695966:=0
def tw17280315796460805588:=0
def tw12036105780497839212:=0
def tw1283286810644967610:=0
def tw6112953330590659870:=0
def tw5306271156828912466:=0
def tw17230151063638900921:=0
def tw4763851998332186656:=0
def tw5950149210736870089:=0
def tw3860149059839049393:=0
def tw17933655070504591143:=0
def tw7222119939548410910:=0
def tw5454157349987128978:=0
def tw14142263158494424030:=0
def tw5931804145229928135:=0
def tw7771725708264520334:=0
def tw14344276698496365266:=0
def tw13590881764193269927:=0
def tw7735392911936497478:=0
def tw9282897309746586838:=0
def tw8084193331667817622:=0
def tw7336646886384077739:=0
def tw11561685417824616151:=0
def tw17651098583639455327:=0
def tw8735907018038742955:=0
def tw7161791601341366184:=0
def tw11845246783822660971:=0
def tw10832650391848025790:=0
def tw4139737873029428330:=0
def tw5735598929591038275:=0
def tw8848520325990073074:=0
def tw353320469615647385:=0
def tw15084728557856552581:=0
def tw11877360961260514477:=0
def tw5932724347366350077:=0
def tw11150842638404389979:=0
def tw10871949141970808445:=0
def tw11161923002942801260:=0
def tw16474852029960445452:=0
def tw12531365425036473435:=0
def tw4707742990119949411:=0
def tw238160006674836760:=0
def tw11083132123235585664:=0
def tw13415546889750689302:=0
def tw18015260447229663387:=0
def tw16461920963110131887:=0
def tw3653488234801523729:=0
def tw14327439554560267736:=0
def tw6466717121697773019:=0
def tw3427952385684893184:=0
def tw8730235377567076134:=0
def tw11241694891204473728:=0
def tw13679233418671805970:=0
def tw10709775059117154177:=0
def tw15402501080926977815:=0
def tw17694228154797808984:=0
def tw935762450098099562:=0
def tw13267186768607552084:=0
def tw12930479369340685137:=0
def tw9285846072351057480:=0
def tw3210868608057142669:=0
def tw14039120934191763777:=0
def tw10869186349238838306:=0
def tw9179569539050497882:=0
def tw14477930806105886159:=0
def tw5781106606046691795:=0
def tw5471740856045360662:=0
def tw14310963370653034741:=0
def tw688650562746368408:=0
def tw17625788856219919244:=0
def tw18391117908639996741:=0
def tw4085837809772437790:=0
def tw6101650087170832251:=0
def tw11479296246430299018:=0
def tw15593155035587586261:=0
def tw5531240247186045833:=0
def tw15323873658554594221:=0
def tw3648032559015510961:=0
def tw16938202711685006703:=0
def tw10083679197439424665:=0
def tw4279310437457988276:=0
def tw8870561413363622737:=0
def tw11628727018496847077:=0
def tw6614878402456202811:=0
def tw1741181094032870054:=0
def tw10416978337112513467:=0
def tw9936181558908437065:=0
def tw8029908260333120236:=0
def tw4703044855769058214:=0
def tw11616283417187371240:=0
def tw9210316585908559027:=0
def tw5464927021938725595:=0
def tw3488162918422860956:=0
def tw17894256906229424134:=0
def tw17431347501377966296:=0
def tw9224622049173175931:=0
def tw2838827975737275298:=0
def tw3517436503723725094:=0
def tw2111114069149027911:=0
def tw8688341254418980970:=0
def tw6664671643856280842:=0
def tw3437136577288057090:=0
def tw192422296714209920:=0
def tw10615233285020238567:=0
def tw883933077063348548:=0
def tw8584010786326998212:=0
def tw645931320962674967:=0
def tw10732784151956577348:=0
def tw3256926080533540979:=0
def tw15056516929137553790:=0
def tw6256527637497511596:=0
def tw4627945550753063518:=0
def tw15611107717610171:=0
def tw8718063238666613887:=0
def tw14284641229633563629:=0
def tw12291484458385349227:=0
def tw11077764898762302700:=0
def tw8279660714255697881:=0
def tw5216640483015235468:=0
def tw5721922503936751631:=0
end PySem.W.Fast
noncomputable section
open PySem.W (Frag InitBack InstAt KitX Looks any_some bind_fn callWith_K callWith_K0 cellsFrom_some check_slot class_get clsIn cls_value codeIn codeRec_of emptyDict eq_bytes exmOne exm_one findCls findIn findObj findObj_own fnOf get_value handedIn handedOut_of handed_on hasDictIn hideAll hideAll_get hideAll_none hideAll_size instObj isFn kdl_call kdl_dict keepIn ki_setAt ki_setBack kia_one kia_tup kitAny kitOne kitx_bool kitx_int kitx_list kitx_none kitx_own kitx_str kitx_tuple kun_itemsOf lookIn looks_clsIn looks_find looks_findIn looks_mroIn make_core makesIn makes_of methodCall_KW methodObj method_cls method_fn mg_none_of mg_of mroIn ne_bytes notCls nsIn of_hideAll osa_eq osa_open plainGet plainGet_of plainOver readsIn set_plain specialIn takerIn takesIn truthy_bytes typeIn)
local macro_rules
 | `(tactic| rfl') => `(tactic| kernel_rfl)
local macro_rules
 | `(tactic| simp![$xs,*] $[$l:location]?) => `(tactic| simp only[Nat.reduceAdd, Nat.reduceSub, Nat.reduceLeDiff, ↓reduceIte, reduceCtorEq, $xs,*] $[$l:location]?)
local macro_rules|`(())=>`(by omega)
local macro_rules|`(⋯)=>`(by decide)|`(nofun)=>`(by decide +kernel)|`(∅)=>`(by rfl')
abbrev AG(x:PySem.Str):Prop:=(x==("__debug__" :PySem.Str))=false
abbrev AE:=List (PySem.Addr×PySem.Obj)
abbrev AB:=PySem.Str->Option PySem.Value
abbrev AA:=PySem.Value->PySem.Shared->Prop
namespace L2
open PySem PySem.Spec PyProof.Rows
abbrev Av:=Sum Int Str
def bs_3:Av->Value->Bool
 | .inl k,v=>Value.isInt k v
 | .inr x,v=>Value.isStrOf x v
def keyH(w:World):Av->Int
 | .inl k=>hashInt k
 | .inr x=>hashStr w x
def k_4:∀{k:Av} {v:Value},bs_3 k v=true->(∃i t,k=Sum.inl i/\v=Value.int i t)\/(∃x t,k=Sum.inr x/\v=Value.str x t)
 | .inl i,v,h=>by
  obtain⟨t,e⟩:=Value.isInt_shape (k:=i) (v:=v) h;exact .inl ⟨i,t,rfl,e⟩
 | .inr x,v,h=>by
  obtain⟨t,e⟩:=Value.isStrOf_shape (x:=x) (v:=v) h;exact .inr ⟨x,t,rfl,e⟩
def df_9(i:Int)(t:Tok):bs_3 (.inl i) (.int i t)=true:=by simp[bs_3,Value.isInt]
def dg_0(x:Str)(t:Tok):bs_3 (.inr x) (.str x t)=true:=by simp[bs_3,Value.isStrOf]
def el_0(a b:Int):decide ((Sum.inl a:Av)=Sum.inl b)=(a ==b):=by
 by_cases e:a=b
 ·subst e;simp
 ·have h:¬(Sum.inl a:Av)=Sum.inl b:=λq=>e (Sum.inl.inj q);rw[D8 h];exact(R0.mpr e).symm
def el_1(a b:Str):decide ((Sum.inr a:Av)=Sum.inr b)=decide (a=b):=by
 by_cases e:a=b
 ·subst e;simp
 ·have h:¬(Sum.inr a:Av)=Sum.inr b:=λq=>e (Sum.inr.inj q);rw[D8 h,D8 e]
def el_2(a:Int)(b:Str):decide ((Sum.inl a:Av)=Sum.inr b)=false:=D8 (λq=>nomatch q)
def el_3(a:Str)(b:Int):decide ((Sum.inr a:Av)=Sum.inl b)=false:=D8 (λq=>nomatch q)
def k_1(prog:Program)(w:World):PySem.KeyKind prog w Av where
 is:=bs_3
 hash:=keyH w
 inj:=λv a b ha hb=>by
  rcases k_4 ha with⟨i,t,rfl,rfl⟩|⟨x,t,rfl,rfl⟩
  ·rcases k_4 hb with⟨j,u,rfl,e⟩|⟨y,u,rfl,e⟩
   ·injection e with e1 _;rw[e1]
   ·exact nomatch e
  ·rcases k_4 hb with⟨j,u,rfl,e⟩|⟨y,u,rfl,e⟩
   ·exact nomatch e
   ·injection e with e1 _;rw[e1]
 byValue:=λk v h=>by
  rcases k_4 h with⟨i,t,rfl,rfl⟩|⟨x,t,rfl,rfl⟩ <;> rfl
 pyHash:=λhv h=>by
  rcases k_4 hv with⟨i,t,rfl,rfl⟩|⟨x,t,rfl,rfl⟩
  ·exact wpAny_pyHash_int h
  ·exact wpAny_pyHash_str h
 eqBool:=λhu hv h=>by
  rcases k_4 hu with⟨i,t,rfl,rfl⟩|⟨x,t,rfl,rfl⟩
  ·rcases k_4 hv with⟨j,u,rfl,rfl⟩|⟨y,u,rfl,rfl⟩
   ·rw[el_0]at h;exact wpAny_eqBool_int h
   ·rw[el_2]at h;exact SeqAt.EqAt.int_str i t y u _ _ _ _ h
  ·rcases k_4 hv with⟨j,u,rfl,rfl⟩|⟨y,u,rfl,rfl⟩
   ·rw[el_3]at h;exact SeqAt.EqAt.str_int x t j u _ _ _ _ h
   ·rw[el_1]at h;exact wpAny_eqBool_str h
 «strs»:=λk x t v h=>by
  rcases k_4 h with⟨i,u,rfl,e⟩|⟨y,u,rfl,e⟩
  ·exact nomatch e
  ·injection e with e1 _
   subst e1;cases v <;> rfl
def cf_7(prog:Program)(w:World)(i:Int)(t:Tok):(k_1 prog w).is (.inl i) (.int i t)=true:=df_9 i t
def cf_8(prog:Program)(w:World)(x:Str)(t:Tok):(k_1 prog w).is (.inr x) (.str x t)=true:=dg_0 x t
inductive V where
 |non|bl (b:Bool)|int (i:Int)|str (x:Str)|byt (b:Array UInt8)|flt (b:UInt64)|ref (a:Addr)|ty (n:String)
 deriving DecidableEq
def RelV:V->Value->Prop
 | .non,u=>u=Value.none
 | .bl b,u=>u=Value.bool b
 | .int i,u=>∃t,u=Value.int i t
 | .str x,u=>∃t,u=Value.str x t
 | .byt b,u=>∃t,u=Value.bytes b t
 | .flt b,u=>∃t,u=Value.float b t
 | .ref a,u=>u=Value.ref a
 | .ty n,u=>u=Value.type n
abbrev Vals:List V->List Value->Prop:=Paired RelV
theorem Vals.length{xs:List V}{us:List Value}(r:Vals xs us):xs.length=us.length:=Y9 r
theorem Vals.get:∀{xs:List V} {us:List Value} {i:Nat} {x:V},Vals xs us->xs[i]? =some x->∃u,us[i]? =some u/\RelV x u
 |_,_,_,_,.nil,e=>by simp at e
 |_,_,0,_,.cons r _,e=>by simp at e;subst e;exact⟨_,rfl,r⟩
 |_,_,i + 1,x,.cons _ t,e=>by
  obtain⟨u,h1,h2⟩:=Vals.get (i:=i) (x:=x) t (by simpa using e);exact⟨u,by simpa using h1,h2⟩
theorem Vals.set{x:V}{u:Value}(r:RelV x u):∀{xs:List V} {us:List Value} (i:Nat),Vals xs us->Vals (xs.set i x) (us.set i u)
 |_,_,_,.nil=> .nil
 |_,_,0,.cons _ t=> .cons r t
 |_,_,i + 1,.cons q t=> .cons q (Vals.set r i t)
theorem Vals.append:∀{xs ys:List V} {us ws:List Value},Vals xs us->Vals ys ws->Vals (xs ++ ys) (us ++ ws)
 |_,_,_,_,.nil,s=>s
 |_,_,_,_,.cons r t,s=> .cons r (Vals.append t s)
theorem Vals.take:∀{xs:List V} {us:List Value} (n:Nat),Vals xs us->Vals (xs.take n) (us.take n)
 |_,_,0,_=> .nil
 |_,_,_ + 1,.nil=> .nil
 |_,_,n + 1,.cons r t=> .cons r (Vals.take n t)
theorem Vals.drop:∀{xs:List V} {us:List Value} (n:Nat),Vals xs us->Vals (xs.drop n) (us.drop n)
 |_,_,0,r=>r
 |_,_,_ + 1,.nil=> .nil
 |_,_,n + 1,.cons _ t=>Vals.drop n t
def RelO:Option V->Option Value->Prop
 |some v,some u=>RelV v u
 |none,none=>True
 |_,_=>False
def KV{κ:Type}:List (κ×V)->List (κ×Value)->Prop:=Paired λ(p:κ×V) (q:κ×Value)=>p.1=q.1/\RelV p.2 q.2
def kV:Av->V
 | .inl i=> .int i
 | .inr x=> .str x
inductive HO where
  |lst (xs:List V)
  |tup (xs:List V)
  |dK (kvs:List (Av×V))|dT (kvs:List (List Av×V))
  |set (S:Int->Bool) (n:Nat)
  |ins (C dx:Addr) (fs:List (Str×V))
  |own (x:Addr)
  |xd (fs:List (Str×V))
  |met (f x:Addr)
  |rng (lo hi:Int)
  |frz (o:Obj) (u:HO)
  |tbl (ps:Array Value)
  |ext (φ:Heap->Prop)
abbrev Hp:=Addr->Option HO
def upd(H:Hp)(a:Addr)(o:HO):Hp:=λb=>if b=a then some o else H b
def Ct{H:Hp}{a:Addr}{o:HO}:upd H a o a=some o:=by unfold upd;rw[if_pos rfl]
def Bm{H:Hp}{a b:Addr}{o:HO}(h:b≠a):upd H a o b=H b:=by unfold upd;rw[if_neg h]
def eu_0{H:Hp}{a b:Addr}{o u:HO}(h:H a=some o)(h':H b=some u)(d:o≠u):a≠b:=by
 intro e;subst e;rw[h]at h';exact d (J8 h')
def Hx{H:Hp}{a b:Addr}{o:HO}(h:H a=some o)(h':H b=none):a≠b:=by
 intro e;subst e;rw[h]at h';cases h'
section
variable(P:Program)(w:World)
def ObjOk(H:Hp)(h:Heap)(a:Addr):HO->Prop
 | .lst xs=>xs.length<=sizeLine/\∃(its:List Value) (n:Nat),Vals xs its/\h.get? a=some {cls:=.type "list",data:=.seq its.toArray n}
 | .tup xs=>xs.length<=sizeLine/\∃its:List Value,Vals xs its/\IsTup h a its.toArray
 | .dK kvs=>kvs.length<=sizeLine/\(a ==sysModules)=false/\∃vs,KV kvs vs/\h.DictOf (k_1 P w) a vs
 | .dT kvs=>kvs.length<=sizeLine/\(a ==sysModules)=false/\∃xs:List (List Av×Addr×Value),
   Paired (λ(p:List Av×V) (q:List Av×Addr×Value)=>p.1=q.1/\H q.2.1=some (.tup (p.1.map kV))/\RelV p.2 q.2.2) kvs xs/\
   ∃o es ep,h.get? a=some o/\o.ExactDict/\o.data=.dict es ep/\es.toList=xs.map (entryOfKey (tupleKind (k_1 P w)))/\(xs.map (·.1)).Nodup
 | .set S n=>h.SetOf (intKind P w) a S n
 | .ins C dx fs=>H dx=some (.own a)/\fs.length<=1000/\dx≠a/\h.get? a=some (instObj C dx)/\
   ∃mA,h.Ns1 dx mA/\(∀f,RelO (fs.lookup f) (mA f))/\PySem.Within mA (fs.map (·.1))
 | .own _=>∃o,h.get? a=some o
 | .xd fs=>∃mA,h.Ns1 a mA/\∀f,RelO (fs.lookup f) (mA f)
 | .rng lo hi=>∃t u v,h.get? a=some {cls:=.type "range",data:=.fields #[.int lo t,.int hi u,.int 1 v]}
 | .frz o u=>h.get? a=some o/\ObjOk H h a u
 | .tbl ps=>h.get? a=some {cls:=.none,data:=.fields ps}
 | .met f x=>h.get? a=some (methodObj (.ref f) (.ref x))
 | .ext φ=>φ h/\(∃o,h.get? a=some o)/\∀h1 h2:Heap,φ h1->(∀o,h1.get? a=some o->h2.get? a=some o)->φ h2
def HOk(H:Hp)(h:Heap):Prop:=∀a o,H a=some o->ObjOk P w H h a o
end
section
variable{P:Program}{w:World}{H H':Hp}{h h':Heap}{a:Addr}{o:HO}
theorem ObjOk.lt(x:ObjOk P w H h a o):a < h.objs.size:=by
 cases o with
 |lst xs=>obtain⟨_,_,_,_,e⟩:=x;exact A7 e
 |tup xs=>obtain⟨_,_,_,p⟩:=x;exact p.lt
 |dK kvs=>obtain⟨_,_,_,_,o,_,_,e,_⟩:=x;exact A7 e
 |dT kvs=>obtain⟨_,_,_,_,o,_,_,e,_⟩:=x;exact A7 e
 |set S n=>obtain⟨o,_,_,_,e,_⟩:=x;exact A7 e
 |ins C dx fs=>obtain⟨_,_,_,e,_⟩:=x;exact A7 e
 |own y=>obtain⟨_,e⟩:=x;exact A7 e
 |xd fs=>obtain⟨_,⟨_,_,_,e,_⟩,_⟩:=x;exact A7 e
 |rng lo hi=>obtain⟨_,_,_,e⟩:=x;exact A7 e
 |frz ob u=>obtain⟨e,_⟩:=x;exact A7 e
 |tbl ps=>exact A7 (show h.get? a=some _ from x)
 |met f y=>exact A7 (show h.get? a=some _ from x)
 |ext φ=>obtain⟨_,⟨_,e⟩,_⟩:=x;exact A7 e
theorem Paired.mapP{α β:Type}{F G:α->β->Prop}:∀{l₁:List α} {l₂:List β},Paired F l₁ l₂->(∀a b,F a b->G a b)->Paired G l₁ l₂
 |_,_,.nil,_=> .nil
 |_,_,.cons r t,f=> .cons (f _ _ r) (Paired.mapP t f)
def ObjOk.stay(x:ObjOk P w H h a o)(k:∀b u,(b=a\/H b=some (.own a))->h.get? b=some u->h'.get? b=some u)
  (ho:∀b,H b=some (.own a)->H' b=some (.own a)) (ht:∀b xs,H b=some (.tup xs)->H' b=some (.tup xs)):ObjOk P w H' h' a o:=by
 induction o with
 |lst xs=>obtain⟨z,its,n,r,e⟩:=x;exact⟨z,its,n,r,k _ _ (.inl rfl) e⟩
 |tup xs=>obtain⟨z,its,r,ob,e,c⟩:=x;exact⟨z,its,r,ob,k _ _ (.inl rfl) e,c⟩
 |dK kvs=>obtain⟨z,y,vs,r,ob,es,ep,e,c⟩:=x;exact⟨z,y,vs,r,ob,es,ep,k _ _ (.inl rfl) e,c⟩
 |dT kvs=>
  obtain⟨z,y,xs,r,ob,es,ep,e,c⟩:=x;exact⟨z,y,xs,Paired.mapP r λp q z=>⟨z.1,ht _ _ z.2.1,z.2.2⟩,ob,es,ep,k _ _ (.inl rfl) e,c⟩
 |set S n=>obtain⟨ob,es,ep,t,e,c⟩:=x;exact⟨ob,es,ep,t,k _ _ (.inl rfl) e,c⟩
 |ins C dx fs=>
  obtain⟨d,z,ne,e,mA,⟨od,es,ep,e2,c⟩,r⟩:=x;exact⟨ho _ d,z,ne,k _ _ (.inl rfl) e,mA,⟨od,es,ep,k _ _ (.inr d) e2,c⟩,r⟩
 |own y=>obtain⟨ob,e⟩:=x;exact⟨ob,k _ _ (.inl rfl) e⟩
 |xd fs=>obtain⟨mA,⟨od,es,ep,e,c⟩,r⟩:=x;exact⟨mA,⟨od,es,ep,k _ _ (.inl rfl) e,c⟩,r⟩
 |rng lo hi=>obtain⟨t,u,v,e⟩:=x;exact⟨t,u,v,k _ _ (.inl rfl) e⟩
 |frz ob u ih=>obtain⟨e,q⟩:=x;exact⟨k _ _ (.inl rfl) e,ih q⟩
 |tbl ps=>
  have e:h.get? a=some {cls:=.none,data:=.fields ps}:=x;show h'.get? a=some {cls:=.none,data:=.fields ps};exact k a _ (.inl rfl) e
 |met f y=>
  have e:h.get? a=some (methodObj (.ref f) (.ref y)):=x;show h'.get? a=some (methodObj (.ref f) (.ref y));exact k a _ (.inl rfl) e
 |ext φ=>obtain⟨p,⟨o,e⟩,st⟩:=x;exact⟨st _ _ p λo q=>k _ _ (.inl rfl) q,⟨o,k _ _ (.inl rfl) e⟩,st⟩
theorem HOk.lt(x:HOk P w H h)(e:H a=some o):a < h.objs.size:=(x a o e).lt
def HOk.fresh(x:HOk P w H h)(e:h.objs.size<=a):H a=none:=by
 cases q:H a with
 |none=>rfl
 |some u=>exact absurd (B5 (x.lt q) e) (F5 _)
def HOk.kept(x:HOk P w H h)(k:∀b u,h.get? b=some u->h'.get? b=some u):HOk P w H h':=λa o e=>
 (x a o e).stay (λb u _ q=>k b u q) (λ_ q=>q) λ_ _ q=>q
def HOk.laid(x:HOk P w H h)(k:∀b u,h.get? b=some u->h'.get? b=some u)(hp:h.objs.size<=a)(new:ObjOk P w (upd H a o) h' a o):HOk P w (upd H a o) h':=λb u e=>by
 have hn:=x.fresh hp
 by_cases hb:b=a
 ·subst hb;rw[Ct]at e;cases e;exact new
 ·rw[Bm hb]at e;exact(x b u e).stay (λc v _ q=>k c v q) (λc q=>by rw[Bm (Hx q hn)];exact q) λc xs q=>by rw[Bm (Hx q hn)];exact q
end
def Rd(H:Hp)(a:Addr)(u:HO):Prop:=H a=some u\/∃o,H a=some (.frz o u)
def Rd.ok{P:Program}{w:World}{H:Hp}{h:Heap}{a:Addr}{u:HO}(r:Rd H a u)(x:HOk P w H h):ObjOk P w H h a u:=by
 rcases r with r|⟨o,r⟩
 ·exact x a u r
 ·obtain⟨_,q⟩:=x a _ r;exact q
def Mut:Option HO->Prop
 |some (.lst _)=>True
 |some (.dK _)=>True
 |some (.dT _)=>True
 |some (.set _ _)=>True
 |some (.ins _ _ _)=>True
 |some (.ext _)=>True
 |_=>False
section
variable{P:Program}{w:World}{H:Hp}{h h':Heap}{x e:Addr}{o':HO}
def HOk.write(ok:HOk P w H h)(mu:Mut (H x))(he:e=x\/H e=some (.own x))(k:∀b u,b≠e->h.get? b=some u->h'.get? b=some u)(heo:∃u,h'.get? e=some u)
  (new:ObjOk P w (upd H x o') h' x o'):HOk P w (upd H x o') h':=λb u q=>by
 have dk:∀c y,H c=some (.own y)->c≠x:=λc y r z=>by subst z;rw[r]at mu;exact mu
 have gq:∀c xs,H c=some (.tup xs)->c≠x:=λc xs r z=>by subst z;rw[r]at mu;exact mu
 by_cases hb:b=x
 ·subst hb;rw[Ct]at q;cases q;exact new
 ·rw[Bm hb]at q
  by_cases hbe:b=e
  ·have q':H b=some (.own x):=by
    rcases he with z|z
    ·exact absurd (hbe.trans z) hb
    ·rw[hbe];exact z
   rw[q]at q';cases q';obtain⟨v,hv⟩:=heo;exact⟨v,by rw[hbe];exact hv⟩
  ·refine(ok b u q).stay (λc v hc r=>k c v ?_ r) (λc r=>by rw[Bm (dk c b r)];exact r) λc xs r=>by rw[Bm (gq c xs r)];exact r
   rcases hc with rfl|hc
   ·exact hbe
   ·rintro rfl
    rcases he with z|z
    ·exact dk c b hc z
    ·rw[hc]at z;cases z;exact hb rfl
end
structure Un(fs ex:List Addr)(H H':Hp)(h h':Heap):Prop where
 keep:∀b o,h.get? b=some o->H b=none->b∉fs->b∉ex->h'.get? b=some o
 slot:∀b o,h.get? b=some o->H b=none->b∈fs->b∉ex->∃sl,h'.get? b=some {o with slots:=sl}
 free:∀b o,h.get? b=some o->H b=none->b∉ex->H' b=none
 there:∀b o,h.get? b=some o->b∉ex->∃o',h'.get? b=some o'
 tups:∀b xs,H b=some (.tup xs)->H' b=some (.tup xs)
 frzs:∀b o u,H b=some (.frz o u)->H' b=some (.frz o u)
 tbls:∀b ps,H b=some (.tbl ps)->∃more,H' b=some (.tbl (ps ++ more))
section
variable{fs fs' ex ex':List Addr}{H H1 H2:Hp}{h h1 h2 h':Heap}{a x e:Addr}{o:HO}
def Un.any(u:Un fs ex H H1 h h1){b:Addr}{ob:Obj}(q:h.get? b=some ob)(n:H b=none)(hx:b∉ex):∃sl,h1.get? b=some {ob with slots:=sl}:=by
 by_cases hb:b∈fs
 ·exact u.slot b ob q n hb hx
 ·exact⟨ob.slots,u.keep b ob q n hb hx⟩
def Un.kept(k:∀b u,h.get? b=some u->h'.get? b=some u):Un fs ex H H h h':=
 ⟨λb ob q _ _ _=>k b ob q,λb ob q _ _ _=>⟨ob.slots,k b ob q⟩,λ_ _ _ n _=>n,λb ob q _=>⟨ob,k b ob q⟩,λ_ _ q=>q,λ_ _ _ q=>q,λ_ ps q=>⟨#[],by rw[q];simp⟩⟩
def Un.refl:Un fs ex H H h h:=Un.kept λ_ _ q=>q
def Un.laid(k:∀b u,h.get? b=some u->h'.get? b=some u)(hp:h.objs.size<=a)(hn:H a=none):Un fs ex H (upd H a o) h h' where
 keep:=λb u q _ _ _=>k b u q
 slot:=λb u q _ _ _=>⟨u.slots,k b u q⟩
 free:=λb u q n _=>by rw[Bm (C7 (B5 (A7 q) hp))];exact n
 there:=λb u q _=>⟨u,k b u q⟩
 tups:=λb xs q=>by rw[Bm (Hx q hn)];exact q
 frzs:=λb u xs q=>by rw[Bm (Hx q hn)];exact q
 tbls:=λb ps q=>⟨#[],by rw[Bm (Hx q hn),q];simp⟩
def Un.write(mu:Mut (H x))(he:e=x\/H e=some (.own x))(k:∀b u,b≠e->h.get? b=some u->h'.get? b=some u)(heo:∃u,h'.get? e=some u):Un fs ex H (upd H x o) h h':=by
 have hx:∀b,H b=none->b≠x:=λb n z=>by subst z;rw[n]at mu;exact mu
 have hb:∀b,H b=none->b≠e:=λb n z=>by
  subst z;rcases he with r|r
  ·exact hx b n r
  ·rw[n]at r;cases r
 have hm:∀b u,H b=some u->¬Mut (some u)->b≠x:=λb u q nm z=>by subst z;rw[q]at mu;exact nm mu
 refine⟨λb u q n _ _=>k b u (hb b n) q,λb u q n _ _=>⟨u.slots,k b u (hb b n) q⟩,λb u q n _=>by rw[Bm (hx b n)];exact n,λb u q _=> ?_,
  λb xs q=>by rw[Bm (hm b _ q λz=>z)];exact q,λb u xs q=>by rw[Bm (hm b _ q λz=>z)];exact q,λb ps q=>⟨#[],by rw[Bm (hm b _ q λz=>z),q];simp⟩⟩
 by_cases hbe:b=e
 ·subst hbe;exact heo
 ·exact⟨u,k b u hbe q⟩
end
def trk(h:Heap)(H:Hp):List Addr:=(List.range h.objs.size).filter λa=>(H a).isSome
def hidT(h:Heap)(H:Hp):Heap:=hideAll h (trk h H)
def dg_1(h:Heap)(H:Hp):(hidT h H).objs.size=h.objs.size:=hideAll_size _ _
def dn_5{h:Heap}{H:Hp}{b:Addr}{o:Obj}(e:h.get? b=some o)(n:H b=none):(hidT h H).get? b=some o:=
 hideAll_get _ e λhm=>by
  have q:(H b).isSome=true:=(W4.mp hm).2;rw[n]at q;simp at q
def ea_0{h:Heap}{H:Hp}{b:Addr}{o:Obj}(e:(hidT h H).get? b=some o):h.get? b=some o/\H b=none:=by
 have e':h.get? b=some o:=of_hideAll (trk h H) e;refine⟨e', ?_⟩;cases q:H b with
 |none=>rfl
 |some x=>
  have hm:b∈trk h H:=W4.mpr ⟨J9.mpr (A7 e'),by simp[q]⟩;have z:(hidT h H).get? b=none:=hideAll_none (trk h H) hm;rw[z]at e;cases e
structure Mod(K:Frag)(mg:AB)(base:Heap):Prop where
 kin:K.In base
 glob:base.Ns mainGlobals mg
 blt:∃mb,base.Ns builtinsNs mb/\∀x:Str,x≠ "__name__" ->mb x=bootBuiltins x
 nolimit:base.NoLimit
structure Cx where
 prog:Program
 w:World
 K:Frag
 mg:Str->Option Value
 base:Heap
 A:Around
 N:List Str
 s₀:Shared
 H₀:Hp
 env:Env
 outer:List Env
 stack:List Env
 ex:List Addr
 fn:Str->Bool
 calm:Bool
 pn:AE
 xe:Value->Shared->Prop
def frs(l:List Env):List Addr:=l.filterMap (·.frame)
abbrev Cx.fs(X:Cx):List Addr:=frs X.outer
def Vis(sc:Scope)(x:Str):Prop:=sc.names.lookup x=some .local\/sc.names.lookup x=some .cell\/sc.names.lookup x=some .free
def Loc(sc:Scope)(x:Str):Prop:=sc.names.lookup x=some .local\/sc.names.lookup x=some .cell
def Look(env:Env)(h:Heap)(m:AB)(x:Str)(u:Value):Prop:=
 (env.kindOf x=some .local/\m x=some u)\/((env.kindOf x=some .cell\/env.kindOf x=some .free)/\∃c,env.cells.lookup x=some c/\h.IsCell c (some u))
structure Cx.Ok(X:Cx):Prop where
 mod:Mod X.K X.mg X.base
 kind:X.env.scope.kind=.function
 glob:X.env.globals=mainGlobals
 blt:X.env.builtins=builtinsNs
 above:X.s₀.heap.objs.size<=X.env.locals
 inj:∀x y c,X.env.cells.lookup x=some c->X.env.cells.lookup y=some c->x=y
 has:∀x,(X.env.kindOf x=some .cell\/X.env.kindOf x=some .free)->∃c,X.env.cells.lookup x=some c
 cab:∀x c,X.fn x=true->X.env.cells.lookup x=some c->X.s₀.heap.objs.size<=c
 hd:X.calm=true->X.A.handled=none
 frames:X.A.frames=some X.stack
 stk:X.stack=X.outer\/(X.stack=X.env::X.outer/\X.env.frame=some X.env.locals)
 exf:∀b∈X.ex,b≠X.env.locals/\∀x c,X.env.cells.lookup x=some c->c≠b
 bs:∀b o,X.base.get? b=some o->X.s₀.heap.get? b=some o/\X.H₀ b=none
 bsz:X.base.objs.size<=X.s₀.heap.objs.size
 noex:∀b o,X.base.get? b=some o->b∉X.ex
 exfs:∀b∈X.ex,b∉X.fs
 funs:X.s₀.heap.FunFrames X.base X.outer
 frf:∀b∈X.fs,X.H₀ b=none
structure Inv(X:Cx)(zd:AE)(σ:List (Option V))(H:Hp)(s:Shared):Prop where
 ok:X.Ok
 os:s.os=X.s₀.os
 bare:AllBare s.gens
 base:Un X.fs X.ex X.H₀ H X.s₀.heap s.heap
 loc:∃m,s.heap.Ns X.env.locals m/\∀(i:Nat) (x:Str) (v:V),X.N[i]? =some x->σ[i]? =some (some v)->Vis X.env.scope x->∃u,RelV v u/\Look X.env s.heap m x u
 cell:∀x c,X.env.cells.lookup x=some c->∃v,s.heap.IsCell c v
 free:H X.env.locals=none
 freeC:∀x c,X.env.cells.lookup x=some c->H c=none
 pin:∀p∈X.pn ++ zd,s.heap.get? p.1=some p.2/\H p.1=none/\p.1≠X.env.locals/\p.1∉X.fs/\∀v,p.2.data≠ .cell v
 hok:HOk X.prog X.w H s.heap
 len:σ.length=X.N.length
section
variable{X:Cx}{zd:AE}{σ:List (Option V)}{H H':Hp}{s:Shared}{h':Heap}
def Cx.Ok.nofr(ok:X.Ok){b:Addr}{o:Obj}(e:X.base.get? b=some o):b∉X.fs:=λhb=>by
 have:=(ok.funs.mem hb).1;rw[e]at this;cases this
theorem Inv.bs(I:Inv X zd σ H s):∀b o,X.base.get? b=some o->s.heap.get? b=some o/\H b=none:=λb o e=>
 ⟨I.base.keep b o (I.ok.bs b o e).1 (I.ok.bs b o e).2 (I.ok.nofr e) (I.ok.noex b o e),I.base.free b o (I.ok.bs b o e).1 (I.ok.bs b o e).2 (I.ok.noex b o e)⟩
def Inv.bk(I:Inv X zd σ H s):∀b o,X.base.get? b=some o->s.heap.get? b=some o:=λb o e=>(I.bs b o e).1
theorem Inv.mod(I:Inv X zd σ H s):Mod X.K X.mg X.base:=I.ok.mod
def Inv.kIn(I:Inv X zd σ H s):X.K.In s.heap:=I.ok.mod.kin.keeps I.bk
theorem Inv.nolimit(I:Inv X zd σ H s):s.heap.NoLimit:=I.ok.mod.nolimit.keeps I.bk
def Inv.fr(I:Inv X zd σ H s):∃m,Fr X.base X.env.locals s.heap m:=
 let⟨m,hn,_⟩:=I.loc
 ⟨m,hn,I.bk,C5 I.ok.bsz I.ok.above⟩
theorem Inv.lt(I:Inv X zd σ H s):X.env.locals < s.heap.objs.size:=let⟨_,hn,_⟩:=I.loc;hn.lt
def Inv.sz(I:Inv X zd σ H s):X.s₀.heap.objs.size<=s.heap.objs.size:=C5 I.ok.above (S8 I.lt)
def Inv.nofs(I:Inv X zd σ H s){a:Addr}(h:s.heap.objs.size<=a):a∉X.fs:=λhb=>by
 obtain⟨_,o,ho,_⟩:=I.ok.funs.mem hb;exact absurd (B5 (A7 ho) (C5 I.sz h)) (F5 _)
def Inv.cne(I:Inv X zd σ H s):∀x c,X.env.cells.lookup x=some c->c≠X.env.locals:=λx c e z=>by
 obtain⟨v,o,ho,hd⟩:=I.cell x c e;obtain⟨m,⟨o',es,ep,ho',hd',_⟩,_⟩:=I.loc;rw[z,ho']at ho;cases ho;rw[hd']at hd;cases hd
theorem Inv.funs(I:Inv X zd σ H s):s.heap.FunFrames X.base X.outer:=by
 have all:∀(l:List Env),(∀b∈frs l,b∈X.fs)->X.s₀.heap.FunFrames X.base l->s.heap.FunFrames X.base l:=by
  intro l
  induction l with
  |nil=>intro _ _;trivial
  |cons env r ih=>
   intro hs hl;obtain⟨hk,⟨L,o,hf,hn,ho,hd⟩,hr⟩:=hl;have hL:L∈X.fs:=hs L (by unfold frs;rw[W9,hf];exact F0);obtain⟨sl,e⟩:=I.base.slot L o ho (I.ok.frf L hL) hL λz=>I.ok.exfs L z hL;exact⟨hk,⟨L,_,hf,hn,e,hd⟩,ih (λb hb=>hs b (by unfold frs;rw[W9,hf];exact C9 _ hb)) hr⟩
 exact all X.outer (λ_ hb=>hb) I.ok.funs
theorem Inv.stack(I:Inv X zd σ H s):s.heap.FunFrames X.base X.stack:=by
 rcases I.ok.stk with e|⟨e,hf⟩
 ·rw[e];exact I.funs
 ·rw[e];obtain⟨m,hn,_⟩:=I.loc;refine .cons (by rw[I.ok.kind];decide) hf hn ?_ I.funs;exact N8 (C5 I.ok.bsz I.ok.above)
def Inv.stkSub(I:Inv X zd σ H s):∀b∈frs X.stack,b∈X.env.locals::X.fs:=λb hb=>by
 rcases I.ok.stk with e|⟨e,hf⟩
 ·rw[e]at hb;exact C9 _ hb
 ·rw[e]at hb;unfold frs at hb;rw[W9,hf]at hb;exact hb
def Inv.stkFree(I:Inv X zd σ H s):∀b∈frs X.stack,H b=none:=λb hb=>by
 rcases B3.mp (I.stkSub b hb) with e|hb
 ·rw[e];exact I.free
 ·obtain⟨_,o,ho,_⟩:=I.ok.funs.mem hb;exact I.base.free b o ho (I.ok.frf b hb) λz=>I.ok.exfs b z hb
def Inv.step{g':Array GenState}{t':Nat}{d':Drawn}{ch:List Addr}(I:Inv X zd σ H s)
  (hch:∀b∈ch,(b∈X.ex\/X.s₀.heap.objs.size<=b)/\b≠X.env.locals/\(∀x c,X.env.cells.lookup x=some c->c≠b)/\∀p∈X.pn ++ zd,p.1≠b)
  (keep:∀b o,b≠X.env.locals->b∉X.fs->b∉ch->s.heap.get? b=some o->H b=none->h'.get? b=some o)
  (slot:∀b o,b≠X.env.locals->b∈X.fs->b∉ch->s.heap.get? b=some o->H b=none->∃sl,h'.get? b=some {o with slots:=sl}) (free:∀b o,b∉ch->s.heap.get? b=some o->H b=none->H' b=none)
  (there:∀b o,b∉ch->s.heap.get? b=some o->∃o',h'.get? b=some o')
  (tups:∀b xs,H b=some (.tup xs)->H' b=some (.tup xs)) (frzs:∀b o u,H b=some (.frz o u)->H' b=some (.frz o u)) (tbls:∀b ps,H b=some (.tbl ps)->∃more,H' b=some (.tbl (ps ++ more)))
  (ns:∀m,s.heap.Ns X.env.locals m->h'.Ns X.env.locals m) (hok:HOk X.prog X.w H' h') (hg:AllBare g'):
  Inv X zd σ H' {s with heap:=h',gens:=g',drawn:=d',toks:=t'}:=by
 have neL:∀b o,X.s₀.heap.get? b=some o->b≠X.env.locals:=λb o e=>C7 (B5 (A7 e) I.ok.above);have neC:∀b o,X.s₀.heap.get? b=some o->b∉X.ex->b∉ch:=λb o e hx hb=>by
  rcases(hch b hb).1 with z|z
  ·exact hx z
  ·exact absurd (B5 (A7 e) z) (F5 _)
 have cellK:∀x c,X.env.cells.lookup x=some c->∀v,s.heap.IsCell c v->h'.IsCell c v:=λx c e v ⟨o,ho,hd⟩=>by
  have nch:c∉ch:=λz=>(hch c z).2.2.1 x c e rfl
  by_cases hc:c∈X.fs
  ·obtain⟨sl,q⟩:=slot c o (I.cne x c e) hc nch ho (I.freeC x c e);exact⟨_,q,hd⟩
  ·exact⟨o,keep c o (I.cne x c e) hc nch ho (I.freeC x c e),hd⟩
 refine⟨I.ok,I.os,hg,⟨λb o e n hb hx=> ?_,λb o e n hb hx=> ?_,λb o e n hx=> ?_,λb o e hx=> ?_,λb xs e=>tups b xs (I.base.tups b xs e),λb o xs e=>frzs b o xs (I.base.frzs b o xs e),λb ps e=> ?_⟩, ?_,λx c e=> ?_, ?_,λx c e=> ?_,λp hp=> ?_,hok,I.len⟩
 ·exact keep b o (neL b o e) hb (neC b o e hx) (I.base.keep b o e n hb hx) (I.base.free b o e n hx)
 ·obtain⟨sl,e1⟩:=I.base.slot b o e n hb hx;obtain⟨sl',e2⟩:=slot b _ (neL b o e) hb (neC b o e hx) e1 (I.base.free b o e n hx);exact⟨sl',e2⟩
 ·obtain⟨o',e1⟩:=I.base.there b o e hx;exact free b o' (neC b o e hx) e1 (I.base.free b o e n hx)
 ·obtain⟨o',e1⟩:=I.base.there b o e hx;exact there b o' (neC b o e hx) e1
 ·obtain⟨m1,e1⟩:=I.base.tbls b ps e;obtain⟨m2,e2⟩:=tbls b _ e1;exact⟨m1 ++ m2,by rw[e2,Array.append_assoc]⟩
 ·obtain⟨m,hn,hl⟩:=I.loc;refine⟨m,ns m hn,λi x v e1 e2 e3=> ?_⟩;obtain⟨u,r,l⟩:=hl i x v e1 e2 e3;refine⟨u,r, ?_⟩;rcases l with l|⟨k,c,e,z⟩
  ·exact .inl l
  ·exact .inr ⟨k,c,e,cellK x c e _ z⟩
 ·obtain⟨v,z⟩:=I.cell x c e;exact⟨v,cellK x c e v z⟩
 ·obtain⟨m,⟨o,_,_,ho,_⟩,_⟩:=I.loc;exact free _ o (λz=>(hch _ z).2.1 rfl) ho I.free
 ·obtain⟨v,o,ho,hd⟩:=I.cell x c e;exact free c o (λz=>(hch c z).2.2.1 x c e rfl) ho (I.freeC x c e)
 ·obtain⟨e,n,ne,nf,d⟩:=I.pin p hp;have nch:p.1∉ch:=λz=>(hch p.1 z).2.2.2 p hp rfl;exact⟨keep p.1 p.2 ne nf nch e n,free p.1 p.2 nch e n,ne,nf,d⟩
def Inv.un{t':Nat}(I:Inv X zd σ H s)(u:Un X.fs [] H H' s.heap h')(hok:HOk X.prog X.w H' h'):Inv X zd σ H' {s with heap:=h',toks:=t'}:=by
 obtain⟨m,⟨o,es,ep,ho,r⟩,_⟩:=id I.loc;obtain⟨sl,hL⟩:=u.any ho I.free (by simp);exact I.step (g':=s.gens) (d':=s.drawn) (ch:=[]) (λ_ z=>nomatch z) (λb o _ hb _ e n=>u.keep b o e n hb (by simp)) (λb o _ hb _ e n=>u.slot b o e n hb (by simp)) (λb o _ e n=>u.free b o e n (by simp)) (λb o _ e=>u.there b o e (by simp)) u.tups u.frzs u.tbls (λm' hm=>by
  obtain⟨o',es',ep',ho',r'⟩:=hm;rw[ho]at ho';cases ho';exact⟨_,es',ep',hL,r'⟩) hok I.bare
def Inv.call{g':Array GenState}{t':Nat}{d':Drawn}{ch:List Addr}(I:Inv X zd σ H s)(u:Un (frs X.stack) ch H H' s.heap h')(hok:HOk X.prog X.w H' h')(hg:AllBare g')
  (hch:∀b∈ch,(b∈X.ex\/X.s₀.heap.objs.size<=b)/\b≠X.env.locals/\(∀x c,X.env.cells.lookup x=some c->c≠b)/\∀p∈X.pn ++ zd,p.1≠b):
  Inv X zd σ H' {s with heap:=h',gens:=g',drawn:=d',toks:=t'}:=by
 obtain⟨m,⟨o,es,ep,ho,r⟩,_⟩:=id I.loc;obtain⟨sl,hL⟩:=u.any ho I.free λz=>(hch _ z).2.1 rfl;exact I.step (ch:=ch) hch (λb o hL hb hc e n=>u.keep b o e n (λz=>(B3.mp (I.stkSub b z)).elim hL hb) hc) (λb o _ _ hc e n=>u.any e n hc) (λb o hc e n=>u.free b o e n hc) (λb o hc e=>u.there b o e hc) u.tups u.frzs u.tbls (λm' hm=>by
  obtain⟨o',es',ep',ho',r'⟩:=hm;rw[ho]at ho';cases ho';exact⟨_,es',ep',hL,r'⟩) hok hg
def Inv.turned{t':Nat}{it:Addr}(I:Inv X zd σ H s)(k:∀b o,b≠it->s.heap.get? b=some o->h'.get? b=some o)(hn:H it=none)(hL:it≠X.env.locals)
  (h1:it∈X.ex\/X.s₀.heap.objs.size<=it) (h2:∀x c,X.env.cells.lookup x=some c->c≠it) (h3:∀p∈X.pn ++ zd,p.1≠it):Inv X zd σ H {s with heap:=h',toks:=t'}:=by
 have nit:∀b u,H b=some u->b≠it:=λb u e z=>by rw[z,hn]at e;cases e
 refine I.step (g':=s.gens) (d':=s.drawn) (ch:=[it]) (λb hb=> ?_) (λb o _ _ hc e _=>k b o (λz=>hc (by simp[z])) e) (λb o _ _ hc e _=>⟨o.slots,k b o (λz=>hc (by simp[z])) e⟩) (λ_ _ _ _ n=>n)
  (λb o hc e=>⟨o,k b o (λz=>hc (by simp[z])) e⟩) (λ_ _ e=>e) (λ_ _ _ e=>e) (λb ps e=>⟨#[],by rw[e];simp⟩) (λm hm=> ?_) (λb u e=> ?_) I.bare
 ·have e:b=it:=by simpa using hb
  subst e;exact⟨h1,hL,h2,h3⟩
 ·obtain⟨o,es,ep,ho,r⟩:=hm;exact⟨o,es,ep,k _ o (Ne.symm hL) ho,r⟩
 ·refine(I.hok b u e).stay (λc v hc q=>k c v ?_ q) (λ_ q=>q) λ_ _ q=>q;rcases hc with z|z
  ·rw[z];exact nit b u e
  ·exact nit c _ z
def Inv.tok(I:Inv X zd σ H s)(t:Nat):Inv X zd σ H {s with toks:=t}:=I.un (h':=s.heap) (t':=t) Un.refl I.hok
theorem Inv.kept{t':Nat}(I:Inv X zd σ H s)(k:∀b u,s.heap.get? b=some u->h'.get? b=some u):Inv X zd σ H {s with heap:=h',toks:=t'}:=I.un (Un.kept k) (I.hok.kept k)
theorem Inv.laid{a:Addr}{o:HO}{t':Nat}(I:Inv X zd σ H s)(k:∀b u,s.heap.get? b=some u->h'.get? b=some u)(hp:s.heap.objs.size<=a)(new:ObjOk X.prog X.w (upd H a o) h' a o):
  Inv X zd σ (upd H a o) {s with heap:=h',toks:=t'}:=I.un (Un.laid k hp (I.hok.fresh hp)) (I.hok.laid k hp new)
theorem Inv.write{x e:Addr}{o:HO}{t':Nat}(I:Inv X zd σ H s)(mu:Mut (H x))(he:e=x\/H e=some (.own x))(k:∀b u,b≠e->s.heap.get? b=some u->h'.get? b=some u)(heo:∃u,h'.get? e=some u)
  (new:ObjOk X.prog X.w (upd H x o) h' x o):Inv X zd σ (upd H x o) {s with heap:=h',toks:=t'}:=I.un (Un.write mu he k heo) (I.hok.write mu he k heo new)
def Inv.pins_of{ak:AE}(I:Inv X zd σ H s)(h:∀p∈ak,s.heap.get? p.1=some p.2/\H p.1=none/\p.1≠X.env.locals/\p.1∉X.fs/\∀v,p.2.data≠ .cell v):Inv X ak σ H s:=
 ⟨I.ok,I.os,I.bare,I.base,I.loc,I.cell,I.free,I.freeC,λp hp=>(F6.mp hp).elim (λz=>I.pin p (K5 _ z)) (h p),I.hok,I.len⟩
def bi_4{N:List Str}(hN:N.Nodup){i j:Nat}{x:Str}(a:N[i]? =some x)(b:N[j]? =some x):i=j:=by
 obtain⟨h1,e1⟩:=A5.mp a;obtain⟨h2,e2⟩:=A5.mp b;exact(List.getElem_inj hN).mp (e1.trans e2.symm)
def bs_4{M:Model}{A:Around}{E:AA}{i:Nat}{x:Str}{v:V}{u:Value}{Q:Unit->Shared->Prop}(I:Inv X zd σ H s)(hN:X.N.Nodup)(hi:X.N[i]? =some x)(hx:Loc X.env.scope x)(r:RelV v u)
  (h:∀s',Inv X zd (σ.set i (some v)) H s'->(∃a,Heap.SameBut a s.heap s'.heap/\(a=X.env.locals\/X.env.cells.lookup x=some a))->Q .unit s') (hf:X.fn x=true\/X.env.scope.names.lookup x=some .local:=by trivial):wpAny M A (storeName X.env x u) Q E s:=by
 obtain⟨m,hn,hl⟩:=id I.loc;have bz:(X.env.scope.kind == .class || (X.env.scope.kind == .module && X.env.locals != X.env.globals))=false:=by rw[I.ok.kind];rfl
 have hiσ:i < σ.length:=by rw[I.len];exact(A5.mp hi).1
 have cne:=I.cne;have tracked:∀{a:Addr} {h':Heap},(∃o,s.heap.get? a=some o/\H a=none)->Heap.SameBut a s.heap h'->HOk X.prog X.w H h':=λ{a h'} ha hs b ob e=>by
  obtain⟨_,_,aq⟩:=ha;refine(I.hok b ob e).stay (λc w' hc q=>(hs.2 c ?_).trans q) (λ_ q=>q) λ_ _ q=>q
  rintro rfl
  rcases hc with rfl|hc
  ·rw[aq]at e;cases e
  ·rw[aq]at hc;cases hc
 rcases hx with hk|hk
 ·refine wpAny_storeName_local hk hn (λh' hn' hs=> ?_) bz;obtain⟨oL,_,_,hoL,_⟩:=id hn;refine h _ ⟨I.ok,I.os,I.bare,⟨λb o e n hb hx=> ?_,λb o e n hb hx=> ?_,I.base.free,λb o e hx=> ?_,I.base.tups,I.base.frzs,I.base.tbls⟩,⟨_,hn',λj y v' e1 e2 e3=> ?_⟩,λy c e=> ?_,I.free,I.freeC,λp hp=> ?_,tracked ⟨oL,hoL,I.free⟩ hs,by simpa using I.len⟩ ⟨_,hs,.inl rfl⟩
  ·exact(hs.2 b (C7 (B5 (A7 e) I.ok.above))).trans (I.base.keep b o e n hb hx)
  ·obtain⟨sl,e1⟩:=I.base.slot b o e n hb hx;exact⟨sl,(hs.2 b (C7 (B5 (A7 e) I.ok.above))).trans e1⟩
  ·obtain⟨o',e1⟩:=I.base.there b o e hx;exact⟨o',(hs.2 b (C7 (B5 (A7 e) I.ok.above))).trans e1⟩
  ·by_cases hj:j=i
   ·subst hj;rw[hi]at e1;cases e1;rw[K1 hiσ]at e2;cases e2;exact⟨u,r,.inl ⟨hk,by simp⟩⟩
   ·rw[B9 (Ne.symm hj)]at e2;obtain⟨u',r',q⟩:=hl j y v' e1 e2 e3;refine⟨u',r', ?_⟩;rcases q with⟨k,e⟩|⟨k,c,e,z⟩
    ·refine .inl ⟨k, ?_⟩;have:y≠x:=λe=>hj (bi_4 hN e1 (e▸hi));simp[this,e]
    ·exact .inr ⟨k,c,e,z.sameBut hs (cne y c e)⟩
  ·obtain⟨w',z⟩:=I.cell y c e;exact⟨w',z.sameBut hs (cne y c e)⟩
  ·obtain⟨e,n,ne,nf,d⟩:=I.pin p hp;exact⟨(hs.2 p.1 ne).trans e,n,ne,nf,d⟩
 ·have hfn:X.fn x=true:=by
   rcases hf with z|z
   ·exact z
   ·rw[z]at hk;cases hk
  obtain⟨c,hc⟩:=I.ok.has x (.inl hk);obtain⟨w',z⟩:=I.cell x c hc;refine wpAny_storeName_cell I.ok.kind hk hc z (λh' hc' hs=> ?_);obtain⟨oc,hoc,ej⟩:=id z;refine h {s with heap:=h'} ⟨I.ok,I.os,I.bare,⟨λb o e n hb hx=> ?_,λb o e n hb hx=> ?_,I.base.free,λb o e hx=> ?_,I.base.tups,I.base.frzs,I.base.tbls⟩,⟨m,hn.sameBut hs (Ne.symm (cne x c hc)),λj y v' e1 e2 e3=> ?_⟩,λy c' e=> ?_,I.free,I.freeC,λp hp=> ?_,tracked ⟨oc,hoc,I.freeC x c hc⟩ hs,by simpa using I.len⟩ ⟨c,hs,.inr hc⟩
  ·exact(hs.2 b (C7 (B5 (A7 e) (I.ok.cab x c hfn hc)))).trans (I.base.keep b o e n hb hx)
  ·obtain⟨sl,e1⟩:=I.base.slot b o e n hb hx;exact⟨sl,(hs.2 b (C7 (B5 (A7 e) (I.ok.cab x c hfn hc)))).trans e1⟩
  ·obtain⟨o',e1⟩:=I.base.there b o e hx;exact⟨o',(hs.2 b (C7 (B5 (A7 e) (I.ok.cab x c hfn hc)))).trans e1⟩
  ·by_cases hj:j=i
   ·subst hj;rw[hi]at e1;cases e1;rw[K1 hiσ]at e2;cases e2;exact⟨u,r,.inr ⟨.inl hk,c,hc,hc'⟩⟩
   ·rw[B9 (Ne.symm hj)]at e2;obtain⟨u',r',q⟩:=hl j y v' e1 e2 e3;refine⟨u',r', ?_⟩;rcases q with q|⟨k,c',e,z'⟩
    ·exact .inl q
    ·refine .inr ⟨k,c',e,z'.sameBut hs ?_⟩
     rintro rfl
     exact hj (bi_4 hN e1 (I.ok.inj _ _ _ e hc▸hi))
  ·by_cases hcc:c'=c
   ·subst hcc;exact⟨_,hc'⟩
   ·obtain⟨w2,z2⟩:=I.cell y c' e;exact⟨w2,z2.sameBut hs hcc⟩
  ·obtain⟨e,n,ne,nf,d⟩:=I.pin p hp;refine⟨(hs.2 p.1 ?_).trans e,n,ne,nf,d⟩;intro q;rw[q,hoc]at e;have q':oc=p.2:=J8 e;exact d w' (by rw[<-q'];exact ej)
def bi_5{M:Model}{A:Around}{E:AA}{i:Nat}{x:Str}{v:V}{u:Value}{Q:Unit->Shared->Prop}(I:Inv X zd σ H s)(hN:X.N.Nodup)(hi:X.N[i]? =some x)(hx:Loc X.env.scope x)(r:RelV v u)
  (h:∀s',Inv X zd (σ.set i (some v)) H s'->Q .unit s') (hf:X.fn x=true\/X.env.scope.names.lookup x=some .local:=by trivial):wpAny M A (storeName X.env x u) Q E s:=
 bs_4 I hN hi hx r (λs' I' _=>h s' I') hf
def Inv.call'{s':Shared}{ch:List Addr}(I:Inv X zd σ H s)(ho:s'.os=s.os)(u:Un (frs X.stack) ch H H' s.heap s'.heap)(hok:HOk X.prog X.w H' s'.heap)(hg:AllBare s'.gens)
  (hch:∀b∈ch,(b∈X.ex\/X.s₀.heap.objs.size<=b)/\b≠X.env.locals/\(∀x c,X.env.cells.lookup x=some c->c≠b)/\∀p∈X.pn ++ zd,p.1≠b):Inv X zd σ H' s':=by
 obtain⟨h',g',d',t',o'⟩:=s';have e:o'=s.os:=ho;subst e;exact I.call (g':=g') (t':=t') (d':=d') u hok hg hch
end
abbrev XK:=Value->Option Addr->Hp->Prop
abbrev St:=List (Option V)
abbrev VK:=V->Hp->Prop
abbrev TE:=St->Hp->VK->Prop
abbrev TT:=St->Hp->(Bool->Hp->Prop)->Prop
abbrev TA:=St->Hp->(List V->Hp->Prop)->Prop
structure Ends where
 nx:St->Hp->Prop
 rt:VK
 bk:St->Hp->Prop:=λ_ _=>False
 ct:St->Hp->Prop:=λ_ _=>False
abbrev TS:=Ends->St->Hp->Prop
def EP(X:Cx)(zd:AE)(σ:St)(Q:VK)(u:Value)(s':Shared):Prop:=∃v H',Inv X zd σ H' s'/\RelV v u/\Q v H'
def TP(X:Cx)(zd:AE)(σ:St)(Q:Bool->Hp->Prop)(b:Bool)(s':Shared):Prop:=∃H',Inv X zd σ H' s'/\Q b H'
def AP(X:Cx)(zd:AE)(σ:St)(Q:List V->Hp->Prop)(us:List Value)(s':Shared):Prop:=∃vs H',Inv X zd σ H' s'/\Vals vs us/\Q vs H'
def SP(X:Cx)(zd:AE)(D:Ends)(f:Flow)(s':Shared):Prop:=
 match f with
 | .next=>∃σ' H',Inv X zd σ' H' s'/\D.nx σ' H'
 | .brk=>∃σ' H',Inv X zd σ' H' s'/\D.bk σ' H'
 | .cont=>∃σ' H',Inv X zd σ' H' s'/\D.ct σ' H'
 | .ret u=>∃v σ' H',Inv X zd σ' H' s'/\RelV v u/\D.rt v H'
def PE(X:Cx)(e:Expr)(t:TE):Prop:=
 ∀(zd:AE) (s:Shared) (σ:St) (H:Hp) (Q:VK),Inv X zd σ H s->t σ H Q->wpAny (model X.prog X.w) X.A (eval e X.env) (EP X zd σ Q) X.xe s
def PT(X:Cx)(e:Expr)(t:TT):Prop:=
 ∀(zd:AE) (s:Shared) (σ:St) (H:Hp) (Q:Bool->Hp->Prop),Inv X zd σ H s->t σ H Q->wpAny (model X.prog X.w) X.A (isTrue e X.env (eval e X.env)) (TP X zd σ Q) X.xe s
def PW(X:Cx)(e:Expr)(t:TT):Prop:=
 ∀(whole:Sem Value) (zd:AE) (s:Shared) (σ:St) (H:Hp) (Q:Bool->Hp->Prop),Inv X zd σ H s->t σ H Q->wpAny (model X.prog X.w) X.A (isTrue e X.env whole) (TP X zd σ Q) X.xe s
def PW.pt{X:Cx}{e:Expr}{t:TT}(h:PW X e t):PT X e t:=h _
def PA(X:Cx)(es:List Expr)(t:TA):Prop:=
 ∀(pos:Pos) (zd:AE) (s:Shared) (σ:St) (H:Hp) (Q:List V->Hp->Prop),Inv X zd σ H s->t σ H Q->wpAny (model X.prog X.w) X.A (spliced (backTo pos (starEach es X.env))) (AP X zd σ Q) X.xe s
def PS(X:Cx)(st:Stmt)(t:TS):Prop:=
 ∀(zd:AE) (s:Shared) (σ:St) (H:Hp) (D:Ends),Inv X zd σ H s->t D σ H->wpAny (model X.prog X.w) X.A (exec st X.env) (SP X zd D) X.xe s
def PSs(X:Cx)(st:List Stmt)(t:TS):Prop:=
 ∀(zd:AE) (s:Shared) (σ:St) (H:Hp) (D:Ends),Inv X zd σ H s->t D σ H->wpAny (model X.prog X.w) X.A (execs st X.env) (SP X zd D) X.xe s
def Bk{α:Type}{t:Sem α}{Q Q':α->Shared->Prop}{M:Model}{A:Around}{E:AA}{s:Shared}(h:wpAny M A t Q E s)(hQ:∀a s,Q a s->Q' a s):wpAny M A t Q' E s:=F1 h hQ λ_ _ x=>x
section
variable{X:Cx}
def tVar(i:Nat):TE:=λ σ H Q=>∃v,σ[i]? =some (some v)/\Q v H
def tC(v:V):TE:=λ_ H Q=>Q v H
def Gr{i:Nat}{x:Str}{pos:Pos}(hN:X.N[i]? =some x)(hv:Vis X.env.scope x)(hd:AG x:=by decide)(hcd:(x ==("__classdict__" :Str))=false:=by decide):PE X (.Name x pos) (tVar i):=by
 intro zd s σ H Q I h;obtain⟨v,e,h⟩:=h;obtain⟨m,hn,hl⟩:=I.loc;obtain⟨u,r,l⟩:=hl i x v hN e hv;have fin:EP X zd σ Q u s:=⟨v,H,I,r,h⟩;rcases l with⟨hk,hm⟩|⟨hk,c,hc,hcell⟩
 ·exact wpAny_Name (wpAny_loadName_local I.ok.kind hk hn hm fin) hd
 ·rcases hk with hk|hk
  ·exact wpAny_Name (wpAny_loadName_cell I.ok.kind hk hc hcell fin) hd
  ·exact wpAny_Name (wpAny_loadName_free I.ok.kind hk hc hcell fin hcd) hd
def el_5{i j pos}:PE X (.Constant (.int i) j pos) (tC (.int i)):=λ_ _ _ H _ I h=>wpAny_Constant_int ⟨.int i,H,I.tok _,⟨_,rfl⟩,h⟩
def eu_1{b j pos}:PE X (.Constant (.bool b) j pos) (tC (.bl b)):=λ_ _ _ H _ I h=>Constant_bool ⟨.bl b,H,I,rfl,h⟩
def dn_6{j pos}:PE X (.Constant .none j pos) (tC .non):=λ_ _ _ H _ I h=>Constant_none ⟨.non,H,I,rfl,h⟩
def el_6{x j pos}:PE X (.Constant (.str x) j pos) (tC (.str x)):=λ_ _ _ H _ I h=>Calls.Constant_str ⟨.str x,H,I.tok _,⟨_,rfl⟩,h⟩
def Gl(X:Cx)(x:Str):Prop:=X.env.kindOf x=some .globalImplicit
def x_9{E:AA}{zd:AE}{s:Shared}{σ:St}{H:Hp}{x:Str}{u:Value}{pos:Pos}{Q:AA}(I:Inv X zd σ H s)(hg:Gl X x)(hm:X.mg x=some u)(h:Q u s)
  (hd:AG x:=by decide):wpAny (model X.prog X.w) X.A (eval (.Name x pos) X.env) Q E s:=
 X4 I.ok.kind hg (Calls.loadGlobal_global (by rw[I.ok.glob];exact I.mod.glob.keeps I.bk) hm h) hd
def ah_2{E:AA}{zd:AE}{s:Shared}{σ:St}{H:Hp}{x:Str}{u:Value}{pos:Pos}{Q:AA}(I:Inv X zd σ H s)(hg:Gl X x)(hm:X.mg x=none)(hv:bootBuiltins x=some u)(h:Q u s)
  (hn:x≠ "__name__" :=by decide) (hd:AG x:=by decide):wpAny (model X.prog X.w) X.A (eval (.Name x pos) X.env) Q E s:=by
 obtain⟨mb,h1,h2⟩:=I.mod.blt;exact X4 I.ok.kind hg (Calls.loadGlobal_builtin (by rw[I.ok.glob];exact I.mod.glob.keeps I.bk) hm (by rw[I.ok.blt];exact h1.keeps I.bk) ((h2 x hn).trans hv) h) hd
def av_0{x:Str}{v:V}{u:Value}{pos:Pos}(hg:Gl X x)(hm:X.mg x=some u)(r:RelV v u)(hd:AG x:=by decide):PE X (.Name x pos) (tC v):=
 λ_ _ _ H _ I h=>x_9 I hg hm ⟨v,H,I,r,h⟩ hd
def cy_8{x:Str}{v:V}{u:Value}{pos:Pos}(hg:Gl X x)(hm:X.mg x=none)(hv:bootBuiltins x=some u)(r:RelV v u)(hn:x≠ "__name__" :=by decide)(hd:AG x:=by decide):PE X (.Name x pos) (tC v):=
 λ_ _ _ H _ I h=>ah_2 I hg hm hv ⟨v,H,I,r,h⟩ hn hd
variable{a b:Expr}{ta tb:TE}{pos:Pos}
variable{tA tB':TT}{Eu:List Expr}
def tAnd(t u:TT):TT:=λ σ H Q=>t σ H λc H1=>if c=true then u σ H1 Q else Q false H1
def tOr(t u:TT):TT:=λ σ H Q=>t σ H λc H1=>if c=true then Q true H1 else u σ H1 Q
def tNot(t:TT):TT:=λ σ H Q=>t σ H λc H1=>Q (!c) H1
def ea_1(ha:PT X a tA):PW X (.BoolOp .And [a] pos) tA:=by
 intro wh zd s σ H Q I h;refine isTrue_and (Bk (ha zd s σ H Q I h) λc s1 e=> ?_);cases c with
 |true=>exact isTrue_and_nil e
 |false=>exact e
def el_7(ha:PT X a tA):PW X (.BoolOp .Or [a] pos) tA:=by
 intro wh zd s σ H Q I h;refine isTrue_or (Bk (ha zd s σ H Q I h) λc s1 e=> ?_);cases c with
 |false=>exact isTrue_or_nil e
 |true=>exact e
def el_8(ha:PT X a tA)(hb:PW X (.BoolOp .And (b::Eu) pos) tB'):PW X (.BoolOp .And (a::b::Eu) pos) (tAnd tA tB'):=by
 intro wh zd s σ H Q I h;refine isTrue_and (Bk (ha zd s σ H _ I h) λc s1 ⟨H1,I1,q1⟩=> ?_);cases c with
 |true=>exact hb wh zd s1 σ H1 Q I1 q1
 |false=>exact⟨H1,I1,q1⟩
def eu_2(ha:PT X a tA)(hb:PW X (.BoolOp .Or (b::Eu) pos) tB'):PW X (.BoolOp .Or (a::b::Eu) pos) (tOr tA tB'):=by
 intro wh zd s σ H Q I h;refine isTrue_or (Bk (ha zd s σ H _ I h) λc s1 ⟨H1,I1,q1⟩=> ?_);cases c with
 |true=>exact⟨H1,I1,q1⟩
 |false=>exact hb wh zd s1 σ H1 Q I1 q1
def el_9(ha:PT X a tA):PT X (.UnaryOp .Not a pos) (tNot tA):=by
 intro zd s σ H Q I h;exact isTrue_not (ha zd s σ H (λc H1=>Q (!c) H1) I h)
def eu_3(ta tb:TE):TE:=λ σ H Q=>ta σ H λx H1=>∃c,x=.bl c/\if c=true then tb σ H1 Q else Q (.bl false) H1
def eu_4(ta:TE):TE:=λ σ H Q=>ta σ H λx H1=>∃c,x=.bl c/\Q (.bl (!c)) H1
def em_0{op}{t:TE}(h:PE X a t):PE X (.BoolOp op [a] pos) t:=λzd s σ H Q I hw=>BoolOp_one (h zd s σ H Q I hw)
def em_1(ha:PE X a ta)(hb:PE X (.BoolOp .And (b::Eu) pos) tb):PE X (.BoolOp .And (a::b::Eu) pos) (eu_3 ta tb):=by
 intro zd s σ H Q I h;refine BoolOp_and (Bk (ha zd s σ H _ I h) λv s1 ⟨x,H1,I1,r1,q1⟩=> ?_);obtain⟨c,rfl,q1⟩:=q1;cases r1;refine Q4 ?_;cases c with
 |true=>exact hb zd s1 σ H1 Q I1 q1
 |false=>exact⟨.bl false,H1,I1,rfl,q1⟩
def em_2(ha:PE X a ta):PE X (.UnaryOp .Not a pos) (eu_4 ta):=by
 intro zd s σ H Q I h;refine UnaryOp_ (Bk (ha zd s σ H _ I h) λv s1 ⟨x,H1,I1,r1,q1⟩=> ?_);obtain⟨c,rfl,q1⟩:=q1;cases r1;exact not_of (Q4 ⟨.bl (!c),H1,I1,rfl,q1⟩)
def tIf(t:TT)(ta tb:TE):TE:=λ σ H Q=>t σ H λc H1=>if c=true then ta σ H1 Q else tb σ H1 Q
def dn_7{c:Expr}(hc:PT X c tA)(ha:PE X a ta)(hb:PE X b tb):PE X (.IfExp c a b pos) (tIf tA ta tb):=by
 intro zd s σ H Q I h;refine wpAny_IfExp (Bk (hc zd s σ H _ I h) λd s1 ⟨H1,I1,q1⟩=> ?_);cases d with
 |true=>exact ha zd s1 σ H1 Q I1 q1
 |false=>exact hb zd s1 σ H1 Q I1 q1
end
def SqL(K:Frag)(H:Hp)(a:Addr)(xs:List V):Prop:=
 Rd H a (.lst xs)\/
  ∃(o:Obj) (its:Array Value) (n:Nat),K.lookup a=some o/\o.cls=.type "list" /\o.dict=none/\o.data=.seq its n/\its.size<=sizeLine/\Vals xs its.toList
def SqT(K:Frag)(H:Hp)(a:Addr)(xs:List V):Prop:=
 Rd H a (.tup xs)\/
  ∃(o:Obj) (its:Array Value) (n:Nat),K.lookup a=some o/\o.cls=.type "tuple" /\o.data=.seq its n/\its.size<=sizeLine/\Vals xs its.toList
def absV:Value->Option V
 | .none=>some .non
 | .bool b=>some (.bl b)
 | .int i _=>some (.int i)
 | .str x _=>some (.str x)
 | .bytes b _=>some (.byt b)
 | .float b _=>some (.flt b)
 | .ref a=>some (.ref a)
 | .type n=>some (.ty n)
 |_=>none
def RelV.abs{x:V}{u:Value}(r:RelV x u):absV u=some x:=by
 cases x with
 |non=>cases r;rfl
 |bl _=>cases r;rfl
 |int _=>obtain⟨t,rfl⟩:=r;rfl
 |str _=>obtain⟨t,rfl⟩:=r;rfl
 |byt _=>obtain⟨t,rfl⟩:=r;rfl
 |flt _=>obtain⟨t,rfl⟩:=r;rfl
 |ref _=>cases r;rfl
 |ty _=>cases r;rfl
theorem RelV.inj{x y:V}{u:Value}(r:RelV x u)(q:RelV y u):x=y:=J8 (r.abs.symm.trans q.abs)
theorem Vals.inj:∀{xs ys:List V} {us:List Value},Vals xs us->Vals ys us->xs=ys
 |_,_,_,.nil,.nil=>rfl
 |_,_,_,.cons r t,.cons r' t'=>by rw[r.inj r',Vals.inj t t']
section
variable{X:Cx}{zd:AE}{σ:St}{H:Hp}{s:Shared}{a:Addr}{xs ys:List V}
def SqL.of{K:Frag}(h:H a=some (.lst xs)):SqL K H a xs:=.inl (.inl h)
def SqT.of{K:Frag}(h:H a=some (.tup xs)):SqT K H a xs:=.inl (.inl h)
def Inv.list(I:Inv X zd σ H s)(h:SqL X.K H a xs):∃its:List Value,Vals xs its/\PlainL s.heap a its.toArray/\xs.length<=sizeLine:=by
 rcases h with h|⟨o,its,n,hk,hc,hd,hs,hz,r⟩
 ·obtain⟨z,its,n,r,e⟩:=h.ok I.hok;exact⟨its,r,⟨_,n,e,rfl,rfl,rfl⟩,z⟩
 ·refine⟨its.toList,r,⟨o,n,I.kIn a o hk,hc,hd,by simpa using hs⟩, ?_⟩;have e:=r.length;simp only[X0]at e;omega
def Inv.tuple(I:Inv X zd σ H s)(h:SqT X.K H a xs):∃its:List Value,Vals xs its/\IsTup s.heap a its.toArray/\xs.length<=sizeLine:=by
 rcases h with h|⟨o,its,n,hk,hc,hs,hz,r⟩
 ·obtain⟨z,its,r,p⟩:=h.ok I.hok;exact⟨its,r,p,z⟩
 ·refine⟨its.toList,r,⟨o,I.kIn a o hk,hc,n,by simpa using hs⟩, ?_⟩;have e:=r.length;simp only[X0]at e;omega
def Inv.list_inj(I:Inv X zd σ H s)(h:SqL X.K H a xs)(h':SqL X.K H a ys):xs=ys:=by
 obtain⟨its,r,⟨o,n,e,_,_,d⟩,_⟩:=I.list h;obtain⟨its',r',⟨o',n',e',_,_,d'⟩,_⟩:=I.list h';rw[e]at e';cases e';rw[d]at d';injection d' with d1 _
 have:its=its':=by simpa using Q5 Array.toList d1
 subst this;exact r.inj r'
def Inv.tuple_inj(I:Inv X zd σ H s)(h:SqT X.K H a xs)(h':SqT X.K H a ys):xs=ys:=by
 obtain⟨its,r,⟨o,e,_,n,d⟩,_⟩:=I.tuple h;obtain⟨its',r',⟨o',e',_,n',d'⟩,_⟩:=I.tuple h';rw[e]at e';cases e';rw[d]at d';injection d' with d1 _
 have:its=its':=by simpa using Q5 Array.toList d1
 subst this;exact r.inj r'
end
abbrev Cx.wish(X:Cx)(E:AA):Cx:={X with xe:=E}
abbrev Cx.nox(X:Cx):Cx:=X.wish λ_ _=>False
theorem Cx.Ok.wish{X:Cx}(ok:X.Ok)(E:AA):(X.wish E).Ok:=
 ⟨ok.mod,ok.kind,ok.glob,ok.blt,ok.above,ok.inj,ok.has,ok.cab,ok.hd,ok.frames,ok.stk,ok.exf,ok.bs,ok.bsz,ok.noex,ok.exfs,ok.funs,ok.frf⟩
def Cx.Ok.unwish{X:Cx}{E:AA}(ok:(X.wish E).Ok):X.Ok:=
 ⟨ok.mod,ok.kind,ok.glob,ok.blt,ok.above,ok.inj,ok.has,ok.cab,ok.hd,ok.frames,ok.stk,ok.exf,ok.bs,ok.bsz,ok.noex,ok.exfs,ok.funs,ok.frf⟩
section
variable{X:Cx}{zd:AE}{σ:St}{H:Hp}{s:Shared}{E:AA}
theorem Inv.wish(I:Inv X zd σ H s)(E:AA):Inv (X.wish E) zd σ H s:=⟨I.ok.wish E,I.os,I.bare,I.base,I.loc,I.cell,I.free,I.freeC,I.pin,I.hok,I.len⟩
theorem Inv.unwish(I:Inv (X.wish E) zd σ H s):Inv X zd σ H s:=⟨I.ok.unwish,I.os,I.bare,I.base,I.loc,I.cell,I.free,I.freeC,I.pin,I.hok,I.len⟩
theorem SP.unwish{D:Ends}{f:Flow}{s':Shared}(h:SP (X.wish E) zd D f s'):SP X zd D f s':=by
 cases f with
 |next=>obtain⟨σ',H',I,q⟩:=h;exact⟨σ',H',I.unwish,q⟩
 |brk=>obtain⟨σ',H',I,q⟩:=h;exact⟨σ',H',I.unwish,q⟩
 |cont=>obtain⟨σ',H',I,q⟩:=h;exact⟨σ',H',I.unwish,q⟩
 |ret u=>obtain⟨v,σ',H',I,r,q⟩:=h;exact⟨v,σ',H',I.unwish,r,q⟩
theorem PE.nox{e:Expr}{t:TE}(h:PE X.nox e t):PE X e t:=λzd s σ H Q I hw=>
 F1 (h zd s σ H Q (I.wish _) hw) (λ_ _ ⟨v,H',I',r,q⟩=>⟨v,H',I'.unwish,r,q⟩) λ_ _ z=>False.elim z
end
section
variable{X:Cx}{st:Stmt}{Eu:List Stmt}{t u:TS}{e:Expr}{te:TE}{pos:Pos}
def eu_5:TS:=λD σ H=>D.nx σ H
def tSeq(t u:TS):TS:=λD σ H=>t {D with nx:=u D} σ H
def ea_2:PSs X [] eu_5:=λ_ _ σ H _ I h=>T5 ⟨σ,H,I,h⟩
def dn_8(h1:PS X st t)(h2:PSs X Eu u):PSs X (st::Eu) (tSeq t u):=by
 intro zd s σ H D I h;refine wpAny_execs_cons (Bk (h1 zd s σ H {D with nx:=u D} I h) λf s1 q=> ?_);cases f with
 |next=>
  obtain⟨σ',H',I',q⟩:=q;exact h2 zd s1 σ' H' D I' q
 |ret v=>exact q
 |brk=>exact q
 |cont=>exact q
def av_1(h1:PS X st t):PSs X [st] t:=by
 intro zd s σ H D I h;refine wpAny_execs_cons (Bk (h1 zd s σ H D I h) λf s1 q=> ?_);cases f with
 |next=>exact T5 q
 |ret v=>exact q
 |brk=>exact q
 |cont=>exact q
def Inv.quiet{zd:AE}{σ:St}{H:Hp}{s:Shared}(I:Inv X zd σ H s):interactive X.env=false:=by simp[interactive,I.ok.kind]
def eu_6(te:TE):TS:=λD σ H=>te σ H λ_ H1=>D.nx σ H1
def ao_9(he:PE X e te)(hs:swapsWith e none pos.line X.env=pure false:=by rfl):PS X (.Expr e pos) (eu_6 te):=by
 intro zd s σ H D I h;exact wpAny_Expr_any (Bk (he zd s σ H _ I h) λv s1 ⟨x,H1,I1,r1,q1⟩=>⟨σ,H1,I1,q1⟩) I.quiet hs
def tRet(te:TE):TS:=λD σ H=>te σ H D.rt
def cr_0(he:PE X e te):PS X (.Return (some e) pos) (tRet te):=by
 intro zd s σ H D I h;exact wpAny_Return_some (Bk (he zd s σ H _ I h) λv s1 ⟨x,H1,I1,r1,q1⟩=>⟨x,σ,H1,I1,r1,q1⟩)
def tIfS(c:TT)(t u:TS):TS:=λD σ H=>c σ H λb H1=>if b=true then t D σ H1 else u D σ H1
def eu_7{c:Expr}{a b:List Stmt}{tc:TT}(hc:PT X c tc)(ha:PSs X a t)(hb:PSs X b u):PS X (.If c a b pos) (tIfS tc t u):=by
 intro zd s σ H D I h;refine wpAny_If (Bk (hc zd s σ H _ I h) λd s1 ⟨H1,I1,q1⟩=> ?_);cases d with
 |true=>exact ha zd s1 σ H1 D I1 q1
 |false=>exact hb zd s1 σ H1 D I1 q1
end
abbrev TG:=V->St->Hp->(St->Hp->Prop)->Prop
abbrev TGs:=List V->St->Hp->(St->Hp->Prop)->Prop
def PG(X:Cx)(target:Expr)(t:TG):Prop:=
 ∀(zd:AE) (s:Shared) (σ:St) (H:Hp) (v:V) (u:Value) (Q:St->Hp->Prop),Inv X zd σ H s->RelV v u->t v σ H Q->
  wpAny (model X.prog X.w) X.A (assign target X.env u) (λ_ s'=>∃σ' H',Inv X zd σ' H' s'/\Q σ' H') X.xe s
def PGs(X:Cx)(ts:List Expr)(t:TGs):Prop:=
 ∀(zd:AE) (s:Shared) (σ:St) (H:Hp) (vs:List V) (us:List Value) (Q:St->Hp->Prop),Inv X zd σ H s->Vals vs us->t vs σ H Q->
  wpAny (model X.prog X.w) X.A (assignInOrder ((assignEach ts X.env).map (·.2)) us) (λ_ s'=>∃σ' H',Inv X zd σ' H' s'/\Q σ' H') X.xe s
abbrev TSet:=V->V->V->Hp->(Hp->Prop)->Prop
def PSet(X:Cx)(t:TSet):Prop:=
 ∀(zd:AE) (s:Shared) (σ:St) (H:Hp) (o i v:V) (ov iv u:Value) (Q:Hp->Prop),Inv X zd σ H s->RelV o ov->RelV i iv->RelV v u->t o i v H Q->
  wpAny (model X.prog X.w) X.A (setItem ov iv u) (λ_ s'=>∃H',Inv X zd σ H' s'/\Q H') X.xe s
section
variable{X:Cx}{pos:Pos}
def cy_9(i:Nat):TG:=λv σ H Q=>Q (σ.set i (some v)) H
def ap_0{i:Nat}{x:Str}(hN:X.N.Nodup)(hi:X.N[i]? =some x)(hx:Loc X.env.scope x)(hf:X.fn x=true\/X.env.scope.names.lookup x=some .local:=by trivial):PG X (.Name x pos) (cy_9 i):=by
 intro zd s σ H v u Q I r h;exact wpAny_assign_Name (bi_5 I hN hi hx r (λs' I'=>⟨_,H,I',h⟩) hf)
def gNil:TGs:=λvs σ H Q=>vs= []/\Q σ H
def eu_9(t:TG)(u:TGs):TGs:=λvs σ H Q=>∃v r,vs=v::r/\t v σ H λ σ' H'=>u r σ' H' Q
def cz_0:PGs X [] gNil:=by
 intro zd s σ H vs us Q I r h;obtain⟨e,h⟩:=h;subst e;cases r;exact assignInOrder_nil ⟨σ,H,I,h⟩
def av_2{e:Expr}{es:List Expr}{t:TG}{u:TGs}(h1:PG X e t)(h2:PGs X es u)
  (hs:(assignEach (e::es) X.env).map (·.2)=assign e X.env::(assignEach es X.env).map (·.2):=by rfl):PGs X (e::es) (eu_9 t u):=by
 intro zd s σ H vs us Q I r h;obtain⟨v,vr,e1,h⟩:=h;subst e1;cases r with
 |cons r rr=>
  rw[hs];refine assignInOrder_cons (Bk (h1 zd s σ H _ _ _ I r h) λ_ s1 ⟨σ1,H1,I1,q1⟩=> ?_);exact h2 zd s1 σ1 H1 _ _ Q I1 rr q1
def gTup(K:Frag)(n:Nat)(t:TGs):TG:=λv σ H Q=>∃a xs,v=.ref a/\SqT K H a xs/\xs.length=n/\t xs σ H Q
def dn_9{es:List Expr}{k:Nat}{t:TGs}{n:Nat}(hc:X.calm=true)(h:PGs X es t)
  (hn:(assignEach es X.env).length=n:=by rfl) (hst:(assignEach es X.env).findIdx? (·.1)=none:=by rfl):PG X (.Tuple es k pos) (gTup X.K n t):=by
 intro zd s σ H v u Q I r hw;obtain⟨a,xs,e1,hq,hl,hw⟩:=hw;subst e1;cases r;obtain⟨its,rv,ht,hz⟩:=I.tuple hq;refine assign_Tuple_tuple (I.ok.hd hc) ht (by simp[hn,<-hl,rv.length]) hst λh' hx=> ?_;have I1:Inv X zd σ H {s with heap:=h'}:=I.kept (t':=s.toks) λb o e=>hx b o (C7 (A7 e)) e;exact h zd _ σ H xs _ Q I1 (by simpa using rv) hw
def gSub(to ti:TE)(t:TSet):TG:=λv σ H Q=>to σ H λo H1=>ti σ H1 λi H2=>t o i v H2 λH3=>Q σ H3
def em_4{o i:Expr}{to ti:TE}{t:TSet}(ho:PE X o to)(hi:PE X i ti)(hs:PSet X t)
  (ha:∀v,assign (.Subscript o i pos) X.env v=(do
   let ov<-holding [v] (eval o X.env)
   let iv<-holding [v,ov] (eval i X.env)
   standAt pos
   holding [v,ov,iv] (setItem ov iv v)
   release [v,ov,iv] []):=by intro _;rfl):PG X (.Subscript o i pos) (gSub to ti t):=by
 intro zd s σ H v u Q I r h;rw[ha];refine A3 (K9 (Bk (ho zd s σ H _ I h) λov s1 ⟨x,H1,I1,r1,q1⟩=> ?_));refine A3 (K9 (Bk (hi zd s1 σ H1 _ I1 q1) λiv s2 ⟨y,H2,I2,r2,q2⟩=> ?_));refine A3 (Q7 (A3 (K9 (Bk (hs zd s2 σ H2 x y v ov iv u _ I2 r1 r2 r q2) λ_ s3 ⟨H3,I3,q3⟩=> ?_))));exact wpAny_release ⟨σ,H3,I3,q3⟩
def tAsg(te:TE)(g:TG):TS:=λD σ H=>te σ H λx H1=>g x σ H1 D.nx
def em_5{tg e:Expr}{te:TE}{g:TG}(he:PE X e te)(hg:PG X tg g)(hs:swapsWithSole [tg] e pos.line X.env=pure false:=by rfl)(hw:swappedStores [tg] e X.env=pure none:=by rfl)
  (h1:(assignEach [tg] X.env).map (·.2)= [assign tg X.env]:=by rfl):PS X (.Assign [tg] e pos) (tAsg te g):=by
 intro zd s σ H D I h;refine wpAny_Assign_stores (Bk (he zd s σ H _ I h) λv s1 ⟨x,H1,I1,r1,q1⟩=> ?_) hs hw;rw[h1];exact Bk (hg zd s1 σ H1 x v _ I1 r1 q1) λ_ s2 q=>q
def cr_1{i:Nat}{x:Str}{e:Expr}{te:TE}{pos':Pos}(hN:X.N.Nodup)(hi:X.N[i]? =some x)(hx:Loc X.env.scope x)(he:PE X e te)(hs:swapsWith e (some (.Name x pos')) pos.line X.env=pure false:=by rfl)(hf:X.fn x=true\/X.env.scope.names.lookup x=some .local:=by trivial):
  PS X (.Assign [.Name x pos'] e pos) (tAsg te (cy_9 i)):=by
 intro zd s σ H D I h;refine wpAny_Assign_Name (Bk (he zd s σ H _ I h) λv s1 ⟨y,H1,I1,r1,q1⟩=> ?_) hs;exact bi_5 I1 hN hi hx r1 (λs2 I2=>⟨_,H1,I2,q1⟩) hf
end
section
variable{X:Cx}{pos:Pos}
def em_6(c:TT)(tb:TS):TS:=λD σ H=>∃W:Nat->St->Hp->Prop,(∃m,W m σ H)/\∀m σ H,W m σ H->
 c σ H λb H1=>if b=true then∃N:St->Hp->Prop,(∀σ' H',N σ' H'->∃m',m' < m/\W m' σ' H')/\tb {D with nx:=N,ct:=N,bk:=D.nx} σ H1 else D.nx σ H1
def do_0{c:Expr}{body:List Stmt}{tc:TT}{tb:TS}(hp:PassesOwn (model X.prog X.w) X.A X.env X.xe)(hc:PT X c tc)(hb:PSs X body tb):PS X (.While c body [] pos) (em_6 tc tb):=by
 intro zd s σ H D I h;obtain⟨W,⟨m0,w0⟩,turn⟩:=h;refine wpAny_While (codeAny_whileLoop (λn s'=>∃σ' H',Inv X zd σ' H' s'/\W n σ' H') ?_ m0 ⟨σ,H,I,w0⟩)
 rintro n s1 ⟨σ1,H1,I1,w1⟩
 refine Q3 hp (Bk (hc zd s1 σ1 H1 _ I1 (turn n σ1 H1 w1)) λb s2 ⟨H2,I2,q2⟩=> ?_);cases b with
 |true=>
  obtain⟨N,hN,q2⟩:=q2;rw[if_pos rfl];refine Q3 hp (Bk (hb zd s2 σ1 H2 _ I2 q2) λf s3 q3=> ?_);cases f with
  |next=>
   obtain⟨σ3,H3,I3,n3⟩:=q3;obtain⟨m',hm,w3⟩:=hN σ3 H3 n3;exact⟨m',hm,σ3,H3,I3,w3⟩
  |cont=>
   obtain⟨σ3,H3,I3,n3⟩:=q3;obtain⟨m',hm,w3⟩:=hN σ3 H3 n3;exact⟨m',hm,σ3,H3,I3,w3⟩
  |brk=>exact q3
  |ret v=>exact q3
 |false=>
  rw[if_neg A6];exact T5 ⟨σ1,H2,I2,q2⟩
end
structure It where
 go:Nat->Hp->Prop
 yld:Nat->Hp->V->Hp->Prop
 stop:Nat->Hp->Prop
def Dn(X:Cx)(zd:AE)(H:Hp)(b:Addr):Prop:=
 H b=none/\b≠X.env.locals/\b∉X.fs/\(b∈X.ex\/X.s₀.heap.objs.size<=b)/\(∀x c,X.env.cells.lookup x=some c->c≠b)/\∀p∈X.pn ++ zd,p.1≠b
def Inv.fpOk{X:Cx}{zd:AE}{σ:St}{H H':Hp}{s:Shared}{b:Addr}(I:Inv X zd σ H s)(hb:s.heap.objs.size<=b)(hn:H' b=none):Dn X zd H' b:=by
 refine⟨hn,Nat.ne_of_gt (B5 I.lt hb),I.nofs hb,.inr (C5 I.sz hb),λx c e z=> ?_,λp hp z=> ?_⟩
 ·obtain⟨v,q⟩:=I.cell x c e;exact absurd (B5 q.lt (by rw[z];exact hb)) (F5 _)
 ·exact absurd (B5 (A7 (I.pin p hp).1) (by rw[z];exact hb)) (F5 _)
structure Turn(P:Program)(w:World)(K:Frag)(tg:Expr)(J:It)(fp:List Addr)(it:Addr)(tn:Nat->Heap->Prop):Prop where
 mem:it∈fp
 obj:∀i h,tn i h->∀b∈fp,∃o,h.get? b=some o/\∀v,o.data≠ .cell v
 keep:∀i h h',tn i h->(∀b∈fp,∀o,h.get? b=some o->h'.get? b=some o)->tn i h'
 item:∀(X:Cx),X.prog=P->X.w=w->X.K=K->X.calm=true->∀(i:Nat) (zd:AE) (s:Shared) (σ:St) (H:Hp) (E:AA),Inv X zd σ H s->(∀b∈fp,Dn X zd H b)->tn i s.heap->J.go i H->
  wpAny (model P w) X.A (pyNext (.ref it)) (λr s1=>∃u,r=some u/\
   wpAny (model P w) X.A (letOwnedTupleGo tg (.ref it) u) (λ_ s2=>∃x H',Inv X zd σ H' s2/\RelV x u/\J.yld i H x H'/\tn (i + 1) s2.heap/\∀b∈fp,H' b=none) E s1) E s
 done:∀(X:Cx),X.prog=P->X.w=w->X.K=K->X.calm=true->∀(i:Nat) (zd:AE) (s:Shared) (σ:St) (H:Hp) (E:AA),Inv X zd σ H s->(∀b∈fp,Dn X zd H b)->tn i s.heap->J.stop i H->
  wpAny (model P w) X.A (pyNext (.ref it)) (λr s1=>r=none/\Inv X zd σ H s1) E s
 self:∀(A:Around) (i:Nat) (s:Shared) (Q:AA) (E:AA),tn i s.heap->Q (.ref it) s->wpAny (model P w) A (pyIter (.ref it)) Q E s
abbrev TI:=St->Hp->(It->Hp->Prop)->Prop
def PIE(X:Cx)(zd:AE)(σ:St)(tg:Expr)(R:It->Hp->Prop)(itv:Value)(s2:Shared):Prop:=
 ∃(it:Addr) (fp:List Addr) (tn:Nat->Heap->Prop) (J:It) (H':Hp),itv=.ref it/\Inv X zd σ H' s2/\Turn X.prog X.w X.K tg J fp it tn/\tn 0 s2.heap/\(∀b∈fp,Dn X zd H' b)/\R J H'
def PI(X:Cx)(tg iter:Expr)(wi:TI):Prop:=
 ∀(zd:AE) (s:Shared) (σ:St) (H:Hp) (R:It->Hp->Prop),Inv X zd σ H s->wi σ H R->
  wpAny (model X.prog X.w) X.A (eval iter X.env) (λv s1=>wpAny (model X.prog X.w) X.A (pyIter v) (PIE X zd σ tg R) X.xe s1) X.xe s
def bs_5{M:Model}{A:Around}{E:AA}{s:Shared}{tg:Expr}{it:Addr}{u:Value}{o:Obj}{n:String}{vs:Array Value}{Q:Unit->Shared->Prop}(ho:s.heap.get? it=some o)(hc:o.cls=.type n)(hd:o.data=.fields vs)
  (hn: ["enumerate","zip","dict_itemiterator","dict_reverseitemiterator","odict_iterator","itertools.zip_longest","itertools.pairwise"].contains n=false) (hQ:Q .unit s):wpAny M A (letOwnedTupleGo tg (.ref it) u) Q E s:=by
 unfold letOwnedTupleGo;cases tg <;> first
  |exact C6 hQ
  | (cases u <;> first
    |exact C6 hQ
    | (refine A3 (wpAny_load ho ?_)
       rw[hc,hd];show wpAny M A (if(["enumerate","zip","dict_itemiterator","dict_reverseitemiterator","odict_iterator","itertools.zip_longest","itertools.pairwise"].contains n && vs[0]? ==some (rawInt _))=true then _ else _) Q E s;rw[if_neg (by intro h;rw[hn,Bool.false_and]at h;cases h)];exact C6 hQ))
def Itl(K:Frag)(a:Addr):It:=
 ⟨λi H=>∃xs x,SqL K H a xs/\xs[i]? =some x,λi H x H'=>H'=H/\∀xs,SqL K H a xs->xs[i]? =some x,λi H=>∃xs,SqL K H a xs/\xs.length<=i⟩
def Itt(K:Frag)(a:Addr):It:=
 ⟨λi H=>∃xs x,SqT K H a xs/\xs[i]? =some x,λi H x H'=>H'=H/\∀xs,SqT K H a xs->xs[i]? =some x,λi H=>∃xs,SqT K H a xs/\xs.length<=i⟩
def Itr(lo:Int)(n:Nat):It:=⟨λi _=>i < n,λi H x H'=>H'=H/\x=.int (lo + i),λi _=>n<=i⟩
def dg_2{P:Program}{w:World}{K:Frag}{tg:Expr}(a it:Addr):Turn P w K tg (Itl K a) [it] it (λi h=>h.IsListIter it a i) where
 mem:=by simp
 obj:=λi h st b hb=>by
  have e:b=it:=by simpa using hb
  subst e;obtain⟨o,e,c,d⟩:=st;exact⟨o,e,λv z=>by rw[d]at z;cases z⟩
 keep:=λi h h' st k=>st.at λo e=>k it (by simp) o e
 item:=by
  intro X hP hw hK hc i zd s σ H E I hf st hg;subst hP hw hK;obtain⟨xs,x,hq,hx⟩:=hg;obtain⟨its,rv,p,hz⟩:=I.list hq;obtain⟨u,hu,ru⟩:=rv.get hx;obtain⟨f0,f1,f2,f3,f4,f5⟩:=hf it (by simp);refine wpAny_pyNext_list_item st p.isList (x:=u) (by simpa using hu) λh' st' sb=> ?_;have I1:Inv X zd σ H {s with heap:=h'}:=I.turned (t':=s.toks) (λb o hb e=>(sb.2 b hb).trans e) f0 f1 f3 f4 f5;obtain⟨o,e,c,d⟩:=id st';exact⟨u,rfl,bs_5 (s:={s with heap:=h'}) e c d ⋯ ⟨x,H,I1,ru,⟨rfl,λys hy=>by rw[I.list_inj hy hq];exact hx⟩,st',λb hb=>(hf b hb).1⟩⟩
 done:=by
  intro X hP hw hK hc i zd s σ H E I hf st hg;subst hP hw hK;obtain⟨xs,hq,hx⟩:=hg;obtain⟨its,rv,p,hz⟩:=I.list hq;obtain⟨f0,f1,f2,f3,f4,f5⟩:=hf it (by simp);have hl:=rv.length;exact wpAny_pyNext_list_end (I.ok.hd hc) st p.isList (by simp;omega) λh' eb=>⟨rfl,I.turned (t':=s.toks) (λb o hb e=>eb b o hb e) f0 f1 f3 f4 f5⟩
 self:=λ_ _ _ _ _ st h=>wpAny_pyIter_listiter st h
def cr_2{P:Program}{w:World}{K:Frag}{tg:Expr}(a it:Addr):Turn P w K tg (Itt K a) [it] it (λi h=>h.IsTupleIter it a i) where
 mem:=by simp
 obj:=λi h st b hb=>by
  have e:b=it:=by simpa using hb
  subst e;obtain⟨o,e,c,d⟩:=st;exact⟨o,e,λv z=>by rw[d]at z;cases z⟩
 keep:=λi h h' st k=>st.at λo e=>k it (by simp) o e
 item:=by
  intro X hP hw hK hc i zd s σ H E I hf st hg;subst hP hw hK;obtain⟨xs,x,hq,hx⟩:=hg;obtain⟨its,rv,p,hz⟩:=I.tuple hq;obtain⟨u,hu,ru⟩:=rv.get hx;obtain⟨f0,f1,f2,f3,f4,f5⟩:=hf it (by simp);refine wpAny_pyNext_tuple_item st (show s.heap.IsTuple a its.toArray from p) (x:=u) (by simpa using hu) λh' st' sb=> ?_;have I1:Inv X zd σ H {s with heap:=h'}:=I.turned (t':=s.toks) (λb o hb e=>(sb.2 b hb).trans e) f0 f1 f3 f4 f5;obtain⟨o,e,c,d⟩:=id st';exact⟨u,rfl,bs_5 (s:={s with heap:=h'}) e c d ⋯ ⟨x,H,I1,ru,⟨rfl,λys hy=>by rw[I.tuple_inj hy hq];exact hx⟩,st',λb hb=>(hf b hb).1⟩⟩
 done:=by
  intro X hP hw hK hc i zd s σ H E I hf st hg;subst hP hw hK;obtain⟨xs,hq,hx⟩:=hg;obtain⟨its,rv,p,hz⟩:=I.tuple hq;obtain⟨f0,f1,f2,f3,f4,f5⟩:=hf it (by simp);have hl:=rv.length;exact wpAny_pyNext_tuple_end (I.ok.hd hc) st (show s.heap.IsTuple a its.toArray from p) (by simp;omega) λh' eb=>⟨rfl,I.turned (t':=s.toks) (λb o hb e=>eb b o hb e) f0 f1 f3 f4 f5⟩
 self:=λ_ _ _ _ _ st h=>wpAny_pyIter_tupleiter st h
def ah_3{P:Program}{w:World}{K:Frag}{tg:Expr}(it:Addr)(lo:Int)(n:Nat):Turn P w K tg (Itr lo n) [it] it (λi h=>IsRangeIter h it (lo + (i:Nat) * 1) ((n:Int) - (i:Nat)) 1) where
 mem:=by simp
 obj:=λi h st b hb=>by
  have e:b=it:=by simpa using hb
  subst e;exact⟨_,st,λv z=>by
   have z':Data.fields _=Data.cell v:=z;cases z'⟩
 keep:=λi h h' st k=>k it (by simp) _ st
 item:=by
  intro X hP hw hK hc i zd s σ H E I hf st hg;subst hP hw hK;obtain⟨f0,f1,f2,f3,f4,f5⟩:=hf it (by simp);have W:=Walks.range (prog:=X.prog) (w:=X.w) (I.ok.hd hc) it lo 1 n;refine W.item i s _ _ hg st λv h' tk hv st' kk=> ?_;obtain⟨t,rfl⟩:=hv;have I1:Inv X zd σ H {s with heap:=h',toks:=tk}:=I.turned (λb o hb e=>kk b o (by simpa using hb) e) f0 f1 f3 f4 f5;refine⟨_,rfl,bs_5 (s:={s with heap:=h',toks:=tk}) (n:= "range_iterator") st' rfl rfl ⋯ ⟨.int (lo + i),H,I1,⟨t, ?_⟩,⟨rfl,rfl⟩,st',λb hb=>(hf b hb).1⟩⟩;rw[Int.mul_one]
 done:=by
  intro X hP hw hK hc i zd s σ H E I hf st hg;subst hP hw hK;obtain⟨f0,f1,f2,f3,f4,f5⟩:=hf it (by simp);exact wpAny_pyNext_range_end (I.ok.hd hc) st (by have:n<=i:=hg;omega) λh' eb=>⟨rfl,I.turned (t':=s.toks) (λb o hb e=>eb b o hb e) f0 f1 f3 f4 f5⟩
 self:=λ_ _ _ _ _ st h=>wpAny_pyIter_rangeiter st h
section
variable{X:Cx}{tg:Expr}
def do_1{zd:AE}{σ:St}{H:Hp}{s:Shared}{R:It->Hp->Prop}{E:AA}{lo hi:Int}{t u v:Tok}{tk:Nat}(I:Inv X zd σ H s)(h1: -(2 ^ 62)<=lo)(h2:lo < 2 ^ 62)(h3: -(2 ^ 62)<=hi)(h4:hi < 2 ^ 62)
  (q:R (Itr lo (hi - lo).toNat) H):wpAny (model X.prog X.w) X.A (pyIter (.ref s.heap.objs.size)) (PIE X zd σ tg R) E {s with heap:=s.heap.push {cls:=.type "range",data:=.fields #[.int lo t,.int hi u,.int 1 v]},toks:=tk}:=by
 refine wpAny_pyIter_range (IsRange.new ..) (small_one h1 h2 h3 h4) ?_;have I1:Inv X zd σ H {s with heap:=s.heap.push {cls:=.type "range",data:=.fields #[.int lo t,.int hi u,.int 1 v]},toks:=tk}:=I.kept λb o e=>A4 _ e;refine⟨(s.heap.push {cls:=.type "range",data:=.fields #[.int lo t,.int hi u,.int 1 v]}).objs.size,[(s.heap.push {cls:=.type "range",data:=.fields #[.int lo t,.int hi u,.int 1 v]}).objs.size],_,_,H,rfl,
  I1.kept (t':=tk) λb o e=>A4 _ e,ah_3 _ lo (hi - lo).toNat, ?_,λb hb=> ?_,q⟩
 ·have e1:lo + ((0:Nat):Int) * 1=lo:=by simp
  have e2:(((hi - lo).toNat:Nat):Int) - ((0:Nat):Int)=Builtin.Range.rangeSize lo hi 1:=by rw[ZB7];split <;> omega
  show IsRangeIter _ _ (lo + ((0:Nat):Int) * 1) ((((hi - lo).toNat:Nat):Int) - ((0:Nat):Int)) 1;rw[e1,e2];exact C1 _ rfl
 ·have e:b=(s.heap.push {cls:=.type "range",data:=.fields #[.int lo t,.int hi u,.int 1 v]}).objs.size:=by simpa using hb
  subst e;exact I1.fpOk (B0 _) (I1.hok.fresh (B0 _))
def ej_2(ta:TA):TI:=λ σ H R=>ta σ H λvs H1=>∃j:Int,vs= [.int j]/\ -(2 ^ 62)<=j/\j < 2 ^ 62/\R (Itr 0 j.toNat) H1
def dg_3{a:Expr}{ta:TA}{p pos:Pos}(hg:Gl X "range")(hm:X.mg "range" =none)(ha:PA X [a] ta)(hs:starEach [a] X.env= [(false,eval a X.env)]:=by rfl):PI X tg (.Call (.Name "range" p) [a] [] pos) (ej_2 ta):=by
 intro zd s σ H R I h;refine Call_ (ah_2 I hg hm boot_range (J6 (Bk (ha pos zd s σ H _ I h) λus s1 ⟨vs,H1,I1,r1,q1⟩=> ?_) hs rfl));obtain⟨j,e,q1,q2,q⟩:=q1;subst e;cases r1 with
 |cons r rr=>
  cases rr;obtain⟨t,rfl⟩:=r;exact ZC0 (do_1 I1 () () q1 q2 (by simpa using q))
def tFor(wi:TI)(g:TG)(tb:TS):TS:=λD σ H=>wi σ H λJ H1=>∃W:Nat->Nat->St->Hp->Prop,(∃m,W 0 m σ H1)/\∀i m σ H,W i m σ H->
 (J.stop i H/\D.nx σ H)\/(J.go i H/\∃N:St->Hp->Prop,(∀σ' H',N σ' H'->∃m',m' < m/\W (i + 1) m' σ' H')/\∀x H',J.yld i H x H'->g x σ H' λ σ2 H2=>tb {D with nx:=N,ct:=N,bk:=D.nx} σ2 H2)
def bi_6(fp:List Addr)(h:Heap):AE:=fp.filterMap λb=>(h.get? b).map λo=>(b,o)
def ah_4{fp:List Addr}{h:Heap}{b:Addr}{o:Obj}(hb:b∈fp)(e:h.get? b=some o):(b,o)∈bi_6 fp h:=List.mem_filterMap.mpr ⟨b,hb,by rw[e];rfl⟩
def dg_4{fp:List Addr}{h:Heap}{p:Addr×Obj}(hp:p∈bi_6 fp h):p.1∈fp/\h.get? p.1=some p.2:=by
 obtain⟨b,hb,e⟩:=List.mem_filterMap.mp hp;cases q:h.get? b with
 |none=>rw[q]at e;cases e
 |some o=>
  rw[q]at e;have e':(b,o)=p:=J8 e;subst e';exact⟨hb,q⟩
def Inv.pinned{zd:AE}{σ:St}{H:Hp}{s:Shared}{fp:List Addr}(I:Inv X zd σ H s)(hf:∀b∈fp,Dn X zd H b)(ho:∀b∈fp,∃o,s.heap.get? b=some o/\∀v,o.data≠ .cell v):Inv X (zd ++ bi_6 fp s.heap) σ H s:=
 I.pins_of λp hp=>(F6.mp hp).elim (λz=>I.pin p (D5 _ z)) λz=>by
  obtain⟨hb,e⟩:=dg_4 z;obtain⟨f0,f1,f2,_⟩:=hf p.1 hb;obtain⟨o,e',d⟩:=ho p.1 hb;rw[e]at e';cases e';exact⟨e,f0,f1,f2,d⟩
def Inv.unpinned{zd pl:AE}{σ:St}{H:Hp}{s:Shared}(I:Inv X (zd ++ pl) σ H s):Inv X zd σ H s:=I.pins_of λp hp=>I.pin p (D5 _ (K5 _ hp))
def em_7{iter:Expr}{body:List Stmt}{wi:TI}{g:TG}{tb:TS}{pos:Pos}(hp:PassesOwn (model X.prog X.w) X.A X.env X.xe)(hc:X.calm=true)(hi:PI X tg iter wi)(hg:PG X tg g)(hb:PSs X body tb)
  (hs:∀x,foldedSetIterable iter X.env x=pure x:=by intro _;rfl):PS X (.For tg iter body [] pos) (tFor wi g tb):=by
 intro zd s σ H D I h;refine wpAny_For (Bk (hi zd s σ H _ I h) λv s1 h1=>Bk h1 λitv s2 h2=> ?_) hs;obtain⟨it,fp,tn,J,H2,e,I2,T,st2,f2,W,⟨m0,w0⟩,turn⟩:=h2;subst e
 
 have cf:∀{H':Hp},(∀b∈fp,H' b=none)->∀b∈fp,Dn X zd H' b:=λhn b hb=>⟨hn b hb,(f2 b hb).2⟩;refine codeAny_forLoop_any (λn s'=>∃i σ' H',Inv X zd σ' H' s'/\tn i s'.heap/\(∀b∈fp,H' b=none)/\W i n σ' H') ?_ m0 ⟨0,σ,H2,I2,st2,λb hb=>(f2 b hb).1,w0⟩
 rintro n s3 ⟨i,σ3,H3,I3,st3,fr3,w3⟩
 rcases turn i n σ3 H3 w3 with⟨stop,qn⟩|⟨go,N,hN,step⟩
 ·refine Q3 hp (Bk (T.done X rfl rfl rfl hc i zd s3 σ3 H3 X.xe I3 (cf fr3) st3 stop) λr s4 ⟨hr,I4⟩=> ?_);subst hr;exact T5 ⟨σ3,H3,I4,qn⟩
 ·refine Q3 hp (Bk (T.item X rfl rfl rfl hc i zd s3 σ3 H3 X.xe I3 (cf fr3) st3 go) λr s4 ⟨u,hr,h4⟩=> ?_);subst hr;refine Q3 hp (Bk h4 λ_ s5 ⟨x,H5,I5,r5,y5,st5,fr5⟩=> ?_);have I5':=I5.pinned (cf fr5) (T.obj _ _ st5);refine Q3 hp (Bk (hg _ s5 σ3 H5 x u _ I5' r5 (step x H5 y5)) λ_ s6 ⟨σ6,H6,I6,q6⟩=> ?_);refine Q3 hp (Bk (hb _ s6 σ6 H6 _ I6 q6) λf s7 q7=> ?_);have again:∀{σ7:St} {H7:Hp},Inv X (zd ++ bi_6 fp s5.heap) σ7 H7 s7->N σ7 H7->∃m,m < n/\∃i σ' H',Inv X zd σ' H' s7/\tn i s7.heap/\(∀b∈fp,H' b=none)/\W i m σ' H':=λ{σ7 H7} I7 n7=>by
   obtain⟨m',hm,w7⟩:=hN σ7 H7 n7;refine⟨m',hm,i + 1,σ7,H7,I7.unpinned,T.keep _ _ _ st5 λb hb o e=>(I7.pin (b,o) (D5 _ (D5 _ (ah_4 hb e)))).1,λb hb=> ?_,w7⟩;obtain⟨o,e,d⟩:=T.obj _ _ st5 b hb;exact(I7.pin (b,o) (D5 _ (D5 _ (ah_4 hb e)))).2.1
  cases f with
  |next=>obtain⟨σ7,H7,I7,n7⟩:=q7;exact again I7 n7
  |cont=>obtain⟨σ7,H7,I7,n7⟩:=q7;exact again I7 n7
  |brk=>obtain⟨σ7,H7,I7,q7⟩:=q7;exact⟨σ7,H7,I7.unpinned,q7⟩
  |ret v=>obtain⟨x7,σ7,H7,I7,r7,q7⟩:=q7;exact⟨x7,σ7,H7,I7.unpinned,r7,q7⟩
end
abbrev R2:=V->V->Hp->VK->Prop
def Ey(X:Cx)(f:Value->Value->Sem Value)(r:R2):Prop:=
 ∀(zd:AE) (s:Shared) (σ:St) (H:Hp) (x y:V) (v u:Value) (Q:VK),Inv X zd σ H s->RelV x v->RelV y u->r x y H Q->
  wpAny (model X.prog X.w) X.A (f v u) (EP X zd σ Q) X.xe s
def Ei(X:Cx)(f:Value)(r:List V->Hp->VK->Prop):Prop:=
 ∀(zd:AE) (s:Shared) (σ:St) (H:Hp) (xs:List V) (us:List Value) (Q:VK),Inv X zd σ H s->Vals xs us->r xs H Q->
  wpAny (model X.prog X.w) X.A (call f us) (EP X zd σ Q) X.xe s
def TruR(X:Cx)(r:V->Hp->(Bool->Hp->Prop)->Prop):Prop:=
 ∀(zd:AE) (s:Shared) (σ:St) (H:Hp) (x:V) (v:Value) (Q:Bool->Hp->Prop),Inv X zd σ H s->RelV x v->r x H Q->
  wpAny (model X.prog X.w) X.A (truthy v) (TP X zd σ Q) X.xe s
def tOp(r:R2)(ta tb:TE):TE:=λ σ H Q=>ta σ H λx H1=>tb σ H1 λy H2=>r x y H2 Q
def rI(C:Int->Int->Prop)(g:Int->Int->V):R2:=λx y H Q=>∃i j,x=.int i/\y=.int j/\C i j/\Q (g i j) H
def rI0(g:Int->Int->V):R2:=λx y H Q=>∃i j,x=.int i/\y=.int j/\Q (g i j) H
section
variable{X:Cx}{a b c:Expr}{ta tb tc:TE}{pos:Pos}
def binT(ha:PE X a ta)(hb:PE X b tb){zd:AE}{s:Shared}{σ:St}{H:Hp}{R:V->V->Hp->Prop}(I:Inv X zd σ H s)
  (h:ta σ H λx H1=>tb σ H1 λy H2=>R x y H2) {Q:AA} {f:Value->Value->Sem Value}
  (hf:∀v u s2 x y H2,Inv X zd σ H2 s2->RelV x v->RelV y u->R x y H2->wpAny (model X.prog X.w) X.A (f v u) Q X.xe s2):
  wpAny (model X.prog X.w) X.A (eval a X.env) (λv s₁=>wpAny (model X.prog X.w) X.A (eval b X.env) (λu s₂=>wpAny (model X.prog X.w) X.A (f v u) Q X.xe s₂) X.xe s₁) X.xe s:=by
 refine Bk (ha zd s σ H _ I h) λv s1 ⟨x,H1,I1,r1,q1⟩=> ?_;refine Bk (hb zd s1 σ H1 _ I1 q1) λu s2 ⟨y,H2,I2,r2,q2⟩=> ?_;exact hf v u s2 x y H2 I2 r1 r2 q2
def ej_3{op:Operator}{r:R2}(ho:Ey X (binaryOp op) r)(ha:PE X a ta)(hb:PE X b tb):PE X (.BinOp a op b pos) (tOp r ta tb):=by
 intro zd s σ H Q I h;exact wpAny_BinOp (binT ha hb I h λv u s2 x y H2 I2 rx ry q=>ho zd s2 σ H2 x y v u Q I2 rx ry q)
def opI{f:Value->Value->Sem Value}{C:Int->Int->Prop}{g:Int->Int->Int}
  (rule:∀(i j:Int) (t u:Tok) (s:Shared) (Q:AA) (E:AA),C i j->Q (.int (g i j) s.toks) {s with toks:=s.toks + 1}->wpAny (model X.prog X.w) X.A (f (.int i t) (.int j u)) Q E s):
  Ey X f (rI C λi j=> .int (g i j)):=by
 intro zd s σ H x y v u Q I rx ry h;obtain⟨i,j,rfl,rfl,hc,q⟩:=h;obtain⟨t,rfl⟩:=rx;obtain⟨t',rfl⟩:=ry;exact rule i j t t' s _ _ hc ⟨.int (g i j),H,I.tok _,⟨_,rfl⟩,q⟩
def opI0{f:Value->Value->Sem Value}{g:Int->Int->Int}
  (rule:∀(i j:Int) (t u:Tok) (s:Shared) (Q:AA) (E:AA),Q (.int (g i j) s.toks) {s with toks:=s.toks + 1}->wpAny (model X.prog X.w) X.A (f (.int i t) (.int j u)) Q E s):
  Ey X f (rI0 λi j=> .int (g i j)):=by
 intro zd s σ H x y v u Q I rx ry h;obtain⟨i,j,rfl,rfl,q⟩:=h;obtain⟨t,rfl⟩:=rx;obtain⟨t',rfl⟩:=ry;exact rule i j t t' s _ _ ⟨.int (g i j),H,I.tok _,⟨_,rfl⟩,q⟩
def opB0{f:Value->Value->Sem Value}{g:Int->Int->Bool}
  (rule:∀(i j:Int) (t u:Tok) (s:Shared) (Q:AA) (E:AA),Q (.bool (g i j)) s->wpAny (model X.prog X.w) X.A (f (.int i t) (.int j u)) Q E s):
  Ey X f (rI0 λi j=> .bl (g i j)):=by
 intro zd s σ H x y v u Q I rx ry h;obtain⟨i,j,rfl,rfl,q⟩:=h;obtain⟨t,rfl⟩:=rx;obtain⟨t',rfl⟩:=ry;exact rule i j t t' s _ _ ⟨.bl (g i j),H,I,rfl,q⟩
def CPow(i j:Int):Prop:=0<=j/\j<=1000000/\i.natAbs < 2 ^ 64
def CMul(i j:Int):Prop:=(-(2 ^ 64) < i/\i < 2 ^ 64)\/(-(2 ^ 64) < j/\j < 2 ^ 64)
def CMul.ok{i j:Int}(h:CMul i j):IntMulOk i j:=by
 rcases h with⟨h1,h2⟩|⟨h1,h2⟩
 ·exact .of_left (intBits_le_64 h1 h2)
 ·exact .of_right (intBits_le_64 h1 h2)
def em_9:Ey X (binaryOp .Add) (rI0 λi j=> .int (i + j)):=opI0 λ_ _ _ _ _ _ _ q=>add_int q
def en_0:Ey X (binaryOp .Mult) (rI CMul λi j=> .int (i * j)):=opI λ_ _ _ _ _ _ _ hc q=>mul_int q hc.ok
def en_1:Ey X (binaryOp .Mod) (rI (λ_ j=>0 < j) λi j=> .int (i % j)):=opI λi j _ _ _ _ _ hc q=>by
 have h1:(0:Int) < j:=hc;exact mod_int' () (by rw[Int.fmod_eq_emod_of_nonneg i ()];exact q)
def en_2:Ey X (binaryOp .Pow) (rI CPow λi j=> .int (i ^ j.toNat)):=opI λ_ _ _ _ _ _ _ hc q=>pow_int_small hc.1 hc.2.1 hc.2.2 q
end
def scal:V->V->Bool
 | .non,.non=>true| .non,.int _=>true| .int _,.non=>true| .non,.bl _=>true| .bl _,.non=>true| .non,.str _=>true| .str _,.non=>true
 | .int _,.int _=>true| .bl _,.bl _=>true| .str _,.str _=>true| .byt _,.byt _=>true
 | .int _,.str _=>true| .str _,.int _=>true| .bl _,.str _=>true| .str _,.bl _=>true
 |_,_=>false
def rEq:R2:=λx y H Q=>scal x y=true/\Q (.bl (decide (x=y))) H
def rNe:R2:=λx y H Q=>scal x y=true/\Q (.bl (!decide (x=y))) H
def cz_1{i j:Int}:decide (V.int i=V.int j)=(i ==j):=by
 rw[O7];simp
def do_2{i j:Bool}:decide (V.bl i=V.bl j)=(i ==j):=by
 rw[O7];simp
def cz_2{i j:Str}:decide (V.str i=V.str j)=(i ==j):=by
 rw[O7];simp
def cz_3{i j:Array UInt8}:decide (V.byt i=V.byt j)=(i.toList ==j.toList):=by
 rw[O7];cases i;cases j;simp
section
variable{X:Cx}{a b c:Expr}{ta tb tc:TE}{pos:Pos}
def Eg{zd:AE}{σ:St}{H:Hp}{s:Shared}{Q:VK}{k k':Bool}(I:Inv X zd σ H s)(q:Q (.bl k) H)(e:k=k'):EP X zd σ Q (.bool k') s:=by
 subst e;exact⟨.bl k,H,I,rfl,q⟩
def ev_2:Ey X (compareOp .Eq) rEq:=by
 intro zd s σ H x y v u Q I rx ry h;obtain⟨hs,q⟩:=h;cases x with
 |non=>
  cases rx;cases y with
  |non=>cases ry;exact PySem.EqNone.eq_none_none (Eg I q (by simp))
  |bl j=>cases ry;exact PySem.EqNone.eq_none_bool (Eg I q (by simp))
  |int j=>obtain⟨t',rfl⟩:=ry;exact PySem.EqNone.eq_none_int (Eg I q (by simp))
  |str j=>obtain⟨t',rfl⟩:=ry;exact PySem.EqNone.eq_none_str (Eg I q (by simp))
  |_=>exact absurd (show false=true from hs) A6
 |bl i=>
  cases rx;cases y with
  |non=>cases ry;exact PySem.EqNone.eq_bool_none (Eg I q (by simp))
  |bl j=>cases ry;exact eq_bool (Eg I q do_2)
  |str j=>obtain⟨t',rfl⟩:=ry;exact PySem.EqMixed.eq_bool_str (Eg I q (by simp))
  |_=>exact absurd (show false=true from hs) A6
 |int i=>
  obtain⟨t,rfl⟩:=rx;cases y with
  |non=>cases ry;exact PySem.EqNone.eq_int_none (Eg I q (by simp))
  |int j=>obtain⟨t',rfl⟩:=ry;exact eq_int (Eg I q cz_1)
  |str j=>obtain⟨t',rfl⟩:=ry;exact PySem.EqMixed.eq_int_str (Eg I q (by simp))
  |_=>exact absurd (show false=true from hs) A6
 |str i=>
  obtain⟨t,rfl⟩:=rx;cases y with
  |non=>cases ry;exact PySem.EqNone.eq_str_none (Eg I q (by simp))
  |bl j=>cases ry;exact PySem.EqMixed.eq_str_bool (Eg I q (by simp))
  |int j=>obtain⟨t',rfl⟩:=ry;exact PySem.EqMixed.eq_str_int (Eg I q (by simp))
  |str j=>obtain⟨t',rfl⟩:=ry;exact eq_str (Eg I q cz_2)
  |_=>exact absurd (show false=true from hs) A6
 |byt i=>
  obtain⟨t,rfl⟩:=rx;cases y with
  |byt j=>obtain⟨t',rfl⟩:=ry;exact eq_bytes (Eg I q cz_3)
  |_=>exact absurd (show false=true from hs) A6
 |_=>cases y <;> exact absurd (show false=true from hs) A6
def ev_3:Ey X (compareOp .NotEq) rNe:=by
 intro zd s σ H x y v u Q I rx ry h;obtain⟨hs,q⟩:=h;cases x with
 |non=>
  cases rx;cases y with
  |non=>cases ry;exact PySem.EqNone.ne_none_none (Eg I q (by simp))
  |bl j=>cases ry;exact PySem.EqNone.ne_none_bool (Eg I q (by simp))
  |int j=>obtain⟨t',rfl⟩:=ry;exact PySem.EqNone.ne_none_int (Eg I q (by simp))
  |str j=>obtain⟨t',rfl⟩:=ry;exact PySem.EqNone.ne_none_str (Eg I q (by simp))
  |_=>exact absurd (show false=true from hs) A6
 |bl i=>
  cases rx;cases y with
  |non=>cases ry;exact PySem.EqNone.ne_bool_none (Eg I q (by simp))
  |bl j=>cases ry;exact ne_bool (Eg I q (Q5 not do_2))
  |str j=>obtain⟨t',rfl⟩:=ry;exact PySem.EqMixed.ne_bool_str (Eg I q (by simp))
  |_=>exact absurd (show false=true from hs) A6
 |int i=>
  obtain⟨t,rfl⟩:=rx;cases y with
  |non=>cases ry;exact PySem.EqNone.ne_int_none (Eg I q (by simp))
  |int j=>obtain⟨t',rfl⟩:=ry;exact ne_int (Eg I q (Q5 not cz_1))
  |str j=>obtain⟨t',rfl⟩:=ry;exact PySem.EqMixed.ne_int_str (Eg I q (by simp))
  |_=>exact absurd (show false=true from hs) A6
 |str i=>
  obtain⟨t,rfl⟩:=rx;cases y with
  |non=>cases ry;exact PySem.EqNone.ne_str_none (Eg I q (by simp))
  |bl j=>cases ry;exact PySem.EqMixed.ne_str_bool (Eg I q (by simp))
  |int j=>obtain⟨t',rfl⟩:=ry;exact PySem.EqMixed.ne_str_int (Eg I q (by simp))
  |str j=>obtain⟨t',rfl⟩:=ry;exact ne_str (Eg I q (Q5 not cz_2))
  |_=>exact absurd (show false=true from hs) A6
 |byt i=>
  obtain⟨t,rfl⟩:=rx;cases y with
  |byt j=>obtain⟨t',rfl⟩:=ry;exact ne_bytes (Eg I q (Q5 not cz_3))
  |_=>exact absurd (show false=true from hs) A6
 |_=>cases y <;> exact absurd (show false=true from hs) A6
def ev_4:Ey X (compareOp .Lt) (rI0 λi j=> .bl (decide (i < j))):=opB0 λ_ _ _ _ _ _ _ q=>lt_int q
def ev_5:Ey X (compareOp .LtE) (rI0 λi j=> .bl (decide (i<=j))):=opB0 λ_ _ _ _ _ _ _ q=>le_int q
def ev_6:Ey X (compareOp .Gt) (rI0 λi j=> .bl (decide (j < i))):=opB0 λ_ _ _ _ _ _ _ q=>gt_int q
def ev_7:Ey X (compareOp .GtE) (rI0 λi j=> .bl (decide (j<=i))):=opB0 λ_ _ _ _ _ _ _ q=>ge_int q
def dg_5:Ey X (compareOp .In) (λx y H Q=>∃i j,x=.str i/\y=.str j/\Q (.bl (!(Builtin.Str.occurrences j i 0 j.length 1).isEmpty)) H):=by
 intro zd s σ H x y v u Q I rx ry h;obtain⟨i,j,rfl,rfl,q⟩:=h;obtain⟨t,rfl⟩:=rx;obtain⟨t',rfl⟩:=ry;exact in_str (Eg I q rfl)
def Ca(b:Expr){op:CmpOp}(h:op≠ .In:=by decide)(h2:op≠ .NotIn:=by decide):behindInMarks op b=false:=by
 have e1:(op ==CmpOp.In)=false:=by cases op <;> first|rfl|exact absurd rfl h
 have e2:(op ==CmpOp.NotIn)=false:=by cases op <;> first|rfl|exact absurd rfl h2
 cases b <;> simp[behindInMarks,e1,e2]
def ea_5{op:CmpOp}{r:R2}(ho:Ey X (compareOp op) r)(ha:PE X a ta)(hb:PE X b tb)(hm:behindInMarks op b=false):PE X (.Compare a [op] [b] pos) (tOp r ta tb):=by
 intro zd s σ H Q I h;exact wpAny_Compare1 (binT ha hb I h λv u s2 x y H2 I2 rx ry q=>ho zd s2 σ H2 x y v u Q I2 rx ry q) hm
def ev_8(t:TE):TT:=λ σ H Q=>t σ H λx H'=>∃k,x=.bl k/\Q k H'
def ea_6{op:CmpOp}{r:R2}(ho:Ey X (compareOp op) r)(ha:PE X a ta)(hb:PE X b tb)(hm:behindInMarks op b=false):PT X (.Compare a [op] [b] pos) (ev_8 (tOp r ta tb)):=by
 intro zd s σ H Q I h;refine wpAny_isTrue_Compare1 (Bk (ha zd s σ H _ I h) λv s1 ⟨x,H1,I1,r1,q1⟩=>Bk (hb zd s1 σ H1 _ I1 q1) λu s2 ⟨y,H2,I2,r2,q2⟩=>
  Bk (ho zd s2 σ H2 x y v u _ I2 r1 r2 q2) λc s3 ⟨z,H3,I3,r3,k,e,q3⟩=> ?_) hm
 subst e;cases r3;exact Q4 ⟨H3,I3,q3⟩
def do_3(r r':R2)(ta tb tc:TE):TE:=λ σ H Q=>ta σ H λx H1=>tb σ H1 λy H2=>r x y H2 λz H3=>∃k,z=.bl k/\
 (if k=true then tc σ H3 λw' H4=>r' y w' H4 Q else Q (.bl false) H3)
def do_4{op op':CmpOp}{r r':R2}(ho:Ey X (compareOp op) r)(ho':Ey X (compareOp op') r')(ha:PE X a ta)(hb:PE X b tb)(hc:PE X c tc)
  (hm:lastMarks [op,op'] [b,c]=false:=by with_unfolding_all rfl):PE X (.Compare a [op,op'] [b,c] pos) (do_3 r r' ta tb tc):=by
 intro zd s σ H Q I h;refine Compare_chain (Bk (ha zd s σ H _ I h) λv s1 ⟨x,H1,I1,r1,q1⟩=>chain_link (Bk (hb zd s1 σ H1 _ I1 q1) λu s2 ⟨y,H2,I2,r2,q2⟩=>
  Bk (ho zd s2 σ H2 x y v u _ I2 r1 r2 q2) λd s3 ⟨z,H3,I3,r3,k,e,q3⟩=> ?_)) hm
 subst e;cases r3;refine Q4 ?_;cases k with
 |false=>exact ite_ff ⟨.bl false,H3,I3,rfl,q3⟩
 |true=>exact ite_tt (chain_last (Bk (hc zd s3 σ H3 _ I3 q3) λw' s4 ⟨z',H4,I4,r4,q4⟩=>ho' zd s4 σ H4 y z' u w' Q I4 r2 r4 q4))
def TruV(K:Frag)(x:V)(H:Hp)(k:Bool):Prop:=
 match x with
 | .non=>k=false
 | .bl b=>k=b
 | .int i=>k=(i != 0)
 | .str y=>y.length<=sizeLine/\k=((y.length:Int) != 0)
 | .byt y=>y.size<=sizeLine/\k=((y.size:Int) != 0)
 | .ref p=>(∃xs,SqL K H p xs/\k= !xs.isEmpty)\/(∃xs,SqT K H p xs/\k= !xs.isEmpty)\/∃kvs,H p=some (.dK kvs)/\k= !kvs.isEmpty
 |_=>False
def cr_3{κ:Type}{kvs:List (κ×V)}{vs:List (κ×Value)}(r:KV kvs vs):(!vs.isEmpty)= !kvs.isEmpty:=by
 cases r <;> rfl
def bi_7{xs:List V}{its:List Value}(r:Vals xs its):(!its.toArray.isEmpty)= !xs.isEmpty:=by
 cases r <;> simp
def at_0:(sizeLine:Nat) < 2 ^ 63:=by rw[E5];decide
def en_4:TruR X (λx H Q=>∃k,TruV X.K x H k/\Q k H):=by
 intro zd s σ H x v Q I rx h;obtain⟨k,e,q⟩:=h;have hl:=at_0;have hs:sizeLine=16777216:=E5;cases x with
 |non=>
  cases rx;have e':k=false:=e;subst e';exact truthy_none ⟨H,I,q⟩
 |bl b=>
  cases rx;have e':k=b:=e;subst e';exact Q4 ⟨H,I,q⟩
 |int i=>
  obtain⟨t,rfl⟩:=rx;have e':k=(i != 0):=e;subst e';exact PySem.P.truthy_int ⟨H,I,q⟩
 |str y=>
  obtain⟨t,rfl⟩:=rx;obtain⟨hy,e'⟩:y.length<=sizeLine/\k=((y.length:Int) != 0):=e;subst e';exact PySem.P.truthy_str () ⟨H,I.tok _,q⟩
 |byt y=>
  obtain⟨t,rfl⟩:=rx;obtain⟨hy,e'⟩:y.size<=sizeLine/\k=((y.size:Int) != 0):=e;subst e';exact truthy_bytes () ⟨H,I.tok _,q⟩
 |ref p=>
  cases rx;have e':(∃xs,SqL X.K H p xs/\k= !xs.isEmpty)\/(∃xs,SqT X.K H p xs/\k= !xs.isEmpty)\/∃kvs,H p=some (.dK kvs)/\k= !kvs.isEmpty:=e;rcases e' with⟨xs,hx,e'⟩|⟨xs,hx,e'⟩|⟨kvs,hx,e'⟩
  ·subst e';obtain⟨its,r,pl,hz⟩:=I.list hx;have zm:=r.length;exact wpAny_truthy_list pl.isList (by simp only[B4];omega) ⟨H,I.tok _,by rw[bi_7 r];exact q⟩
  ·subst e';obtain⟨its,r,pl,hz⟩:=I.tuple hx;have zm:=r.length;exact truthy_tuple pl (by simp only[B4];omega) ⟨H,I.tok _,by rw[bi_7 r];exact q⟩
  ·subst e';obtain⟨hz,hS,vs,r,m⟩:kvs.length<=sizeLine/\(p ==sysModules)=false/\∃vs,KV kvs vs/\s.heap.DictOf (k_1 X.prog X.w) p vs:=I.hok p _ hx;have zm:kvs.length=vs.length:=Y9 r;exact wpAny_truthy_dict hS m () ⟨H,I.tok _,by rw[cr_3 r];exact q⟩
 |_=>exact(show False from e).elim
def do_5(ha:PE X a ta)(he:∀whole,isTrue a X.env whole=(do let v<-whole;standAt a.pos;holding [v] (truthy v))):
  PT X a (λ σ H Q=>ta σ H λx H'=>∃k,TruV X.K x H' k/\Q k H'):=by
 intro zd s σ H Q I h;exact isTrue_plain (Bk (ha zd s σ H _ I h) λv s1 ⟨x,H1,I1,r1,q1⟩=>en_4 zd s1 σ H1 x v Q I1 r1 q1) (he _)
def cr_4:Ey X (binaryOp .Add) (λx y H Q=>∃i j,x=.str i/\y=.str j/\i.length + j.length<=sizeLine/\Q (.str (i ++ j)) H):=by
 intro zd s σ H x y v u Q I rx ry h;obtain⟨i,j,rfl,rfl,hz,q⟩:=h;obtain⟨t,rfl⟩:=rx;obtain⟨t',rfl⟩:=ry;exact add_str (λt' tk=>⟨.str (i ++ j),H,I.tok _,⟨_,rfl⟩,q⟩) hz
def bi_8{x:V}{us:List Value}(r:Vals [x] us):∃u,us= [u]/\RelV x u:=by
 cases r with
 |cons r1 r2=>cases r2;exact⟨_,rfl,r1⟩
def ej_4{x y:V}{us:List Value}(r:Vals [x,y] us):∃u w',us= [u,w']/\RelV x u/\RelV y w':=by
 cases r with
 |cons r1 r2=>
  cases r2 with
  |cons r3 r4=>cases r4;exact⟨_,_,rfl,r1,r3⟩
def dg_6(hc:X.calm=true):Ei X (.builtin "max") (λxs H Q=>∃i j,xs= [.int i,.int j]/\Q (.int (if j > i then j else i)) H):=by
 intro zd s σ H xs us Q I r h;obtain⟨i,j,rfl,q⟩:=h;obtain⟨u,w',rfl,⟨t,rfl⟩,⟨t',rfl⟩⟩:=ej_4 r;refine max_two_ints (I.ok.hd hc) λh' tk k=>⟨_,H,I.kept k, ?_,q⟩
 by_cases hj:j > i
 ·rw[if_pos hj,if_pos hj];exact⟨_,rfl⟩
 ·rw[if_neg hj,if_neg hj];exact⟨_,rfl⟩
def dg_7(hc:X.calm=true):Ei X (.builtin "min") (λxs H Q=>∃i j,xs= [.int i,.int j]/\Q (.int (if j < i then j else i)) H):=by
 intro zd s σ H xs us Q I r h;obtain⟨i,j,rfl,q⟩:=h;obtain⟨u,w',rfl,⟨t,rfl⟩,⟨t',rfl⟩⟩:=ej_4 r;refine min_two_ints (I.ok.hd hc) λh' tk k=>⟨_,H,I.kept k, ?_,q⟩
 by_cases hj:j < i
 ·rw[if_pos hj,if_pos hj];exact⟨_,rfl⟩
 ·rw[if_neg hj,if_neg hj];exact⟨_,rfl⟩
def bs_6:Ei X (.type "int") (λxs H Q=>(∃i,xs= [.int i]/\Q (.int i) H)\/∃k,xs= [.bl k]/\Q (.int (if k then 1 else 0)) H):=by
 intro zd s σ H xs us Q I r h;rcases h with⟨i,rfl,q⟩|⟨k,rfl,q⟩
 ·obtain⟨u,rfl,t,rfl⟩:=bi_8 r;exact call_int_int ⟨.int i,H,I,⟨_,rfl⟩,q⟩
 ·obtain⟨u,rfl,r1⟩:=bi_8 r;cases r1;exact call_int_bool ⟨.int (if k then 1 else 0),H,I.tok _,⟨_,rfl⟩,q⟩
def by_2:Ei X (.type "str") (λxs H Q=>∃i,xs= [.int i]/\i.natAbs.log2 < 1920/\Q (.str (toString i)) H):=by
 intro zd s σ H xs us Q I r h;obtain⟨i,rfl,hz,q⟩:=h;obtain⟨u,rfl,t,rfl⟩:=bi_8 r;exact PySem.P.str_of_int hz ⟨.str _,H,I.tok _,⟨_,rfl⟩,q⟩
end
structure ObjM(h:Heap)(x dx C:Addr)(mA:AB):Prop where
 obj:h.get? x=some (instObj C dx)
 ns:h.Ns1 dx mA
 ne:dx≠x
def bs_7{h:Heap}{dx:Addr}{mA:AB}(n:h.Ns1 dx mA):∃od,h.get? dx=some od/\∀name,lookIn name od=some (mA name):=by
 obtain⟨o,es,ep,ho,hd,hk,_,hm⟩:=n;refine⟨o,ho,λname=> ?_⟩;have e:=hm name;unfold nsFind findBy at e;rw[<-Array.find?_toList]at e;unfold lookIn;rw[hd];dsimp only
 split
 ·rename_i y q;rw[q]at e;exact Q5 some e
 ·rename_i q;rw[q]at e;have a:es.toList.any (·.refKey)=false:=by
   rw[List.any_eq_false];intro y hy;obtain⟨z,t,gb⟩:=hk y (Array.mem_toList_iff.mp hy);simp[DictEntry.refKey,gb]
  have a':¬es.toList.any (·.refKey)=true:=by rw[a];exact A6
  rw[if_neg a'];exact Q5 some e
def ObjM.look{h:Heap}{x dx C:Addr}{mA:AB}(I:ObjM h x dx C mA):∃od,InstAt h x (instObj C dx) C (some od)/\∀name,lookIn name od=some (mA name):=
 let⟨od,ho,hl⟩:=bs_7 I.ns
 ⟨od,⟨I.obj,rfl,rfl,ho⟩,hl⟩
section
variable{prog:Program}{w:World}{A:Around}{E:AA}{s:Shared}{K:Frag}{x dx C f:Addr}{mA:AB}{name:Str}{v:Value}
def ea_7{expr:Bool}{Q:AA}(X:K.In s.heap)(I:ObjM s.heap x dx C mA)(hg:plainGet K C name=true)(hh:hasDictIn K C=true)
  (ha:findIn K (.ref C) name=some none) (hv:mA name=some v) (hv':handedIn v=true) (h:Q v {s with toks:=s.toks + 1}):
  wpAny (model prog w) A (getAttr (.ref x) name expr) Q E s:=by
 obtain⟨od,J,hl⟩:=I.look;exact get_value X J (ZB2 hg).1 (findObj_own hh ha rfl (by rw[hl,hv])) hv' h
def do_6{pl:Sem Bool}{Q:Value×List Value->Shared->Prop}(X:K.In s.heap)(I:ObjM s.heap x dx C mA)(hg:plainGet K C name=true)
  (hf:findIn K (.ref C) name=some (some (.ref f))) (ht:isFn K (.ref f)=true) (hv:mA name=none) (h:Q (.ref f,[.ref x]) s):
  wpAny (model prog w) A (getMethod (.ref x) name pl) Q E s:=by
 obtain⟨od,J,hl⟩:=I.look;exact method_fn X J (ZB2 hg).1 (ZB2 hg).2 hf (M3.mp ht) (by show(lookIn name od).map (·.isSome)=some false;rw[hl,hv];rfl) h
def ea_8{ns:List Str}{Q:Unit->Shared->Prop}(X:K.In s.heap)(I:ObjM s.heap x dx C mA)
  (hs:findIn K (.ref C) "__setattr__" =some (some (.builtin "object.__setattr__"))) (hp:plainOver K C=true) (ht:takerIn K C name=some none) (hh:hasDictIn K C=true)
  (hw:PySem.Within mA ns) (hsz:ns.length<=sizeLine)
  (h:∀h',ObjM h' x dx C (λy=>if y=name then some v else mA y)->Heap.SameBut dx s.heap h'->Q .unit {s with heap:=h',toks:=s.toks + 2}):
  wpAny (model prog w) A (setAttr (.ref x) name v) Q E s:=by
 obtain⟨od,J,hl⟩:=I.look;refine set_plain X J hs (osa_open (s:={s with toks:=s.toks + 1}) (r:=none) X J hp ht λb=> ?_);obtain⟨cd,hc,hd'⟩:=Z4 hh;have hx:s.heap.get? x=some ⟨.ref C,some dx,.plain, #[]⟩:=I.obj;refine A3 (C6 (A3 (A3 (ZB3 hx (A3 (ZB9 (s:={s with toks:=s.toks + 1}) (ZB0 X hc) ?_))))));rw[hd'];refine C6 (a:=some dx) (A3 (C6 (A3 ?_)));refine wpAny_nsSet1 (s:={s with toks:=s.toks + 1}) I.ns λh' hn2 hs2=> ?_;obtain⟨oD,esD,epD,hoD,hdD,hcD⟩:=hn2.count (PySem.Within.cons name v hw);refine A3 (wpAny_lookBehind hoD (by rw[hdD];exact pastItsLine_dict (C5 hcD (by rw[D2];omega))) ?_);exact C6 (h _ ⟨(hs2.2 _ (Ne.symm I.ne)).trans I.obj,hn2,I.ne⟩ hs2)
def do_7{R:Result->Shared->Prop}{vs:List Value}{kw:List (Str×Value)}(X:K.In s.heap)(hm:makesIn K C=true)
  (hi:findIn K (.ref C) "__init__" =some (some (.ref f))) (hf:typeIn K (.ref f)=some (.type "function"))
  (h:codeAny (model prog w) (A.under (.builtin "type.__call__" ⟨.ref C::vs,kw⟩)) (.call (.ref f) ⟨.ref (s.heap.objs.size + 1)::vs,kw⟩) (InitBack (s.heap.objs.size + 1) R)
   {s with heap:=(s.heap.push emptyDict).push (instObj C s.heap.objs.size)}):
  codeAny (model prog w) A (.call (.ref C) ⟨vs,kw⟩) R s:=by
 obtain⟨hh,g,d,t,os⟩:=s;exact make_core (makes_of X hm) (S7 X hi) (λself=>bind_fn X self hf) (.inl rfl) h
end
def Dk(f:Str)(v:V):List (Str×V)->List (Str×V)
 | []=> [(f,v)]
 |(g,x)::r=>if g=f then(g,v)::r else(g,x)::Dk f v r
theorem bc_5(f g:Str)(v:V):∀fs:List (Str×V),(Dk f v fs).lookup g=if g=f then some v else fs.lookup g
 | []=>by
  show List.lookup g [(f,v)]=_
  by_cases h:g=f
  ·have hb:(g ==f)=true:=M3.mpr h;simp only[List.lookup,hb,if_pos h]
  ·have hb:(g ==f)=false:=R0.mpr h;simp only[List.lookup,hb,if_neg h]
 |(k,x)::r=>by
  have ih:=bc_5 f g v r;rw[show Dk f v ((k,x)::r)=(if k=f then(k,v)::r else(k,x)::Dk f v r) from rfl]
  by_cases hk:k=f
  ·rw[if_pos hk]
   by_cases h:g=k
   ·have hb:(g ==k)=true:=M3.mpr h;simp only[List.lookup,hb,if_pos (h.trans hk)]
   ·have hb:(g ==k)=false:=R0.mpr h;simp only[List.lookup,hb,if_neg (λe:g=f=>h (e.trans hk.symm))]
  ·rw[if_neg hk]
   by_cases h:g=k
   ·have hb:(g ==k)=true:=M3.mpr h;simp only[List.lookup,hb,if_neg (λe:g=f=>hk (h.symm.trans e))]
   ·have hb:(g ==k)=false:=R0.mpr h;simp only[List.lookup,hb];exact ih
theorem az_2(f:Str)(v:V):∀fs:List (Str×V),f∈(Dk f v fs).map (·.1)/\∀g,g∈fs.map (·.1)->g∈(Dk f v fs).map (·.1)
 | []=>⟨by simp[Dk],λg h=>by simp at h⟩
 |(k,x)::r=>by
  obtain⟨i1,i2⟩:=az_2 f v r;rw[show Dk f v ((k,x)::r)=(if k=f then(k,v)::r else(k,x)::Dk f v r) from rfl]
  by_cases hk:k=f
  ·rw[if_pos hk];subst hk;exact⟨by simp,λg h=>by simpa using h⟩
  ·rw[if_neg hk];refine⟨?_,λg h=> ?_⟩
   ·rw[A9];exact C9 _ i1
   ·rw[A9]at h⊢;rcases B3.mp h with e|e
    ·exact B3.mpr (.inl e)
    ·exact C9 _ (i2 g e)
theorem bc_6(f:Str)(v:V):∀fs:List (Str×V),(Dk f v fs).length<=fs.length + 1
 | []=>by simp[Dk]
 |(k,x)::r=>by
  have ih:=bc_6 f v r;rw[show Dk f v ((k,x)::r)=(if k=f then(k,v)::r else(k,x)::Dk f v r) from rfl]
  by_cases hk:k=f
  ·rw[if_pos hk,D2,D2];omega
  ·rw[if_neg hk,D2,D2];omega
def RelO.some_of{v:V}{o:Option Value}(r:RelO (some v) o):∃u,o=some u/\RelV v u:=by
 cases o with
 |none=>exact(show False from r).elim
 |some u=>exact⟨u,rfl,r⟩
def RelO.none_of{o:Option Value}(r:RelO none o):o=none:=by
 cases o with
 |none=>rfl
 |some u=>exact(show False from r).elim
def bs_8{v:V}{u:Value}(r:RelV v u):handedIn u=true:=by
 cases v with
 |non=>cases(show u=Value.none from r);rfl
 |bl b=>cases(show u=Value.bool b from r);rfl
 |int i=>obtain⟨t,e⟩:=(show∃t,u=Value.int i t from r);cases e;rfl
 |str x=>obtain⟨t,e⟩:=(show∃t,u=Value.str x t from r);cases e;rfl
 |byt b=>obtain⟨t,e⟩:=(show∃t,u=Value.bytes b t from r);cases e;rfl
 |flt b=>obtain⟨t,e⟩:=(show∃t,u=Value.float b t from r);cases e;rfl
 |ref a=>cases(show u=Value.ref a from r);rfl
 |ty n=>cases(show u=Value.type n from r);rfl
section
variable{P:Program}{w:World}{H H':Hp}{h h':Heap}{a C dx:Addr}{fs fs':List (Str×V)}
def by_3(hok:HOk P w H h)(e:H a=some (.ins C dx fs)):∃mA,ObjM h a dx C mA/\(∀f,RelO (fs.lookup f) (mA f))/\PySem.Within mA (fs.map (·.1))/\fs.length<=1000/\H dx=some (.own a):=by
 obtain⟨d,z,ne,ob,mA,n,r,q⟩:=(show ObjOk P w H h a (.ins C dx fs) from hok a _ e);exact⟨mA,⟨ob,n,ne⟩,r,q,z,d⟩
end
structure Cls(K:Frag)(C:Addr):Prop where
 pg:plainGet K C Str.empty=true
 hd:hasDictIn K C=true
 po:plainOver K C=true
 sa:findIn K (.ref C) "__setattr__" =some (some (.builtin "object.__setattr__"))
def Cls.get{K:Frag}{C:Addr}(c:Cls K C)(f:Str):plainGet K C f=true:=c.pg
def NoAttr(K:Frag)(C:Addr)(f:Str):Prop:=findIn K (.ref C) f=some none
def NoAttr.taker{K:Frag}{C:Addr}{f:Str}(n:NoAttr K C f):takerIn K C f=some none:=by
 unfold takerIn;rw[show findIn K (.ref C) f=some none from n];rfl
structure Con(K:Frag)(C:Addr)(f:Str)(v:V)(u:Value):Prop where
 at_:findIn K (.ref C) f=some (some u)
 rel:RelV v u
 get:specialIn K u "__get__" =some none
 cp:PySem.W.copiedNames.contains f=false
structure Meth(K:Frag)(C:Addr)(m:Str)(f:Addr):Prop where
 at_:findIn K (.ref C) m=some (some (.ref f))
 fn:isFn K (.ref f)=true
 kp:keepIn K (.ref f)=true
section
variable{X:Cx}{zd:AE}{σ:St}{H:Hp}{s:Shared}{a C dx:Addr}{fs:List (Str×V)}{f:Str}{v:V}{A:Around}{E:AA}
def cr_5{b:Bool}{Q:AA}(I:Inv X zd σ H s)(e:H a=some (.ins C dx fs))(c:Cls X.K C)(n:NoAttr X.K C f)(l:fs.lookup f=some v)
  (h:∀u s',Inv X zd σ H s'->RelV v u->Q u s'):wpAny (model X.prog X.w) A (getAttr (.ref a) f b) Q E s:=by
 obtain⟨mA,O,r,_,_,_⟩:=by_3 I.hok e;obtain⟨u,hu,ru⟩:=RelO.some_of (v:=v) (o:=mA f) (by rw[<-l];exact r f);exact ea_7 I.kIn O (c.get f) c.hd n hu (bs_8 ru) (h u _ (I.tok _) ru)
def bi_9{m:Str}{g:Addr}{pl:Sem Bool}{Q:Value×List Value->Shared->Prop}(I:Inv X zd σ H s)(e:H a=some (.ins C dx fs))(c:Cls X.K C)(k:Meth X.K C m g)(l:fs.lookup m=none)
  (h:Q (.ref g,[.ref a]) s):wpAny (model X.prog X.w) A (getMethod (.ref a) m pl) Q E s:=by
 obtain⟨mA,O,r,_,_,_⟩:=by_3 I.hok e;have hn:mA m=none:=RelO.none_of (by rw[<-l];exact r m);exact do_6 I.kIn O (c.get m) k.at_ k.fn hn h
def cr_6{y:V}{u:Value}{Q:Unit->Shared->Prop}(I:Inv X zd σ H s)(e:H a=some (.ins C dx fs))(c:Cls X.K C)(n:NoAttr X.K C f)(hl:fs.length < 1000)(ry:RelV y u)
  (h:∀s',Inv X zd σ (upd H a (.ins C dx (Dk f y fs))) s'->Q .unit s'):wpAny (model X.prog X.w) A (setAttr (.ref a) f u) Q E s:=by
 obtain⟨mA,O,r,wi,_,ho⟩:=by_3 I.hok e;have hz:(fs.map (·.1)).length<=sizeLine:=by rw[A0,E5];omega
 refine ea_8 I.kIn O c.sa c.po n.taker c.hd wi hz λh' O' sb=>h _ ?_;have hd:∃o,h'.get? dx=some o:=let⟨o,_,_,e',_⟩:=O'.ns;⟨o,e'⟩;refine I.write (x:=a) (e:=dx) (by rw[e];exact True.intro) (.inr ho) (λb q hb z=>(sb.2 b hb).trans z) hd ?_;refine⟨by rw[Bm O.ne];exact ho, ?_,O.ne,O'.obj,_,O'.ns,λg=> ?_,λg hg=> ?_⟩
 ·have:=bc_6 f y fs;omega
 ·show RelO ((Dk f y fs).lookup g) (if g=f then some u else mA g);rw[bc_5]
  by_cases q:g=f
  ·rw[if_pos q,if_pos q];exact ry
  ·rw[if_neg q,if_neg q];exact r g
 ·by_cases q:g=f
  ·rw[q];exact(az_2 f y fs).1
  ·refine(az_2 f y fs).2 g (wi g λz=>hg ?_);show(if g=f then some u else mA g)=none;rw[if_neg q];exact z
def Inv.made(I:Inv X zd σ H s):Inv X zd σ (upd (upd H s.heap.objs.size (.own (s.heap.objs.size + 1))) (s.heap.objs.size + 1) (.ins C s.heap.objs.size []))
  {s with heap:=(s.heap.push emptyDict).push (instObj C s.heap.objs.size)}:=by
 have e1:(s.heap.push emptyDict).get? s.heap.objs.size=some emptyDict:=C1 s.heap rfl;have e2:((s.heap.push emptyDict).push (instObj C s.heap.objs.size)).get? (s.heap.objs.size + 1)=some (instObj C s.heap.objs.size):=by
  have:=C1 (s.heap.push emptyDict) (o:=instObj C s.heap.objs.size) rfl
  rwa[L4]at this
 have e3:(s.heap.push emptyDict).Ns s.heap.objs.size (λ_=>none):=⟨emptyDict, #[],_,e1,rfl,(λe he=>absurd he (by simp)),λ_=>rfl⟩;have I1:=I.laid (a:=s.heap.objs.size) (o:=.own (s.heap.objs.size + 1)) (h':=s.heap.push emptyDict) (t':=s.toks) (λb u q=>A4 _ q) (B0 _) ⟨_,e1⟩;refine I1.laid (a:=s.heap.objs.size + 1) (o:=.ins C s.heap.objs.size []) (t':=s.toks) (λb u q=>A4 _ q) (U8 (L4 _ _)) ?_;have ne:s.heap.objs.size≠s.heap.objs.size + 1:=C7 (P7 _);refine⟨by rw[Bm ne,Ct],L9 _,ne,e2,λ_=>none,(Heap.Ns1.of_empty e3).at λo q=>A4 _ q,λ_=>True.intro,λy hy=>absurd rfl hy⟩
def cz_4{prog:Program}{w:World}{env:Env}{e:Expr}{f:Str}{pos:Pos}{s:Shared}{Q:AA}(hb:attributeBase e f env (eval e env)=eval e env)
  (h:wpAny (model prog w) A (eval e env) (λo s₁=>wpAny (model prog w) A (getAttr o f true) Q E s₁) E s):wpAny (model prog w) A (eval (.Attribute e f pos) env) Q E s:=
 Attribute_any_ h (by rw[arm_eval_Attribute,hb])
end
def tFld(K:Frag)(ta:TE)(f:Str):TE:=λ σ H Q=>ta σ H λx H1=>∃a C dx fs v,x=.ref a/\H1 a=some (.ins C dx fs)/\Cls K C/\NoAttr K C f/\fs.lookup f=some v/\Q v H1
def sFld(K:Frag)(ta tv:TE)(f:Str):TS:=λD σ H=>tv σ H λy H1=>ta σ H1 λx H2=>∃a C dx fs,x=.ref a/\H2 a=some (.ins C dx fs)/\Cls K C/\NoAttr K C f/\fs.length < 1000/\
 D.nx σ (upd H2 a (.ins C dx (Dk f y fs)))
section
variable{X:Cx}{o e value:Expr}{f:Str}{pos pos' zj:Pos}{ta tv:TE}
def en_5(he:PE X e ta)(hb:attributeBase e f X.env (eval e X.env)=eval e X.env):PE X (.Attribute e f pos) (tFld X.K ta f):=by
 intro zd s σ H Q I h;refine cz_4 hb (Bk (he zd s σ H _ I h) λu s1 ⟨x,H1,I1,rx,a,C,dx,fs,v,ex,ea,c,n,l,q⟩=> ?_);subst ex;obtain rfl:u=Value.ref a:=rx;exact cr_5 I1 ea c n l λu' s2 I2 ru=>⟨v,H1,I2,ru,q⟩
def en_6(ha:PE X o ta)(hv:PE X value tv)(hs:swapsWith value (some (.Attribute o f pos')) pos.line X.env=pure false):PS X (.Assign [.Attribute o f pos'] value pos) (sFld X.K ta tv f):=by
 intro zd s σ H D I h;refine V8 (Bk (hv zd s σ H _ I h) λu s1 ⟨y,H1,I1,ry,q⟩=>Bk (ha zd s1 σ H1 _ I1 q) λov s2 ⟨x,H2,I2,rx,a,C,dx,fs,ex,ea,c,n,l,q2⟩=> ?_) hs;subst ex;obtain rfl:ov=Value.ref a:=rx;exact cr_6 I2 ea c n l ry λs3 I3=>⟨σ,_,I3,q2⟩
end
section
variable{X:Cx}{zd:AE}{σ:St}{H:Hp}{s:Shared}{A:Around}{E:AA}{Q:AA}{c:Value}{b:Bool}
inductive TyOf(K:Frag)(H:Hp):V->Value->Prop where
 |non:TyOf K H .non (.type "NoneType")
 |bl (x:Bool):TyOf K H (.bl x) (.type "bool")
 |int (i:Int):TyOf K H (.int i) (.type "int")
 |str (x:Str):TyOf K H (.str x) (.type "str")
 |flt (x:UInt64):TyOf K H (.flt x) (.type "float")
 |lst {a:Addr} {xs:List V} (e:H a=some (.lst xs)):TyOf K H (.ref a) (.type "list")
 |frz {a:Addr} {o:Obj} {xs:List V} (e:H a=some (.frz o (.lst xs))):TyOf K H (.ref a) (.type "list")
 |tup {a:Addr} {xs:List V} (e:H a=some (.tup xs)):TyOf K H (.ref a) (.type "tuple")
 |dK {a:Addr} {kvs:List (Av×V)} (e:H a=some (.dK kvs)):TyOf K H (.ref a) (.type "dict")
 |dT {a:Addr} {kvs:List (List Av×V)} (e:H a=some (.dT kvs)):TyOf K H (.ref a) (.type "dict")
 |ins {a C dx:Addr} {fs:List (Str×V)} (e:H a=some (.ins C dx fs)) (cl:Cls K C) (ha:findIn K (.ref C) "__class__" =some (some (.builtin "object.__class__")))
   (hn:specialIn K (.builtin "object.__class__") "__get__" =some (some (.builtin "getset_descriptor.__get__"))) (htk:takesIn K (.builtin "object.__class__")=some true)
   (hm:mroIn K C (.type "object")=some true):TyOf K H (.ref a) (.ref C)
end
structure Room(k:Nat)(A:Around):Prop where
 hd:A.handled=none
 dp:A.depth + 3 * k + 5 < recursionLimit
 un:A.units + 16 * k + 200 < cLine
theorem Room.in1{k:Nat}{A:Around}(r:Room (k + 1) A):Room k A.in1:=
 ⟨r.hd,by have:=r.dp;show A.depth + 3 * k + 5 < _;omega,by have:=r.un;show A.units + 1 + 16 * k + 200 < _;omega⟩
def cr_7{A:Around}{C:Addr}{us:List Value}{kw:List (Str×Value)}:(A.under (.builtin "type.__call__" ⟨.ref C::us,kw⟩)).depth=A.depth + 1:=by
 first|rfl|simp[Around.under,Code.weight,Code.isCreation,Code.isGuard,Code.isCaller,Code.frames,Code.isFrame,guardIds]
def cr_8{A:Around}{C:Addr}{us:List Value}{kw:List (Str×Value)}:(A.under (.builtin "type.__call__" ⟨.ref C::us,kw⟩)).units=A.units + 1:=by
 first|rfl|simp[Around.under,Code.cUnits,Code.frames,Code.isFrame]
theorem Room.depth{k:Nat}{A:Around}(r:Room k A):A.depth < recursionLimit:=by have:=r.dp;omega
def tNil:TA:=λ_ H Q=>Q [] H
def ew_0(ta:TE)(tr:TA):TA:=λ σ H Q=>ta σ H λx H1=>tr σ H1 λxs H2=>Q (x::xs) H2
section
variable{X:Cx}{e:Expr}{es:List Expr}{te:TE}{t:TA}{pos:Pos}
def u_3:PA X [] tNil:=λ_ _ _ _ H Q I h=>Y4 ⟨[],H,I,.nil,h⟩
def Gj(ha:PE X e te)(hr:PA X es t)(hs:starEach (e::es) X.env=(false,eval e X.env)::starEach es X.env:=by rfl):PA X (e::es) (ew_0 te t):=by
 intro pos zd s σ H Q I h;rw[hs];show wpAny _ _ (spliced ((false,eval e X.env)::backTo pos (starEach es X.env))) _ _ s;refine T9 (Bk (ha zd s σ H _ I h) λu s1 ⟨x,H1,I1,r1,q1⟩=> ?_);exact Bk (hr pos zd s1 σ H1 _ I1 q1) λus s2 ⟨xs,H2,I2,r2,q2⟩=>⟨x::xs,H2,I2,.cons r1 r2,q2⟩
def tTup(t:TA):TE:=λ σ H Q=>t σ H λxs H1=>xs.length<=sizeLine/\∀p,H1 p=none->Q (.ref p) (upd H1 p (.tup xs))
def tLst(t:TA):TE:=λ σ H Q=>t σ H λxs H1=>xs.length<=sizeLine/\∀p,H1 p=none->Q (.ref p) (upd H1 p (.lst xs))
def cr_9{x1}(h:PA X es t):PE X (.Tuple es x1 pos) (tTup t):=by
 intro zd s σ H Q I hq;refine wpAny_Tuple_spliced (Bk (h pos zd s σ H _ I hq) λus s1 ⟨xs,H1,I1,r,z,q⟩=>⟨by rw[<-r.length];exact z, ?_⟩);have hf:H1 s1.heap.objs.size=none:=I1.hok.fresh (B0 _);refine⟨.ref s1.heap.objs.size,upd H1 s1.heap.objs.size (.tup xs),I1.laid (t':=s1.toks) (λb u e=>A4 _ e) (B0 _) ?_,rfl,q _ hf⟩;exact⟨z,us,r,⟨_,C1 _ rfl,rfl,_,rfl⟩⟩
def do_8(h:PA X es t):PE X (.List es pos) (tLst t):=by
 intro zd s σ H Q I hq;refine wpAny_List_spliced (Bk (h pos zd s σ H _ I hq) λus s1 ⟨xs,H1,I1,r,z,q⟩=>⟨by rw[<-r.length];exact z, ?_⟩);have hf:H1 s1.heap.objs.size=none:=I1.hok.fresh (B0 _);refine⟨.ref s1.heap.objs.size,upd H1 s1.heap.objs.size (.lst xs),I1.laid (t':=s1.toks) (λb u e=>A4 _ e) (B0 _) ?_,rfl,q _ hf⟩;exact⟨z,us,0,r,C1 _ rfl⟩
end
abbrev Sp:=List V->Hp->VK->XK->Prop
abbrev CXT:=List Env->Hp->Shared->XK->Value->Shared->Prop
structure Env0(P:Program)(w:World)(K:Frag)(mg:AB)(base:Heap)(A:Around)(outer:List Env)(s:Shared)(H:Hp):Prop where
 frames:A.frames=some outer
 mod:Mod K mg base
 bs:∀b o,base.get? b=some o->s.heap.get? b=some o/\H b=none
 bsz:base.objs.size<=s.heap.objs.size
 funs:s.heap.FunFrames base outer
 frf:∀b∈frs outer,H b=none
 hok:HOk P w H s.heap
 bare:AllBare s.gens
def CE(outer:List Env)(P:Program)(w:World)(H:Hp)(s:Shared)(Q:VK)(u:Value)(s':Shared):Prop:=
 ∃v H',s'.os=s.os/\AllBare s'.gens/\Un (frs outer) [] H H' s.heap s'.heap/\HOk P w H' s'.heap/\RelV v u/\Q v H'
def CR(CX:CXT)(outer:List Env)(P:Program)(w:World)(H:Hp)(s:Shared)(Q:VK)(E:XK)(r:Result)(s':Shared):Prop:=
 match r with
 | .ok (.ret u)=>CE outer P w H s Q u s'
 | .ok _=>False
 | .error e=>CX outer H s E e s'
structure FnOk(P:Program)(w:World)(K:Frag)(mg:AB)(base:Heap)(CX:CXT)(k:Nat)(f:Addr)(fd:FuncData)(ps:List Str)(sp:Sp):Prop where
 len:∀vs H Q E,sp vs H Q E->vs.length=ps.length
 run:∀(A:Around) (outer:List Env) (s:Shared) (H:Hp) (args:Args) (us:List Value) (vs:List V) (Q:VK) (E:XK),Room k A->Env0 P w K mg base A outer s H->BindsTo s fd args (ps.zip us)->Vals vs us->sp vs H Q E->
  codeAny (model P w) A (.call (.ref f) args) (CR CX outer P w H s Q E) s
def Env0.make{P:Program}{w:World}{K:Frag}{mg:AB}{base:Heap}{A:Around}{outer:List Env}{s:Shared}{H:Hp}(e:Env0 P w K mg base A outer s H)(C:Addr)(us:List Value)(kw:List (Str×Value)):
  Env0 P w K mg base (A.under (.builtin "type.__call__" ⟨.ref C::us,kw⟩)) outer s H:=⟨by first|exact e.frames|(simpa[Around.under,Code.envs,Code.isFrame,pushEnvs] using e.frames),e.mod,e.bs,e.bsz,e.funs,e.frf,e.hok,e.bare⟩
theorem Env0.in1{P:Program}{w:World}{K:Frag}{mg:AB}{base:Heap}{A:Around}{outer:List Env}{s:Shared}{H:Hp}(e:Env0 P w K mg base A outer s H):
  Env0 P w K mg base A.in1 outer s H:=⟨e.frames,e.mod,e.bs,e.bsz,e.funs,e.frf,e.hok,e.bare⟩
section
variable{X:Cx}{zd:AE}{σ:St}{H:Hp}{s s':Shared}
def Inv.env0(I:Inv X zd σ H s):Env0 X.prog X.w X.K X.mg X.base X.A X.stack s H:=
 ⟨I.ok.frames,I.ok.mod,I.bs,C5 I.ok.bsz I.sz,I.stack,I.stkFree,I.hok,I.bare⟩
def Inv.after{Q:VK}{u:Value}(I:Inv X zd σ H s)(h:CE X.stack X.prog X.w H s Q u s'):EP X zd σ Q u s':=by
 obtain⟨v,H',os,bare,un,hok,r,q⟩:=h;obtain⟨hh,g,d,t,os'⟩:=s';obtain rfl:os'=s.os:=os;exact⟨v,H',I.call (h':=hh) (g':=g) (d':=d) (t':=t) (ch:=[]) un hok bare (λb z=>absurd z (by simp)),r,q⟩
end
def Binds(K:Frag)(fd:FuncData)(ps:List Str)(ds:List Value):Prop:=
 ∀(s:Shared) (us:List Value),K.In s.heap->(us ++ ds).length=ps.length->BindsTo s fd ⟨us,[]⟩ (ps.zip (us ++ ds))
def Binds.all{K:Frag}{fd:FuncData}{ps:List Str}(h:∀us:List Value,us.length=ps.length->bindArgs fd ⟨us,[]⟩=pure (ps.zip us)):Binds K fd ps []:=λs us _ hl=>by
 rw[F9]at hl⊢;exact .of_eq (h us hl)
section
variable{X:Cx}{CX:CXT}{k:Nat}{f C:Addr}{fd:FuncData}{ps:List Str}{sp:Sp}{dvs:List V}{ds:List Value}{E:XK}{x m:Str}{p pos zh:Pos}{e o:Expr}{es:List Expr}{ta:TE}{t:TA}
structure Mk(K:Frag)(C f:Addr):Prop where
 makes:makesIn K C=true
 init:findIn K (.ref C) "__init__" =some (some (.ref f))
 fn:isFn K (.ref f)=true
 kp:keepIn K (.ref C)=true
end
section
variable{X:Cx}{CX:CXT}{k:Nat}{f C:Addr}{fd:FuncData}{ps ks:List Str}{sp:Sp}{E:XK}{x m:Str}{p pos zh gw:Pos}{e o:Expr}{es:List Expr}{kws:List Keyword}{te ta:TE}{t tk:TA}{nm:Option Str}
structure KBinds(K:Frag)(fd:FuncData)(ps ks:List Str)(g:List Value->List Value->List Value)(gV:List V->List V->List V):Prop where
 to:∀(s:Shared) (us ws:List Value),K.In s.heap->(g us ws).length=ps.length->BindsTo s fd ⟨us,ks.zip ws⟩ (ps.zip (g us ws))
 rel:∀{vs:List V} {us:List Value} {zs:List V} {ws:List Value},Vals vs us->Vals zs ws->Vals (gV vs zs) (g us ws)
variable{g:List Value->List Value->List Value}{gV:List V->List V->List V}
end
structure FnScope(N P:List Str)(sc:Scope):Prop where
 kind:sc.kind=.function
 co:sc.isCoroutine=false
 gen:sc.isGenerator=false
 nd:N.Nodup
 pre:N.take P.length=P
 par:∀x∈P,sc.names.lookup x=some .local\/sc.names.lookup x=some .cell
 nofree:∀y∈sc.names,y.2≠ .free
theorem bs_9{kindOf:Str->Option NameKind}{x:Str}:∀{binds:List (Str×Value)} {m:AB},(∀v,(x,v)∉binds)->bindL kindOf binds m x=m x
 | [],_,_=>rfl
 |(n,v)::r,m,h=>by
  unfold bindL;rw[bs_9 λw hw=>h w (C9 _ hw)]
  split
  ·have:x≠n:=by rintro rfl;exact h v F0
   simp[this]
  ·rfl
theorem bt_0{kindOf:Str->Option NameKind}{x:Str}:∀{binds:List (Str×Value)} {m:AB},(∀v,(x,v)∉binds)->bindC kindOf binds m x=m x
 | [],_,_=>rfl
 |(n,v)::r,m,h=>by
  unfold bindC;rw[bt_0 λw hw=>h w (C9 _ hw)]
  split
  ·rfl
  ·have:x≠n:=by rintro rfl;exact h v F0
   simp[this]
theorem bt_1{kindOf:Str->Option NameKind}{x:Str}{v:Value}:∀{P:List Str} {vs:List Value} {i:Nat} {m:AB},P.Nodup->P[i]? =some x->vs[i]? =some v->kindOf x=some .local->
  bindL kindOf (P.zip vs) m x=some v
 | [],_,_,_,_,h,_,_=>by simp at h
 |_::_,[],_,_,_,_,h,_=>by simp at h
 |p::P,w::vs,0,m,nd,h1,h2,hk=>by
  simp at h1 h2;subst h1;subst h2;show bindL kindOf ((p,w)::P.zip vs) m p=_;unfold bindL;rw[bs_9 λv hv=>(O8.mp nd).1 (W5 hv).1,if_pos hk];simp
 |p::P,w::vs,i + 1,m,nd,h1,h2,hk=>by
  show bindL kindOf ((p,w)::P.zip vs) m x=_;unfold bindL;exact bt_1 (i:=i) (O8.mp nd).2 (by simpa using h1) (by simpa using h2) hk
theorem bt_2{kindOf:Str->Option NameKind}{x:Str}{v:Value}:∀{P:List Str} {vs:List Value} {i:Nat} {m:AB},P.Nodup->P[i]? =some x->vs[i]? =some v->kindOf x≠some .local->
  bindC kindOf (P.zip vs) m x=some v
 | [],_,_,_,_,h,_,_=>by simp at h
 |_::_,[],_,_,_,_,h,_=>by simp at h
 |p::P,w::vs,0,m,nd,h1,h2,hk=>by
  simp at h1 h2;subst h1;subst h2;show bindC kindOf ((p,w)::P.zip vs) m p=_;unfold bindC;rw[bt_0 λv hv=>(O8.mp nd).1 (W5 hv).1,if_neg hk];simp
 |p::P,w::vs,i + 1,m,nd,h1,h2,hk=>by
  show bindC kindOf ((p,w)::P.zip vs) m x=_;unfold bindC;exact bt_2 (i:=i) (O8.mp nd).2 (by simpa using h1) (by simpa using h2) hk
def Fy(N:List Str)(vs:List V):St:=vs.map some ++ List.replicate (N.length - vs.length) none
def Gx(CX:CXT)(P:Program)(w:World)(K:Frag)(mg:AB)(base:Heap)(N:List Str)(qual:Str)(scope:Scope)(f:Addr)(cd:Value)(A:Around)(outer:List Env)(s:Shared)(H:Hp)(E:XK):Cx where
 prog:=P
 w:=w
 K:=K
 mg:=mg
 base:=base
 A:=A.deeper (envOfC qual scope s.heap.objs.size f cd)
 N:=N
 s₀:=s
 H₀:=H
 env:=envOfC qual scope s.heap.objs.size f cd
 outer:=outer
 stack:=envOfC qual scope s.heap.objs.size f cd::outer
 ex:=[]
 calm:=true
 fn:=λ_=>true
 pn:=[]
 xe:=λe s'=>wpAny (model P w) (A.deeper (envOfC qual scope s.heap.objs.size f cd)) (leaving (envOfC qual scope s.heap.objs.size f cd) e) (λ_ s''=>CX outer H s E e s'') (λe' s''=>CX outer H s E e' s'') s'
def cf_9{sc:Scope}{n:Nat}{x:Str}(h:sc.names.lookup x=some .cell):∃c,(cellsFrom n sc.names []).lookup x=some c:=by
 have q:=X3 sc.names n [] (.inl h);exact Z0.mp q
def dg_8{CX:CXT}{P:Program}{w:World}{K:Frag}{mg:AB}{base:Heap}{N ps:List Str}{qual:Str}{scope:Scope}{f:Addr}{cd:Value}{A:Around}{outer:List Env}{s s1:Shared}{H:Hp}{E:XK}{us:List Value}{vs:List V}
  (S:FnScope N ps scope) (hd:A.handled=none) (e0:Env0 P w K mg base A outer s H) (hl:vs.length=ps.length) (r:Vals vs us)
  (x:InCallC s s.heap.objs.size (bindL (envOfC qual scope s.heap.objs.size f cd).kindOf (ps.zip us) λ_=>none) (cellsFrom (s.heap.objs.size + 1) scope.names []) (bindC (envOfC qual scope s.heap.objs.size f cd).kindOf (ps.zip us) λ_=>none) s1):
  Inv (Gx CX P w K mg base N qual scope f cd A outer s H E) [] (Fy N vs) H s1:=by
 have hpl:ps.length<=N.length:=by have:=Q5 List.length S.pre;rw[G6]at this;omega
 obtain⟨h1,tk,rfl,hk⟩:=x.done;have noA:∀b:Addr,b∉(Gx CX P w K mg base N qual scope f cd A outer s H E).ex:=λb z=>absurd (show b∈([]:List Addr) from z) (by simp);refine⟨⟨e0.mod,S.kind,rfl,rfl,B0 _,λy z c h1 h2=> ?_,λy hy=> ?_,λy c _ h=> ?_,λ_=>hd,Around.frames_deeper e0.frames,.inr ⟨rfl,rfl⟩,λb z=>absurd z (noA b),e0.bs,e0.bsz,λb _ _=>noA b,λb z=>absurd z (noA b),e0.funs,e0.frf⟩,
  rfl,e0.bare,Un.kept hk,⟨_,x.toInCall.ns,λi y v h1 h2 h3=> ?_⟩,λy c h=>⟨_,x.cell y c h⟩,e0.hok.fresh (B0 _),λy c h=> ?_,λp hp=>absurd (show p∈([]:AE) from hp) (by simp),e0.hok.kept hk, ?_⟩
 ·exact name_of_addr x.apart (M6 h1) (M6 h2)
 ·have hy:scope.names.lookup y=some .cell\/scope.names.lookup y=some .free:=hy;rcases hy with hy|hy
  ·exact cf_9 hy
  ·exact absurd rfl (S.nofree _ (M6 hy))
 ·exact S8 (x.above y c (M6 h))
 ·have hi:i < vs.length:=by
   unfold Fy at h2
   by_cases hi:i < vs.length
   ·exact hi
   ·rw[D6 (by simpa using hi)]at h2;rw[E8]at h2
    split at h2 <;> cases h2
  have ha:vs[i]? =some v:=by
   unfold Fy at h2;rw[B7 (by simpa using hi),A8]at h2;cases e:vs[i]? with
   |none=>rw[e]at h2;cases h2
   |some a=>rw[e]at h2;cases h2;rfl
  obtain⟨u,hu,rv⟩:=r.get ha;have hp:ps[i]? =some y:=by
   rw[<-S.pre,List.getElem?_take_of_lt ()];exact h1
  have ndP:ps.Nodup:=by rw[<-S.pre];exact S.nd.sublist (List.take_sublist _ _)
  refine⟨u,rv, ?_⟩;rcases S.par y (B1 hp) with k|k
  ·exact .inl ⟨k,bt_1 ndP hp hu k⟩
  ·obtain⟨c,e⟩:=cf_9 (n:=s.heap.objs.size + 1) k;refine .inr ⟨.inl k,c,e, ?_⟩;have q:=x.cell y c e;rw[bt_2 ndP hp hu (by show scope.names.lookup y≠_;rw[k];decide)]at q;exact q
 ·exact e0.hok.fresh (S8 (x.above y c (M6 h)))
 ·unfold Fy;show _=N.length;rw[B6,A0,K3];omega
section
variable{X:Cx}{x:Str}{p pos:Pos}{e:Expr}{es:List Expr}{t:TA}{id T:String}{r:List V->Hp->VK->Prop}
def tCB(r:List V->Hp->VK->Prop)(t:TA):TE:=λ σ H Q=>t σ H λvs H1=>r vs H1 Q
def af_3(hc:Ei X (.builtin id) r)(hg:Gl X x)(hm:X.mg x=none)(hv:bootBuiltins x=some (.builtin id))(ha:PA X (e::es) t)(hn:x≠ "__name__" :=by decide)(hdb:AG x:=by decide)
  (he:starEach (e::es) X.env=(false,eval e X.env)::starEach es X.env:=by rfl) (hpl:(backTo pos (starEach es X.env)).any (·.1)=false:=by rfl):PE X (.Call (.Name x p) (e::es) [] pos) (tCB r t):=by
 intro zd s σ H Q I h;refine L8 (ah_2 I hg hm hv ?_ hn hdb);exact PyProof.Rows.callWith_builtin1 (Bk (ha pos zd s σ H _ I h) λus s1 ⟨vs,H1,I1,r1,q1⟩=>hc zd s1 σ H1 vs us Q I1 r1 q1) he hpl
def dg_9(hc:Ei X (.type T) r)(hg:Gl X x)(hm:X.mg x=none)(hv:bootBuiltins x=some (.type T))(ha:PA X (e::es) t)(hn:x≠ "__name__" :=by decide)(hdb:AG x:=by decide)
  (he:starEach (e::es) X.env=(false,eval e X.env)::starEach es X.env:=by rfl) (hpl:(backTo pos (starEach es X.env)).any (·.1)=false:=by rfl):PE X (.Call (.Name x p) (e::es) [] pos) (tCB r t):=by
 intro zd s σ H Q I h;refine L8 (ah_2 I hg hm hv ?_ hn hdb);exact J6 (Bk (ha pos zd s σ H _ I h) λus s1 ⟨vs,H1,I1,r1,q1⟩=>hc zd s1 σ H1 vs us Q I1 r1 q1) he hpl
end
end L2
namespace HT
open PySem PyProof.Rows
section
open PySem.SeqAt
open PySem.AutoSeq1 (wpAny_loadPart')
open PySem.MeetsSeq PySem.MeetsSeq2 PySem.MeetsSeq3
end
section
variable{prog:Program}{w:World}{A:Around}{E:AA}{s:Shared}
def sIx(n d:Nat):Option Int->Nat
 |none=>d
 |some v=>if v < 0 then(v + (n:Int)).toNat else min v.toNat n
def sIx_le(n d:Nat)(hd:d<=n)(o:Option Int):sIx n d o<=n:=by
 cases o with
 |none=>exact hd
 |some v=>
  show(if v < 0 then(v + (n:Int)).toNat else min v.toNat n)<=n
  by_cases hv:v < 0
  ·rw[if_pos hv];omega
  ·rw[if_neg hv];exact Nat.min_le_right _ _
end
end HT
namespace L2
open PySem PySem.Spec PyProof.Rows
abbrev TO:=St->Hp->(Option Int->Hp->Prop)->Prop
def PO(X:Cx)(e:Option Expr)(t:TO):Prop:=
 ∀(zd:AE) (s:Shared) (σ:St) (H:Hp) (Q:Option Int->Hp->Prop),Inv X zd σ H s->t σ H Q->
  wpAny (model X.prog X.w) X.A (evalPart e X.env) (λu s'=>∃o H',Inv X zd σ H' s'/\IsPart u o/\Q o H') X.xe s
def ea_9:TO:=λ_ H Q=>Q none H
def ew_1(t:TE):TO:=λ σ H Q=>t σ H λx H1=>∃i,x=.int i/\Q (some i) H1
section
variable{X:Cx}{e:Expr}{te:TE}{lo hi:Option Expr}{tl th:TO}{pos p2:Pos}
def eb_0:PO X none ea_9:=by
 intro zd s σ H Q I h;rw[evalPart_none];exact C6 ⟨none,H,I,.none,h⟩
def eb_1(h:PE X e te):PO X (some e) (ew_1 te):=by
 intro zd s σ H Q I hw;rw[evalPart_some];refine Bk (h zd s σ H _ I hw) λu s1 ⟨x,H1,I1,r1,q1⟩=> ?_;obtain⟨i,rfl,q⟩:=q1;obtain⟨t,rfl⟩:=r1;exact⟨some i,H1,I1,.int i t,q⟩
def SlR(X:Cx)(r:V->Option Int->Option Int->Hp->VK->Prop):Prop:=
 ∀(zd:AE) (s:Shared) (σ:St) (H:Hp) (x:V) (v vl vu:Value) (lo hi:Option Int) (sl:Addr) (Q:VK),Inv X zd σ H s->RelV x v->s.heap.IsSliceOf sl vl vu .none->IsPart vl lo->IsPart vu hi->r x lo hi H Q->
  ∃T id,typeLookup (.type T) "__getitem__" =pure (some (.builtin id))/\s.TypeIs v T/\wpAny (model X.prog X.w) X.A (getItem v (.ref sl)) (EP X zd σ Q) X.xe s
def tSl(r:V->Option Int->Option Int->Hp->VK->Prop)(te:TE)(tl th:TO):TE:=λ σ H Q=>te σ H λx H1=>tl σ H1 λl H2=>th σ H2 λu H3=>r x l u H3 Q
def do_9{r:V->Option Int->Option Int->Hp->VK->Prop}(hr:SlR X r)(he:PE X e te)(hl:PO X lo tl)(hu:PO X hi th):PE X (.Subscript e (.Slice lo hi none p2) pos) (tSl r te tl th):=by
 intro zd s σ H Q I h;refine Subscript_ (Bk (he zd s σ H _ I h) λv s1 ⟨x,H1,I1,r1,q1⟩=> ?_);refine wpAny_Slice (Bk (hl zd s1 σ H1 _ I1 q1) λvl s2 ⟨l,H2,I2,pl,q2⟩=>Bk (hu zd s2 σ H2 _ I2 q2) λvu s3 ⟨u,H3,I3,pu,q3⟩=> ?_);rw[evalPart_none];refine C6 ?_;have I4:Inv X zd σ H3 {s3 with heap:=s3.heap.push {cls:=.type "slice",data:=.fields #[vl,vu,.none]}}:=I3.kept (t':=s3.toks) λb ob q=>A4 _ q;obtain⟨T,id,hT,ht,hg⟩:=hr zd {s3 with heap:=s3.heap.push {cls:=.type "slice",data:=.fields #[vl,vu,.none]}} σ H3 x v vl vu l u s3.heap.objs.size Q I4 r1 (Heap.IsSliceOf.new ..) pl pu q3;show wpAny (model X.prog X.w) X.A (subscriptTail e (.Slice lo hi none p2) v (.ref s3.heap.objs.size)) (EP X zd σ Q) X.xe {s3 with heap:=s3.heap.push {cls:=.type "slice",data:=.fields #[vl,vu,.none]}};exact tail_any (ops:=[.ref s3.heap.objs.size,v]) ht hT hg (by with_unfolding_all rfl)
def cutV(xs:List V)(lo hi:Option Int):List V:=(xs.drop (HT.sIx xs.length 0 lo)).take (HT.sIx xs.length xs.length hi - HT.sIx xs.length 0 lo)
def cg_0(xs:List V)(lo hi:Option Int):(cutV xs lo hi).length<=xs.length:=by
 unfold cutV;rw[G6,S9];omega
end
def ixN(n:Nat)(i:Int):Option Nat:=if 0<=i then(if i < n then some i.toNat else none) else if -(n:Int)<=i then some (i + n).toNat else none
def atI{α:Type}(xs:List α)(i:Int):Option α:=(ixN xs.length i).bind λj=>xs[j]?
def cz_5{n:Nat}{i:Int}{j:Nat}(h:ixN n i=some j):seqIndex? i n=some j/\j < n/\ -(n:Int)<=i/\i < n:=by
 unfold ixN at h
 by_cases h0:0<=i
 ·rw[if_pos h0]at h
  by_cases h1:i < n
  ·rw[if_pos h1]at h;have e:i.toNat=j:=J8 h;exact⟨by rw[seqIndex_of h0 h1,e],by omega,by omega,h1⟩
  ·rw[if_neg h1]at h;cases h
 ·rw[if_neg h0]at h
  by_cases h1: -(n:Int)<=i
  ·rw[if_pos h1]at h;have e:(i + n).toNat=j:=J8 h;exact⟨by rw[ZC1 () h1,e],by omega,h1,by omega⟩
  ·rw[if_neg h1]at h;cases h
def by_4{α:Type}{xs:List α}{i:Int}{v:α}(h:atI xs i=some v):∃j,seqIndex? i xs.length=some j/\xs[j]? =some v/\j < xs.length/\ -(xs.length:Int)<=i/\i < xs.length:=by
 unfold atI at h;cases e:ixN xs.length i with
 |none=>rw[e]at h;cases h
 |some j=>
  rw[e]at h;obtain⟨h1,h2,h3,h4⟩:=cz_5 e;exact⟨j,h1,h,h2,h3,h4⟩
def cz_6(b:Expr):Prop:=∀o i,subscripted b false o i=operate [o,i] (getItem o i)
def IxR(X:Cx)(r:R2):Prop:=
 ∀(value slice:Expr) (zd:AE) (s:Shared) (σ:St) (H:Hp) (x y:V) (v u:Value) (Q:VK),Inv X zd σ H s->RelV x v->RelV y u->r x y H Q->
  subscripted slice false v u=operate [v,u] (getItem v u)->wpAny (model X.prog X.w) X.A (subscriptTail value slice v u) (EP X zd σ Q) X.xe s
def MtR(X:Cx)(id:String)(r:V->List V->Hp->VK->Prop):Prop:=
 ∀(zd:AE) (s:Shared) (σ:St) (H:Hp) (x:V) (xs:List V) (v:Value) (us:List Value) (Q:VK),Inv X zd σ H s->RelV x v->Vals xs us->r x xs H Q->
  wpAny (model X.prog X.w) X.A (call (.builtin id) (v::us)) (EP X zd σ Q) X.xe s
section
variable{X:Cx}{a b:Expr}{ta tb:TE}{pos:Pos}
def ew_2{r:R2}(hr:IxR X r)(ha:PE X a ta)(hb:PE X b tb)(hs:cz_6 b):PE X (.Subscript a b pos) (tOp r ta tb):=by
 intro zd s σ H Q I h;exact Subscript_ (binT ha hb I h λv u s2 x y H2 I2 rx ry q=>hr a b zd s2 σ H2 x y v u Q I2 rx ry q (hs _ _))
def rIxL(K:Frag):R2:=λx y H Q=>∃p xs i v,x=.ref p/\y=.int i/\SqL K H p xs/\atI xs i=some v/\Q v H
def rIxT(K:Frag):R2:=λx y H Q=>∃p xs i v,x=.ref p/\y=.int i/\SqT K H p xs/\atI xs i=some v/\Q v H
def rIxS:R2:=λx y H Q=>∃z i c,x=.str z/\y=.int i/\z.length<=sizeLine/\atI z.cps.toList i=some c/\Q (.str ⟨#[c]⟩) H
def eb_2:IxR X (rIxL X.K):=by
 intro value slice zd s σ H x y v u Q I rx ry h hs;obtain⟨p,xs,i,z,rfl,rfl,hq,he,q⟩:=h;cases rx;obtain⟨t,rfl⟩:=ry;obtain⟨its,r,pl,hz⟩:=I.list hq;obtain⟨j,h1,h2,h3,h4,h5⟩:=by_4 he;obtain⟨w,ew,rw'⟩:=r.get h2;have hl:=r.length;have hn:=at_0;have fin:EP X zd σ Q w s:=⟨z,H,I,rw',q⟩
 by_cases h0:0<=i
 ·have hj:i.toNat=j:=by
   rw[seqIndex_of h0 h5]at h1;exact J8 h1
  exact item_listR pl.isList h0 () (by rw[hj];simpa using ew) fin hs
 ·have hj:(i + (its.toArray.size:Int)).toNat=j:=by
   rw[ZC1 () h4]at h1;rw[B4,<-hl];exact J8 h1
  exact Z9 (x:=w) pl.isList.typeIs slot_list_getitem.lookup
   (wpAny_getItem_list_neg (Q:=λr s'=>r=w/\EP X zd σ Q r s') pl.isList () (by rw[B4] <;> omega) () (by rw[hj];simpa using ew) ⟨rfl,fin⟩) hs
def en_7:IxR X (rIxT X.K):=by
 intro value slice zd s σ H x y v u Q I rx ry h hs;obtain⟨p,xs,i,z,rfl,rfl,hq,he,q⟩:=h;cases rx;obtain⟨t,rfl⟩:=ry;obtain⟨its,r,pl,hz⟩:=I.tuple hq;obtain⟨j,h1,h2,h3,h4,h5⟩:=by_4 he;obtain⟨w,ew,rw'⟩:=r.get h2;have hl:=r.length;have hn:=at_0;have fin:EP X zd σ Q w s:=⟨z,H,I,rw',q⟩;exact Z9 (x:=w) pl.typeIs slot_tuple_getitem.lookup
  (getItem_tuple (j:=j) (Q:=λr s'=>r=w/\EP X zd σ Q r s') pl () () (by rw[B4,<-hl];exact h1) (by simpa using ew) ⟨rfl,fin⟩) hs
def en_8:IxR X rIxS:=by
 intro value slice zd s σ H x y v u Q I rx ry h hs;obtain⟨z,i,c,rfl,rfl,hz,he,q⟩:=h;obtain⟨t,rfl⟩:=rx;obtain⟨t',rfl⟩:=ry;obtain⟨j,h1,h2,h3,h4,h5⟩:=by_4 he;have hl:z.cps.toList.length=z.length:=by simp[Str.length]
 rw[hl]at h1 h4 h5;have hn:=at_0;exact tail_any (typeIs_str s z t) slot_str_getitem.lookup (getItem_str (c:=c) (by
  have e1:decide (i < -(2 ^ 63:Int))=false:=D8 ();have e2:decide (i≥2 ^ 63)=false:=D8 ();rw[e1,e2,Bool.or_false]) (by rw[h1];simpa using h2) ⟨.str ⟨#[c]⟩,H,I.tok _,⟨_,rfl⟩,q⟩) hs
def cs_0(its:List Value)(n j:Nat)(u:Value):Obj.mapSeq (·.setIfInBounds j u) {cls:=.type "list",data:=.seq its.toArray n}={cls:=.type "list",data:=.seq (its.set j u).toArray n}:=by
 simp[Obj.mapSeq]
theorem Inv.lst{zd:AE}{σ:St}{H:Hp}{s:Shared}{p:Addr}{xs:List V}(I:Inv X zd σ H s)(h:H p=some (.lst xs)):
  ∃(its:List Value) (n:Nat),Vals xs its/\s.heap.get? p=some {cls:=.type "list",data:=.seq its.toArray n}/\xs.length<=sizeLine:=by
 obtain⟨z,its,n,r,e⟩:=I.hok p _ h;exact⟨its,n,r,e,z⟩
def Inv.lstUpd{zd:AE}{σ:St}{H:Hp}{s:Shared}{p:Addr}{xs ys:List V}{its its':List Value}{n n':Nat}{f:Obj->Obj}(I:Inv X zd σ H s)(h:H p=some (.lst xs))
  (ho:s.heap.get? p=some {cls:=.type "list",data:=.seq its.toArray n}) (hf:f {cls:=.type "list",data:=.seq its.toArray n}={cls:=.type "list",data:=.seq its'.toArray n'}) (r:Vals ys its') (hz:ys.length<=sizeLine) (t:Nat):
  Inv X zd σ (upd H p (.lst ys)) {s with heap:=s.heap.update p f,toks:=t}:=by
 have e:(s.heap.update p f).get? p=some {cls:=.type "list",data:=.seq its'.toArray n'}:=by
  rw[N2 f ho (by rw[hf] <;> rfl),hf]
 refine I.write (x:=p) (e:=p) (by rw[h];trivial) (.inl rfl) (λb u hb q=>(F4 _ _ (Ne.symm hb)).trans q) ⟨_,e⟩ ?_;exact⟨hz,its',n',r,e⟩
def ew_3:V->V->V->Hp->(Hp->Prop)->Prop:=λo i v H Q=>∃p xs k j,o=.ref p/\i=.int k/\H p=some (.lst xs)/\ixN xs.length k=some j/\Q (upd H p (.lst (xs.set j v)))
def dp_0:PSet X ew_3:=by
 intro zd s σ H o i v ov iv u Q I ro ri rv h;obtain⟨p,xs,k,j,rfl,rfl,hp,hj,q⟩:=h;cases ro;obtain⟨t,rfl⟩:=ri;obtain⟨its,n,r,ho,hz⟩:=I.lst hp;obtain⟨h1,h2,h3,h4⟩:=cz_5 hj;have hl:=r.length;have hn:=at_0;have I':Inv X zd σ (upd H p (.lst (xs.set j v))) {s with heap:=s.heap.update p (Obj.mapSeq (·.setIfInBounds j u))}:=
  I.lstUpd hp ho (cs_0 its n j u) (r.set rv j) (by rw[F2];exact hz) s.toks
 by_cases h0:0<=k
 ·have hk:k.toNat=j:=by
   rw[seqIndex_of h0 h4]at h1;exact J8 h1
  exact ki_setAt ho h0 () (by rw[B4,<-hl];exact h4) (by rw[hk];exact⟨_,I',q⟩)
 ·have hk:(k + (its.toArray.size:Int)).toNat=j:=by
   rw[ZC1 () h3]at h1;rw[B4,<-hl];exact J8 h1
  exact ki_setBack ho () (by rw[B4,<-hl];exact h3) () (by rw[hk];exact⟨_,I',q⟩)
def by_5(lo hi:Option Int)(n:Nat):(sliceBounds lo hi none n).1=((HT.sIx n 0 lo:Nat):Int)/\(sliceBounds lo hi none n).2.1=((HT.sIx n n hi:Nat):Int)/\(sliceBounds lo hi none n).2.2=1:=by
 refine⟨?_, ?_,rfl⟩
 ·cases lo with
  |none=>simp[sliceBounds,HT.sIx]
  |some i=>
   simp only[sliceBounds,HT.sIx,Option.getD_none,show(1:Int) > 0 by decide,if_true]
   by_cases h:i < 0
   ·simp only[h,if_true] <;> omega
   ·simp only[h,S4] <;> omega
 ·cases hi with
  |none=>simp[sliceBounds,HT.sIx]
  |some i=>
   simp only[sliceBounds,HT.sIx,Option.getD_none,show(1:Int) > 0 by decide,if_true]
   by_cases h:i < 0
   ·simp only[h,if_true] <;> omega
   ·simp only[h,S4] <;> omega
def bp_7(its:List Value)(lo hi:Option Int):slicePick its.toArray lo hi none=((its.drop (HT.sIx its.length 0 lo)).take (HT.sIx its.length its.length hi - HT.sIx its.length 0 lo)).toArray:=by
 obtain⟨h1,h2,h3⟩:=by_5 lo hi its.toArray.size;unfold slicePick;rw[h1,h2,h3];simp only[sliceRange_one,pick_run,B4] <;> rfl
def rSlL(K:Frag):V->Option Int->Option Int->Hp->VK->Prop:=λx lo hi H Q=>∃a xs,x=.ref a/\SqL K H a xs/\∀p,H p=none->Q (.ref p) (upd H p (.lst (cutV xs lo hi)))
def eb_3:SlR X (rSlL X.K):=by
 intro zd s σ H x v vl vu lo hi sl Q I rx hs pl pu h;obtain⟨a,xs,rfl,hx,q⟩:=h;cases rx;obtain⟨its,r,ht,hz⟩:=I.list hx;have zm:=r.length;refine⟨"list",_,slot_list_getitem.lookup,ht.isList.typeIs, ?_⟩;refine wpAny_getItem_list_slice ht.isList hs pl pu .none (by simp) ?_ (by rw[B4] <;> omega);rw[bp_7,<-zm];refine⟨.ref s.heap.objs.size,_,I.laid (t':=s.toks) (o:=.lst (cutV xs lo hi)) (λb ob q=>A4 _ q) (B0 _) ?_,rfl,q _ (I.hok.fresh (B0 _))⟩;exact⟨C5 (cg_0 xs lo hi) hz,_,0,(r.drop (HT.sIx xs.length 0 lo)).take (HT.sIx xs.length xs.length hi - HT.sIx xs.length 0 lo),C1 _ rfl⟩
def Hs:V->Bool
 | .non=>true
 | .bl _=>true
 | .int _=>true
 | .str _=>true
 |_=>false
def eqV:V->V->Bool
 | .non,.non=>true
 | .bl a,.bl b=>a ==b
 | .bl a,.int b=>(if a then 1 else 0) ==b
 | .int a,.bl b=>a ==(if b then 1 else 0)
 | .int a,.int b=>a ==b
 | .str a,.str b=>a ==b
 |_,_=>false
def en_9{A:Around}{s:Shared}{y x:V}{u v:Value}(ry:RelV y u)(rx:RelV x v)(fy:Hs y=true)(fx:Hs x=true):SeqAt.EqAt A s u v (eqV y x):=by
 cases y with
 |non=>
  cases ry;cases x with
  |non=>cases rx;exact SeqAt.EqAt.same _
  |bl b=>cases rx;exact SeqAt.EqAt.none_bool b
  |int b=>obtain⟨t,rfl⟩:=rx;exact SeqAt.EqAt.none_int b t
  |str b=>obtain⟨t,rfl⟩:=rx;exact SeqAt.EqAt.none_str b t
  |_=>exact absurd (show false=true from fx) A6
 |bl a=>
  cases ry;cases x with
  |non=>cases rx;exact SeqAt.EqAt.bool_none a
  |bl b=>cases rx;exact SeqAt.EqAt.bool_bool a b
  |int b=>obtain⟨t,rfl⟩:=rx;exact SeqAt.EqAt.bool_int a b t
  |str b=>obtain⟨t,rfl⟩:=rx;exact SeqAt.EqAt.bool_str a b t
  |_=>exact absurd (show false=true from fx) A6
 |int a=>
  obtain⟨t',rfl⟩:=ry;cases x with
  |non=>cases rx;exact SeqAt.EqAt.int_none a t'
  |bl b=>cases rx;exact SeqAt.EqAt.int_bool a t' b
  |int b=>obtain⟨t,rfl⟩:=rx;exact SeqAt.EqAt.int_int a t' b t
  |str b=>obtain⟨t,rfl⟩:=rx;exact SeqAt.EqAt.int_str a t' b t
  |_=>exact absurd (show false=true from fx) A6
 |str a=>
  obtain⟨t',rfl⟩:=ry;cases x with
  |non=>cases rx;exact SeqAt.EqAt.str_none a t'
  |bl b=>cases rx;exact SeqAt.EqAt.str_bool a t' b
  |int b=>obtain⟨t,rfl⟩:=rx;exact SeqAt.EqAt.str_int a t' b t
  |str b=>obtain⟨t,rfl⟩:=rx;exact SeqAt.EqAt.str_str a t' b t
  |_=>exact absurd (show false=true from fx) A6
 |_=>exact absurd (show false=true from fy) A6
def eqU(x:V)(u:Value):Bool:=match u with
 | .none=>eqV .non x
 | .bool b=>eqV (.bl b) x
 | .int i _=>eqV (.int i) x
 | .str z _=>eqV (.str z) x
 |_=>false
def dp_1{x y:V}{u:Value}(r:RelV y u)(f:Hs y=true):eqU x u=eqV y x:=by
 cases y with
 |non=>cases r;rfl
 |bl b=>cases r;rfl
 |int i=>obtain⟨t,rfl⟩:=r;rfl
 |str z=>obtain⟨t,rfl⟩:=r;rfl
 |_=>exact absurd (show false=true from f) A6
theorem av_3{x:V}:∀{xs:List V} {us:List Value},Vals xs us->xs.all Hs=true->us.any (eqU x)=xs.any λy=>eqV y x
 |_,_,.nil,_=>rfl
 |y::xs,u::us,.cons r t,f=>by
  rw[Q8,C4]at f;rw[Q9,Q9,dp_1 r f.1,av_3 t f.2]
theorem al_4{A:Around}{s:Shared}{x:V}{v:Value}(rx:RelV x v)(fx:Hs x=true):∀{xs:List V} {us:List Value},Vals xs us->xs.all Hs=true->∀u∈us,SeqAt.EqAt A s u v (eqU x u)
 |_,_,.nil,_=>λu hu=>by cases hu
 |y::xs,u::us,.cons r t,f=>λu' hu=>by
  rw[Q8,C4]at f;rcases B3.mp hu with rfl|hu
  ·rw[dp_1 r f.1];exact en_9 r rx f.1 fx
  ·exact al_4 rx fx t f.2 u' hu
def inV(x:V)(xs:List V):Bool:=xs.any λy=>eqV y x
def rIn(K:Frag)(neg:Bool):R2:=λx y H Q=>∃p xs,y=.ref p/\(SqL K H p xs\/SqT K H p xs)/\Hs x=true/\xs.all Hs=true/\Q (.bl (if neg then !inV x xs else inV x xs)) H
def dh_1:Ey X (compareOp .In) (rIn X.K false):=by
 intro zd s σ H x y v u Q I rx ry h;obtain⟨p,xs,rfl,hq,fx,fs,q⟩:=h;cases ry;rcases hq with hq|hq
 ·obtain⟨its,r,pl,hz⟩:=I.list hq;refine SeqAt.in_listAt (eqU x) pl.isList (λw hw=>al_4 rx fx r fs w (by simpa using hw)) ⟨.bl _,H,I,rfl, ?_⟩;rw[show its.toArray.any (eqU x)=its.any (eqU x) by simp,av_3 r fs];exact q
 ·obtain⟨its,r,pl,hz⟩:=I.tuple hq;refine SeqAt.in_tupleAt (eqU x) pl (λw hw=>al_4 rx fx r fs w (by simpa using hw)) ⟨.bl _,H,I,rfl, ?_⟩;rw[show its.toArray.any (eqU x)=its.any (eqU x) by simp,av_3 r fs];exact q
def by_6:Ey X (compareOp .NotIn) (rIn X.K true):=by
 intro zd s σ H x y v u Q I rx ry h;obtain⟨p,xs,rfl,hq,fx,fs,q⟩:=h;cases ry;rcases hq with hq|hq
 ·obtain⟨its,r,pl,hz⟩:=I.list hq;refine SeqAt.notIn_listAt (eqU x) pl.isList (λw hw=>al_4 rx fx r fs w (by simpa using hw)) ⟨.bl _,H,I,rfl, ?_⟩;rw[show its.toArray.any (eqU x)=its.any (eqU x) by simp,av_3 r fs];exact q
 ·obtain⟨its,r,pl,hz⟩:=I.tuple hq;refine SeqAt.notIn_tupleAt (eqU x) pl (λw hw=>al_4 rx fx r fs w (by simpa using hw)) ⟨.bl _,H,I,rfl, ?_⟩;rw[show its.toArray.any (eqU x)=its.any (eqU x) by simp,av_3 r fs];exact q
def by_7:Ey X (compareOp .NotIn) (λx y H Q=>∃i j,x=.str i/\y=.str j/\Q (.bl (!(!(Builtin.Str.occurrences j i 0 j.length 1).isEmpty))) H):=by
 intro zd s σ H x y v u Q I rx ry h;obtain⟨i,j,rfl,rfl,q⟩:=h;obtain⟨t,rfl⟩:=rx;obtain⟨t',rfl⟩:=ry;exact notIn_str ⟨.bl _,H,I,rfl,q⟩
def av_4:Ei X (.builtin "len") (λxs H Q=>∃p ys,xs= [.ref p]/\(SqL X.K H p ys\/SqT X.K H p ys)/\Q (.int ys.length) H):=by
 intro zd s σ H xs us Q I r h;obtain⟨p,ys,rfl,hq,q⟩:=h;obtain⟨u,rfl,rx⟩:=bi_8 r;cases rx;have hn:=at_0;rcases hq with hq|hq
 ·obtain⟨its,r',pl,hz⟩:=I.list hq;have zm:=r'.length;exact Calls.call_len_list pl.isList (by simp only[B4] <;> omega) ⟨.int ys.length,H,I.tok _,⟨s.toks + 1,by rw[B4,zm]⟩,q⟩
 ·obtain⟨its,r',pl,hz⟩:=I.tuple hq;have zm:=r'.length;exact len_tuple pl (by simp only[B4] <;> omega) ⟨.int ys.length,H,I.tok _,⟨s.toks + 1,by rw[B4,zm]⟩,q⟩
def by_8:Ei X (.builtin "len") (λxs H Q=>∃z,xs= [.str z]/\z.length<=sizeLine/\Q (.int z.length) H):=by
 intro zd s σ H xs us Q I r h;obtain⟨z,rfl,hz,q⟩:=h;obtain⟨u,rfl,t,rfl⟩:=bi_8 r;have hn:=at_0;exact len_str () ⟨.int z.length,H,I.tok _,⟨_,rfl⟩,q⟩
def av_5:Ei X (.type "list") (λxs H Q=>∃p ys,xs= [.ref p]/\(SqL X.K H p ys\/SqT X.K H p ys)/\∀l,H l=none->Q (.ref l) (upd H l (.lst ys))):=by
 intro zd s σ H xs us Q I r h;obtain⟨p,ys,rfl,hq,q⟩:=h;obtain⟨u,rfl,rx⟩:=bi_8 r;cases rx;have fin:∀(its:List Value),Vals ys its->ys.length<=sizeLine->∀(h':Heap) (c':Nat),(∀b o',s.heap.get? b=some o'->h'.get? b=some o')->
   h'.get? s.heap.objs.size=some {cls:=.type "list",dict:=none,data:=.seq its.toArray c',slots:= #[]}->EP X zd σ Q (.ref s.heap.objs.size) {s with heap:=h'}:=λits r' hz h' c' kp e=>
  ⟨.ref s.heap.objs.size,_,I.laid (t':=s.toks) kp (B0 _) (show ObjOk X.prog X.w _ h' _ (.lst ys) from⟨hz,its,c',r',e⟩),rfl,q _ (I.hok.fresh (B0 _))⟩
 rcases hq with hq|hq
 ·obtain⟨its,r',pl,hz⟩:=I.list hq;have zm:=r'.length;obtain⟨o,ho,hc,n,hd⟩:=pl.isList;exact call_list_seq p (.inl rfl) ho hc hd (λh' c' kp e=>fin its r' hz h' c' kp e) (by simp only[B4] <;> omega)
 ·obtain⟨its,r',pl,hz⟩:=I.tuple hq;have zm:=r'.length;obtain⟨o,ho,hc,n,hd⟩:=pl;exact call_list_seq p (.inr rfl) ho hc hd (λh' c' kp e=>fin its r' hz h' c' kp e) (by simp only[B4] <;> omega)
def aq_6:Ei X (.type "tuple") (λxs H Q=>∃p ys,xs= [.ref p]/\((SqL X.K H p ys/\∀l,H l=none->Q (.ref l) (upd H l (.tup ys)))\/(SqT X.K H p ys/\Q (.ref p) H))):=by
 intro zd s σ H xs us Q I r h;obtain⟨p,ys,rfl,h⟩:=h;obtain⟨u,rfl,rx⟩:=bi_8 r;cases rx;rcases h with⟨hq,q⟩|⟨hq,q⟩
 ·obtain⟨its,r',pl,hz⟩:=I.list hq;have zm:=r'.length;refine call_tuple_list pl.isList (λh' kp=> ?_) (by simp only[B4] <;> omega);have I1:Inv X zd σ H {s with heap:=h'}:=I.kept (t':=s.toks) kp;have I2:Inv X zd σ (upd H h'.objs.size (.tup ys)) {s with heap:=h'.push {cls:=.type "tuple",data:=.seq its.toArray}}:=
   I1.laid (t':=s.toks) (λb o e=>A4 _ e) (B0 _) (show ObjOk X.prog X.w _ _ _ (.tup ys) from⟨hz,its,r',IsTup.new _ _⟩)
  exact⟨.ref h'.objs.size,_,I2,rfl,q _ (I1.hok.fresh (B0 _))⟩
 ·obtain⟨its,r',pl,hz⟩:=I.tuple hq;exact call_tuple_same pl ⟨.ref p,H,I,rfl,q⟩
def tyV(K:Frag)(T:String)(x:V)(H:Hp):Prop:=match x with
 | .str _=>T= "str"
 | .int _=>T= "int"
 | .ref p=>(T= "list" /\∃xs,SqL K H p xs)\/(T= "tuple" /\∃o,K.lookup p=some o/\o.cls=.type "tuple" /\o.dict=none)\/
   (T= "dict" /\((∃kvs,H p=some (.dK kvs))\/∃kvs,H p=some (.dT kvs)))\/(T= "set" /\∃S n,H p=some (.set S n))
 |_=>False
def dp_2{zd:AE}{σ:St}{H:Hp}{s:Shared}{T:String}{x:V}{v:Value}(I:Inv X zd σ H s)(r:RelV x v)(ty:tyV X.K T x H):
  s.TypeIs v T/\∀a,v=.ref a->∃ob,s.heap.get? a=some ob/\ob.dict=none:=by
 cases x with
 |str z=>
  obtain⟨t,rfl⟩:=r;cases(show T= "str" from ty);exact⟨typeIs_str s z t,λ_ e=>nomatch e⟩
 |int i=>
  obtain⟨t,rfl⟩:=r;cases(show T= "int" from ty);exact⟨typeIs_int s i t,λ_ e=>nomatch e⟩
 |ref p=>
  cases r;rcases ty with⟨rfl,xs,hq⟩|⟨rfl,o,hk,hc,hd⟩|⟨rfl,hk⟩|⟨rfl,S,n,hk⟩
  ·obtain⟨its,_,pl,_⟩:=I.list hq;refine⟨pl.isList.typeIs,λa e=> ?_⟩;cases e;obtain⟨o,n,e,c,hd,_⟩:=pl;exact⟨o,e,hd⟩
  ·refine⟨⟨o,I.kIn p o hk,hc⟩,λa e=> ?_⟩;cases e;exact⟨o,I.kIn _ o hk,hd⟩
  ·have z:∃o,s.heap.get? p=some o/\o.ExactDict:=by
    rcases hk with⟨kvs,hk⟩|⟨kvs,hk⟩
    ·obtain⟨_,_,_,_,o,_,_,e,ex,_⟩:=I.hok p _ hk;exact⟨o,e,ex⟩
    ·obtain⟨_,_,_,_,o,_,_,e,ex,_⟩:=I.hok p _ hk;exact⟨o,e,ex⟩
   obtain⟨o,e,ex⟩:=z;refine⟨⟨o,e,ex.1⟩,λa e2=> ?_⟩;cases e2;exact⟨o,e,ex.2.1⟩
  ·obtain⟨o,_,_,_,e,ex,_⟩:=I.hok p _ hk;refine⟨⟨o,e,ex.1⟩,λa e2=> ?_⟩;cases e2;exact⟨o,e,ex.2.1⟩
 |_=>exact False.elim ty
def tBM0(K:Frag)(T:String)(r:V->List V->Hp->VK->Prop)(to:TE):TE:=λ σ H Q=>to σ H λx H1=>tyV K T x H1/\r x [] H1 Q
def tBM(K:Frag)(T:String)(r:V->List V->Hp->VK->Prop)(to:TE)(t:TA):TE:=λ σ H Q=>to σ H λx H1=>tyV K T x H1/\t σ H1 λxs H2=>r x xs H2 Q
variable{o e:Expr}{es:List Expr}{to:TE}{t:TA}{name:Str}{zh zf:Pos}{T id:String}{r:V->List V->Hp->VK->Prop}
def dp_3(pa:PlainAttrs T)(slot:Slot T name id)(hty:typeOf (.builtin id)=pure (.type "method_descriptor"))(hm:MtR X id r)(ho:PE X o to)
  (aa:attributeBase o name X.env (eval o X.env)=eval o X.env:=by rfl) (ae:(zh.endLine ==zf.line)=true:=by rfl):PE X (.Call (.Attribute o name zh) [] [] zf) (tBM0 X.K T r to):=by
 intro zd s σ H Q I h;refine wpAny_Call_method0_late aa ae (Bk (ho zd s σ H _ I h) λv s1 ⟨x,H1,I1,r1,ty,q1⟩=> ?_);obtain⟨h1,h2⟩:=dp_2 I1 r1 ty;exact⟨T,id,pa,slot,hty,h1,h2,U9 rfl (PySem.evalArgs_none (hm zd s1 σ H1 x [] v [] Q I1 r1 .nil q1))⟩
def dp_4(pa:PlainAttrs T)(slot:Slot T name id)(hty:typeOf (.builtin id)=pure (.type "method_descriptor"))(hm:MtR X id r)(ho:PE X o to)(ha:PA X (e::es) t)
  (aa:attributeBase o name X.env (eval o X.env)=eval o X.env:=by rfl)
  (ax:((backTo zf (starEach (e::es) X.env)).all (λx=> !x.1) && (backToKw zf (keywordEach [] X.env)).all (λx=>x.1.isSome)
   && decide ((e::es).length + ([]:List Keyword).length + (if([]:List Keyword).isEmpty then 0 else 1) < 30))=true:=by rfl)
  (ae:(zh.endLine ==zf.line)=true:=by rfl) (hs:starEach (e::es) X.env=(false,eval e X.env)::starEach es X.env:=by rfl) (af:(backTo zf (starEach es X.env)).any (·.1)=false:=by rfl):
  PE X (.Call (.Attribute o name zh) (e::es) [] zf) (tBM X.K T r to t):=by
 intro zd s σ H Q I h;refine wpAny_Call_method_late aa ax ae rfl (Bk (ho zd s σ H _ I h) λv s1 ⟨x,H1,I1,r1,ty,q1⟩=> ?_);obtain⟨h1,h2⟩:=dp_2 I1 r1 ty;refine⟨T,id,pa,slot,hty,h1,h2, ?_⟩;have hA:=ha zf zd s1 σ H1 _ I1 q1;rw[hs]at hA⊢;refine U9 (by show(false || (backTo zf (starEach es X.env)).any (·.1))=false;rw[af] <;> rfl) (Calls.evalArgs_plain ?_);exact Bk hA λus s2 ⟨vs,H2,I2,r2,q2⟩=>hm zd s2 σ H2 x vs v us Q I2 r1 r2 q2
end
def MtM(X:Cx)(id:String)(r:V->List V->Hp->VK->Prop):Prop:=
 ∀(zd:AE) (s:Shared) (σ:St) (H:Hp) (x:V) (xs:List V) (v:Value) (us:List Value) (Q:VK),Inv X zd σ H s->RelV x v->Vals xs us->r x xs H Q->
  wpAny (model X.prog X.w) X.A (call (.builtin id) (v::us)) (EP X zd σ Q) X.xe s
def Vals.one:∀{x:V} {us:List Value},Vals [x] us->∃u,us= [u]/\RelV x u
 |_,_,.cons r .nil=>⟨_,rfl,r⟩
def Vals.two{x y:V}{us:List Value}(h:Vals [x,y] us):∃u v,us= [u,v]/\RelV x u/\RelV y v:=by
 cases h with
 |cons r t=>
  cases t with
  |cons q t=>
   cases t;exact⟨_,_,rfl,r,q⟩
def Vals.zero:∀{us:List Value},Vals [] us->us= []
 |_,.nil=>rfl
theorem Vals.dropLast{xs:List V}{us:List Value}(h:Vals xs us):Vals xs.dropLast us.dropLast:=by
 induction h with
 |nil=>exact .nil
 |cons r t ih=>
  cases t with
  |nil=>exact .nil
  |cons q t'=>exact .cons r ih
theorem Vals.eraseIdx:∀{xs:List V} {us:List Value} (i:Nat),Vals xs us->Vals (xs.eraseIdx i) (us.eraseIdx i)
 |_,_,_,.nil=> .nil
 |_,_,0,.cons _ t=>t
 |_,_,i + 1,.cons r t=> .cons r (Vals.eraseIdx i t)
theorem Vals.reverse{xs:List V}{us:List Value}(h:Vals xs us):Vals xs.reverse us.reverse:=by
 induction h with
 |nil=>exact .nil
 |cons r t ih=>rw[List.reverse_cons,List.reverse_cons];exact Vals.append ih (.cons r .nil)
theorem Vals.rep{xs:List V}{us:List Value}(h:Vals xs us):∀k:Nat,Vals (List.replicate k xs).flatten (List.replicate k us).flatten
 |0=> .nil
 |k + 1=>by
  rw[F3,F3,I0,I0];exact Vals.append h (Vals.rep h k)
def cs_1{α:Type}(l:List α):l.eraseIdx (l.length - 1)=l.dropLast:=by
 induction l with
 |nil=>rfl
 |cons a r ih=>
  cases r with
  |nil=>rfl
  |cons b r=>
   have e:(a::b::r).length - 1=((b::r).length - 1) + 1:=by
    have h1:(a::b::r).length=r.length + 2:=rfl;have h2:(b::r).length=r.length + 1:=rfl;omega
   rw[e,List.eraseIdx_cons_succ,ih]
   all_goals rfl
theorem bt_3(its:List Value):∀(k:Nat) (zp:List Value),
  List.foldl (λx1 x2=>x1 ++ x2) zp.toArray (List.replicate k its.toArray)=(zp ++ (List.replicate k its).flatten).toArray
 |0,zp=>by simp
 |k + 1,zp=>by
  have e:zp.toArray ++ its.toArray=(zp ++ its).toArray:=by simp
  have e2:(zp ++ its) ++ (List.replicate k its).flatten=zp ++ (List.replicate (k + 1) its).flatten:=by
   rw[F3,I0,List.append_assoc]
  rw[<-e2,<-bt_3 its k (zp ++ its),<-e,F3,ZA7]
section
variable{X:Cx}{zd:AE}{σ:St}{H:Hp}{s:Shared}{l b:Addr}{xs ys zs:List V}
def Inv.lset{its its':List Value}{n:Nat}{f:Array Value->Array Value}{t':Nat}(I:Inv X zd σ H s)(hH:H l=some (.lst xs))
  (e:s.heap.get? l=some {cls:=.type "list",data:=.seq its.toArray n}) (hf:f its.toArray=its'.toArray) (hv:Vals ys its') (hz:ys.length<=sizeLine):
  Inv X zd σ (upd H l (.lst ys)) {s with heap:=s.heap.update l (Obj.mapSeq f),toks:=t'}:=by
 have q:=PySem.IsL.update e f;rw[hf]at q;refine I.write (x:=l) (e:=l) (by rw[hH];exact trivial) (.inl rfl) (λb' u hb hu=>(F4 s.heap (Obj.mapSeq f) (Ne.symm hb)).trans hu) ⟨_,q⟩ ?_;exact⟨hz,its',_,hv,q⟩
def Inv.lnew{its:List Value}{t':Nat}(I:Inv X zd σ H s)(hv:Vals ys its)(hz:ys.length<=sizeLine):
  Inv X zd σ (upd H s.heap.objs.size (.lst ys)) {s with heap:=s.heap.push {cls:=.type "list",data:=.seq its.toArray},toks:=t'}:=
 I.laid (λ_ _ q=>A4 _ q) (B0 _) ⟨hz,its,0,hv,C1 _ rfl⟩
theorem Inv.fresh(I:Inv X zd σ H s):H s.heap.objs.size=none:=I.hok.fresh (B0 _)
def Inv.lstM(I:Inv X zd σ H s)(hH:H l=some (.lst xs)):xs.length<=sizeLine/\∃(its:List Value) (n:Nat),Vals xs its/\xs.length=its.length/\s.heap.get? l=some {cls:=.type "list",data:=.seq its.toArray n}:=by
 obtain⟨z,its,n,r,e⟩:=I.hok l _ hH;exact⟨z,its,n,r,r.length,e⟩
def cg_1{n:Nat}(h:n<=sizeLine):Builtin.List.listTooLong n=false:=by
 unfold Builtin.List.listTooLong;exact D8 ()
end
section
variable{X:Cx}
def cz_7:V->List V->Hp->VK->Prop:=λx vs H Q=>∃l xs y,x=.ref l/\vs= [y]/\H l=some (.lst xs)/\xs.length < sizeLine/\Q .non (upd H l (.lst (xs ++ [y])))
def bt_4:MtM X "list.append" cz_7:=by
 intro zd s σ H x vs v us Q I rx rv h;obtain⟨l,xs,y,rfl,rfl,hH,hz,q⟩:=h;cases rx;obtain⟨u,rfl,ru⟩:=rv.one;obtain⟨z,its,n,r,hl,e⟩:=I.lstM hH;refine ZA0 F.slot_list_append ⟨_,e,rfl⟩ F.entry_list_append (F.args_list_append_2 _ _) (PySem.list_append l its.toArray n u (by rw[B4];omega)) ⟨e, ?_⟩;refine⟨.non,_,I.lset (its':=its ++ [u]) hH e (by simp) (r.append (.cons ru .nil)) ?_,rfl,q⟩;rw[B6,List.length_singleton];omega
def rPop:V->List V->Hp->VK->Prop:=λx vs H Q=>∃l xs y,x=.ref l/\vs= []/\H l=some (.lst xs)/\xs[xs.length - 1]? =some y/\Q y (upd H l (.lst xs.dropLast))
def eo_0:MtM X "list.pop" rPop:=by
 intro zd s σ H x vs v us Q I rx rv h;obtain⟨l,xs,y,rfl,rfl,hH,hy,q⟩:=h;cases rx;have hus:=rv.zero;subst hus;obtain⟨z,its,n,r,hl,e⟩:=I.lstM hH;obtain⟨u,hu,ru⟩:=r.get hy;have hy':its.toArray[its.toArray.size - 1]? =some u:=by
  show its.toArray[its.length - 1]? =some u;rw[<-Array.getElem?_toList,<-hl];exact hu
 refine ZA0 F.slot_list_pop ⟨_,e,rfl⟩ F.entry_list_pop (F.args_list_pop_1 _) (MeetsSeq.list_pop_last l its.toArray n u hy' (by rw[B4];omega)) ⟨e, ?_⟩;refine⟨y,_,I.lset (its':=its.dropLast) hH e ?_ r.dropLast ?_,ru,q⟩
 ·show its.toArray.eraseIdxIfInBounds (its.toArray.size - 1)=its.dropLast.toArray;rw[B4,List.eraseIdxIfInBounds_toArray,cs_1]
 ·rw[List.length_dropLast];omega
def rRep:R2:=λx y H Q=>∃l k xs,x=.ref l/\y=.int k/\H l=some (.lst xs)/\ -(2 ^ 63)<=k/\k < 2 ^ 63/\xs.length * k.toNat<=sizeLine/\
 ∀p,H p=none->Q (.ref p) (upd H p (.lst (List.replicate k.toNat xs).flatten))
def eb_4{α:Type}(xs:List α)(k:Nat):(List.replicate k xs).flatten.length=k * xs.length:=by
 induction k with
 |zero=>simp
 |succ k ih=>rw[F3,I0,B6,ih,Nat.succ_mul,Nat.add_comm]
def eo_1:Ey X (binaryOp .Mult) rRep:=by
 intro zd s σ H x y v u Q I rx ry h;obtain⟨l,k,xs,rfl,rfl,hH,h1,h2,hz,q⟩:=h;cases rx;obtain⟨t,rfl⟩:=ry;obtain⟨z,its,n,r,hl,e⟩:=I.lstM hH;have zm:its.toArray.size * k.toNat<=sizeLine:=by rw[B4,<-hl];exact hz
 have gu:¬its.toArray.size * k.toNat > (2 ^ 63 - 1) / 8:=by
  have:(sizeLine:Nat)<=(2 ^ 63 - 1) / 8:=by decide
  omega
 have dq:¬(!Builtin.List.listFitsIndex k)=true:=by
  rw[fitsIndex_both h1 h2];exact A6
 have az:¬Builtin.List.listTooLong (its.toArray.size * k.toNat)=true:=by
  rw[cg_1 zm];exact A6
 have fz:List.foldl (λx1 x2=>x1 ++ x2) #[] (List.replicate (if its.toArray.isEmpty=true then 0 else k.toNat) its.toArray)=(List.replicate k.toNat its).flatten.toArray:=by
  have f0:∀m:Nat,List.foldl (λx1 x2=>x1 ++ x2) #[] (List.replicate m its.toArray)=(List.replicate m its).flatten.toArray:=λm=>by
   have:=bt_3 its m [];rw[ZA8]at this;exact this
  rw[f0];cases its with
  |nil=>simp
  |cons a r'=>rw[if_neg (by simp)]
 refine wpAny_binaryOp_repeat_ref (T:= "list") (U:= "int") ⋯ ⟨_,e,rfl⟩ (λs'=>typeIs_int s' k t) noFill_list_mul F.fills_int_mul F.slot_int_rmul repeat_list F.slot_int_index.lookup
  (ZA0 F.slot_int_rmul (typeIs_int s k t) F.entry_int_rmul (F.args_int_rmul_2 _ _) (int___rmul___int_list k t l its.toArray n)
   ⟨e,rfl,⟨_,e,rfl⟩,ZA0 F.slot_list_mul ⟨_,e,rfl⟩ F.entry_list_mul (F.args_list_mul_2 _ _) (AutoListH.list___mul___list_int_3 l its.toArray n k t dq gu az) ⟨e, ?_⟩⟩)
 rw[fz];exact⟨.ref _,_,I.lnew (t':=s.toks) (r.rep k.toNat) (by rw[eb_4,Nat.mul_comm];exact hz),rfl,q _ I.fresh⟩
end
section
variable{prog:Program}{w:World}{A:Around}{E:AA}{s:Shared}
end
section
variable{X:Cx}
end
end L2
namespace Att
open PySem PySem.W PySem.Calls PyProof.Rows
def bf_5{P:Params}{h:Heap}:∀(ns:List Int) (vs:List Value),WellAll P h vs (ns.map WData.int)->IntsAre vs ns:=by
 intro ns
 induction ns with
 |nil=>
  intro vs w;rw[N7]at w;cases w;exact .nil
 |cons n ns ih=>
  intro vs w;rw[A9]at w;cases w with
  |cons a b=>
   cases a;exact .cons _ _ (ih _ b)
def dh_2{l:OpenLaw}{n:Nat}(hn:l.most=some n){P:Params}{h:Heap}{args:List WData}{vals:List Value}
  (bp:l.row.toRowW.claim.pre args=true) (hwl:WellAll P h vals args):
  ∃a vs ns,vals= [Value.ref a]/\args= [WData.list (ns.map WData.int)]/\h.get? a=some {cls:=.type "list",data:=.seq vs.toArray}/\IntsAre vs ns/\ns.length<=n:=by
 have hsh:WShape.hasAll [] args [.list .int]=true:=(pre_splitW bp).1;have hc:l.pre.holds [] {args:=args}=true:=(pre_splitW bp).2;obtain⟨d,r,rfl,h1,h2⟩:=hasAllW_cons hsh;obtain rfl:=hasAllW_nil h2;obtain⟨xs,rfl,h3⟩:=hasW_list h1;obtain⟨ns,rfl⟩:=items_int h3;have zm:ns.length<=n:=by
  unfold OpenLaw.pre at hc;have h4:(WTm.not (.lt (.lit (.int (n:Int))) (.len (.arg 0)))).holds [] {args:=[.list (ns.map .int)]}=true:=by
   have h4:=(holds_andW hc).1;rw[hn]at h4;exact h4
  have h5:=condW_of h4 (w_not (w_lt w_lit (w_len_list (w_arg rfl))));rw[A0]at h5;refine Nat.le_of_not_lt λq=> ?_;have q':(n:Int) < ((ns.length:Nat):Int):=by omega
  first
   |(rw[D9 q']at h5;exact absurd h5 ⋯)
   |(simp at h5;omega)
 cases hwl with
 |cons w1 w2=>
  cases w2;cases w1 with
  |list ho au=>exact⟨_,_,ns,rfl,rfl,ho,bf_5 ns _ au,zm⟩
def dh_3(l:OpenLaw)(args:List WData):l.row.toRowW.claim.post args (.bool true) args=true:=
 postW_of (r:=l.row.toRowW) (X:=(true ==true))
  (show WShape.has [] (.bool true) .bool=true by first|rfl|decide|simp[WShape.has,WShape.arms,WShape.armsAll])
  (show(WTm.eq .res (.lit (.bool true))).value [] {args:=args,res:=some (.bool true),after:=args}=some (.bool (true ==true)) from w_eq_bool (w_res rfl) w_lit) rfl
def attach_call{l:OpenLaw}{n:Nat}{q:Program}{loose:List Str}{XP:(AB)->Heap->Prop}{YP:World->Heap->Prop}{d:DefRec}
  (hn:l.most=some n) (hdf:d.params.defaults= [])
  (call:∀(w:World) (s₀ s₁:Shared) (mg mb:AB) (fa:Addr) (o:Obj) (pm cd doc:Value) (a:Addr) (vs:List Value) (ns:List Int),
   Ground q loose [] XP w s₀ mg mb s₁.heap->YP w s₁.heap->
   s₁.heap.get? fa=some o->o.data=.func (docDef d.name d.params d.body d.scope pm cd doc)->s₁.heap.CodeRec cd d.name->mg d.name=some (.ref fa)->
   s₁.heap.get? a=some {cls:=.type "list",data:=.seq vs.toArray}->IntsAre vs ns->ns.length<=n->s₁.gens= #[]->
   codeAny (model l.prog w) callerA (.call (.ref fa) ⟨[.ref a],[]⟩) (λr s'=>r=.ok (.ret (.bool true))/\OldK s₁.heap s'.heap/\s'.os=s₁.os/\AllBare s'.gens) s₁):
  WalkO q loose XP YP l.row.toRowW d [] (λf vs=>PySem.call f vs):=by
 intro w s₀ s₁ mg mb G Y fa o pm cd doc dV kV ho hd hcd hD hmg hg args vals as bp hlay hrd hwl hlo;obtain rfl:dV=.none:=Dflts.none hD hdf;obtain rfl:kV=.none:=Dflts.noKw hD;obtain⟨a,vs,ns,rfl,rfl,bb,hints,zm⟩:=dh_2 hn bp hwl;refine enter_call (T3 (call w s₀ s₁ mg mb fa o pm cd doc a vs ns G Y ho (fd_plain hd) hcd hmg bb hints zm hg) λr s' hq=> ?_);obtain⟨rfl,h2,h3,h4⟩:=hq;exact⟨.inl ⟨.bool true,.bool true,[],rfl,λ_=>rfl,.bool true,dh_3 l _,λ_=>⟨List.Pairwise.nil,λ_ hm=>(nomatch hm)⟩⟩,h2,h3,h4⟩
section
variable{prog:Program}{w:World}{A:Around}{E:AA}{s:Shared}{K:Frag}
end
end Att
namespace L2
open PySem PySem.Spec PyProof.Rows
theorem bt_5:∀{vs:List Value} {ns:List Int},IntsAre vs ns->Vals (ns.map V.int) vs
 |_,_,.nil=> .nil
 |_,_,.cons n t h=> .cons ⟨t,rfl⟩ (bt_5 h)
def Only(H:Hp):Prop:=∀b,H b=none\/∃o xs,H b=some (.frz o (.lst xs))
def dp_5{P:Program}{w:World}{K:Frag}{mg mb:AB}{CX:CXT}{k:Nat}{fa a:Addr}{fd:FuncData}{x:Str}{sp:Sp}{s₁:Shared}{vs:List Value}{ns:List Int}
  (KX:K.In s₁.heap) (hns:s₁.heap.Ns mainGlobals mg) (hb:s₁.heap.Ns builtinsNs mb) (hbb:∀x:Str,x≠ "__name__" ->mb x=bootBuiltins x) (du:s₁.heap.NoLimit) (hg:s₁.gens= #[])
  (ha:s₁.heap.get? a=some {cls:=.type "list",data:=.seq vs.toArray}) (hi:IntsAre vs ns) (hl:ns.length<=sizeLine) (hr:Room k callerA)
  (F:∀base:Heap,K.In base->base.Ns mainGlobals mg->FnOk P w K mg base CX k fa fd [x] sp) (ck:∀(s:Shared) (u:Value),BindsTo s fd ⟨[u],[]⟩ [(x,u)])
  (hsp:∀H:Hp,Only H->SqL K H a (ns.map V.int)->sp [.ref a] H (λv _=>v=.bl true) λ_ _ _=>False)
  (hCX:∀H e s',CX [] H s₁ (λ_ _ _=>False) e s'->False):
  codeAny (model P w) callerA (.call (.ref fa) ⟨[.ref a],[]⟩) (λr s'=>r=.ok (.ret (.bool true))/\OldK s₁.heap s'.heap/\s'.os=s₁.os/\AllBare s'.gens) s₁:=by
 have rv:=bt_5 hi;have fw:=hi.length
 
 have core:∀H:Hp,Only H->SqL K H a (ns.map V.int)->HOk P w H s₁.heap->(∀b,H b≠none->b=a)->(H a≠none->K.lookup a=none)->
   codeAny (model P w) callerA (.call (.ref fa) ⟨[.ref a],[]⟩) (λr s'=>r=.ok (.ret (.bool true))/\OldK s₁.heap s'.heap/\s'.os=s₁.os/\AllBare s'.gens) s₁:=by
  intro H hO hS hok hA hK;have ao:∀{b:Addr} {o:Obj},s₁.heap.get? b=some o->H b=none->(hidT s₁.heap H).get? b=some o:=λe n=>dn_5 e n;have noA:∀{b:Addr} {o:Obj} {es:Array DictEntry} {ep:Nat},s₁.heap.get? b=some o->o.data=.dict es ep->H b=none:=λ{b o es ep} e d=>by
   cases q:H b with
   |none=>rfl
   |some u=>
    have e':b=a:=hA b (by rw[q];simp);subst e';rw[ha]at e;cases e;have d':Data.seq vs.toArray _=Data.dict es ep:=d;cases d'
  have nsK:∀{b:Addr} {m:AB},s₁.heap.Ns b m->(hidT s₁.heap H).Ns b m:=λ{b m} ⟨o,es,ep,e,d,r⟩=>⟨o,es,ep,ao e (noA e d),d,r⟩;have hKb:K.In (hidT s₁.heap H):=λb o e=>ao (KX b o e) (by
   cases q:H b with
   |none=>rfl
   |some u=>
    have e':b=a:=hA b (by rw[q];simp);subst e';rw[hK (by rw[q];simp)]at e;cases e)
  have hM:Mod K mg (hidT s₁.heap H):=⟨hKb,nsK hns,⟨mb,nsK hb,hbb⟩,let⟨mc,h1,h2⟩:=du;⟨mc,nsK h1,h2⟩⟩;have e0:Env0 P w K mg (hidT s₁.heap H) callerA [] s₁ H:=⟨rfl,hM,λb o e=>ea_0 e,U8 (dg_1 _ _),trivial,λb hb=>absurd (show b∈([]:List Addr) from hb) (by simp),hok,.of_eq hg⟩;refine T3 ((F _ hKb (nsK hns)).run callerA [] s₁ H ⟨[.ref a],[]⟩ [.ref a] [.ref a] _ _ hr e0 (ck s₁ (.ref a)) (.cons rfl .nil) (hsp H hO hS)) λr s' h=> ?_;cases r with
  |error e=>exact(hCX H e s' h).elim
  |ok fl=>
   cases fl with
   |next=>exact False.elim h
   |brk=>exact False.elim h
   |cont=>exact False.elim h
   |ret u=>
    obtain⟨v,H',os,bare,un,dv,r',q⟩:=h;have q':v=.bl true:=q;subst q';obtain rfl:u=Value.bool true:=r';refine⟨rfl,OldK.of_keep λb o e=> ?_,os,bare⟩;cases q:H b with
    |none=>exact un.keep b o e q (by intro z;exact absurd (show b∈([]:List Addr) from z) (by simp)) (by simp)
    |some u=>
     rcases hO b with z|⟨ob,xs,z⟩
     ·rw[q]at z;cases z
     ·have z2:=un.frzs b ob _ z;obtain⟨e1,_⟩:=hok b _ z;obtain⟨e2,_⟩:=dv b _ z2;rw[e]at e1;cases e1;exact e2
 cases hk:K.lookup a with
 |some o=>
  
  have e:=KX a o hk;rw[ha]at e;cases e;refine core (λ_=>none) (λ_=> .inl rfl) (.inr ⟨_,vs.toArray,_,hk,rfl,rfl,rfl,by rw[B4,fw];exact hl,by simpa using rv⟩) (λb u z=>by have z':(none:Option HO)=some u:=z;cases z') (λb z=>absurd rfl z) λz=>absurd rfl z
 |none=>
  refine core (λb=>if b=a then some (.frz {cls:=.type "list",data:=.seq vs.toArray} (.lst (ns.map V.int))) else none) (λb=> ?_) (.inl (.inr ⟨{cls:=.type "list",data:=.seq vs.toArray},if_pos rfl⟩)) (λb u z=> ?_) (λb z=> ?_) λ_=>hk
  ·by_cases hb:b=a
   ·exact .inr ⟨_,_,if_pos hb⟩
   ·exact .inl (if_neg hb)
  ·by_cases hb:b=a
   ·have z':=(if_pos hb).symm.trans z;cases z';subst hb;exact⟨ha,by rw[A0];exact hl,vs,_,rv,ha⟩
   ·have z':=(if_neg hb).symm.trans z;cases z'
  ·by_cases hb:b=a
   ·exact hb
   ·exact absurd (if_neg hb) z
def eb_5{l:PySem.W.OpenLaw}{n k:Nat}{q:Program}{loose:List Str}{XP:(AB)->Heap->Prop}{YP:World->Heap->Prop}{d:DefRec}{K:Params->Frag}{CX:World->CXT}{sp:World->Sp}{x:Str}
  (hn:l.most=some n) (hn2:n<=sizeLine) (hdf:d.params.defaults= []) (hr:Room k callerA)
  (hY:∀(w:World) (h:Heap),YP w h->(K w.params).In h)
  (F:∀(w:World) (mg:AB) (fa:Addr) (h:Heap),(K w.params).In h->h.Ns mainGlobals mg->mg d.name=some (.ref fa)->
   ∃fd:FuncData,(∀(s:Shared) (u:Value),BindsTo s fd ⟨[u],[]⟩ [(x,u)])/\
    ∀base:Heap,(K w.params).In base->base.Ns mainGlobals mg->FnOk l.prog w (K w.params) mg base (CX w) k fa fd [x] (sp w))
  (hsp:∀(w:World) (H:Hp) (a:Addr) (ns:List Int),ns.length<=n->Only H->SqL (K w.params) H a (ns.map V.int)->sp w [.ref a] H (λv _=>v=.bl true) λ_ _ _=>False)
  (hCX:∀(w:World) (H:Hp) (s:Shared) (e:Value) (s':Shared),CX w [] H s (λ_ _ _=>False) e s'->False):
  PySem.W.WalkO q loose XP YP l.row.toRowW d [] (λf vs=>PySem.call f vs):=by
 refine Att.attach_call hn hdf λw s₀ s₁ mg mb fa o pm cd doc a vs ns G Y ho hd hcd hmg bb hints zm hg=> ?_;have KX:=hY w _ Y;obtain⟨fd,hb,hF⟩:=F w mg fa _ KX G.T.g hmg;exact dp_5 KX G.T.g G.T.b G.T.builtins G.T.nolimit hg bb hints (C5 zm hn2) hr hF hb (λH hO hS=>hsp w H a ns zm hO hS) λH e s'=>hCX w H s₁ e s'
def l_1(s:Stmt):Arguments:=match s with
 | .FunctionDef _ a _ _ _ _ _ _ _ _=>a
 |_=>{posonlyargs:=[],args:=[],vararg:=none,kwonlyargs:=[],kw_defaults:=[],kwarg:=none,defaults:=[]}
def Fg(s:Stmt):List Stmt:=match s with
 | .FunctionDef _ _ b _ _ _ _ _ _ _=>b
 |_=> []
def Ce(s:Stmt):Scope:=match s with
 | .FunctionDef _ _ _ _ _ _ sc _ _ _=>sc
 |_=>{kind:=.function,names:=[],isGenerator:=false,isCoroutine:=false}
abbrev CX0:CXT:=λ_ _ _ _ _ _=>False
abbrev E0:XK:=λ_ _ _=>False
structure Fun(K:Frag)(x qual:Str)(st:Stmt)(f:Addr)(fd:FuncData):Prop where
 ex:∃(oc:Value) (od:Option Addr) (kV doc pm:Value) (an:Option Addr) (zq ct:Value) (osl:Array (Option Value)),
  fd=fnOf x qual (l_1 st) (Fg st) (Ce st) .none kV doc pm an zq ct/\K.lookup f=some ⟨oc,od,.func fd,osl⟩/\codeIn K zq qual=true
 kp:keepIn K (.ref f)=true
section
variable{P:Program}{w:World}{K:Frag}{mg:AB}{base:Heap}
def Fun.binds{x qual:Str}{st:Stmt}{f:Addr}{fd:FuncData}{ps:List Str}(F:Fun K x qual st f fd)
  (h:∀(kV doc pm:Value) (an:Option Addr) (zq ct:Value) (us:List Value),us.length=ps.length->bindArgs (fnOf x qual (l_1 st) (Fg st) (Ce st) .none kV doc pm an zq ct) ⟨us,[]⟩=pure (ps.zip us)):Binds K fd ps []:=by
 obtain⟨oc,od,kV,doc,pm,an,zq,ct,osl,rfl,lk,hcd⟩:=F.ex;exact .all (h kV doc pm an zq ct)
def cs_2{x qual:Str}{st:Stmt}{f:Addr}{oc:Value}{od an:Option Addr}{osl:Array (Option Value)}{kV doc pm zq ct:Value}(l:K.lookup f=some ⟨oc,od,.func (fnOf x qual (l_1 st) (Fg st) (Ce st) .none kV doc pm an zq ct),osl⟩)
  (c:codeIn K zq qual=true) (k:keepIn K (.ref f)=true):Fun K x qual st f (fnOf x qual (l_1 st) (Fg st) (Ce st) .none kV doc pm an zq ct):=⟨⟨oc,od,kV,doc,pm,an,zq,ct,osl,rfl,l,c⟩,k⟩
end
section
variable{X:Cx}
end
def Same(H H':Hp):Prop:=∀b o,H b=some o->H' b=some o
def Same.refl(H:Hp):Same H H:=λ_ _ h=>h
def Same.trans{H H1 H2:Hp}(a:Same H H1)(b:Same H1 H2):Same H H2:=λc o h=>b c o (a c o h)
def Same.free{H H':Hp}(e:Same H H'){l:Addr}(h:H' l=Option.none):H l=Option.none:=by
 cases q:H l with
 |none=>rfl
 |some o=>
  rw[e l o q]at h;cases h
def Same.seq{K:Frag}{H H':Hp}{a:Addr}{xs:List V}(e:Same H H')(h:SqL K H a xs):SqL K H' a xs:=by
 rcases h with(h|⟨o,h⟩)|h
 ·exact .inl (.inl (e _ _ h))
 ·exact .inl (.inr ⟨o,e _ _ h⟩)
 ·exact .inr h
end L2
namespace L3
open PySem PySem.Spec PyProof.Rows L2
variable{K:Frag}{fd:FuncData}{mg:AB}{P:Program}{vs:List V}{us:List Value}{base:Heap}{H:Hp}{X:Cx}{pos:Pos}{v:V}
abbrev Sg:=L2.St
inductive D where
 |non|bl (b:Bool)|int (i:Int)|str (x:Str)|lst (ds:List D)|tup (ds:List D)|dic (kvs:List (Av×D))
 |exn (c:Str) (ns:List Str) (vs:List D)|obj (c:Str) (ns:List Str) (vs:List D)
structure Xn where
 c:Str
 ns:List Str
 vs:List D
inductive R(α:Type) where
 |ok (a:α)|ex (x:Xn)|no
namespace R
def bind{α β:Type}(r:R α)(k:α->R β):R β:=match r with
 | .ok a=>k a
 | .ex x=> .ex x
 | .no=> .no
@[simp] theorem bind_ok{α β:Type}(a:α)(k:α->R β):(R.ok a).bind k=k a:=rfl
@[simp] theorem bind_ex{α β:Type}(x:Xn)(k:α->R β):(R.ex x).bind k=.ex x:=rfl
@[simp] theorem bind_no{α β:Type}(k:α->R β):(R.no).bind k=.no:=rfl
end R
inductive Tn where
 |sh (d:D)|lst (ts:List Tn)|tup (ts:List Tn)|dic (zn:List (Av×Tn))|obj (c:Str) (ns:List Str) (ts:List Tn)
mutual
def Tn.d:Tn->D
 | .sh d=>d
 | .lst ts=> .lst (Tn.ds ts)
 | .tup ts=> .tup (Tn.ds ts)
 | .dic zn=> .dic (Tn.ks zn)
 | .obj c ns ts=> .obj c ns (Tn.ds ts)
def Tn.ds:List Tn->List D
 | []=> []
 |t::ts=>t.d::Tn.ds ts
def Tn.ks:List (Av×Tn)->List (Av×D)
 | []=> []
 |(k,t)::ts=>(k,t.d)::Tn.ks ts
end
def Tn.of:D->Tn
 | .lst ds=> .lst (ds.map .sh)
 | .dic kvs=> .dic (kvs.map λp=>(p.1,.sh p.2))
 | .obj c ns vs=> .obj c ns (vs.map .sh)
 |d=> .sh d
theorem Tn.ds_sh:∀ds:List D,Tn.ds (ds.map .sh)=ds
 | []=>rfl
 |d::ds=>by
  show(Tn.sh d).d::Tn.ds (ds.map .sh)=_;rw[Tn.ds_sh ds];rfl
theorem Tn.ks_sh:∀kvs:List (Av×D),Tn.ks (kvs.map λp=>(p.1,Tn.sh p.2))=kvs
 | []=>rfl
 |(k,d)::kvs=>by
  show(k,(Tn.sh d).d)::Tn.ks (kvs.map λp=>(p.1,Tn.sh p.2))=_;rw[Tn.ks_sh kvs];rfl
theorem Tn.ks_fst:∀zn:List (Av×Tn),(Tn.ks zn).map (·.1)=zn.map (·.1)
 | []=>rfl
 |(k,t)::zn=>by show k::(Tn.ks zn).map (·.1)=_;rw[Tn.ks_fst zn];rfl
theorem Tn.ks_snd:∀zn:List (Av×Tn),(Tn.ks zn).map (·.2)=Tn.ds (zn.map (·.2))
 | []=>rfl
 |(k,t)::zn=>by show t.d::(Tn.ks zn).map (·.2)=_;rw[Tn.ks_snd zn];rfl
def Tn.of_d(d:D):(Tn.of d).d=d:=by
 cases d with
 |lst ds=>show D.lst (Tn.ds (ds.map .sh))=_;rw[Tn.ds_sh]
 |dic kvs=>show D.dic (Tn.ks (kvs.map λp=>(p.1,.sh p.2)))=_;rw[Tn.ks_sh]
 |obj c ns vs=>show D.obj c ns (Tn.ds (vs.map .sh))=_;rw[Tn.ds_sh]
 |_=>rfl
inductive W where
 |sh (d:D)|ow (d:D)|tr (t:Tn)
def W.d:W->D
 | .sh d=>d
 | .ow d=>d
 | .tr t=>t.d
@[simp] theorem W.d_sh(d:D):(W.sh d).d=d:=rfl
@[simp] theorem W.d_ow(d:D):(W.ow d).d=d:=rfl
@[simp] theorem W.d_tr(t:Tn):(W.tr t).d=t.d:=rfl
def ClsAt(K:Frag)(c:Str)(C:Addr):Prop:=nsIn K mainGlobals c=some (some (.ref C))
def XO(a C:Addr)(dx:Option Addr):HO:=.ext λh=>∃us sl,h.get? a=some ⟨.ref C,dx,.fields us,sl⟩/\us[2]? =some .none
mutual
inductive Has(K:Frag)(G:Hp):V->D->Prop where
 |non:Has K G .non .non
 |bl (b:Bool):Has K G (.bl b) (.bl b)
 |int (i:Int):Has K G (.int i) (.int i)
 |str (x:Str):Has K G (.str x) (.str x)
 |lst {a:Addr} {vs:List V} {ds:List D} (h:SqL K G a vs) (r:HasL K G vs ds):Has K G (.ref a) (.lst ds)
 |tup {a:Addr} {vs:List V} {ds:List D} (h:SqT K G a vs) (r:HasL K G vs ds):Has K G (.ref a) (.tup ds)
 |exn0 {a C:Addr} {o:Obj} {c:Str} (hc:ClsAt K c C) (h:G a=some (.frz o (XO a C none))):Has K G (.ref a) (.exn c [] [])
 |exn1 {a C d:Addr} {o:Obj} {c:Str} {ns:List Str} {us:List V} {vs:List D} (hc:ClsAt K c C) (h:G a=some (.frz o (XO a C (some d)))) (hd:G d=some (.xd (ns.zip us))) (hl:ns.length=us.length) (r:HasL K G us vs):Has K G (.ref a) (.exn c ns vs)
 |dic {a:Addr} {kvs:List (Av×V)} {kds:List (Av×D)} (h:Rd G a (.dK kvs)) (hk:kvs.map (·.1)=kds.map (·.1)) (r:HasL K G (kvs.map (·.2)) (kds.map (·.2))):Has K G (.ref a) (.dic kds)
 |obj {a C dx:Addr} {c:Str} {ns:List Str} {us:List V} {vs:List D} (hc:ClsAt K c C) (h:G a=some (.ins C dx (ns.zip us))) (hl:ns.length=us.length) (r:HasL K G us vs):Has K G (.ref a) (.obj c ns vs)
inductive HasL(K:Frag)(G:Hp):List V->List D->Prop where
 |nil:HasL K G [] []
 |cons {v:V} {d:D} {vs:List V} {ds:List D} (h:Has K G v d) (r:HasL K G vs ds):HasL K G (v::vs) (d::ds)
end
abbrev AS:=Addr->Prop
mutual
inductive Ow(K:Frag)(G H:Hp):V->Tn->AS->Prop where
 |sh {v:V} {d:D} {S:AS} (h:Has K G v d):Ow K G H v (.sh d) S
 |lst {a:Addr} {vs:List V} {ts:List Tn} {S S1:AS} (h:H a=some (.lst vs)) (ha:S a) (sub:∀b,S1 b->S b/\b≠a) (r:OwL K G H vs ts S1):Ow K G H (.ref a) (.lst ts) S
 |tup {a:Addr} {vs:List V} {ts:List Tn} {S S1:AS} (h:H a=some (.tup vs)) (ha:S a) (sub:∀b,S1 b->S b/\b≠a) (r:OwL K G H vs ts S1):Ow K G H (.ref a) (.tup ts) S
 |dic {a:Addr} {kvs:List (Av×V)} {zn:List (Av×Tn)} {S S1:AS} (h:H a=some (.dK kvs)) (hk:kvs.map (·.1)=zn.map (·.1)) (ha:S a) (sub:∀b,S1 b->S b/\b≠a) (r:OwL K G H (kvs.map (·.2)) (zn.map (·.2)) S1):Ow K G H (.ref a) (.dic zn) S
 |obj {a C dx:Addr} {c:Str} {ns:List Str} {us:List V} {ts:List Tn} {S S1:AS} (hc:ClsAt K c C) (h:H a=some (.ins C dx (ns.zip us))) (hl:ns.length=us.length) (ha:S a) (sub:∀b,S1 b->S b/\b≠a) (r:OwL K G H us ts S1):Ow K G H (.ref a) (.obj c ns ts) S
inductive OwL(K:Frag)(G H:Hp):List V->List Tn->AS->Prop where
 |nil {S:AS}:OwL K G H [] [] S
 |cons {v:V} {t:Tn} {vs:List V} {ts:List Tn} {S S1 S2:AS} (h:Ow K G H v t S1) (r:OwL K G H vs ts S2) (dj:∀b,S1 b->S2 b->False) (s1:∀b,S1 b->S b) (s2:∀b,S2 b->S b):OwL K G H (v::vs) (t::ts) S
end
def Same.rdD{H H':Hp}{a:Addr}{u:HO}(e:Same H H')(h:Rd H a u):Rd H' a u:=by
 rcases h with h|⟨o,h⟩
 ·exact .inl (e _ _ h)
 ·exact .inr ⟨o,e _ _ h⟩
def Same.tupS{H H':Hp}{a:Addr}{xs:List V}(e:Same H H')(h:SqT K H a xs):SqT K H' a xs:=by
 rcases h with(h|⟨o,h⟩)|h
 ·exact .inl (.inl (e _ _ h))
 ·exact .inl (.inr ⟨o,e _ _ h⟩)
 ·exact .inr h
mutual
theorem Has.mono{G G':Hp}(e:Same G G'):∀{v:V} {d:D},Has K G v d->Has K G' v d
 |_,_,.non=> .non
 |_,_,.bl b=> .bl b
 |_,_,.int i=> .int i
 |_,_,.str x=> .str x
 |_,_,.lst h r=> .lst (e.seq h) (HasL.mono e r)
 |_,_,.tup h r=> .tup (Same.tupS e h) (HasL.mono e r)
 |_,_,.exn0 hc h=> .exn0 hc (e _ _ h)
 |_,_,.exn1 hc h hd hl r=> .exn1 hc (e _ _ h) (e _ _ hd) hl (HasL.mono e r)
 |_,_,.dic h hk r=> .dic (Same.rdD e h) hk (HasL.mono e r)
 |_,_,.obj hc h hl r=> .obj hc (e _ _ h) hl (HasL.mono e r)
theorem HasL.mono{G G':Hp}(e:Same G G'):∀{vs:List V} {ds:List D},HasL K G vs ds->HasL K G' vs ds
 |_,_,.nil=> .nil
 |_,_,.cons h r=> .cons (Has.mono e h) (HasL.mono e r)
end
theorem HasL.length{G:Hp}:∀{vs:List V} {ds:List D},HasL K G vs ds->vs.length=ds.length
 |_,_,.nil=>rfl
 |_,_,.cons _ r=>by rw[D2,D2,r.length]
theorem HasL.append{G:Hp}:∀{vs ws:List V} {ds es:List D},HasL K G vs ds->HasL K G ws es->HasL K G (vs ++ ws) (ds ++ es)
 |_,_,_,_,.nil,s=>s
 |_,_,_,_,.cons h r,s=> .cons h (r.append s)
theorem HasL.get{G:Hp}:∀{vs:List V} {ds:List D} {i:Nat} {d:D},HasL K G vs ds->ds[i]? =some d->∃v,vs[i]? =some v/\Has K G v d
 |_,_,_,_,.nil,e=>by simp at e
 |_,_,0,_,.cons h _,e=>by simp at e;subst e;exact⟨_,rfl,h⟩
 |_,_,i + 1,d,.cons _ r,e=>by
  obtain⟨u,h1,h2⟩:=HasL.get (i:=i) (d:=d) r (by simpa using e);exact⟨u,by simpa using h1,h2⟩
theorem HasL.take{G:Hp}:∀{vs:List V} {ds:List D} (n:Nat),HasL K G vs ds->HasL K G (vs.take n) (ds.take n)
 |_,_,0,_=> .nil
 |_,_,_ + 1,.nil=> .nil
 |_,_,n + 1,.cons h r=> .cons h (HasL.take n r)
theorem HasL.drop{G:Hp}:∀{vs:List V} {ds:List D} (n:Nat),HasL K G vs ds->HasL K G (vs.drop n) (ds.drop n)
 |_,_,0,r=>r
 |_,_,_ + 1,.nil=> .nil
 |_,_,n + 1,.cons _ r=>HasL.drop n r
theorem HasL.set{G:Hp}{d:D}(h:Has K G v d):∀{vs:List V} {ds:List D} (i:Nat),HasL K G vs ds->HasL K G (vs.set i v) (ds.set i d)
 |_,_,_,.nil=> .nil
 |_,_,0,.cons _ r=> .cons h r
 |_,_,i + 1,.cons q r=> .cons q (HasL.set h i r)
mutual
theorem Ow.mono{G G' H H':Hp}(e:Same G G'):∀{v:V} {d:Tn} {S S':AS},Ow K G H v d S->(∀b o,S b->H b=some o->H' b=some o)->(∀b,S b->S' b)->Ow K G' H' v d S'
 |_,_,_,_,.sh h,_,_=> .sh (h.mono e)
 |_,_,_,_,.lst h ha sub r,f,i=> .lst (f _ _ ha h) (i _ ha) (λb hb=>⟨i b (sub b hb).1,(sub b hb).2⟩) (OwL.mono e r (λb o hb q=>f b o (sub b hb).1 q) λ_ q=>q)
 |_,_,_,_,.tup h ha sub r,f,i=> .tup (f _ _ ha h) (i _ ha) (λb hb=>⟨i b (sub b hb).1,(sub b hb).2⟩) (OwL.mono e r (λb o hb q=>f b o (sub b hb).1 q) λ_ q=>q)
 |_,_,_,_,.dic h hk ha sub r,f,i=> .dic (f _ _ ha h) hk (i _ ha) (λb hb=>⟨i b (sub b hb).1,(sub b hb).2⟩) (OwL.mono e r (λb o hb q=>f b o (sub b hb).1 q) λ_ q=>q)
 |_,_,_,_,.obj hc h hl ha sub r,f,i=> .obj hc (f _ _ ha h) hl (i _ ha) (λb hb=>⟨i b (sub b hb).1,(sub b hb).2⟩) (OwL.mono e r (λb o hb q=>f b o (sub b hb).1 q) λ_ q=>q)
theorem OwL.mono{G G' H H':Hp}(e:Same G G'):∀{vs:List V} {ds:List Tn} {S S':AS},OwL K G H vs ds S->(∀b o,S b->H b=some o->H' b=some o)->(∀b,S b->S' b)->OwL K G' H' vs ds S'
 |_,_,_,_,.nil,_,_=> .nil
 |_,_,_,_,.cons h r dj s1 s2,f,i=> .cons (Ow.mono e h (λb o hb q=>f b o (s1 b hb) q) λ_ q=>q) (OwL.mono e r (λb o hb q=>f b o (s2 b hb) q) λ_ q=>q) dj (λb q=>i b (s1 b q)) λb q=>i b (s2 b q)
end
mutual
theorem Ow.has{G G' H:Hp}(e:Same G G'):∀{v:V} {d:Tn} {S:AS},Ow K G H v d S->(∀b o,S b->H b=some o->G' b=some o)->Has K G' v d.d
 |_,_,_,.sh h,_=>h.mono e
 |_,_,_,.lst h ha sub r,f=> .lst (SqL.of (f _ _ ha h)) (OwL.has e r λb o hb q=>f b o (sub b hb).1 q)
 |_,_,_,.tup h ha sub r,f=> .tup (SqT.of (f _ _ ha h)) (OwL.has e r λb o hb q=>f b o (sub b hb).1 q)
 |_,_,_,.dic h hk ha sub r,f=> .dic (.inl (f _ _ ha h)) (by rw[Tn.ks_fst];exact hk) (by rw[Tn.ks_snd];exact OwL.has e r λb o hb q=>f b o (sub b hb).1 q)
 |_,_,_,.obj hc h hl ha sub r,f=> .obj hc (f _ _ ha h) hl (OwL.has e r λb o hb q=>f b o (sub b hb).1 q)
theorem OwL.has{G G' H:Hp}(e:Same G G'):∀{vs:List V} {ds:List Tn} {S:AS},OwL K G H vs ds S->(∀b o,S b->H b=some o->G' b=some o)->HasL K G' vs (Tn.ds ds)
 |_,_,_,.nil,_=> .nil
 |_,_,_,.cons h r dj s1 s2,f=> .cons (Ow.has e h λb o hb q=>f b o (s1 b hb) q) (OwL.has e r λb o hb q=>f b o (s2 b hb) q)
end
theorem OwL.of{G H:Hp}:∀{vs:List V} {ds:List D} {S:AS},HasL K G vs ds->OwL K G H vs (ds.map .sh) S
 |_,_,_,.nil=> .nil
 |_,_,_,.cons h r=> .cons (S1:=λ_=>False) (S2:=λ_=>False) (.sh h) (OwL.of r) (λ_ z _=>z) (λ_ z=>z.elim) λ_ z=>z.elim
theorem OwL.off{G H:Hp}:∀{vs:List V} {ds:List D} {S:AS},OwL K G H vs (ds.map .sh) S->HasL K G vs ds
 |_,[],_,h=>by cases h;exact .nil
 |_,d::ds,_,h=>by
  cases h with
  |cons h r dj s1 s2=>
   cases h with
   |sh h=>exact .cons h (OwL.off r)
def Ow.list{G H:Hp}{a:Addr}{ds:List D}{S:AS}(h:H a=some (.lst vs))(ha:S a)(r:HasL K G vs ds):Ow K G H (.ref a) (Tn.of (.lst ds)) S:=
 .lst (S1:=λ_=>False) h ha (λ_ z=>z.elim) (.of r)
def Ow.list_of{G H:Hp}{ds:List D}{S:AS}(t:Ow K G H v (Tn.of (.lst ds)) S):∃a vs,v=.ref a/\S a/\H a=some (.lst vs)/\HasL K G vs ds:=by
 cases t with
 |lst h ha sub r=>exact⟨_,_,rfl,ha,h,r.off⟩
def dp_6(kds:List (Av×D)):(kds.map λp=>(p.1,Tn.sh p.2)).map (·.2)=(kds.map (·.2)).map Tn.sh:=by
 rw[D4,D4];rfl
def cz_8(kds:List (Av×D)):(kds.map λp=>(p.1,Tn.sh p.2)).map (·.1)=kds.map (·.1):=by
 rw[D4];rfl
def Ow.dict{G H:Hp}{a:Addr}{kvs:List (Av×V)}{kds:List (Av×D)}{S:AS}(h:H a=some (.dK kvs))(hk:kvs.map (·.1)=kds.map (·.1))(ha:S a)(r:HasL K G (kvs.map (·.2)) (kds.map (·.2))):Ow K G H (.ref a) (Tn.of (.dic kds)) S:=
 .dic (S1:=λ_=>False) h (by rw[cz_8];exact hk) ha (λ_ z=>z.elim) (by rw[dp_6];exact .of r)
def Ow.dict_of{G H:Hp}{kds:List (Av×D)}{S:AS}(t:Ow K G H v (Tn.of (.dic kds)) S):∃a kvs,v=.ref a/\S a/\H a=some (.dK kvs)/\kvs.map (·.1)=kds.map (·.1)/\HasL K G (kvs.map (·.2)) (kds.map (·.2)):=by
 generalize e:Tn.of (.dic kds)=t' at t;cases t with
 |dic h hk ha sub r=>
  injection e with e
  subst e;rw[dp_6]at r;rw[cz_8]at hk;exact⟨_,_,rfl,ha,h,hk,r.off⟩
 |_=>cases e
structure Step(G H G' H':Hp):Prop where
 hh:Same H H'
 gh:Same G' H'
 gg:Same G G'
 nw:∀b,G b=none->H b≠none->G' b=none
theorem Step.refl{G H:Hp}(h:Same G H):Step G H G H:=⟨Same.refl _,h,Same.refl _,λ_ e _=>e⟩
theorem Step.trans{G H G1 H1 G2 H2:Hp}(a:Step G H G1 H1)(b:Step G1 H1 G2 H2):Step G H G2 H2:=
 ⟨a.hh.trans b.hh,b.gh,a.gg.trans b.gg,λc e n=>b.nw c (a.nw c e n) λz=>n (a.hh.free z)⟩
def p_6{p:Addr}(h:H p=none)(o:HO):Same H (upd H p o):=λb u q=>by rw[Bm (Hx q h)];exact q
def dp_7{G H:Hp}(h:Same G H)(p:Addr)(o:HO):Same (upd G p o) (upd H p o):=λb u q=>by
 by_cases e:b=p
 ·subst e;rw[Ct]at q⊢;exact q
 ·rw[Bm e]at q⊢;exact h b u q
def Step.new{G H:Hp}(h:Same G H){p:Addr}(e:H p=none)(o:HO):Step G H (L2.upd G p o) (L2.upd H p o):=
 ⟨p_6 e o,dp_7 h p o,p_6 (h.free e) o,λb n z=>by
  by_cases q:b=p
  ·subst q;exact absurd e z
  ·rw[Bm q];exact n⟩
def Step.own{G H:Hp}(h:Same G H){p:Addr}(e:H p=none)(o:HO):Step G H G (L2.upd H p o):=
 ⟨p_6 e o,h.trans (p_6 e o),Same.refl _,λ_ n _=>n⟩
open Classical in
def Ib(G H:Hp)(S:AS):Hp:=λb=>if S b then H b else G b
def WP(K:Frag)(G H:Hp)(w:W)(Q:VK):Prop:=match w with
 | .sh d=>∀v G' H',Step G H G' H'->Has K G' v d->Q v H'
 | .ow d=>∀v S G' H',Step G H G' H'->(∀a,S a->H a=none/\G' a=none/\H' a≠none)->Ow K G' H' v (Tn.of d) S->Q v H'
 | .tr t=>∀v S G' H',Step G H G' H'->(∀a,S a->H a=none/\G' a=none/\H' a≠none)->Ow K G' H' v t S->Q v H'
structure EXT where
 p:Xn->Hp->Hp->Prop
 mono:∀x G H G' H',Step G H G' H'->p x G H->p x G' H'
def EX0:EXT:=⟨λ_ _ _=>False,λ_ _ _ _ _ _ h=>h⟩
abbrev Bt:=Sg->EXT
def Di:Bt:=λ_=>EX0
def Out(K:Frag)(EX:EXT)(G H:Hp)(r:R W)(Q:VK):Prop:=match r with
 | .ok w=>WP K G H w Q
 | .ex x=>EX.p x G H
 | .no=>False
section
variable{K:Frag}{EX:EXT}{G H G' H':Hp}{Q Q':VK}{w:W}
def WP.mono(s:Step G H G' H')(h:WP K G H w Q):WP K G' H' w Q:=by
 cases w with
 |sh d=>exact λv G2 H2 s2 r=>h v G2 H2 (s.trans s2) r
 |ow d=>exact λv S G2 H2 s2 fr t=>h v S G2 H2 (s.trans s2) (λa ha=>⟨s.hh.free (fr a ha).1,(fr a ha).2⟩) t
 |tr d=>exact λv S G2 H2 s2 fr t=>h v S G2 H2 (s.trans s2) (λa ha=>⟨s.hh.free (fr a ha).1,(fr a ha).2⟩) t
theorem Out.mono{r:R W}(s:Step G H G' H')(h:Out K EX G H r Q):Out K EX G' H' r Q:=by
 cases r with
 |ok w=>exact WP.mono s h
 |ex x=>exact EX.mono _ _ _ _ _ s h
 |no=>exact h
def WP.join{t:Tn}{S:AS}(h:∀v G' H',Step G H G' H'->Has K G' v t.d->Q v H')(s:Step G H G' H')(fr:∀a,S a->H a=none/\G' a=none/\H' a≠none)(t:Ow K G' H' v t S):Q v H':=by
 have sg:Same G' (Ib G' H' S):=λb o q=>by
  unfold Ib
  split
  ·rename_i hb;rw[(fr b hb).2.1]at q;cases q
  ·exact q
 refine h v (Ib G' H' S) H' ⟨s.hh,λb o q=> ?_,s.gg.trans sg,λb n z=> ?_⟩ (t.has sg λb o hb q=> ?_)
 ·unfold Ib at q
  split at q
  ·exact q
  ·exact s.gh b o q
 ·unfold Ib
  split
  ·rename_i hb;exact absurd (fr b hb).1 z
  ·exact s.nw b n z
 ·unfold Ib;rw[if_pos hb];exact q
def WP.intro(h:∀v G' H',Step G H G' H'->Has K G' v w.d->Q v H'):WP K G H w Q:=by
 cases w with
 |sh d=>exact h
 |ow d=>exact λv S G' H' s fr t=>WP.join (t:=Tn.of d) (by rw[Tn.of_d];exact h) s fr t
 |tr d=>exact λv S G' H' s fr t=>WP.join h s fr t
theorem WP.sh(h:WP K G H (.sh w.d) Q):WP K G H w Q:=WP.intro h
def WP.use{d:D}(h:WP K G H (.sh d) Q)(s:Same G H)(r:Has K G v d):Q v H:=h v G H (Step.refl s) r
end
inductive ExcAt(K:Frag)(G:Hp):Value->Option Addr->Xn->Prop where
 |bare {C:Addr} {c:Str} (hc:ClsAt K c C):ExcAt K G (.ref C) none ⟨c,[],[]⟩
 |with_ {C d:Addr} {c:Str} {ns:List Str} {us:List V} {vs:List D} (hc:ClsAt K c C) (hd:G d=some (.xd (ns.zip us))) (hl:ns.length=us.length) (r:HasL K G us vs):ExcAt K G (.ref C) (some d) ⟨c,ns,vs⟩
def EXof(K:Frag)(E:XK):EXT:=⟨λx G H=>∀cls dx G' H',Step G H G' H'->ExcAt K G' cls dx x->E cls dx H',λ_ _ _ _ _ s h cls dx G2 H2 s2=>h cls dx G2 H2 (s.trans s2)⟩
def EXE(K:Frag)(EX:EXT):XK:=λcls dx H=>∃x G,Same G H/\ExcAt K G cls dx x/\EX.p x G H
def EXE.of{E:XK}{cls:Value}{dx:Option Addr}(h:EXE K (EXof K E) cls dx H):E cls dx H:=by
 obtain⟨x,G,s,e,q⟩:=h;exact q cls dx G H (Step.refl s) e
def EXof.in{EX:EXT}{G H:Hp}{x:Xn}(q:EX.p x G H):(EXof K (EXE K EX)).p x G H:=λ_ _ G' H' st e=>⟨x,G',st.gh,e,EX.mono _ _ _ _ _ st q⟩
abbrev DE:=List (Option D)
abbrev FE:=DE->R W
abbrev FT:=DE->R Bool
abbrev FA:=DE->R (List D)
structure HasS(K:Frag)(G:Hp)(σ:Sg)(δ:DE):Prop where
 len:σ.length=δ.length
 get:∀(i:Nat) (d:D),δ[i]? =some (some d)->∃v,σ[i]? =some (some v)/\Has K G v d
theorem HasS.mono{G G':Hp}{σ:Sg}{δ:DE}(e:Same G G')(h:HasS K G σ δ):HasS K G' σ δ:=⟨h.len,λi d q=>by
 obtain⟨v,e1,r⟩:=h.get i d q;exact⟨v,e1,r.mono e⟩⟩
def tD(K:Frag)(EX:Bt)(f:FE):TE:=λ σ H Q=>∃G δ,Same G H/\HasS K G σ δ/\Out K (EX σ) G H (f δ) Q
def tDt(K:Frag)(EX:Bt)(f:FT):TT:=λ σ H Q=>∃G δ,Same G H/\HasS K G σ δ/\match f δ with
 | .ok b=>∀G' H',Step G H G' H'->Q b H'
 | .ex x=>(EX σ).p x G H
 | .no=>False
def tDa(K:Frag)(EX:Bt)(f:FA):TA:=λ σ H Q=>∃G δ,Same G H/\HasS K G σ δ/\match f δ with
 | .ok ds=>∀vs G' H',Step G H G' H'->HasL K G' vs ds->Q vs H'
 | .ex x=>(EX σ).p x G H
 | .no=>False
abbrev ED(X:Cx)(EX:Bt)(e:Expr)(f:FE):Prop:=PE X e (tD X.K EX f)
abbrev TD(X:Cx)(EX:Bt)(e:Expr)(f:FT):Prop:=PT X e (tDt X.K EX f)
abbrev AD(X:Cx)(EX:Bt)(es:List Expr)(f:FA):Prop:=PA X es (tDa X.K EX f)
def PE.imp{e:Expr}{t t':TE}(h:PE X e t)(i:∀σ H Q,t' σ H Q->t σ H Q):PE X e t':=λzd s σ H Q I q=>h zd s σ H Q I (i σ H Q q)
def PT.imp{e:Expr}{t t':TT}(h:PT X e t)(i:∀σ H Q,t' σ H Q->t σ H Q):PT X e t':=λzd s σ H Q I q=>h zd s σ H Q I (i σ H Q q)
def PW.imp{e:Expr}{t t':TT}(h:PW X e t)(i:∀σ H Q,t' σ H Q->t σ H Q):PW X e t':=λwh zd s σ H Q I q=>h wh zd s σ H Q I (i σ H Q q)
def PA.imp{e:List Expr}{t t':TA}(h:PA X e t)(i:∀σ H Q,t' σ H Q->t σ H Q):PA X e t':=λpos zd s σ H Q I q=>h pos zd s σ H Q I (i σ H Q q)
def PS.imp{e:Stmt}{t t':TS}(h:PS X e t)(i:∀D σ H,t' D σ H->t D σ H):PS X e t':=λzd s σ H D I q=>h zd s σ H D I (i D σ H q)
def PSs.imp{e:List Stmt}{t t':TS}(h:PSs X e t)(i:∀D σ H,t' D σ H->t D σ H):PSs X e t':=λzd s σ H D I q=>h zd s σ H D I (i D σ H q)
section
variable{K:Frag}{EX:Bt}{G H:Hp}{σ:Sg}{δ:DE}{Q:VK}
def tD.seq{f:FE}{k:W->R W}{P:VK}(g:Same G H)(s:HasS K G σ δ)(h:Out K (EX σ) G H ((f δ).bind k) Q)
  (i:∀w v G' H',f δ=.ok w->Step G H G' H'->Has K G' v w.d->Out K (EX σ) G' H' (k w) Q->P v H'):tD K EX f σ H P:=by
 refine⟨G,δ,g,s, ?_⟩;cases e:f δ with
 |ok w=>
  rw[e]at h;exact WP.intro λv G' H' st r=>i w v G' H' e st r (Out.mono st h)
 |ex x=>rw[e]at h;exact h
 |no=>rw[e]at h;exact h
def tDt.seq{f:FT}{k:Bool->R W}{P:Bool->Hp->Prop}(g:Same G H)(s:HasS K G σ δ)(h:Out K (EX σ) G H ((f δ).bind k) Q)
  (i:∀b G' H',f δ=.ok b->Step G H G' H'->Out K (EX σ) G' H' (k b) Q->P b H'):tDt K EX f σ H P:=by
 refine⟨G,δ,g,s, ?_⟩;cases e:f δ with
 |ok w=>
  rw[e]at h;exact λG' H' st=>i w G' H' e st (Out.mono st h)
 |ex x=>rw[e]at h;exact h
 |no=>rw[e]at h;exact h
abbrev AF:=List D->R W
def tDa.seq{f:FA}{k:AF}{P:List V->Hp->Prop}(g:Same G H)(s:HasS K G σ δ)(h:Out K (EX σ) G H ((f δ).bind k) Q)
  (i:∀ds vs G' H',f δ=.ok ds->Step G H G' H'->HasL K G' vs ds->Out K (EX σ) G' H' (k ds) Q->P vs H'):tDa K EX f σ H P:=by
 refine⟨G,δ,g,s, ?_⟩;cases e:f δ with
 |ok w=>
  rw[e]at h;exact λvs G' H' st r=>i w vs G' H' e st r (Out.mono st h)
 |ex x=>rw[e]at h;exact h
 |no=>rw[e]at h;exact h
end
def ac_6{EX:EXT}{G H:Hp}{Q:VK}{ds:List D}(o:Out K EX G H (.ok (.ow (.lst ds))) Q)(g:Same G H)(r:HasL K G vs ds):∀p,H p=none->Q (.ref p) (upd H p (.lst vs)):=
 λp hp=>o (.ref p) (λb=>b=p) G _ (Step.own g hp _) (λa e=>by subst e;exact⟨hp,g.free hp,by rw[Ct];simp⟩) (.list Ct rfl r)
end L3
namespace L3
open PySem PySem.Spec PyProof.Rows L2
variable{K:Frag}{fd:FuncData}{mg:AB}{P:Program}{vs:List V}{us:List Value}{base:Heap}{H:Hp}{X:Cx}{pos:Pos}{v:V}
def HdOk(A:Around)(h:Heap):Prop:=A.handled=none\/∃(x:Addr) (o:Obj) (us:Array Value),A.handled=some (.ref x)/\h.get? x=some o/\o.data=.fields us/\us[2]? =some .none
def HdOk.kept{A:Around}{h h':Heap}(z:HdOk A h)(k:∀(x:Addr) (o:Obj),A.handled=some (.ref x)->h.get? x=some o->h'.get? x=some o):HdOk A h':=by
 rcases z with z|⟨x,o,us,e,g,r⟩
 ·exact .inl z
 ·exact .inr ⟨x,o,us,e,k x o e g,r⟩
def by_9:entryFor table "proto.unchain" =some Builtin.«proto.unchain»:=entryFor_of_tree ∅
section
variable{prog:Program}{w:World}{A:Around}{E:AA}{s:Shared}
def bz_0{x:Addr}{o:Obj}{us:Array Value}{v sl:Value}{Q:AA}(g:s.heap.get? x=some o)(d:o.data=.fields us)(c:us[2]? =some .none)(q:Q .none s):
  wpAny (model prog w) A (runValue (.builtin "proto.unchain" ⟨[v,.ref x,sl,.bool false],[]⟩)) Q E s:=by
 refine wpAny_runValue (codeAny_builtin by_9 ?_);unfold Builtin.«proto.unchain»;refine A3 (S5 g d c ?_)
 wp_walk
 exact q
def cg_2{α:Type}{e:Addr}{oe:Obj}{ue:Array Value}{Q:α->Shared->Prop}(hd:HdOk A s.heap)(ge:s.heap.get? e=some oe)(de:oe.data=.fields ue)(z:2 < ue.size)(ne:A.handled≠some (.ref e))
  (h:∀h' o',h'.get? e=some o'->o'.cls=oe.cls->(∀b o,b≠e->s.heap.get? b=some o->h'.get? b=some o)->h'.objs.size=s.heap.objs.size->E (.ref e) {s with heap:=h'}):wpAny (model prog w) A (raiseNew (.ref e):Sem α) Q E s:=by
 rcases hd with hd|⟨x,o,us,hx,g,d,c⟩
 ·exact wpAny_raiseNew_none hd (by simpa using h s.heap oe ge rfl (λ_ _ _ q=>q) rfl)
 ·unfold raiseNew;refine A3 (wpAny_handled ?_);rw[hx];have nx:(Value.ref x != Value.ref e)=true:=by
   have:x≠e:=λq=>ne (by rw[hx,q]);simp[bne,this]
  simp only[nx,if_true];refine A3 (K9 (bz_0 g d c ?_));unfold updateField;refine A3 (A3 (wpAny_load ge ?_));rw[de];simp only[z,if_true];refine wpAny_update ge (wpAny_throw ?_);refine h _ _ (N2 _ ge (R9 (U1 de _))) (Obj.cls_mapFields ..) (λb o hb q=> ?_) ?_
  ·exact((Heap.SameBut.update s.heap e _).2 b hb).trans q
  ·simp
def eb_6{α:Type}{Q:α->Shared->Prop}(hd:HdOk A s.heap)
  (h:∀h' e,(∃o,h'.get? e=some o/\o.cls=.type "StopIteration")->(∀b o,s.heap.get? b=some o->h'.get? b=some o)->E (.ref e) {s with heap:=h'}):wpAny (model prog w) A (newExc (.type "StopIteration") [] >>=λe=>(raiseNew e:Sem α)) Q E s:=by
 refine A3 ?_;unfold newExc newTuple;refine A3 (V0 ?_ (by size_fits));refine A3 (wpAny_of_eq (a:=Value.none) (by simp only[firstArgMember];rfl) (V0 ?_ (by size_fits)));have k:∀(h:Heap) (o1 o2:Obj) (b:Addr) (o:Obj),h.get? b=some o->((h.push o1).push o2).get? b=some o:=λh o1 o2 b o q=>A4 _ (A4 _ q);have nw:∀(h:Heap) (o1:Obj),h.get? (h.push o1).objs.size=none:=λh o1=>N8 (by simp);refine cg_2 (hd.kept λx o _ g=>k _ _ _ x o g) (C1 _ rfl) rfl (show 2 < 6 by decide) (λz=> ?_) λh' o' g' c' k' _=> ?_
 ·rcases hd with q|⟨x,o,us,q,g,_⟩
  ·rw[q]at z;cases z
  ·rw[q]at z;injection z with z;injection z with z;rw[z,nw]at g;cases g
 ·exact h h' _ ⟨o',g',c'⟩ λb o q=>k' b o (λz=>by rw[z,nw]at q;cases q) (k _ _ _ b o q)
def bz_1{it:Addr}{x left step:Int}{Q:Option Value->Shared->Prop}(hd:HdOk A s.heap)(hit:IsRangeIter s.heap it x left step)(hl:left<=0)(q:∀h',Heap.ExtBut it s.heap h'->Q none {s with heap:=h'}):wpAny (model prog w) A (pyNext (.ref it)) Q E s:=by
 have T:s.TypeIs (.ref it) "range_iterator" :=⟨_,hit,rfl⟩;unfold pyNext;refine A3 (Z1 (wpAny_callSpecial?_slot T X5 (wpAny_call_entry X5 T F.entry_range_iterator_next ?_ (F.args_range_iterator_next_1 _))));refine(show wpAny _ _ (field (.ref it) 0 >>=_) _ _ s from A3 (S5 hit rfl (x:=rawInt x) rfl ?_));refine(show wpAny _ _ (field (.ref it) 1 >>=_) _ _ s from A3 (S5 hit rfl (x:=rawInt left) rfl ?_));refine(show wpAny _ _ (field (.ref it) 2 >>=_) _ _ s from A3 (S5 hit rfl (x:=rawInt step) rfl ?_));refine(show wpAny _ _ (if left<=0 then _ else _) _ _ s from ?_);rw[if_pos hl];refine A3 (wpAny_rule (A3 (eb_6 (A:=A.in1) hd λh' e ⟨o',g',c'⟩ k=> ?_)));exact A3 (wpAny_isInstance (T:= "StopIteration") (b:=true) ⟨o',g',c'⟩ isSubtype_stop (C6 (q _ λb o _ z=>k b o z)))
end
structure Tr(h:Heap)(a C:Addr)(dx:Option Addr)(fl:Value)(T:Addr):Prop where
 ob:∃o us,h.get? a=some o/\o.cls=.ref C/\o.dict=dx/\o.data=.fields us/\us[1]? =some (.ref T)/\us[2]? =some .none
 ne:T≠a
 tb:∃o us,h.get? T=some o/\o.data=.fields us/\us[3]? =some fl
structure KeepX(xs fr:List Addr)(h h':Heap):Prop where
 same:∀b o,b∉xs->b∉fr->h.get? b=some o->h'.get? b=some o
 slot:∀b o,b∉xs->h.get? b=some o->∃sl,h'.get? b=some {o with slots:=sl}
def KeepX.trans{xs ys fr:List Addr}{h1 h2 h3:Heap}(a:KeepX xs fr h1 h2)(b:KeepX ys fr h2 h3):KeepX (xs ++ ys) fr h1 h3:=
 ⟨λc o n m e=>b.same c o (λz=>n (D5 _ z)) m (a.same c o (λz=>n (K5 _ z)) m e),λc o n e=>by
  obtain⟨sl,e1⟩:=a.slot c o (λz=>n (K5 _ z)) e;obtain⟨sl',e2⟩:=b.slot c _ (λz=>n (D5 _ z)) e1;exact⟨sl',e2⟩⟩
def KeepX.of_same{xs fr:List Addr}{h h':Heap}(k:∀b o,b∉xs->h.get? b=some o->h'.get? b=some o):KeepX xs fr h h':=
 ⟨λb o n _ e=>k b o n e,λb o n e=>⟨o.slots,k b o n e⟩⟩
def dp_8(o:Obj)(f:Array Value->Array Value):(o.mapFields f).dict=o.dict:=by
 obtain⟨c,d,dt,sl⟩:=o;cases dt <;> rfl
section
variable{M:Model}{A:Around}{E:AA}{s:Shared}{env:Env}{outer:List Env}{base:Heap}{L a C:Addr}{dx:Option Addr}{Q:Unit->Shared->Prop}
def cz_9{o:Obj}{us:Array Value}{head:Value}{b:Bool}(hfr:A.frames=some (env::outer))(hl:s.heap.FunFrames base (env::outer))(hf:env.frame=some L)
  (he:s.heap.get? a=some o) (hc:o.cls=.ref C) (hx:o.dict=dx) (hd:o.data=.fields us) (hz:1 < us.size) (c2:us[2]? =some .none)
  (h:∀h' T,s.heap.objs.size<=T->KeepX [a] (frs (env::outer)) s.heap h'->Tr h' a C dx (rawInt L) T->Q .unit {s with heap:=h'}):
  wpAny M A (do let fv<-frameOf env;let pl<-entryPlaceOf L b;let en<-EntryCells.newEntry head fv .none (rawInt L) .none pl;setField (.ref a) 1 en) Q E s:=by
 have nfr:a∉frs (env::outer):=λhm=>by
  obtain⟨_,u,hu,hn⟩:=hl.mem hm;rw[he]at hu;cases hu;exact hn us hd
 refine A3 (wpAny_frameOf_fun hfr hl hf λh1 so=> ?_);refine A3 (wpAny_entryPlaceOf λpl hpl=> ?_);unfold EntryCells.newEntry newFields;refine A3 (V0 ?_ (hpl.sizeOk5 _ _ _ _ _));have e1:h1.get? a=some o:=(so.2.1 a nfr).trans he;generalize hT:({cls:=.type "traceback",dict:=none,data:=.fields ([head,.ref L,.none,rawInt L,.none] ++ (if pl.isEmpty then List.replicate 6 Value.none else pl)).toArray}:Obj)=oT;have eT:oT.data=.fields ([head,.ref L,.none,rawInt L,.none] ++ (if pl.isEmpty then List.replicate 6 Value.none else pl)).toArray:=by rw[<-hT]
 have e2:(h1.push oT).get? a=some o:=A4 oT e1;refine ZB4 e2 hd hz ?_;have sz:h1.objs.size=s.heap.objs.size:=so.1;have ltA:a < s.heap.objs.size:=A7 he;have neT:h1.objs.size≠a:=λz=>absurd ltA (by rw[<-z,sz];exact F5 _);have d3:=U1 hd (·.setIfInBounds 1 (Value.ref h1.objs.size));refine h _ h1.objs.size (by rw[sz];exact B0 _) ⟨λb u n m e=> ?_,λb u n e=> ?_⟩ ⟨⟨_,_,N2 _ e2 (R9 d3),(Obj.cls_mapFields _ _).trans hc,(dp_8 _ _).trans hx,d3, ?_, ?_⟩,neT,⟨oT,_, ?_,eT, ?_⟩⟩
 ·have nb:a≠b:=λz=>n (by simp[z]);rw[F4 _ _ nb];exact A4 oT ((so.2.1 b m).trans e)
 ·have nb:a≠b:=λz=>n (by simp[z]);obtain⟨sl,es⟩:=so.2.2 b u e;exact⟨sl,by rw[F4 _ _ nb];exact A4 oT es⟩
 ·simp[hz]
 ·rw[<-c2];simp
 ·rw[F4 _ _ (Ne.symm neT)];exact C1 h1 (R9 eT)
 ·first|(simp;done)|(rcases hpl with rfl|⟨_,_,_,_,_,_,_,rfl⟩ <;> simp)
def cs_3{o:Obj}{us:Array Value}(hfr:A.frames=some (env::outer))(hl:s.heap.FunFrames base (env::outer))(hf:env.frame=some L)
  (he:s.heap.get? a=some o) (hc:o.cls=.ref C) (hx:o.dict=dx) (hd:o.data=.fields us) (h1:us[1]? =some .none) (c2:us[2]? =some .none)
  (h:∀h' T,s.heap.objs.size<=T->KeepX [a] (frs (env::outer)) s.heap h'->Tr h' a C dx (rawInt L) T->Q .unit {s with heap:=h'}):wpAny M A (noteFrame (.ref a) env) Q E s:=by
 unfold noteFrame;simp only[hf];refine A3 (S5 he hd h1 ?_);rw[if_neg ⋯];exact cz_9 hfr hl hf he hc hx hd (P9.mp h1).1 c2 h
def bt_6{T0:Addr}(hfr:A.frames=some (env::outer))(hl:s.heap.FunFrames base (env::outer))(hf:env.frame=some L)(t:Tr s.heap a C dx .none T0)
  (h:∀h' T,s.heap.objs.size<=T->KeepX [a,T0] (frs (env::outer)) s.heap h'->Tr h' a C dx (rawInt L) T->Q .unit {s with heap:=h'}):wpAny M A (noteFrame (.ref a) env) Q E s:=by
 obtain⟨⟨o,us,he,hc,hx,hd,h1,c2⟩,ne,⟨oT,ws,hT,hdT,h3⟩⟩:=t;unfold noteFrame;simp only[hf];refine A3 (S5 he hd h1 ?_);rw[if_pos (show(Value.ref T0 != Value.none)=true from by simp)];refine A3 (S5 hT hdT h3 ?_);rw[if_neg (show¬((Value.none ==rawInt L)=true) from by simp[rawInt])];refine A3 (ZB4 hT hdT (P9.mp h3).1 ?_);have oth:∀b,b≠T0->(s.heap.update T0 (Obj.mapFields (·.setIfInBounds 3 Value.none))).get? b=s.heap.get? b:=λb hb=>F4 _ _ (Ne.symm hb);have eh:∀b u,s.heap.get? b=some u->(∀zs,u.data≠ .fields zs)->b≠T0:=λb u hb hn q=>by
  subst q;rw[hT]at hb;cases hb;exact hn ws hdT
 refine cz_9 (s:={s with heap:=s.heap.update T0 (Obj.mapFields (·.setIfInBounds 3 Value.none))}) hfr (hl.of_keeps λb u hb hn=>⟨u,(oth b (eh b u hb hn)).trans hb,rfl⟩) hf ((oth a (Ne.symm ne)).trans he) hc hx hd (P9.mp h1).1 c2 λh' T n k tr=>h h' T ?_ ?_ tr
 ·have zz:(s.heap.update T0 (Obj.mapFields (·.setIfInBounds 3 Value.none))).objs.size=s.heap.objs.size:=Heap.size_update _ _ _;rw[<-zz];exact n
 ·have na:∀b,b∉ [a,T0]->b∉ [a]:=λb nb z=>nb (by rw[F7.mp z];exact F0);have nT:∀b,b∉ [a,T0]->b≠T0:=λb nb z=>nb (by rw[z];simp);exact⟨λb u nb m e=>k.same b u (na b nb) m ((oth b (nT b nb)).trans e),λb u nb e=>k.slot b u (na b nb) ((oth b (nT b nb)).trans e)⟩
def ac_7{T:Addr}{fl:Value}(t:Tr s.heap a C dx fl T)(h:∀h',(∀b o,b∉ [T]->s.heap.get? b=some o->h'.get? b=some o)->Tr h' a C dx .none T->Q .unit {s with heap:=h'}):wpAny M A (setFlight (.ref a) none) Q E s:=by
 obtain⟨⟨o,us,he,hc,hx,hd,h1,c2⟩,ne,⟨oT,ws,hT,hdT,h3⟩⟩:=t;have sz3:3 < ws.size:=(P9.mp h3).1;unfold setFlight;refine A3 (S5 he hd h1 ?_);rw[if_pos (show(Value.ref T != Value.none)=true from by simp)];refine ZB4 hT hdT sz3 (h _ (λb u n e=> ?_) ⟨⟨o,us, ?_,hc,hx,hd,h1,c2⟩,ne,⟨_,_,N2 _ hT (R9 (U1 hdT _)),U1 hdT _, ?_⟩⟩)
 ·rw[F4 _ _ (λz=>n (by simp[z]))];exact e
 ·rw[F4 _ _ ne];exact he
 ·simp[sz3]
end
def CXr(P:Program)(w:World):CXT:=λouter H s E e s'=>∃a C dx T H',e=.ref a/\s'.os=s.os/\AllBare s'.gens/\Un (frs outer) [] H H' s.heap s'.heap/\HOk P w H' s'.heap/\
 Tr s'.heap a C dx .none T/\H' a=none/\H' T=none/\s.heap.objs.size<=a/\s.heap.objs.size<=T/\E (.ref C) dx H'
section
variable{X:Cx}{zd:AE}{σ:Sg}{H H':Hp}{s s':Shared}
def Inv.settle{ch:List Addr}{h2:Heap}(I:Inv X zd σ H s)(I':Inv X zd σ H' s')(n:∀b∈ch,s.heap.objs.size<=b/\H' b=none)(k:KeepX ch (frs X.stack) s'.heap h2):Inv X zd σ H' {s' with heap:=h2}:=by
 have trk:∀b u,H' b=some u->b∉ch/\b∉frs X.stack:=λb u e=>⟨λz=>(by rw[(n b z).2]at e;cases e),λz=>(by rw[I'.stkFree b z]at e;cases e)⟩;refine I'.step (g':=s'.gens) (d':=s'.drawn) (t':=s'.toks) (ch:=ch) (λb hb=> ?_) (λb o h1 h2 h3 e _=>k.same b o h3 (λz=> ?_) e) (λb o _ _ h3 e _=>k.slot b o h3 e) (λ_ _ _ _ z=>z) (λb o h3 e=> ?_) (λ_ _ z=>z) (λ_ _ _ z=>z) (λb ps z=>⟨#[],by rw[z];simp⟩) (λm hm=> ?_) (λb u e=> ?_) I'.bare
 ·have lb:=(n b hb).1;refine⟨.inr (C5 I.sz lb),λz=> ?_,λx c e z=> ?_,λp hp z=> ?_⟩
  ·exact absurd (B5 I.lt lb) (by rw[z];exact F5 _)
  ·obtain⟨v,hv⟩:=I.cell x c e;exact absurd (B5 hv.lt lb) (by rw[z];exact F5 _)
  ·exact absurd (B5 (A7 (I.pin p hp).1) lb) (by rw[z];exact F5 _)
 ·rcases B3.mp (I'.stkSub b z) with z|z
  ·exact h1 z
  ·exact h2 z
 ·obtain⟨sl,q⟩:=k.slot b o h3 e;exact⟨_,q⟩
 ·obtain⟨o,es,ep,ho,r⟩:=hm;have nl:X.env.locals∉ch:=λz=>absurd (B5 I.lt (n _ z).1) (F5 _);obtain⟨sl,q⟩:=k.slot _ o nl ho;exact⟨_,es,ep,q,r⟩
 ·refine(I'.hok b u e).stay (λc v hc q=> ?_) (λ_ z=>z) λ_ _ z=>z;rcases hc with rfl|hc
  ·exact k.same c v (trk c u e).1 (trk c u e).2 q
  ·exact k.same c v (trk c _ hc).1 (trk c _ hc).2 q
def Inv.raised{E:XK}{e:Value}(I:Inv X zd σ H s)(c:CXr X.prog X.w X.stack H s E e s'):∃a C dx T H',e=.ref a/\Inv X zd σ H' s'/\Tr s'.heap a C dx .none T/\H' a=none/\H' T=none/\s.heap.objs.size<=a/\s.heap.objs.size<=T/\E (.ref C) dx H':=by
 obtain⟨a,C,dx,T,H',e1,os,br,un,hok,tr,n1,n2,z1,z2,q⟩:=c;exact⟨a,C,dx,T,H',e1,I.call' (ch:=[]) os un hok br (λb z=>absurd z (by simp)),tr,n1,n2,z1,z2,q⟩
end
section
variable{cm:Bool}{P:Program}{w:World}{K:Frag}{mg:AB}{base:Heap}{N:List Str}{qual:Str}{scope:Scope}{f:Addr}{cd:Value}{A:Around}{outer:List Env}{s0:Shared}{H0:Hp}{E E':XK}
def dh_4{zd:AE}{σ:Sg}{s s':Shared}{e:Value}(I:Inv ({Gx (CXr P w) P w K mg base N qual scope f cd A outer s0 H0 E with calm:=cm}:Cx) zd σ H s)
  (c:CXr P w ({Gx (CXr P w) P w K mg base N qual scope f cd A outer s0 H0 E with calm:=cm}:Cx).stack H s E' e s') (i:∀cls dx H',E' cls dx H'->E cls dx H'):({Gx (CXr P w) P w K mg base N qual scope f cd A outer s0 H0 E with calm:=cm}:Cx).xe e s':=by
 obtain⟨a,C,dx,T,H',rfl,I',tr,n1,n2,z1,z2,q⟩:=Inv.raised I c;show wpAny (model P w) _ (leaving _ _) _ _ s';unfold leaving;refine A3 (bt_6 I'.ok.frames I'.stack rfl tr λh1 T2 z3 k1 t1=> ?_);refine ac_7 t1 λh2 k2 t2=> ?_;have zT2:H' T2=none:=I'.hok.fresh z3;have J:Inv ({Gx (CXr P w) P w K mg base N qual scope f cd A outer s0 H0 E with calm:=cm}:Cx) zd σ H' {s' with heap:=h2}:=by
  refine Inv.settle (ch:=[a,T] ++ [T2]) I I' (λb hb=> ?_) (k1.trans (KeepX.of_same k2));have:b=a\/b=T\/b=T2:=by simpa using hb
  rcases this with rfl|rfl|rfl
  ·exact⟨z1,n1⟩
  ·exact⟨z2,n2⟩
  ·exact⟨C5 (C5 (B0 _) z1) (C5 (S8 (A7 tr.ob.choose_spec.choose_spec.1)) z3),zT2⟩
 exact⟨a,C,dx,T2,H',rfl,J.os,J.bare,J.base,J.hok,t2,n1,zT2,C5 I.sz z1,C5 I'.sz z3,i _ _ _ q⟩
def bz_2{zd:AE}{σ:Sg}{H H':Hp}{s s':Shared}{a C:Addr}{dx:Option Addr}{o:Obj}{us:Array Value}(I:Inv ({Gx (CXr P w) P w K mg base N qual scope f cd A outer s0 H0 E with calm:=cm}:Cx) zd σ H s)
  (I':Inv ({Gx (CXr P w) P w K mg base N qual scope f cd A outer s0 H0 E with calm:=cm}:Cx) zd σ H' s') (he:s'.heap.get? a=some o) (hc:o.cls=.ref C) (hx:o.dict=dx) (hd:o.data=.fields us) (h1:us[1]? =some .none) (c2:us[2]? =some .none) (n1:H' a=none) (z1:s.heap.objs.size<=a) (q:E (.ref C) dx H'):
  ({Gx (CXr P w) P w K mg base N qual scope f cd A outer s0 H0 E with calm:=cm}:Cx).xe (.ref a) s':=by
 show wpAny (model P w) _ (leaving _ _) _ _ s';unfold leaving;refine A3 (cs_3 I'.ok.frames I'.stack rfl he hc hx hd h1 c2 λh1 T2 z3 k1 t1=> ?_);refine ac_7 t1 λh2 k2 t2=> ?_;have zT2:H' T2=none:=I'.hok.fresh z3;have J:Inv ({Gx (CXr P w) P w K mg base N qual scope f cd A outer s0 H0 E with calm:=cm}:Cx) zd σ H' {s' with heap:=h2}:=by
  refine Inv.settle (ch:=[a] ++ [T2]) I I' (λb hb=> ?_) (k1.trans (KeepX.of_same k2));have:b=a\/b=T2:=by simpa using hb
  rcases this with rfl|rfl
  ·exact⟨z1,n1⟩
  ·exact⟨C5 z1 (C5 (S8 (A7 he)) z3),zT2⟩
 exact⟨a,C,dx,T2,H',rfl,J.os,J.bare,J.base,J.hok,t2,n1,zT2,C5 I.sz z1,C5 I'.sz z3,q⟩
end
section
variable{prog:Program}{w:World}{A:Around}{E:AA}{h:Heap}{g:Array GenState}{d:Drawn}{t:Nat}{os:OsState}
variable{nm q:Str}{C N:Addr}{bs bm bmB:List Value}{bc:Bool}{sn:List Str}{sub:List Value}{ab:Bool}{col:Option Bool}{dd:Option Addr}{k0 k1 k2 k3 k5:Option Value}{B newId ah:String}
def dh_5(FB:ExcBaseFacts B newId ah bmB)(T:OwnTail h bmB bm){mN:AB}{fI:Addr}{oI:Obj}{Q:PySem.Fin->Shared->Prop}
  (hC:h.get? C=some (excClassObj nm q C N bs bm bc sn sub ab col dd k0 k1 k2 k3 k5 newId)) (hn:h.Ns N mN) (hi:mN "__init__" =some (.ref fI)) (ho:h.get? fI=some oI) (hf:oI.cls=.type "function")
  (z:∀h' e,Heap.MadeExcOf h h' e (.ref C) us->h.objs.size<=e->wpAny (model prog w) A (call (.ref fI) (.ref e::us)) (λr s'=>r=.none/\Q (.done (.ret (.ref e))) s') E ⟨h',g,d,t,os⟩) (hu:us.length<=sizeLine):
  wpAny (model prog w) A (Builtin.«type.__call__» ⟨.ref C::us,[]⟩) Q E ⟨h,g,d,t,os⟩:=by
 wp_walk using M4 hC,wpAny_madeBy_exc hC
 refine Y1 (U2 _ FB.quiet) (wpAny_check_new_subT FB T hC ?_);refine codeAny_exc_new_subT FB T hC ?_ hu;show wpAny _ _ _ _ _ _;generalize e1:({cls:=.type "tuple",data:=.seq us.toArray}:Obj)=o1;generalize e2:({cls:=.ref C,data:=.fields #[.ref h.objs.size,.none,.none,.none,.bool false,.none]}:Obj)=o2;have up:∀b o,h.get? b=some o->((h.push o1).push o2).get? b=some o:=λb o e=>A4 _ (A4 _ e);have ge:((h.push o1).push o2).get? (h.objs.size + 1)=some o2:=by
  have:=C1 (h.push o1) (o:=o2) (by rw[<-e2];rfl)
  rwa[L4]at this
 have gt:((h.push o1).push o2).get? h.objs.size=some o1:=A4 _ (C1 h (by rw[<-e1];rfl));have hC1:=up _ _ hC;have hn1:((h.push o1).push o2).Ns N mN:=hn.keeps up;have cl:o2.cls=.ref C:=by rw[<-e2]
 have hcC:List.contains (Value.ref C::bm) (.ref C)=true:=V9.mpr (.head _);unfold isInstance
 repeat (first|(with_reducible refine M4 ge ?_;rw[cl])|(with_reducible refine X1 hC1 ?_;rw[hcC])|wp_step)
 change wpAny _ _ (mroOf (.ref C) >>=λl=>lookupAlong l _) _ _ _;refine A3 (wpAny_mroOf_exc hC1 ?_);rw[lookupAlong_cons];refine A3 (wpAny_classOwn_exc hC1 hn1 ?_);rw[hi];refine C6 (K9 (A3 ?_));unfold bindSpecial;refine A3 (wpAny_typeOf (T:= "function") ⟨_,up _ _ ho,hf⟩ ?_);rw[if_pos ⋯];refine C6 (A3 (F1 (z _ (h.objs.size + 1) ⟨up,N8 (U6 _),h.objs.size,by rw[e2];exact ge,N8 (B0 _),by rw[e1];exact gt⟩ (U6 _)) (λr s' hr=> ?_) λ_ _ x=>x));obtain⟨rfl,hQ⟩:=hr
 wp_walk
 exact hQ
def dp_9(FB:ExcBaseFacts B newId ah bmB)(T:OwnTail h bmB bm){mN:AB}{fI:Addr}{oI:Obj}{Q:AA}
  (hC:h.get? C=some (excClassObj nm q C N bs bm bc sn sub ab col dd k0 k1 k2 k3 k5 newId)) (hn:h.Ns N mN) (hi:mN "__init__" =some (.ref fI)) (ho:h.get? fI=some oI) (hf:oI.cls=.type "function")
  (z:∀h' e,Heap.MadeExcOf h h' e (.ref C) us->h.objs.size<=e->wpAny (model prog w) (A.under (.builtin "type.__call__" ⟨.ref C::us,[]⟩)) (call (.ref fI) (.ref e::us)) (λr s'=>r=.none/\Q (.ref e) s') E ⟨h',g,d,t,os⟩) (hu:us.length<=sizeLine):
  wpAny (model prog w) A (call (.ref C) us) Q E ⟨h,g,d,t,os⟩:=by
 have f1:=tc_lookup;have f2:=tc_bind (.ref C);have Du:Shared.TypeIs ⟨h,g,d,t,os⟩ (.ref C) "type" :=⟨_,hC,rfl⟩;refine R7 (codeAny_of_tree (?_:wpAny _ _ (callAny (.ref C) _) _ _ _))
 wp_walk using M4 hC
 refine⟨rfl, ?_⟩;exact Z5 (U2 _ nofun) entry_typeCall (Y2 hC (dh_5 FB T hC hn hi ho hf (λh' e hm hz=>z h' e hm hz) hu))
def bt_7{M:Model}{env:Env}{s:Shared}{x:Sem Value}{Q:Flow->Shared->Prop}(hb:bm.contains (.type "BaseException")=true)(hh:A.handled=none)
  (z:wpAny M A x (λv s1=>∃e t dx,v=.ref e/\s1.heap.get? C=some (excClassObj nm q C N bs bm bc sn sub ab col dd k0 k1 k2 k3 k5 newId)/\
   s1.heap.get? e=some {cls:=.ref C,dict:=dx,data:=.fields #[.ref t,.none,.none,.none,.bool false,.none]}/\E (.ref e) s1) E s):wpAny M A (raiseStmt env (some x) none) Q E s:=by
 have hcB:(Value.ref C::bm).contains (.type "BaseException")=true:=by rw[Q0,hb,ZC2]
 unfold raiseStmt;refine A3 (F1 z (λv s1 z1=> ?_) λ_ _ y=>y);obtain⟨e,t,dx,rfl,hC,he,hE⟩:=z1;obtain⟨hp,g,d,tk,os⟩:=s1
 repeat (first|with_reducible refine M4 he ?_|with_reducible refine M4 hC ?_|(with_reducible refine X1 hC ?_;rw[hcB])|wp_step)
 exact wpAny_raiseNew_none hh hE
end
section
variable{X:Cx}{EX:Bt}{a b c:Expr}{f g h:FE}{pos:Pos}
noncomputable def Ab(i:Nat):FE:=λ δ=>match δ[i]? with
 |some (some d)=> .ok (.sh d)
 |_=> .no
def eC(d:D):FE:=λ_=> .ok (.sh d)
def Ad(i:Nat){x:Str}(hN:X.N[i]? =some x:=by rfl)(hv:Vis X.env.scope x:=by trivial)(hd:AG x:=by decide)
  (hcd:(x ==("__classdict__" :Str))=false:=by decide):ED X EX (.Name x pos) (Ab i):=
 PE.imp (Gr hN hv hd hcd) λ σ H Q ⟨G,δ,g,s,o⟩=>by
  unfold Ab at o
  split at o
  ·rename_i d e;obtain⟨v,e1,r⟩:=s.get i d e;exact⟨v,e1,WP.use o g r⟩
  ·exact o.elim
def af_4{e:Expr}{d:D}(he:PE X e (tC v))(hd:∀G,Has X.K G v d):ED X EX e (eC d):=
 PE.imp he λ σ H Q ⟨G,δ,g,s,o⟩=>WP.use o g (hd G)
def Aq{i:Int}{j pos}:ED X EX (.Constant (.int i) j pos) (eC (.int i)):=af_4 el_5 λ_=> .int i
def y_8{b:Bool}{j pos}:ED X EX (.Constant (.bool b) j pos) (eC (.bl b)):=af_4 eu_1 λ_=> .bl b
def az_3{j pos}:ED X EX (.Constant .none j pos) (eC .non):=af_4 dn_6 λ_=> .non
def Bw{x:Str}{j pos}:ED X EX (.Constant (.str x) j pos) (eC (.str x)):=af_4 el_6 λ_=> .str x
def ah_6{x:Str}{i:Int}{t:Tok}(hg:Gl X x)(hm:X.mg x=some (.int i t))(hd:AG x:=by decide):ED X EX (.Name x pos) (eC (.int i)):=af_4 (av_0 (v:=.int i) hg hm ⟨t,rfl⟩ hd) λ_=> .int i
def da_0{x:Str}{z:Str}{t:Tok}(hg:Gl X x)(hm:X.mg x=some (.str z t))(hd:AG x:=by decide):ED X EX (.Name x pos) (eC (.str z)):=af_4 (av_0 (v:=.str z) hg hm ⟨t,rfl⟩ hd) λ_=> .str z
def rD(K:Frag)(r:D->D->R W):R2:=λx y H Q=>∃(EX:EXT) (G:Hp) (a b:D),Same G H/\Has K G x a/\Has K G y b/\Out K EX G H (r a b) Q
abbrev Gn(X:Cx)(f:Value->Value->Sem Value)(r:D->D->R W):Prop:=Ey X f (rD X.K r)
def Aj(r:D->D->R W)(f g:FE):FE:=λ δ=>(f δ).bind λa=>(g δ).bind λb=>r a.d b.d
def two{r:D->D->R W}{σ:Sg}{Q:VK}(q:tD K EX (Aj r f g) σ H Q):tOp (rD K r) (tD K EX f) (tD K EX g) σ H Q:=by
 obtain⟨G,δ,g0,s0,o⟩:=q;exact tD.seq g0 s0 o λw v G1 H1 _ st1 r1 o1=>tD.seq st1.gh (s0.mono st1.gg) o1 λw2 v2 G2 H2 _ st2 r2 o2=>⟨_,G2,w.d,w2.d,st2.gh,r1.mono st2.gg,r2,o2⟩
def Az{op:Operator}{r:D->D->R W}(ho:Gn X (binaryOp op) r)(ha:ED X EX a f)(hb:ED X EX b g):ED X EX (.BinOp a op b pos) (Aj r f g):=
 PE.imp (ej_3 ho ha hb) λ_ _ _ q=>two q
def x_3{op:CmpOp}{r:D->D->R W}(ho:Gn X (compareOp op) r)(ha:ED X EX a f)(hb:ED X EX b g)(hm:behindInMarks op b=false):ED X EX (.Compare a [op] [b] pos) (Aj r f g):=
 PE.imp (ea_5 ho ha hb hm) λ_ _ _ q=>two q
def Eb:D->R Bool
 | .bl b=> .ok b
 |_=> .no
def Ao(f:FE):FT:=λ δ=>(f δ).bind λw=>Eb w.d
def eb_7{σ:Sg}{Q:Bool->Hp->Prop}(q:tDt K EX (Ao f) σ H Q):tD K EX f σ H λx H'=>∃k,x=.bl k/\Q k H':=by
 obtain⟨G,δ,g0,s0,o⟩:=q;refine⟨G,δ,g0,s0, ?_⟩;unfold Ao at o;cases e:f δ with
 |ok w=>
  rw[e]at o;simp only[R.bind_ok]at o;refine WP.intro λv G' H' st r=> ?_;revert r o;cases w.d with
  |bl k=>intro o r;cases r;exact⟨k,rfl,o G' H' st⟩
  |_=>intro o _;exact False.elim o
 |ex x=>rw[e]at o;exact o
 |no=>rw[e]at o;exact o
def Ci{op:CmpOp}{r:D->D->R W}(ho:Gn X (compareOp op) r)(ha:ED X EX a f)(hb:ED X EX b g)(hm:behindInMarks op b=false):TD X EX (.Compare a [op] [b] pos) (Ao (Aj r f g)):=
 PT.imp (ea_6 ho ha hb hm) λ σ H Q q=>two (eb_7 q)
def Ha(r r':D->D->R W)(f g h:FE):FE:=λ δ=>(f δ).bind λa=>(g δ).bind λb=>(r a.d b.d).bind λz=>(Eb z.d).bind λk=>
 if k=true then(h δ).bind λc=>r' b.d c.d else .ok (.sh (.bl false))
def ew_4{r r':D->D->R W}{σ:Sg}{Q:VK}(q:tD K EX (Ha r r' f g h) σ H Q):do_3 (rD K r) (rD K r') (tD K EX f) (tD K EX g) (tD K EX h) σ H Q:=by
 obtain⟨G,δ,g0,s0,o⟩:=q;refine tD.seq g0 s0 o λw v G1 H1 _ st1 r1 o1=>tD.seq st1.gh (s0.mono st1.gg) o1 λw2 v2 G2 H2 _ st2 r2 o2=>⟨EX σ,G2,w.d,w2.d,st2.gh,r1.mono st2.gg,r2, ?_⟩;revert o2;cases r w.d w2.d with
 |ok z=>
  intro o2;refine WP.intro λv3 G3 H3 st3 r3=> ?_;have o2:Out K (EX σ) G2 H2 ((Eb z.d).bind λk=>if k=true then(h δ).bind λc=>r' w2.d c.d else .ok (.sh (.bl false))) Q:=o2;revert r3 o2;cases z.d with
  |bl k=>
   intro r3 o2;cases r3;refine⟨k,rfl, ?_⟩;cases k with
   |true=>
    rw[if_pos rfl];have o3:Out K (EX σ) G2 H2 ((h δ).bind λc=>r' w2.d c.d) Q:=o2;exact tD.seq st3.gh (s0.mono (st1.gg.trans (st2.gg.trans st3.gg))) (o3.mono st3) λw4 v4 G4 H4 _ st4 r4 o4=>⟨_,G4,w2.d,w4.d,st4.gh,r2.mono (st3.gg.trans st4.gg),r4,o4⟩
   |false=>
    rw[if_neg A6];have o3:WP K G2 H2 (.sh (.bl false)) Q:=o2;exact(o3.mono st3).use st3.gh (.bl false)
  |_=>intro _ o2;exact False.elim o2
 |ex x=>exact λo2=>o2
 |no=>exact λo2=>o2
def bj_1{op op':CmpOp}{r r':D->D->R W}(ho:Gn X (compareOp op) r)(ho':Gn X (compareOp op') r')(ha:ED X EX a f)(hb:ED X EX b g)(hc:ED X EX c h)
  (hm:lastMarks [op,op'] [b,c]=false:=by with_unfolding_all rfl):ED X EX (.Compare a [op,op'] [b,c] pos) (Ha r r' f g h):=
 PE.imp (do_4 ho ho' ha hb hc hm) λ_ _ _ q=>ew_4 q
abbrev TW(X:Cx)(EX:Bt)(e:Expr)(f:FT):Prop:=PW X e (tDt X.K EX f)
variable{p q:FT}{Eu:List Expr}
def tAndF(p q:FT):FT:=λ δ=>(p δ).bind λb=>if b=true then q δ else .ok false
def Fx(p q:FT):FT:=λ δ=>(p δ).bind λb=>if b=true then .ok true else q δ
def Cm(p:FT):FT:=λ δ=>(p δ).bind λb=> .ok (!b)
def eb_8(ha:TD X EX a p):TW X EX (.BoolOp .And [a] pos) p:=ea_1 ha
def az_4(ha:TD X EX a p):TW X EX (.BoolOp .Or [a] pos) p:=el_7 ha
def tDt.two{σ:Sg}{Q:Bool->Hp->Prop}{k:Bool->DE->R Bool}{P:Bool->Hp->Prop}(h:tDt K EX (λ δ=>(p δ).bind λb=>k b δ) σ H Q)
  (i:∀b H',tDt K EX (k b) σ H' Q->P b H'):tDt K EX p σ H P:=by
 obtain⟨G,δ,g0,s0,o⟩:=h;refine⟨G,δ,g0,s0, ?_⟩;cases e:p δ with
 |ok b=>
  simp only[e,R.bind_ok]at o;refine λG' H' st=>i b H' ⟨G',δ,st.gh,s0.mono st.gg, ?_⟩;cases e2:k b δ with
  |ok c=>rw[e2]at o;exact λG2 H2 st2=>o G2 H2 (st.trans st2)
  |ex x=>rw[e2]at o;exact(EX σ).mono _ _ _ _ _ st o
  |no=>rw[e2]at o;exact o
 |ex x=>simp only[e,R.bind_ex]at o;exact o
 |no=>simp only[e,R.bind_no]at o
def tDt.now{σ:Sg}{Q:Bool->Hp->Prop}{c:Bool}(h:tDt K EX (λ_=> .ok c) σ H Q):Q c H:=by
 obtain⟨G,δ,g0,s0,o⟩:=h;exact o G H (Step.refl g0)
def eo_3(ha:TD X EX a p)(hb:TW X EX (.BoolOp .And (b::Eu) pos) q):TW X EX (.BoolOp .And (a::b::Eu) pos) (tAndF p q):=
 PW.imp (el_8 ha hb) λ σ H Q h=>tDt.two (k:=λb δ=>if b=true then q δ else .ok false) h λb H' h'=>by
  cases b with
  |true=>rw[if_pos rfl];exact h'
  |false=>rw[if_neg A6];exact tDt.now h'
def bj_2(ha:TD X EX a p)(hb:TW X EX (.BoolOp .Or (b::Eu) pos) q):TW X EX (.BoolOp .Or (a::b::Eu) pos) (Fx p q):=
 PW.imp (eu_2 ha hb) λ σ H Q h=>tDt.two (k:=λb δ=>if b=true then .ok true else q δ) h λb H' h'=>by
  cases b with
  |true=>rw[if_pos rfl];exact tDt.now h'
  |false=>rw[if_neg A6];exact h'
def td_w{e:Expr}(h:TW X EX e p):TD X EX e p:=h.pt
def z_7(ha:TD X EX a p):TD X EX (.UnaryOp .Not a pos) (Cm p):=
 PT.imp (el_9 ha) λ σ H Q h=>tDt.two (k:=λb _=> .ok (!b)) h λb H' h'=>tDt.now h'
def eAnd(f g:FE):FE:=λ δ=>(f δ).bind λa=>(Eb a.d).bind λk=>if k=true then g δ else .ok (.sh (.bl false))
def eOr(f g:FE):FE:=λ δ=>(f δ).bind λa=>(Eb a.d).bind λk=>if k=true then .ok (.sh (.bl true)) else g δ
def eNot(f:FE):FE:=λ δ=>(f δ).bind λa=>(Eb a.d).bind λk=> .ok (.sh (.bl (!k)))
def az_5{op}(h:ED X EX a f):ED X EX (.BoolOp op [a] pos) f:=em_0 h
def tD.boolThen{σ:Sg}{Q:VK}{k:Bool->DE->R W}{P:Bool->Hp->Prop}(h:tD K EX (λ δ=>(f δ).bind λa=>(Eb a.d).bind λc=>k c δ) σ H Q)
  (i:∀c H',tD K EX (k c) σ H' Q->P c H'):tD K EX f σ H λx H'=>∃c,x=.bl c/\P c H':=by
 obtain⟨G,δ,g0,s0,o⟩:=h;refine tD.seq g0 s0 o λw v G1 H1 _ st1 r1 o1=> ?_;revert r1 o1;cases w.d with
 |bl c=>intro r1 o1;cases r1;exact⟨c,rfl,i c H1 ⟨G1,δ,st1.gh,s0.mono st1.gg,o1⟩⟩
 |_=>intro _ o1;exact False.elim o1
def tD.now{σ:Sg}{Q:VK}{d:D}(h:tD K EX (λ_=> .ok (.sh d)) σ H Q)(r:∀G,Has K G v d):Q v H:=by
 obtain⟨G,δ,g0,s0,o⟩:=h;exact WP.use o g0 (r G)
def az_6(ha:ED X EX a f)(hb:ED X EX (.BoolOp .And (b::Eu) pos) g):ED X EX (.BoolOp .And (a::b::Eu) pos) (eAnd f g):=
 PE.imp (em_1 ha hb) λ σ H Q h=>tD.boolThen (k:=λk δ=>if k=true then g δ else .ok (.sh (.bl false))) h λc H' h'=>by
  cases c with
  |true=>rw[if_pos rfl];exact h'
  |false=>rw[if_neg A6];exact tD.now h' λ_=> .bl false
def dq_0(ha:ED X EX a f):ED X EX (.UnaryOp .Not a pos) (eNot f):=
 PE.imp (em_2 ha) λ σ H Q h=>tD.boolThen (k:=λk _=> .ok (.sh (.bl (!k)))) h λc H' h'=>tD.now h' λ_=> .bl (!c)
def eIf(p:FT)(f g:FE):FE:=λ δ=>(p δ).bind λk=>if k=true then f δ else g δ
def da_1(hc:TD X EX c p)(ha:ED X EX a f)(hb:ED X EX b g):ED X EX (.IfExp c a b pos) (eIf p f g):=
 PE.imp (dn_7 hc ha hb) λ σ H Q ⟨G,δ,g0,s0,o⟩=>tDt.seq g0 s0 o λk G' H' _ st o'=>by
  cases k with
  |true=>rw[if_pos rfl];exact⟨G',δ,st.gh,s0.mono st.gg,o'⟩
  |false=>rw[if_neg A6];exact⟨G',δ,st.gh,s0.mono st.gg,o'⟩
def Cr:D->R Bool
 | .non=> .ok false
 | .bl b=> .ok b
 | .int i=> .ok (i != 0)
 | .str x=>if x.length<=16777216 then .ok ((x.length:Int) != 0) else .no
 | .lst ds=> .ok (!ds.isEmpty)
 | .tup ds=> .ok (!ds.isEmpty)
 |_=> .no
def Ax(f:FE):FT:=λ δ=>(f δ).bind λw=>Cr w.d
def cg_3{G:Hp}{ds:List D}(r:HasL K G vs ds):(!ds.isEmpty)= !vs.isEmpty:=by cases r <;> rfl
def eo_4{G H:Hp}{d:D}{k:Bool}(g:Same G H)(r:Has K G v d)(e:Cr d=.ok k):TruV K v H k:=by
 cases r with
 |non=>cases e;rfl
 |bl b=>cases e;rfl
 |int i=>cases e;rfl
 |str x=>
  have e:(if x.length<=16777216 then R.ok ((x.length:Int) != 0) else .no)=.ok k:=e
  split at e
  ·rename_i hz;cases e;exact⟨by rw[E5];exact hz,rfl⟩
  ·cases e
 |lst h r=>cases e;exact .inl ⟨_,g.seq h,cg_3 r⟩
 |tup h r=>cases e;exact .inr (.inl ⟨_,Same.tupS g h,cg_3 r⟩)
 |exn0 _ _=>cases e
 |exn1 _ _ _ _ _=>cases e
 |dic _ _ _=>cases e
 |obj _ _ _ _=>cases e
def Fu(ha:ED X EX a f)(he:∀whole,isTrue a X.env whole=(do let v<-whole;standAt a.pos;holding [v] (truthy v)):=by intro _;rfl):TD X EX a (Ax f):=
 PT.imp (do_5 ha he) λ σ H Q ⟨G,δ,g0,s0,o⟩=>by
  refine⟨G,δ,g0,s0, ?_⟩;unfold Ax at o;cases e:f δ with
  |ok w=>
   rw[e]at o;simp only[R.bind_ok]at o;refine WP.intro λv G' H' st r=> ?_;cases e2:Cr w.d with
   |ok k=>rw[e2]at o;exact⟨k,eo_4 st.gh r e2,o G' H' st⟩
   |ex x=>rw[e2]at o;exfalso;revert e2;cases w.d <;> simp only[Cr] <;> intro e2 <;> first|cases e2|(split at e2 <;> cases e2)
   |no=>rw[e2]at o;exact o.elim
  |ex x=>rw[e]at o;exact o
  |no=>rw[e]at o;exact o
variable{e:Expr}{es:List Expr}{fa:FA}
def Ac:FA:=λ_=> .ok []
def Aa(f:FE)(fa:FA):FA:=λ δ=>(f δ).bind λw=>(fa δ).bind λds=> .ok (w.d::ds)
def Ak:AD X EX [] Ac:=PA.imp u_3 λ σ H Q ⟨G,δ,g0,s0,o⟩=>o [] G H (Step.refl g0) .nil
def Ae(ha:ED X EX e f)(hr:AD X EX es fa)(hs:starEach (e::es) X.env=(false,eval e X.env)::starEach es X.env:=by rfl):AD X EX (e::es) (Aa f fa):=
 PA.imp (Gj ha hr hs) λ σ H Q ⟨G,δ,g0,s0,o⟩=>by
  refine⟨G,δ,g0,s0, ?_⟩;unfold Aa at o;cases e1:f δ with
  |ok w=>
   rw[e1]at o;simp only[R.bind_ok]at o;refine WP.intro λv G' H' st r=>⟨G',δ,st.gh,s0.mono st.gg, ?_⟩;cases e2:fa δ with
   |ok ds=>rw[e2]at o;exact λvs G2 H2 st2 r2=>o (v::vs) G2 H2 (st.trans st2) (.cons (r.mono st2.gg) r2)
   |ex x=>rw[e2]at o;exact(EX σ).mono _ _ _ _ _ st o
   |no=>rw[e2]at o;exact o
  |ex x=>rw[e1]at o;exact o
  |no=>rw[e1]at o;exact o
def eTup(fa:FA):FE:=λ δ=>(fa δ).bind λds=>if ds.length<=16777216 then .ok (.sh (.tup ds)) else .no
def Au(fa:FA):FE:=λ δ=>(fa δ).bind λds=>if ds.length<=16777216 then .ok (.ow (.lst ds)) else .no
def dq_1{x1}(ha:AD X EX es fa):ED X EX (.Tuple es x1 pos) (eTup fa):=
 PE.imp (cr_9 ha) λ σ H Q ⟨G,δ,g0,s0,o⟩=>tDa.seq g0 s0 o λds vs G' H' _ st r o'=>by
  split at o'
  ·rename_i hz;refine⟨by rw[r.length,E5];exact hz,λp hp=>o' (.ref p) _ _ (Step.new st.gh hp _) (.tup (SqT.of Ct) (r.mono (p_6 (st.gh.free hp) _)))⟩
  ·exact o'.elim
def Cz(ha:AD X EX es fa):ED X EX (.List es pos) (Au fa):=
 PE.imp (do_8 ha) λ σ H Q ⟨G,δ,g0,s0,o⟩=>tDa.seq g0 s0 o λds vs G' H' _ st r o'=>by
  split at o'
  ·rename_i hz;refine⟨by rw[r.length,E5];exact hz,λp hp=>ac_6 o' st.gh r p hp⟩
  ·exact o'.elim
def rDc(K:Frag)(fn:AF):List V->Hp->VK->Prop:=λvs H Q=>∃(EX:EXT) (G:Hp) (ds:List D),Same G H/\HasL K G vs ds/\Out K EX G H (fn ds) Q
abbrev Et(X:Cx)(v:Value)(fn:AF):Prop:=Ei X v (rDc X.K fn)
def Ah(fn:AF)(fa:FA):FE:=λ δ=>(fa δ).bind fn
def da_2{fn:AF}{σ:Sg}{Q:VK}(q:tD K EX (Ah fn fa) σ H Q):tCB (rDc K fn) (tDa K EX fa) σ H Q:=by
 obtain⟨G,δ,g0,s0,o⟩:=q;exact tDa.seq g0 s0 o λds vs G' H' _ st r o'=>⟨_,G',ds,st.gh,r,o'⟩
variable{x:Str}{pp:Pos}{id T:String}{fn:AF}
def Dc(hc:Et X (.builtin id) fn)(hg:Gl X x)(hm:X.mg x=none)(hv:bootBuiltins x=some (.builtin id))(ha:AD X EX (e::es) fa)(hn:x≠ "__name__" :=by decide)(hdb:AG x:=by decide)
  (he:starEach (e::es) X.env=(false,eval e X.env)::starEach es X.env:=by rfl) (hpl:(backTo pos (starEach es X.env)).any (·.1)=false:=by rfl):ED X EX (.Call (.Name x pp) (e::es) [] pos) (Ah fn fa):=
 PE.imp (af_3 hc hg hm hv ha hn hdb he hpl) λ_ _ _ q=>da_2 q
def s_1(hc:Et X (.type T) fn)(hg:Gl X x)(hm:X.mg x=none)(hv:bootBuiltins x=some (.type T))(ha:AD X EX (e::es) fa)(hn:x≠ "__name__" :=by decide)(hdb:AG x:=by decide)
  (he:starEach (e::es) X.env=(false,eval e X.env)::starEach es X.env:=by rfl) (hpl:(backTo pos (starEach es X.env)).any (·.1)=false:=by rfl):ED X EX (.Call (.Name x pp) (e::es) [] pos) (Ah fn fa):=
 PE.imp (dg_9 hc hg hm hv ha hn hdb he hpl) λ_ _ _ q=>da_2 q
def Bu:D->D->R W
 | .lst ds,.int i=>match atI ds i with|some d=> .ok (.sh d)|none=> .no
 | .tup ds,.int i=>match atI ds i with|some d=> .ok (.sh d)|none=> .no
 | .str z,.int i=>if z.length<=16777216 then(match atI z.cps.toList i with|some c=> .ok (.sh (.str ⟨#[c]⟩))|none=> .no) else .no
 |_,_=> .no
theorem HasL.atI{G:Hp}{ds:List D}{i:Int}{d:D}(r:HasL K G vs ds)(h:L2.atI ds i=some d):∃v,L2.atI vs i=some v/\Has K G v d:=by
 unfold L2.atI at h⊢;rw[r.length];cases e:ixN ds.length i with
 |none=>rw[e]at h;cases h
 |some j=>rw[e]at h;exact r.get h
def ix_d:IxR X (rD X.K Bu):=by
 intro value slice zd s σ H x y v u Q I rx ry h hs;obtain⟨EX,G,a,b,g,ra,rb,o⟩:=h;cases rb with
 |int i=>
  cases ra with
  |lst h r=>
   simp only[Bu]at o
   split at o
   ·rename_i d e;obtain⟨v,e1,r1⟩:=HasL.atI r e;exact eb_2 value slice zd s σ H _ _ _ _ Q I rx ry ⟨_,_,i,v,rfl,rfl,g.seq h,e1,WP.use o g r1⟩ hs
   ·exact o.elim
  |tup h r=>
   simp only[Bu]at o
   split at o
   ·rename_i d e;obtain⟨v,e1,r1⟩:=HasL.atI r e;exact en_7 value slice zd s σ H _ _ _ _ Q I rx ry ⟨_,_,i,v,rfl,rfl,Same.tupS g h,e1,WP.use o g r1⟩ hs
   ·exact o.elim
  |str z=>
   simp only[Bu]at o
   split at o
   ·rename_i hz
    split at o
    ·rename_i c e;exact en_8 value slice zd s σ H _ _ _ _ Q I rx ry ⟨z,i,c,rfl,rfl,by rw[E5];exact hz,e,WP.use o g (.str _)⟩ hs
    ·exact o.elim
   ·exact o.elim
  |_=>exact False.elim o
 |_=>cases ra <;> exact False.elim o
def Ew(ha:ED X EX a f)(hb:ED X EX b g)(hs:cz_6 b:=by intro _ _;rfl):ED X EX (.Subscript a b pos) (Aj Bu f g):=
 PE.imp (ew_2 ix_d ha hb hs) λ_ _ _ q=>two q
end
end L3
namespace L2
open PySem PySem.Spec PyProof.Rows
section
variable{κ:Type} [DecidableEq κ]
def Co(kvs:List (κ×V))(k:κ):Option V:=(kvs.find? λkv=>decide (kv.1=k)).map (·.2)
def Dy(kvs:List (κ×V))(k:κ)(v:V):List (κ×V):=
 if(kvs.any λkv=>decide (kv.1=k))=true then kvs.map (λkv=>if kv.1=k then(kv.1,v) else kv) else kvs ++ [(k,v)]
def Hy(kvs:List (κ×V))(k:κ):List (κ×V):=kvs.filter λkv=>decide (kv.1≠k)
def al_5{p:κ×V}{r:List (κ×V)}{k:κ}(e:p.1=k):Co (p::r) k=some p.2:=by simp[Co,M9,e]
def al_6{p:κ×V}{r:List (κ×V)}{k:κ}(e:¬p.1=k):Co (p::r) k=Co r k:=by simp[Co,M9,e]
theorem bj_3(k:κ):∀kvs:List (κ×V),(kvs.any λkv=>decide (kv.1=k))=(Co kvs k).isSome
 | []=>rfl
 |p::r=>by
  rw[Q9]
  by_cases e:p.1=k
  ·simp only[al_5 e,D9 e,Bool.true_or,Option.isSome_some]
  ·rw[al_6 e,D8 e,Bool.false_or];exact bj_3 k r
def bc_7(kvs:List (κ×V))(k:κ)(v:V):(Dy kvs k v).length<=kvs.length + 1:=by
 unfold Dy
 split
 ·rw[A0];omega
 ·rw[B6,D2,W6];omega
def RelO.isSome_eq{o:Option V}{u:Option Value}(r:RelO o u):o.isSome=u.isSome:=by
 cases o with
 |none=>cases u with
  |none=>rfl
  |some _=>exact(show False from r).elim
 |some _=>cases u with
  |none=>exact(show False from r).elim
  |some _=>rfl
theorem RelO.getD{o:Option V}{u:Option Value}{d:V}{d':Value}(r:RelO o u)(rd:RelV d d'):RelV (o.getD d) (u.getD d'):=by
 cases o with
 |none=>cases u with
  |none=>exact rd
  |some _=>exact(show False from r).elim
 |some _=>cases u with
  |none=>exact(show False from r).elim
  |some _=>exact r
def KV.val{kvs:List (κ×V)}{vs:List (κ×Value)}(r:KV kvs vs)(k:κ):RelO (Co kvs k) (valueAt vs k):=by
 unfold KV at r
 induction r with
 |nil=>exact True.intro
 | @cons p q ps qs h t ih=>
  obtain⟨h1,h2⟩:=h
  by_cases e:p.1=k
  ·have e':q.1=k:=h1.symm.trans e;have b:valueAt (q::qs) k=some q.2:=by simp[valueAt,M9,e']
   rw[al_5 e,b];exact h2
  ·have e':¬q.1=k:=λz=>e (h1.trans z);have b:valueAt (q::qs) k=valueAt qs k:=by simp[valueAt,M9,e']
   rw[al_6 e,b];exact ih
theorem KV.any{kvs:List (κ×V)}{vs:List (κ×Value)}(r:KV kvs vs)(k:κ):(kvs.any λkv=>decide (kv.1=k))=vs.any λkv=>decide (kv.1=k):=by
 unfold KV at r
 induction r with
 |nil=>rfl
 |cons h t ih=>rw[Q9,Q9,ih,h.1]
def KV.repl{kvs:List (κ×V)}{vs:List (κ×Value)}(r:KV kvs vs)(k:κ){y:V}{u:Value}(ry:RelV y u):
  KV (kvs.map λkv=>if kv.1=k then(kv.1,y) else kv) (vs.map λkv=>if kv.1=k then(kv.1,u) else kv):=by
 unfold KV at r⊢
 induction r with
 |nil=>exact .nil
 | @cons p q ps qs h t ih=>
  rw[A9,A9];refine .cons ?_ ih;obtain⟨h1,h2⟩:=h
  by_cases e:p.1=k
  ·rw[if_pos e,if_pos (h1.symm.trans e)];exact⟨h1,ry⟩
  ·rw[if_neg e,if_neg (λz=>e (h1.trans z))];exact⟨h1,h2⟩
def KV.put{kvs:List (κ×V)}{vs:List (κ×Value)}(r:KV kvs vs)(k:κ){y:V}{u:Value}(ry:RelV y u):KV (Dy kvs k y) (stored vs k u):=by
 unfold Dy stored;rw[r.any k]
 by_cases e:(vs.any λkv=>decide (kv.1=k))=true
 ·rw[if_pos e,if_pos e];exact r.repl k ry
 ·rw[if_neg e,if_neg e];exact Paired.snoc r ⟨rfl,ry⟩
def KV.drop{kvs:List (κ×V)}{vs:List (κ×Value)}(r:KV kvs vs)(k:κ):KV (Hy kvs k) (without vs k):=by
 unfold KV at r⊢;unfold Hy without
 induction r with
 |nil=>exact .nil
 | @cons p q ps qs h t ih=>
  obtain⟨h1,h2⟩:=h;rw[N4,N4]
  by_cases e:p.1=k
  ·have a:¬decide (p.1≠k)=true:=by simp[e]
   have b:¬decide (q.1≠k)=true:=by simp[h1.symm.trans e]
   rw[if_neg a,if_neg b];exact ih
  ·have e':¬q.1=k:=λz=>e (h1.trans z);have a:decide (p.1≠k)=true:=by simp[e]
   have b:decide (q.1≠k)=true:=by simp[e']
   rw[if_pos a,if_pos b];exact .cons ⟨h1,h2⟩ ih
def KV.keys{kvs:List (κ×V)}{vs:List (κ×Value)}(r:KV kvs vs):kvs.map (·.1)=vs.map (·.1):=by
 unfold KV at r
 induction r with
 |nil=>rfl
 |cons h t ih=>rw[A9,A9,ih,h.1]
theorem KV.length{kvs:List (κ×V)}{vs:List (κ×Value)}(r:KV kvs vs):kvs.length=vs.length:=Y9 r
def dq_2(kvs:List (κ×V))(k:κ):(Hy kvs k).length<=kvs.length:=List.length_filter_le _ _
end
def bj_4{w:World}{k:Av}{u:Value}(r:RelV (kV k) u):(k_1 P w).is k u=true:=by
 cases k with
 |inl i=>obtain⟨t,e⟩:=(show∃t,u=Value.int i t from r);subst e;exact cf_7 P w i t
 |inr x=>obtain⟨t,e⟩:=(show∃t,u=Value.str x t from r);subst e;exact cf_8 P w x t
theorem bt_8{w:World}:∀{ks:List Av} {us:List Value},Vals (ks.map kV) us->ItemsAre (k_1 P w) ks us
 | [],_,r=>by rw[N7]at r;cases r;exact .nil
 |k::ks,_,r=>by
  rw[A9]at r;cases r with
  |cons h t=>exact .cons (bj_4 h) (bt_8 t)
abbrev KT(H:Hp):List (List Av×V)->List (List Av×Addr×Value)->Prop:=Paired λp q=>p.1=q.1/\H q.2.1=some (.tup (p.1.map kV))/\RelV p.2 q.2.2
def KT.val{kvs:List (List Av×V)}{xs:List (List Av×Addr×Value)}(r:KT H kvs xs)(k:List Av):RelO (Co kvs k) ((atKey xs k).map (·.2)):=by
 induction r with
 |nil=>exact True.intro
 | @cons p q ps qs h t ih=>
  obtain⟨h1,_,h2⟩:=h
  by_cases e:p.1=k
  ·have e':q.1=k:=h1.symm.trans e;have b:atKey (q::qs) k=some q.2:=by simp[atKey,M9,e']
   rw[al_5 e,b];exact h2
  ·have e':¬q.1=k:=λz=>e (h1.trans z);have b:atKey (q::qs) k=atKey qs k:=by simp[atKey,M9,e']
   rw[al_6 e,b];exact ih
def KT.repl{kvs:List (List Av×V)}{xs:List (List Av×Addr×Value)}(r:KT H kvs xs)(k:List Av){y:V}{u:Value}(ry:RelV y u):
  KT H (kvs.map λkv=>if kv.1=k then(kv.1,y) else kv) (xs.map (putAt k u)):=by
 induction r with
 |nil=>exact .nil
 | @cons p q ps qs h t ih=>
  rw[A9,A9];refine .cons ?_ ih;obtain⟨h1,h2,h3⟩:=h;unfold putAt
  by_cases e:p.1=k
  ·rw[if_pos e,if_pos (h1.symm.trans e)];exact⟨h1,h2,ry⟩
  ·rw[if_neg e,if_neg (λz=>e (h1.trans z))];exact⟨h1,h2,h3⟩
def KT.put{kvs:List (List Av×V)}{xs:List (List Av×Addr×Value)}(r:KT H kvs xs)(k:List Av){b:Addr}{y:V}{u:Value}(hb:H b=some (.tup (k.map kV)))(ry:RelV y u):
  KT H (Dy kvs k y) (storedH xs k b u):=by
 have e:(kvs.any λkv=>decide (kv.1=k))=(atKey xs k).isSome:=by
  rw[bj_3,(r.val k).isSome_eq,O0]
 unfold Dy storedH;rw[e]
 by_cases q:(atKey xs k).isSome=true
 ·rw[if_pos q,if_pos q];exact r.repl k ry
 ·rw[if_neg q,if_neg q];exact Paired.snoc r ⟨rfl,hb,ry⟩
def KT.keeps{H H':Hp}{kvs:List (List Av×V)}{xs:List (List Av×Addr×Value)}(r:KT H kvs xs)(ht:∀b ys,H b=some (.tup ys)->H' b=some (.tup ys)):KT H' kvs xs:=
 Paired.mapP r λ_ _ z=>⟨z.1,ht _ _ z.2.1,z.2.2⟩
section
variable{P:Program}{w:World}{H:Hp}{h:Heap}{a:Addr}
def ej_5{u:HO}(ok:HOk P w H h)(e:Rd H a u):ObjOk P w H h a u:=e.ok ok
def av_6{kvs:List (Av×V)}(ok:HOk P w H h)(e:Rd H a (.dK kvs)):kvs.length<=sizeLine/\(a ==sysModules)=false/\∃vs,KV kvs vs/\h.DictOf (k_1 P w) a vs:=
 show ObjOk P w H h a (.dK kvs) from ej_5 ok e
def dq_3{kvs:List (Av×V)}(ok:HOk P w H h)(e:H a=some (.dK kvs)):kvs.length<=sizeLine/\(a ==sysModules)=false/\∃vs,KV kvs vs/\h.DictOf (k_1 P w) a vs:=av_6 ok (.inl e)
def bj_5{ks:List Av}(ok:HOk P w H h)(e:H a=some (.tup (ks.map kV))):(tupleKind (k_1 P w)).is h ks a:=by
 obtain⟨_,its,r,o,h1,h2,n,h3⟩:=(show ObjOk P w H h a (.tup (ks.map kV)) from ok a _ e);exact⟨o,its.toArray,n,h1,h2,h3,by simpa using bt_8 r⟩
def bt_9{kvs:List (List Av×V)}(ok:HOk P w H h)(e:Rd H a (.dT kvs)):kvs.length<=sizeLine/\(a ==sysModules)=false/\
  ∃xs,KT H kvs xs/\h.DictOfH (tupleKind (k_1 P w)) a xs:=by
 obtain⟨z,y,xs,r,o,es,ep,h1,h2,h3,h4,h5⟩:=(show ObjOk P w H h a (.dT kvs) from ej_5 ok e);refine⟨z,y,xs,r,o,es,ep,h1,h2,h3,h4,λx hx=> ?_,h5⟩;have all:∀{l:List (List Av×V)} {m:List (List Av×Addr×Value)},KT H l m->∀x∈m,(tupleKind (k_1 P w)).is h x.1 x.2.1:=by
  intro l m q
  induction q with
  |nil=>intro x hx;exact nomatch hx
  | @cons p q ps qs hq t ih=>
   intro x hx;rcases B3.mp hx with e|hx
   ·subst e;exact bj_5 ok (by rw[<-hq.1];exact hq.2.1)
   ·exact ih x hx
 exact all r x hx
def ew_5{kvs:List (List Av×V)}(ok:HOk P w H h)(e:H a=some (.dT kvs)):kvs.length<=sizeLine/\(a ==sysModules)=false/\
  ∃xs,KT H kvs xs/\h.DictOfH (tupleKind (k_1 P w)) a xs:=bt_9 ok (.inl e)
end
def DGet(H:Hp)(a:Addr)(y:V)(r:Option V):Prop:=
 (∃kvs k,Rd H a (.dK kvs)/\y=kV k/\r=Co kvs k)\/∃kvs k b,Rd H a (.dT kvs)/\y=.ref b/\H b=some (.tup (k.map kV))/\r=Co kvs k
def DPut(H:Hp)(a:Addr)(y v:V)(H':Hp):Prop:=
 (∃kvs k,H a=some (.dK kvs)/\y=kV k/\kvs.length < sizeLine/\H'=upd H a (.dK (Dy kvs k v)))\/
 ∃kvs k b,H a=some (.dT kvs)/\y=.ref b/\H b=some (.tup (k.map kV))/\kvs.length < sizeLine/\H'=upd H a (.dT (Dy kvs k v))
def DGet.t{a b:Addr}{kvs:List (List Av×V)}{k:List Av}(e:H a=some (.dT kvs))(eb:H b=some (.tup (k.map kV))):DGet H a (.ref b) (Co kvs k):=.inr ⟨kvs,k,b,.inl e,rfl,eb,rfl⟩
theorem DPut.k{a:Addr}{kvs:List (Av×V)}{k:Av}(e:H a=some (.dK kvs))(hl:kvs.length < sizeLine):DPut H a (kV k) v (upd H a (.dK (Dy kvs k v))):=.inl ⟨kvs,k,e,rfl,hl,rfl⟩
def DPut.t{a b:Addr}{kvs:List (List Av×V)}{k:List Av}(e:H a=some (.dT kvs))(eb:H b=some (.tup (k.map kV)))(hl:kvs.length < sizeLine):
  DPut H a (.ref b) v (upd H a (.dT (Dy kvs k v))):=.inr ⟨kvs,k,b,e,rfl,eb,hl,rfl⟩
section
variable{X:Cx}{zd:AE}{σ:St}{H:Hp}{s:Shared}{a:Addr}{y v:V}{u r:Value}{o:Option V}{A:Around}{E:AA}
def Inv.big(I:Inv X zd σ H s):sysModules < s.heap.objs.size:=by
 have h:mainGlobals < s.heap.objs.size:=(I.mod.glob.keeps I.bk).lt;exact Nat.lt_trans ⋯ h
def dh_6{Q:AA}(hu:A.units + 1 < cLine)(I:Inv X zd σ H s)(g:DGet H a y (some v))(ry:RelV y u)(h:∀w' s',Inv X zd σ H s'->RelV v w'->Q w' s'):
  wpAny (model X.prog X.w) A (getItem (.ref a) u) Q E s:=by
 rcases g with⟨kvs,k,e,ey,l⟩|⟨kvs,k,b,e,ey,eb,l⟩
 ·subst ey;obtain⟨z,hd,vs,rel,dd⟩:=av_6 I.hok e;obtain⟨w',hw,rw'⟩:=RelO.some_of (v:=v) (o:=valueAt vs k) (by rw[l];exact rel.val k);exact wpAny_getItem_of (bj_4 ry) dd.mapOf hw (h w' _ (I.tok _) rw')
 ·subst ey;cases(show u=Value.ref b from ry);obtain⟨z,hd,xs,rel,dd⟩:=bt_9 I.hok e;obtain⟨w',hw,rw'⟩:=RelO.some_of (v:=v) (o:=(atKey xs k).map (·.2)) (by rw[l];exact rel.val k);obtain⟨p,hp,hp2⟩:=D3.mp hw;refine wpAny_getItem_heap (U3 hu) (bj_5 I.hok eb) dd hp ?_;rw[hp2];exact h w' _ (I.tok _) rw'
def d_in{Q:AA}(hu:A.units + 1 < cLine)(I:Inv X zd σ H s)(g:DGet H a y o)(ry:RelV y u)(h:∀s',Inv X zd σ H s'->Q (.bool o.isSome) s'):
  wpAny (model X.prog X.w) A (compareOp .In u (.ref a)) Q E s:=by
 rcases g with⟨kvs,k,e,ey,l⟩|⟨kvs,k,b,e,ey,eb,l⟩
 ·subst ey;obtain⟨z,hd,vs,rel,dd⟩:=av_6 I.hok e;refine wpAny_in_of (bj_4 ry) hd dd.mapOf ?_;rw[<-(rel.val k).isSome_eq,<-l];exact h _ (I.tok _)
 ·subst ey;cases(show u=Value.ref b from ry);obtain⟨z,hd,xs,rel,dd⟩:=bt_9 I.hok e;refine wpAny_in_heap (U3 hu) (bj_5 I.hok eb) hd dd ?_;have q:=(rel.val k).isSome_eq;rw[O0]at q;rw[<-q,<-l];exact h _ (I.tok _)
def eb_9{Q:AA}(hu:A.units + 1 < cLine)(I:Inv X zd σ H s)(g:DGet H a y o)(ry:RelV y u)(h:∀s',Inv X zd σ H s'->Q (.bool (!o.isSome)) s'):
  wpAny (model X.prog X.w) A (compareOp .NotIn u (.ref a)) Q E s:=by
 rcases g with⟨kvs,k,e,ey,l⟩|⟨kvs,k,b,e,ey,eb,l⟩
 ·subst ey;obtain⟨z,hd,vs,rel,dd⟩:=av_6 I.hok e;refine wpAny_notIn_of (bj_4 ry) hd dd.mapOf ?_;rw[<-(rel.val k).isSome_eq,<-l];exact h _ (I.tok _)
 ·subst ey;cases(show u=Value.ref b from ry);obtain⟨z,hd,xs,rel,dd⟩:=bt_9 I.hok e;refine wpAny_notIn_heap (U3 hu) (bj_5 I.hok eb) hd dd ?_;have q:=(rel.val k).isSome_eq;rw[O0]at q;rw[<-q,<-l];exact h _ (I.tok _)
def bz_3{h':Heap}{t':Nat}{ob:HO}(I:Inv X zd σ H s)(mu:Mut (H a))(hs:Heap.SameBut a s.heap h')(he:∃q,h'.get? a=some q)(new:ObjOk X.prog X.w (upd H a ob) h' a ob):
  Inv X zd σ (upd H a ob) {s with heap:=h',toks:=t'}:=
 I.write (x:=a) (e:=a) mu (.inl rfl) (λb q hb z=>(hs.2 b hb).trans z) he new
def dq_4{w:World}{H':Hp}{h':Heap}{kvs:List (Av×V)}{vs:List (Av×Value)}(z:kvs.length<=sizeLine)(hd:(a ==sysModules)=false)(rel:KV kvs vs)(dd:h'.DictOf (k_1 P w) a vs):
  ObjOk P w H' h' a (.dK kvs):=⟨z,hd,vs,rel,dd⟩
def dh_7{H':Hp}{Q:Unit->Shared->Prop}(hu:A.units + 1 < cLine)(I:Inv X zd σ H s)(g:DPut H a y v H')(ry:RelV y u)(rv:RelV v r)(h:∀s',Inv X zd σ H' s'->Q .unit s'):
  wpAny (model X.prog X.w) A (setItem (.ref a) u r) Q E s:=by
 rcases g with⟨kvs,k,e,ey,l,eH⟩|⟨kvs,k,b,e,ey,eb,l,eH⟩
 ·subst ey eH;obtain⟨z,hd,vs,rel,dd⟩:=dq_3 I.hok e;have hz:vs.length<=sizeLine:=by rw[<-rel.length];exact z
  have hl:(Dy kvs k v).length<=sizeLine:=by have:=bc_7 kvs k v;omega
  refine wpAny_setItem_pairs (hsz:=hz) (bj_4 ry) dd λh' dd' hs=>h _ ?_;have he:∃q,h'.get? a=some q:=let⟨q,_,_,hq,_⟩:=dd';⟨q,hq⟩;exact bz_3 I (by rw[e];exact True.intro) hs he (dq_4 hl hd (rel.put k rv) dd')
 ·subst ey eH;cases(show u=Value.ref b from ry);obtain⟨z,hd,xs,rel,dd⟩:=ew_5 I.hok e;have hz:xs.length<=sizeLine:=by rw[<-Y9 rel];exact z
  have hl:(Dy kvs k v).length<=sizeLine:=by have:=bc_7 kvs k v;omega
  refine wpAny_setItem_heap (hsz:=hz) (U3 hu) (bj_5 I.hok eb) dd λh' dd' hs=>h _ ?_;obtain⟨q,es,ep,hq,h2,h3,h4,_,h5⟩:=dd';refine bz_3 I (by rw[e];exact True.intro) hs ⟨q,hq⟩ ⟨hl,hd,_,(rel.put k eb rv).keeps λc ys ec=> ?_,q,es,ep,hq,h2,h3,h4,h5⟩;rw[Bm (eu_0 ec e (λz=>nomatch z))];exact ec
end
section
variable{X:Cx}{zd:AE}{σ:St}{H:Hp}{s:Shared}{a:Addr}{kvs:List (Av×V)}{k:Av}{u:Value}{A:Around}{E:AA}
def ew_6{more:List Value}{Q:AA}(I:Inv X zd σ H s)(e:H a=some (.dK kvs))(ry:RelV (kV k) u)(l:Co kvs k=some v)(hm:more= []\/∃x,more= [x])
  (h:∀w' s',Inv X zd σ (upd H a (.dK (Hy kvs k))) s'->RelV v w'->Q w' s'):wpAny (model X.prog X.w) A (call (.builtin "dict.pop") (.ref a::u::more)) Q E s:=by
 obtain⟨z,hd,vs,rel,dd⟩:=dq_3 I.hok e;obtain⟨w',hw,rw'⟩:=RelO.some_of (v:=v) (o:=valueAt vs k) (by rw[<-l];exact rel.val k);have hp:(keyPart u).isSome=true:=by
  cases k with
  |inl i=>obtain⟨t,q⟩:=(show∃t,u=Value.int i t from ry);subst q;rfl
  |inr x=>obtain⟨t,q⟩:=(show∃t,u=Value.str x t from ry);subst q;rfl
 have ha:argsOk "dict.pop" ⟨.ref a::u::more,[]⟩:=by
  rcases hm with q|⟨x,q⟩
  ·subst q;exact PySem.F.args_dict_pop_2 _ _
  ·subst q;exact Z6 _ _ _
 refine call_meetsIn W0 dd.typeIs ZA1 ha (meets_dict_pop_there (k_1 X.prog X.w) a (bj_4 ry) more hm hp)
  ⟨vs,w',dd,by rw[<-rel.length];exact z,hw,λh' dd' hs=>h w' _ ?_ rw'⟩
 have he:∃q,h'.get? a=some q:=let⟨q,_,_,hq,_⟩:=dd';⟨q,hq⟩;exact bz_3 I (by rw[e];exact True.intro) hs he (dq_4 (C5 (dq_2 kvs k) z) hd (rel.drop k) dd')
def eo_5{r:Value}{Q:AA}(I:Inv X zd σ H s)(e:H a=some (.dK kvs))(ry:RelV (kV k) u)(l:Co kvs k=none)(h:∀s',Inv X zd σ H s'->Q r s'):
  wpAny (model X.prog X.w) A (call (.builtin "dict.pop") [.ref a,u,r]) Q E s:=by
 obtain⟨z,hd,vs,rel,dd⟩:=dq_3 I.hok e;have hn:valueAt vs k=none:=RelO.none_of (by rw[<-l];exact rel.val k);have hp:(keyPart u).isSome=true:=by
  cases k with
  |inl i=>obtain⟨t,q⟩:=(show∃t,u=Value.int i t from ry);subst q;rfl
  |inr x=>obtain⟨t,q⟩:=(show∃t,u=Value.str x t from ry);subst q;rfl
 exact call_meetsIn W0 dd.typeIs ZA1 (Z6 _ _ _) (meets_dict_pop_default (k_1 X.prog X.w) a (bj_4 ry) hd hp r) ⟨vs,dd,hn,h _ (I.tok _)⟩
def ew_7{Q:AA}(I:Inv X zd σ H s)(e:Rd H a (.dK kvs))(h:∀t s',Inv X zd σ H s'->Q (.int kvs.length t) s'):wpAny (model X.prog X.w) A (call (.builtin "len") [.ref a]) Q E s:=by
 obtain⟨z,hd,vs,rel,dd⟩:=av_6 I.hok e;refine call_len_dict hd dd (by rw[<-rel.length];rw[E5]at z;omega) ?_;rw[<-rel.length];exact h _ _ (I.tok _)
end
def NoSl(i:Expr):Prop:=∀ov iv,subscripted i false ov iv=operate [ov,iv] (getItem ov iv)
def ec_0{prog:Program}{w:World}{A:Around}{E:AA}{s:Shared}{env:Env}{value slice:Expr}{T id:String}{Q:AA}
  (hl:typeLookup (.type T) "__getitem__" =pure (some (.builtin id))) (hs:NoSl slice)
  (h:wpAny (model prog w) A (eval value env) (λo s₁=>wpAny (model prog w) A (eval slice env) (λi s₂=>s₂.TypeIs o T/\wpAny (model prog w) A (getItem o i) Q E s₂) E s₁) E s):
  wpAny (model prog w) A (eval (.Subscript value slice pos) env) Q E s:=by
 refine Subscript_ (F1 h (λo s₁ h₁=>F1 h₁ (λi s₂ h₂=> ?_) λ_ _ x=>x) λ_ _ x=>x);obtain⟨hT,h₂⟩:=h₂;unfold subscriptTail;refine A3 ?_;rw[getitemInPython_of_ne hT.not_modules];refine A3 (wpAny_specialOf hT hl ?_);have fin:wpAny (model prog w) A (subscripted slice false o i) (λr s₃=>wpAny (model prog w) A (letTemporaryGo value o r >>=λ_=>pure r) Q E s₃) E s₂:=by
  rw[hs o i];exact wpAny_operating (F1 h₂ (λr s₃ h₃=>A3 (wpAny_letTemporaryGo (C6 h₃))) λ_ _ x=>x)
 first
  |exact C6 (A3 fin)
  |exact A3 (C6 (A3 fin))
  |exact A3 fin
def cg_4{zd:AE}{σ:St}{s:Shared}{a:Addr}{y:V}{o:Option V}(I:Inv X zd σ H s)(g:DGet H a y o):s.TypeIs (.ref a) "dict" :=by
 rcases g with⟨kvs,k,e,_,_⟩|⟨kvs,k,b,e,_,_,_⟩
 ·obtain⟨_,_,vs,_,dd⟩:=av_6 I.hok e;exact dd.typeIs
 ·obtain⟨_,_,xs,_,dd⟩:=bt_9 I.hok e;exact dd.typeIs
def ew_8(td ty:TE):TE:=λ σ H Q=>td σ H λx H1=>ty σ H1 λy H2=>∃a v,x=.ref a/\DGet H2 a y (some v)/\Q v H2
def ew_9(td ty tv:TE):TS:=λD σ H=>tv σ H λv H1=>td σ H1 λx H2=>ty σ H2 λy H3=>∃a H4,x=.ref a/\DPut H3 a y v H4/\D.nx σ H4
section
variable{X:Cx}{o i e value:Expr}{pos pos' zj:Pos}{td ty tv:TE}
def bz_4(hu:X.A.units + 1 < cLine)(ho:PE X o td)(hi:PE X i ty)(hs:NoSl i):PE X (.Subscript o i pos) (ew_8 td ty):=by
 intro zd s σ H Q I h;refine ec_0 PySem.F.slot_dict_getitem.lookup hs (Bk (ho zd s σ H _ I h) λu s1 ⟨x,H1,I1,rx,q1⟩=>Bk (hi zd s1 σ H1 _ I1 q1) λiv s2 ⟨y,H2,I2,ry,a,v,ex,g,q2⟩=> ?_);subst ex;obtain rfl:u=Value.ref a:=rx;exact⟨cg_4 I2 g,dh_6 hu I2 g ry λw' s3 I3 rw'=>⟨v,H2,I3,rw',q2⟩⟩
def bz_5(hu:X.A.units + 1 < cLine)(ho:PE X o td)(hi:PE X i ty)(hv:PE X value tv)(hs:swapsWith value (some (.Subscript o i pos')) pos.line X.env=pure false):
  PS X (.Assign [.Subscript o i pos'] value pos) (ew_9 td ty tv):=by
 intro zd s σ H D I h;refine wpAny_Assign_Subscript (Bk (hv zd s σ H _ I h) λr s1 ⟨v,H1,I1,rv,q1⟩=>Bk (ho zd s1 σ H1 _ I1 q1) λu s2 ⟨x,H2,I2,rx,q2⟩=>Bk (hi zd s2 σ H2 _ I2 q2) λiv s3 ⟨y,H3,I3,ry,a,H4,ex,g,q3⟩=> ?_) hs;subst ex;obtain rfl:u=Value.ref a:=rx;exact dh_7 hu I3 g ry rv λs4 I4=>⟨σ,H4,I4,q3⟩
end
def dq_6{w:World}(h:Heap)(hb:sysModules < h.objs.size):ObjOk P w H (h.push {cls:=.type "dict",data:=.dict #[]}) h.objs.size (.dK []):=
 ⟨L9 _,R0.mpr (Ne.symm (C7 hb)),[],.nil,Heap.DictOf.new h⟩
def eo_6:TE:=λ_ H Q=>∀p,H p=none->Q (.ref p) (upd H p (.dK []))
section
variable{X:Cx}{pos:Pos}
def cg_5:PE X (.Dict [] [] pos) eo_6:=λzd s σ H Q I h=>
 wpAny_Dict_empty ⟨.ref s.heap.objs.size,_,I.laid (a:=s.heap.objs.size) (o:=.dK []) (t':=s.toks) (λ_ _ q=>A4 _ q) (B0 _) (dq_6 s.heap I.big),rfl,h _ (I.hok.fresh (B0 _))⟩
end
structure M1(X:Cx)(o:Expr)(m:Str)(zh:Pos)(e:Expr)(zf:Pos):Prop where
 base:attributeBase o m X.env (eval o X.env)=eval o X.env
 few:((backTo zf (starEach [e] X.env)).all (λx=> !x.1) && (backToKw zf (keywordEach [] X.env)).all (λx=>x.1.isSome)
  && decide (([e]:List Expr).length + ([]:List Keyword).length + (if([]:List Keyword).isEmpty then 0 else 1) < 30))=true
 line:(zh.endLine ==zf.line)=true
 trees:backTo zf (starEach [e] X.env)= [(false,eval e X.env)]
structure M2(X:Cx)(o:Expr)(m:Str)(zh:Pos)(e f:Expr)(zf:Pos):Prop where
 base:attributeBase o m X.env (eval o X.env)=eval o X.env
 few:((backTo zf (starEach [e,f] X.env)).all (λx=> !x.1) && (backToKw zf (keywordEach [] X.env)).all (λx=>x.1.isSome)
  && decide (([e,f]:List Expr).length + ([]:List Keyword).length + (if([]:List Keyword).isEmpty then 0 else 1) < 30))=true
 line:(zh.endLine ==zf.line)=true
 trees:backTo zf (starEach [e,f] X.env)= [(false,eval e X.env),(false,eval f X.env)]
def IsD(H:Hp)(a:Addr):Prop:=(∃kvs,Rd H a (.dK kvs))\/∃kvs,Rd H a (.dT kvs)
def eo_7{zd:AE}{σ:St}{s:Shared}{a:Addr}(I:Inv X zd σ H s)(d:IsD H a):
  s.TypeIs (.ref a) "dict" /\(∀b,Value.ref a=.ref b->∃ob,s.heap.get? b=some ob/\ob.dict=none)/\(a ==sysModules)=false:=by
 rcases d with⟨kvs,e⟩|⟨kvs,e⟩
 ·obtain⟨_,hd,vs,_,dd⟩:=av_6 I.hok e;refine⟨dd.typeIs,λb q=> ?_,hd⟩;cases q;obtain⟨ob,_,_,h1,h2,_⟩:=dd;exact⟨ob,h1,h2.2.1⟩
 ·obtain⟨_,hd,xs,_,dd⟩:=bt_9 I.hok e;refine⟨dd.typeIs,λb q=> ?_,hd⟩;cases q;obtain⟨ob,_,_,h1,h2,_⟩:=dd;exact⟨ob,h1,h2.2.1⟩
section
variable{X:Cx}{zd:AE}{σ:St}{H:Hp}{s:Shared}{a:Addr}{y d:V}{u r:Value}{o:Option V}{A:Around}{E:AA}
end
def eo_8(td ty tx:TE):TE:=λ σ H Q=>td σ H λx H1=>∃a,x=.ref a/\IsD H1 a/\ty σ H1 λy H2=>tx σ H2 λz H3=>∃kvs k,H3 a=some (.dK kvs)/\y=kV k/\
 (∀v,Co kvs k=some v->Q v (upd H3 a (.dK (Hy kvs k))))/\(Co kvs k=none->Q z H3)
section
variable{X:Cx}{o e f:Expr}{zh zf:Pos}{td ty tx:TE}
def dq_7(ho:PE X o td)(he:PE X e ty)(hf:PE X f tx)(m:M2 X o "pop" zh e f zf):PE X (.Call (.Attribute o "pop" zh) [e,f] [] zf) (eo_8 td ty tx):=by
 intro zd s σ H Q I h;refine wpAny_Call_method m.base m.few m.line PySem.F.plainAttrs_dict W0 PySem.F.type_dict_pop (Bk (ho zd s σ H _ I h) λu s1 ⟨x,H1,I1,rx,a,ex,d,q1⟩=> ?_);subst ex;obtain rfl:u=Value.ref a:=rx;obtain⟨t1,t2,_⟩:=eo_7 I1 d;refine⟨t1,t2, ?_⟩;rw[m.trees];refine U9 rfl (Calls.evalArgs_plain (T9 (Bk (he zd s1 σ H1 _ I1 q1) λiv s2 ⟨y,H2,I2,ry,q2⟩=>
  T9 (Bk (hf zd s2 σ H2 _ I2 q2) λfv s3 ⟨z,H3,I3,rz,kvs,k,ea,ey,q3,q4⟩=>Y4 ?_))))
 subst ey;cases l:Co kvs k with
 |some v=>exact ew_6 I3 ea ry l (.inr ⟨fv,rfl⟩) λw' s4 I4 rw'=>⟨v,_,I4,rw',q3 v l⟩
 |none=>exact eo_5 I3 ea ry l λs4 I4=>⟨z,H3,I4,rz,q4 l⟩
end
section
variable{X:Cx}{zd:AE}{σ:St}{H:Hp}{s:Shared}{a:Addr}{kvs:List (Av×V)}{A:Around}{E:AA}
end
section
variable{X:Cx}{zd:AE}{σ:St}{H:Hp}{s:Shared}{a:Addr}{y:V}{u:Value}{A:Around}{E:AA}
end
section
variable{X:Cx}
end
section
variable{κ:Type} [DecidableEq κ]
def dq_8{kvs:List (κ×V)}{k:κ}(h:Co kvs k=none):¬k∈kvs.map (·.1):=by
 intro m;obtain⟨p,hp,e⟩:=D0.mp m;have q:(kvs.any λkv=>decide (kv.1=k))=true:=R1.mpr ⟨p,hp,D9 e⟩;rw[bj_3,h]at q;exact absurd q (by simp)
def dh_8{p:κ×V}{r:List (κ×V)}{k:κ}(e:p.1=k):Hy (p::r) k=Hy r k:=by
 unfold Hy;rw[N4,if_neg (by simp[e])]
def bu_0{p:κ×V}{r:List (κ×V)}{k:κ}(e:¬p.1=k):Hy (p::r) k=p::Hy r k:=by
 unfold Hy;rw[N4,if_pos (by simp[e])]
theorem cg_6:∀{kvs:List (κ×V)} {k:κ},¬k∈kvs.map (·.1)->Hy kvs k=kvs
 | [],_,_=>rfl
 |p::r,k,h=>by
  have h':¬k∈r.map (·.1):=λm=>by
   obtain⟨q,hq,e⟩:=D0.mp m;exact h (D0.mpr ⟨q,B3.mpr (Or.inr hq),e⟩)
  rw[bu_0 λe=>h (D0.mpr ⟨p,B3.mpr (Or.inl rfl),e⟩),cg_6 h']
end
end L2
namespace L3
open PySem PySem.Spec PyProof.Rows L2
variable{K:Frag}{fd:FuncData}{mg:AB}{P:Program}{vs:List V}{us:List Value}{base:Heap}{H:Hp}{X:Cx}{pos:Pos}{v:V}
section
variable{X:Cx}
def Dr{EX:EXT}{G H:Hp}{Q:VK}{d:D}(o:Out K EX G H (.ok (.sh d)) Q)(g:Same G H)(r:Has K G v d):Q v H:=WP.use o g r
def ex_0(K:Frag):R2:=λx y H Q=>∃l b xs zs,x=.ref l/\y=.ref b/\SqL K H l xs/\SqL K H b zs/\xs.length + zs.length<=sizeLine/\∀p,H p=none->Q (.ref p) (upd H p (.lst (xs ++ zs)))
def ec_1:Ey X (binaryOp .Add) (ex_0 X.K):=by
 intro zd s σ H x y v u Q I rx ry h;obtain⟨l,b,xs,zs,rfl,rfl,hH,hB,hz,q⟩:=h;cases rx;cases ry;obtain⟨its,r,⟨o,n,e,c,dd,dat⟩,z⟩:=I.list hH;obtain⟨its2,r2,⟨o2,n2,e2,c2,dd2,dat2⟩,z2⟩:=I.list hB;have hl:=r.length;have hl2:=r2.length;obtain⟨cls,dd',data,sl⟩:=o;obtain⟨gv,gz,data2,sl2⟩:=o2;simp only at c dd dat c2 dd2 dat2;subst c dd dat c2 dd2 dat2;refine concat_meets ⟨_,e,rfl⟩ ⟨_,e2,rfl⟩ noFill_list_add seq_list_add PySem.F.slot_list_add PySem.F.entry_list_add (PySem.F.args_list_add_2 _ _) (list_addW l b its.toArray its2.toArray n n2 none none sl sl2 (by rw[B4,B4];omega)) ⟨e,e2, ?_⟩;have ea:its.toArray ++ its2.toArray=(its ++ its2).toArray:=by simp
 rw[ea];exact⟨.ref _,_,I.lnew (t':=s.toks) (r.append r2) (by rw[B6];omega),rfl,q _ I.fresh⟩
def Cc:D->D->R W
 | .int i,.int j=> .ok (.sh (.int (i + j)))
 | .str x,.str y=>if x.length + y.length<=16777216 then .ok (.sh (.str (x ++ y))) else .no
 | .lst a,.lst b=>if a.length + b.length<=16777216 then .ok (.ow (.lst (a ++ b))) else .no
 |_,_=> .no
def Df:Gn X (binaryOp .Add) Cc:=by
 intro zd s σ H x y v u Q I rx ry h;obtain⟨EX,G,a,b,g,ra,rb,o⟩:=h;cases ra with
 |int i=>
  cases rb with
  |int j=>exact em_9 zd s σ H _ _ _ _ Q I rx ry ⟨i,j,rfl,rfl,Dr o g (.int _)⟩
  |_=>exact False.elim o
 |str x=>
  cases rb with
  |str y=>
   simp only[Cc]at o
   split at o
   ·rename_i hz;exact cr_4 zd s σ H _ _ _ _ Q I rx ry ⟨x,y,rfl,rfl,by rw[E5];exact hz,Dr o g (.str _)⟩
   ·exact o.elim
  |_=>exact False.elim o
 |lst h1 r1=>
  cases rb with
  |lst h2 r2=>
   simp only[Cc]at o
   split at o
   ·rename_i hz;exact ec_1 zd s σ H _ _ _ _ Q I rx ry ⟨_,_,_,_,rfl,rfl,g.seq h1,g.seq h2,by rw[r1.length,r2.length,E5];exact hz,ac_6 o g (r1.append r2)⟩
   ·exact o.elim
  |_=>exact False.elim o
 |_=>cases rb <;> exact False.elim o
def intD(C:Int->Int->Bool)(f:Int->Int->Int):D->D->R W
 | .int i,.int j=>if C i j=true then .ok (.sh (.int (f i j))) else .no
 |_,_=> .no
def av_7{fn:Value->Value->Sem Value}{C:Int->Int->Bool}{P:Int->Int->Prop}{f:Int->Int->Int}(h:Ey X fn (rI P λi j=> .int (f i j)))(hC:∀i j,C i j=true->P i j):Gn X fn (intD C f):=by
 intro zd s σ H x y v u Q I rx ry q;obtain⟨EX,G,a,b,g,ra,rb,o⟩:=q;cases ra with
 |int i=>
  cases rb with
  |int j=>
   simp only[intD]at o
   split at o
   ·rename_i hc;exact h zd s σ H _ _ _ _ Q I rx ry ⟨i,j,rfl,rfl,hC i j hc,Dr o g (.int _)⟩
   ·exact o.elim
  |_=>exact False.elim o
 |_=>cases rb <;> exact False.elim o
def Es:D->D->R W:=intD (λ_ _=>true) (λi j=>i - j)
def Fk(i j:Int):Bool:=decide (i.natAbs < 18446744073709551616\/j.natAbs < 18446744073709551616)
def Ec:D->D->R W:=intD Fk (λi j=>i * j)
def divC(_ j:Int):Bool:=decide (0 < j/\j.natAbs < 1361129467683753853853498429727072845824)
def Do:D->D->R W:=intD divC (λi j=>i / j)
def modC(_ j:Int):Bool:=decide (0 < j)
def Er:D->D->R W:=intD modC (λi j=>i % j)
def powC(i j:Int):Bool:=decide (0<=j/\j.natAbs<=1000000/\i.natAbs < 18446744073709551616)
def powD:D->D->R W:=intD powC (λi j=>i ^ j.toNat)
def y_0:Gn X (binaryOp .Sub) Es:=av_7 (P:=λ_ _=>True) (opI λ_ _ _ _ _ _ _ _ q=>sub_int q) λ_ _ _=>trivial
def Go:Gn X (binaryOp .Mult) Ec:=av_7 en_0 λi j h=>by
 have h:=K0 h;rcases h with h|h
 ·exact .inl ⟨by omega,by omega⟩
 ·exact .inr ⟨by omega,by omega⟩
def q_7:Gn X (binaryOp .FloorDiv) Do:=av_7 (P:=λ_ j=>0 < j/\j.natAbs < 1361129467683753853853498429727072845824) (opI λi j _ _ _ _ _ hc q=>by
 have h1:(0:Int) < j:=hc.1;have h2:=hc.2;refine floordiv_int () ?_ (.inl (PyProof.noPylong_of_log2 ?_))
 ·rw[Int.fdiv_eq_ediv_of_nonneg i ()];exact q
 ·have:j.natAbs < 2 ^ 130:=by
   have e:(2:Nat) ^ 130=1361129467683753853853498429727072845824:=by decide
   omega
  have l:j.natAbs.log2 < 130:=(Nat.log2_lt ()).mpr this;omega) λi j h=>K0 h
def Ge:Gn X (binaryOp .Mod) Er:=av_7 en_1 λi j h=>K0 h
def ec_3{i j:Int}(h:powC i j=true):CPow i j:=by
 obtain⟨h1,h2,h3⟩:=K0 h;refine⟨h1,by omega, ?_⟩;have e:(2:Nat) ^ 64=18446744073709551616:=by decide
 omega
def bg_5:Gn X (binaryOp .Pow) powD:=av_7 en_2 λi j h=>ec_3 h
def cmpD(f:Int->Int->Bool):D->D->R W
 | .int i,.int j=> .ok (.sh (.bl (f i j)))
 |_,_=> .no
def bg_6{fn:Value->Value->Sem Value}{f:Int->Int->Bool}(h:Ey X fn (rI0 λi j=> .bl (f i j))):Gn X fn (cmpD f):=by
 intro zd s σ H x y v u Q I rx ry q;obtain⟨EX,G,a,b,g,ra,rb,o⟩:=q;cases ra with
 |int i=>
  cases rb with
  |int j=>exact h zd s σ H _ _ _ _ Q I rx ry ⟨i,j,rfl,rfl,Dr o g (.bl _)⟩
  |_=>exact False.elim o
 |_=>cases rb <;> exact False.elim o
def ltD:D->D->R W:=cmpD λi j=>decide (i < j)
def leD:D->D->R W:=cmpD λi j=>decide (i<=j)
def gtD:D->D->R W:=cmpD λi j=>decide (j < i)
def geD:D->D->R W:=cmpD λi j=>decide (j<=i)
def ah_7:Gn X (compareOp .Lt) ltD:=bg_6 ev_4
def bj_6:Gn X (compareOp .LtE) leD:=bg_6 ev_5
def az_8:Gn X (compareOp .Gt) gtD:=bg_6 ev_6
def eo_9:Gn X (compareOp .GtE) geD:=bg_6 ev_7
mutual
def Dx:D->PyData
 | .non=> .none
 | .bl b=> .bool b
 | .int i=> .int i
 | .str x=> .str x
 | .lst ds=> .list (Gy ds)
 | .tup ds=> .tuple (Gy ds)
 | .dic _=> .dict []
 | .exn _ _ _=> .dict []
 | .obj _ _ _=> .dict []
def Gy:List D->List PyData
 | []=> []
 |d::ds=>Dx d::Gy ds
end
mutual
theorem Has.reads(hK:X.K=K){zd:AE}{σ:Sg}{s:Shared}(I:Inv X zd σ H s){G:Hp}(g:Same G H):∀{v:V} {d:D} {u:Value},(Dx d).canLay0=true->Has K G v d->RelV v u->∃as,Reads s.heap u (Dx d) as
 |_,_,_,_,.non,r=>by cases r;exact⟨_,.none⟩
 |_,_,_,_,.bl b,r=>by cases r;exact⟨_,.bool b⟩
 |_,_,_,_,.int i,r=>by obtain⟨t,rfl⟩:=r;exact⟨_,.int i t⟩
 |_,_,_,_,.str x,r=>by obtain⟨t,rfl⟩:=r;exact⟨_,.str x t⟩
 |_,_,_,c,.lst h r,q=>by
  cases q;obtain⟨its,rv,⟨o,n,e,c',_,dat⟩,_⟩:=I.list (by rw[hK];exact g.seq h);obtain⟨as,z⟩:=HasL.reads hK I g c r rv;exact⟨_,.list e c' dat z⟩
 |_,_,_,c,.tup h r,q=>by
  cases q;obtain⟨its,rv,⟨o,e,c',n,dat⟩,_⟩:=I.tuple (by rw[hK];exact Same.tupS g h);obtain⟨as,z⟩:=HasL.reads hK I g c r rv;exact⟨_,.tuple e c' dat z⟩
 |_,_,_,c,.exn0 _ _,_=>absurd c A6
 |_,_,_,c,.exn1 _ _ _ _ _,_=>absurd c A6
 |_,_,_,c,.dic _ _ _,_=>absurd c A6
 |_,_,_,c,.obj _ _ _ _,_=>absurd c A6
theorem HasL.reads(hK:X.K=K){zd:AE}{σ:Sg}{s:Shared}(I:Inv X zd σ H s){G:Hp}(g:Same G H):∀{vs:List V} {ds:List D} {us:List Value},PyData.canLayAll0 (Gy ds)=true->HasL K G vs ds->Vals vs us->∃as,ReadsAll s.heap us (Gy ds) as
 |_,_,_,_,.nil,r=>by cases r;exact⟨_,.nil⟩
 |_,_,_,c,.cons h t,r=>by
  cases r with
  |cons r1 r2=>
   have c':(PyData.canLay0 (Dx _) && PyData.canLayAll0 (Gy _))=true:=c;rw[C4]at c';obtain⟨a1,z1⟩:=Has.reads hK I g c'.1 h r1;obtain⟨a2,z2⟩:=HasL.reads hK I g c'.2 t r2;exact⟨_,.cons z1 z2⟩
end
def eqC(a b:D):Bool:=(Dx a).canLay0 && (Dx b).canLay0 && decide ((Dx a).depth<=60)
def Fj(a b:D):Bool:=(Dx a).eqv (Dx b)
def By(a b:D):R W:=match a,b with
 | .str x,.str y=> .ok (.sh (.bl (decide (x=y))))
 |a,b=>if eqC a b=true then .ok (.sh (.bl (Fj a b))) else .no
def Fc(a b:D):R W:=match a,b with
 | .str x,.str y=> .ok (.sh (.bl (!decide (x=y))))
 |a,b=>if eqC a b=true then .ok (.sh (.bl (!Fj a b))) else .no
def cg_7(x y:Str):decide (V.str x=V.str y)=decide (x=y):=by
 by_cases e:x=y
 ·subst e;simp
 ·rw[D8 e,D8 (λz=>e (by injection z))]
def Dv(hu:X.A.units + 64 < cLine):Gn X (compareOp .Eq) By:=by
 intro zd s σ H x y v u Q I rx ry q;obtain⟨EX,G,a,b,g,ra,rb,o⟩:=q;unfold By at o
 split at o
 ·rename_i x y;cases ra;cases rb;exact ev_2 zd s σ H _ _ _ _ Q I rx ry ⟨rfl,by rw[cg_7];exact Dr o g (.bl _)⟩
 ·split at o
  ·rename_i hc;unfold eqC at hc;rw[C4,C4]at hc;obtain⟨⟨h1,h2⟩,h3⟩:=hc;have h3:=K0 h3;obtain⟨as,za⟩:=Has.reads rfl I g h1 ra rx;obtain⟨bs,zb⟩:=Has.reads rfl I g h2 rb ry;refine PySem.SeqAt.compareEq_reads za zb h1 h2 ?_ ⟨.bl _,H,I,rfl,Dr o g (.bl _)⟩;have:=ZA9 (Dx a).depth (Dx b).depth;omega
  ·exact o.elim
def al_7(hu:X.A.units + 64 < cLine):Gn X (compareOp .NotEq) Fc:=by
 intro zd s σ H x y v u Q I rx ry q;obtain⟨EX,G,a,b,g,ra,rb,o⟩:=q;unfold Fc at o
 split at o
 ·rename_i x y;cases ra;cases rb;exact ev_3 zd s σ H _ _ _ _ Q I rx ry ⟨rfl,by rw[cg_7];exact Dr o g (.bl _)⟩
 ·split at o
  ·rename_i hc;unfold eqC at hc;rw[C4,C4]at hc;obtain⟨⟨h1,h2⟩,h3⟩:=hc;have h3:=K0 h3;obtain⟨as,za⟩:=Has.reads rfl I g h1 ra rx;obtain⟨bs,zb⟩:=Has.reads rfl I g h2 rb ry;refine PySem.SeqAt.compareNe_reads za zb h1 h2 ?_ ⟨.bl _,H,I,rfl,Dr o g (.bl _)⟩;have:=ZA9 (Dx a).depth (Dx b).depth;omega
  ·exact o.elim
def Bd:D->Bool
 | .non=>true
 | .bl _=>true
 | .int _=>true
 | .str _=>true
 |_=>false
def flV:D->V
 | .bl b=> .bl b
 | .int i=> .int i
 | .str x=> .str x
 |_=> .non
def Has.fl{G:Hp}{d:D}(r:Has K G v d)(f:Bd d=true):v=flV d/\Hs v=true:=by
 cases r with
 |non=>exact⟨rfl,rfl⟩
 |bl b=>exact⟨rfl,rfl⟩
 |int i=>exact⟨rfl,rfl⟩
 |str x=>exact⟨rfl,rfl⟩
 |lst _ _=>cases f
 |tup _ _=>cases f
 |exn0 _ _=>cases f
 |exn1 _ _ _ _ _=>cases f
 |dic _ _ _=>cases f
 |obj _ _ _ _=>cases f
def Has.ofFl{G G':Hp}{d:D}(r:Has K G v d)(f:Bd d=true):Has K G' v d:=by
 cases r with
 |non=>exact .non
 |bl b=>exact .bl b
 |int i=>exact .int i
 |str x=>exact .str x
 |lst _ _=>cases f
 |tup _ _=>cases f
 |exn0 _ _=>cases f
 |exn1 _ _ _ _ _=>cases f
 |dic _ _ _=>cases f
 |obj _ _ _ _=>cases f
theorem HasL.fl{G:Hp}:∀{vs:List V} {ds:List D},HasL K G vs ds->ds.all Bd=true->vs=ds.map flV/\vs.all Hs=true
 |_,_,.nil,_=>⟨rfl,rfl⟩
 |_,_,.cons h r,f=>by
  rw[Q8,C4]at f;obtain⟨e1,e2⟩:=h.fl f.1;obtain⟨e3,e4⟩:=HasL.fl r f.2;exact⟨by rw[A9,<-e1,<-e3],by rw[Q8,e2,e4];rfl⟩
def eqF(a b:D):Bool:=eqV (flV a) (flV b)
def Dl(d:D)(ds:List D):Bool:=ds.any λy=>eqF y d
def da_3(d:D)(ds:List D):inV (flV d) (ds.map flV)=Dl d ds:=by
 unfold inV Dl;rw[List.any_map];rfl
def inD(neg:Bool):D->D->R W
 | .str i,.str j=> .ok (.sh (.bl (if neg then !(!(Builtin.Str.occurrences j i 0 j.length 1).isEmpty) else !(Builtin.Str.occurrences j i 0 j.length 1).isEmpty)))
 |d,.lst ds=>if(Bd d && ds.all Bd)=true then .ok (.sh (.bl (if neg then !Dl d ds else Dl d ds))) else .no
 |d,.tup ds=>if(Bd d && ds.all Bd)=true then .ok (.sh (.bl (if neg then !Dl d ds else Dl d ds))) else .no
 |_,_=> .no
def da_4{EX:EXT}{G H:Hp}{x y:V}{d:D}{e:D}{Q:VK}{neg:Bool}(g:Same G H)(ra:Has X.K G x d)(rb:Has X.K G y e)(hd:∀i j,d=.str i->e=.str j->False)(o:Out X.K EX G H (inD neg d e) Q):rIn X.K neg x y H Q:=by
 cases rb with
 |lst h r=>
  rename_i ds;have o':Out X.K EX G H (if(Bd d && ds.all Bd)=true then .ok (.sh (.bl (if neg then !Dl d ds else Dl d ds))) else .no) Q:=by
   cases d <;> exact o
  split at o'
  ·rename_i f;rw[C4]at f;obtain⟨e1,e2⟩:=ra.fl f.1;obtain⟨e3,e4⟩:=r.fl f.2;refine⟨_,_,rfl,.inl (g.seq h),e2,e4, ?_⟩;rw[e1,e3,da_3];exact Dr o' g (.bl _)
  ·exact o'.elim
 |tup h r=>
  rename_i ds;have o':Out X.K EX G H (if(Bd d && ds.all Bd)=true then .ok (.sh (.bl (if neg then !Dl d ds else Dl d ds))) else .no) Q:=by
   cases d <;> exact o
  split at o'
  ·rename_i f;rw[C4]at f;obtain⟨e1,e2⟩:=ra.fl f.1;obtain⟨e3,e4⟩:=r.fl f.2;refine⟨_,_,rfl,.inr (Same.tupS g h),e2,e4, ?_⟩;rw[e1,e3,da_3];exact Dr o' g (.bl _)
  ·exact o'.elim
 |str j=>
  cases d with
  |str i=>exact(hd i j rfl rfl).elim
  |_=>exact False.elim o
 |_=>cases d <;> exact False.elim o
def cs_6:Gn X (compareOp .In) (inD false):=by
 intro zd s σ H x y v u Q I rx ry q;obtain⟨EX,G,a,b,g,ra,rb,o⟩:=q
 by_cases hs:∃i j,a=.str i/\b=.str j
 ·obtain⟨i,j,rfl,rfl⟩:=hs;cases ra;cases rb;exact dg_5 zd s σ H _ _ _ _ Q I rx ry ⟨i,j,rfl,rfl,Dr o g (.bl _)⟩
 ·exact dh_1 zd s σ H _ _ _ _ Q I rx ry (da_4 g ra rb (λi j e1 e2=>hs ⟨i,j,e1,e2⟩) o)
def bu_1:Gn X (compareOp .NotIn) (inD true):=by
 intro zd s σ H x y v u Q I rx ry q;obtain⟨EX,G,a,b,g,ra,rb,o⟩:=q
 by_cases hs:∃i j,a=.str i/\b=.str j
 ·obtain⟨i,j,rfl,rfl⟩:=hs;cases ra;cases rb;exact by_7 zd s σ H _ _ _ _ Q I rx ry ⟨i,j,rfl,rfl,Dr o g (.bl _)⟩
 ·exact by_6 zd s σ H _ _ _ _ Q I rx ry (da_4 g ra rb (λi j e1 e2=>hs ⟨i,j,e1,e2⟩) o)
def Cf:List D->R W
 | [.str x]=>if x.length<=16777216 then .ok (.sh (.int x.length)) else .no
 | [.lst ds]=> .ok (.sh (.int ds.length))
 | [.tup ds]=> .ok (.sh (.int ds.length))
 |_=> .no
def Ef:Et X (.builtin "len") Cf:=by
 intro zd s σ H vs us Q I rv q;obtain⟨EX,G,ds,g,r,o⟩:=q;cases r with
 |nil=>exact False.elim o
 |cons h t=>
  cases t with
  |cons _ _=>cases h <;> exact False.elim o
  |nil=>
   cases h with
   |str x=>
    simp only[Cf]at o
    split at o
    ·rename_i hz;exact by_8 zd s σ H _ _ Q I rv ⟨x,rfl,by rw[E5];exact hz,Dr o g (.int _)⟩
    ·exact o.elim
   |lst h r=>exact av_4 zd s σ H _ _ Q I rv ⟨_,_,rfl,.inl (g.seq h),by rw[r.length];exact Dr o g (.int _)⟩
   |tup h r=>exact av_4 zd s σ H _ _ Q I rv ⟨_,_,rfl,.inr (Same.tupS g h),by rw[r.length];exact Dr o g (.int _)⟩
   |_=>exact False.elim o
def Ez:List D->R W
 | [.int i,.int j]=> .ok (.sh (.int (if j > i then j else i)))
 |_=> .no
def minD:List D->R W
 | [.int i,.int j]=> .ok (.sh (.int (if j < i then j else i)))
 |_=> .no
def cg_9{G:Hp}{ds:List D}(r:HasL K G vs ds){P:Prop}(h:∀i j,vs= [.int i,.int j]->ds= [.int i,.int j]->P)(n:(∀i j,ds≠ [.int i,.int j])->P):P:=by
 by_cases e:∃i j,ds= [.int i,.int j]
 ·obtain⟨i,j,rfl⟩:=e;cases r with
  |cons a t=>
   cases t with
   |cons b t2=>
    cases t2;cases a;cases b;exact h i j rfl rfl
 ·exact n λi j z=>e ⟨i,j,z⟩
def ec_4{ds:List D}(h:∀i j,ds≠ [.int i,.int j]):Ez ds=.no:=by
 unfold Ez
 split
 ·rename_i i j;exact absurd rfl (h i j)
 ·rfl
def ec_5{ds:List D}(h:∀i j,ds≠ [.int i,.int j]):minD ds=.no:=by
 unfold minD
 split
 ·rename_i i j;exact absurd rfl (h i j)
 ·rfl
def aa_6(hc:X.calm=true):Et X (.builtin "max") Ez:=by
 intro zd s σ H vs us Q I rv q;obtain⟨EX,G,ds,g,r,o⟩:=q;refine cg_9 r (λi j e1 e2=> ?_) λn=> ?_
 ·subst e1 e2;exact dg_6 hc zd s σ H _ _ Q I rv ⟨i,j,rfl,Dr o g (.int _)⟩
 ·rw[ec_4 n]at o;exact o.elim
def ba_1(hc:X.calm=true):Et X (.builtin "min") minD:=by
 intro zd s σ H vs us Q I rv q;obtain⟨EX,G,ds,g,r,o⟩:=q;refine cg_9 r (λi j e1 e2=> ?_) λn=> ?_
 ·subst e1 e2;exact dg_7 hc zd s σ H _ _ Q I rv ⟨i,j,rfl,Dr o g (.int _)⟩
 ·rw[ec_5 n]at o;exact o.elim
def Fa:List D->R W
 | [.int i]=> .ok (.sh (.int i))
 | [.bl k]=> .ok (.sh (.int (if k then 1 else 0)))
 |_=> .no
def at_1:Et X (.type "int") Fa:=by
 intro zd s σ H vs us Q I rv q;obtain⟨EX,G,ds,g,r,o⟩:=q;cases r with
 |nil=>exact False.elim o
 |cons h t=>
  cases t with
  |cons _ _=>cases h <;> exact False.elim o
  |nil=>
   cases h with
   |int i=>exact bs_6 zd s σ H _ _ Q I rv (.inl ⟨i,rfl,Dr o g (.int _)⟩)
   |bl k=>exact bs_6 zd s σ H _ _ Q I rv (.inr ⟨k,rfl,Dr o g (.int _)⟩)
   |_=>exact False.elim o
def da_5:List D->R W
 | [.int i]=>if i.natAbs.log2 < 1920 then .ok (.sh (.str (toString i))) else .no
 |_=> .no
def cs_7:Et X (.type "str") da_5:=by
 intro zd s σ H vs us Q I rv q;obtain⟨EX,G,ds,g,r,o⟩:=q;cases r with
 |nil=>exact False.elim o
 |cons h t=>
  cases t with
  |cons _ _=>cases h <;> exact False.elim o
  |nil=>
   cases h with
   |int i=>
    simp only[da_5]at o
    split at o
    ·rename_i hz;exact by_2 zd s σ H _ _ Q I rv ⟨i,rfl,hz,Dr o g (.str _)⟩
    ·exact o.elim
   |_=>exact False.elim o
def at_2:List D->R W
 | [.lst ds]=> .ok (.ow (.lst ds))
 | [.tup ds]=> .ok (.ow (.lst ds))
 |_=> .no
def al_8:Et X (.type "list") at_2:=by
 intro zd s σ H vs us Q I rv q;obtain⟨EX,G,ds,g,r,o⟩:=q;cases r with
 |nil=>exact False.elim o
 |cons h t=>
  cases t with
  |cons _ _=>cases h <;> exact False.elim o
  |nil=>
   cases h with
   |lst h r=>exact av_5 zd s σ H _ _ Q I rv ⟨_,_,rfl,.inl (g.seq h),ac_6 o g r⟩
   |tup h r=>exact av_5 zd s σ H _ _ Q I rv ⟨_,_,rfl,.inr (Same.tupS g h),ac_6 o g r⟩
   |_=>exact False.elim o
def dr_0:List D->R W
 | [.lst ds]=> .ok (.sh (.tup ds))
 | [.tup ds]=> .ok (.sh (.tup ds))
 |_=> .no
def cs_8:Et X (.type "tuple") dr_0:=by
 intro zd s σ H vs us Q I rv q;obtain⟨EX,G,ds,g,r,o⟩:=q;cases r with
 |nil=>exact False.elim o
 |cons h t=>
  cases t with
  |cons _ _=>cases h <;> exact False.elim o
  |nil=>
   cases h with
   |lst h r=>
    refine aq_6 zd s σ H _ _ Q I rv ⟨_,_,rfl,.inl ⟨g.seq h,λp hp=> ?_⟩⟩;exact o (.ref p) _ _ (Step.new g hp _) (.tup (SqT.of Ct) (r.mono (p_6 (g.free hp) _)))
   |tup h r=>exact aq_6 zd s σ H _ _ Q I rv ⟨_,_,rfl,.inr ⟨Same.tupS g h,Dr o g (.tup h r)⟩⟩
   |_=>exact False.elim o
end
structure RoomC(c:Bool)(k:Nat)(A:Around):Prop where
 hd:c=true->A.handled=none
 dp:A.depth + 3 * k + 5 < recursionLimit
 un:A.units + 16 * k + 200 < cLine
def RoomC.mono{c:Bool}{j k:Nat}{A:Around}(r:RoomC c k A)(h:j<=k):RoomC c j A:=⟨r.hd,by have:=r.dp;omega,by have:=r.un;omega⟩
theorem RoomC.deeper{c:Bool}{k:Nat}{A:Around}(r:RoomC c (k + 1) A)(env:Env):RoomC c k (A.deeper env):=
 ⟨r.hd,by have:=r.dp;show A.depth + 1 + 3 * k + 5 < _;omega,by have:=r.un;show A.units + 3 + 16 * k + 200 < _;omega⟩
def RoomC.make{c:Bool}{k:Nat}{A:Around}(r:RoomC c (k + 1) A)(C:Addr)(us:List Value)(kw:List (Str×Value)):RoomC c k (A.under (.builtin "type.__call__" ⟨.ref C::us,kw⟩)):=
 ⟨r.hd,by have:=r.dp;rw[cr_7];omega,by have:=r.un;rw[cr_8];omega⟩
def RoomC.loose{c:Bool}{k:Nat}{A:Around}(r:RoomC c k A):RoomC false k A:=⟨λz=>absurd z A6,r.dp,r.un⟩
theorem RoomC.mark{c:Bool}{k:Nat}{A:Around}(r:RoomC c k A)(h:Option Value):RoomC false k (A.mark h):=⟨λz=>absurd z A6,r.dp,r.un⟩
def RoomC.of{k:Nat}{A:Around}(r:Room k A):RoomC true k A:=⟨λ_=>r.hd,r.dp,r.un⟩
structure FnX(P:Program)(w:World)(K:Frag)(mg:AB)(base:Heap)(c:Bool)(k:Nat)(f:Addr)(fd:FuncData)(ps:List Str)(sp:Sp):Prop where
 len:∀vs H Q E,sp vs H Q E->vs.length=ps.length
 run:∀(A:Around) (outer:List Env) (s:Shared) (H:Hp) (args:Args) (us:List Value) (vs:List V) (Q:VK) (E:XK),RoomC c k A->Env0 P w K mg base A outer s H->BindsTo s fd args (ps.zip us)->Vals vs us->sp vs H Q E->
  codeAny (model P w) A (.call (.ref f) args) (CR (CXr P w) outer P w H s Q E) s
abbrev El(c:Bool)(P:Program)(w:World)(K:Frag)(mg:AB)(base:Heap)(N:List Str)(qual:Str)(scope:Scope)(f:Addr)(cd:Value)(A:Around)(outer:List Env)(s:Shared)(H:Hp)(E:XK):Cx:=
 {Gx (CXr P w) P w K mg base N qual scope f cd A outer s H E with calm:=c}
def bj_7{c:Bool}{w:World}{N ps:List Str}{qual:Str}{scope:Scope}{f:Addr}{cd:Value}{A:Around}{outer:List Env}{s s1:Shared}{E:XK}{vs:List V}
  (S:FnScope N ps scope) (hd:c=true->A.handled=none) (e0:Env0 P w K mg base A outer s H) (hl:vs.length=ps.length) (r:Vals vs us)
  (x:InCallC s s.heap.objs.size (bindL (envOfC qual scope s.heap.objs.size f cd).kindOf (ps.zip us) λ_=>none) (cellsFrom (s.heap.objs.size + 1) scope.names []) (bindC (envOfC qual scope s.heap.objs.size f cd).kindOf (ps.zip us) λ_=>none) s1):
  Inv (El c P w K mg base N qual scope f cd A outer s H E) [] (Fy N vs) H s1:=by
 have I:=dg_8 (CX:=CXr P w) (E:=E) (qual:=qual) (f:=f) (cd:=cd) (A:={A with handled:=none}) S rfl ⟨e0.frames,e0.mod,e0.bs,e0.bsz,e0.funs,e0.frf,e0.hok,e0.bare⟩ hl r x;exact⟨⟨I.ok.mod,I.ok.kind,I.ok.glob,I.ok.blt,I.ok.above,I.ok.inj,I.ok.has,I.ok.cab,hd,Around.frames_deeper e0.frames,I.ok.stk,I.ok.exf,I.ok.bs,I.ok.bsz,I.ok.noex,I.ok.exfs,I.ok.funs,I.ok.frf⟩,
  I.os,I.bare,I.base,I.loc,I.cell,I.free,I.freeC,I.pin,I.hok,I.len⟩
def ep_0{c:Bool}{w:World}{k:Nat}{f:Addr}{name qual:Str}{params:Arguments}{body:List Stmt}{scope:Scope}{dV kV doc pm zq ct oc:Value}{an od:Option Addr}
  {osl:Array (Option Value)} {N ps:List Str} {sp:Sp} (lk:K.lookup f=some ⟨oc,od,.func (fnOf name qual params body scope dV kV doc pm an zq ct),osl⟩) (hcd:codeIn K zq qual=true) (S:FnScope N ps scope)
  (len:∀vs H Q E,sp vs H Q E->vs.length=ps.length)
  (zk:∀(A:Around) (outer:List Env) (s:Shared) (H:Hp) (vs:List V) (Q:VK) (E:XK),RoomC c k (A.deeper (envOfC qual scope s.heap.objs.size f zq))->sp vs H Q E->
   ∃t,PSs (El c P w K mg base N qual scope f zq A outer s H E) body t/\t {nx:=λ_ H'=>Q .non H',rt:=Q} (Fy N vs) H):
  FnX P w K mg base c (k + 1) f (fnOf name qual params body scope dV kV doc pm an zq ct) ps sp:=by
 refine⟨len,λA outer s H args us vs Q E hr e0 hb r hsp=> ?_⟩;have hl:=len _ _ _ _ hsp;have KX:K.In s.heap:=e0.mod.kin.keeps λb o e=>(e0.bs b o e).1;have lim:s.heap.NoLimit:=e0.mod.nolimit.keeps λb o e=>(e0.bs b o e).1;have aw:∀y∈ps.zip us,scope.names.lookup y.1=some .local\/(scope.names.lookup y.1=some .cell/\((cellsFrom (s.heap.objs.size + 1) scope.names []).lookup y.1).isSome=true):=λ⟨n,v⟩ hy=>by
  rcases S.par n (W5 hy).1 with q|q
  ·exact .inl q
  ·exact .inr ⟨q,X3 _ _ _ (.inl q)⟩
 have dp:A.depth < recursionLimit:=by have:=hr.dp;omega
 refine codeAny_call_function dp (KX _ _ lk) rfl S.co S.gen rfl (codeRec_of KX hcd) (hb _ _ _ _ ?_);refine X6 S.kind aw λenv he s1 x=> ?_;subst he;refine⟨lim.keeps x.toInCall.keep,codeAny_func ?_⟩;obtain⟨t,ht,hq⟩:=zk A outer s H vs Q E (hr.deeper _) hsp;have I:Inv (El c P w K mg base N qual scope f zq A outer s H E) [] (Fy N vs) H s1:=bj_7 S hr.hd e0 hl r x;refine F1 (ht [] s1 (Fy N vs) H _ I hq) (λfl s' hs=> ?_) λe s' hs=>hs;have fin:∀{σ':Sg} {H':Hp} {v:V} {u:Value},Inv (El c P w K mg base N qual scope f zq A outer s H E) [] σ' H' s'->RelV v u->Q v H'->CE outer P w H s Q u s':=
  λ{σ' H' v u} J rv q=>⟨v,H',J.os,J.bare,J.base,J.hok,rv,q⟩
 cases fl with
 |ret u=>
  obtain⟨v,σ',H',J,rv,q⟩:=hs;exact fin J rv q
 |next=>
  obtain⟨σ',H',J,q⟩:=hs;exact fin (v:=V.non) (u:=Value.none) J rfl q
 |brk=>
  obtain⟨_,_,_,q⟩:=hs;exact False.elim q
 |cont=>
  obtain⟨_,_,_,q⟩:=hs;exact False.elim q
def Fun.okX{c:Bool}{w:World}{x qual:Str}{st:Stmt}{f:Addr}{N ps:List Str}{k:Nat}{sp:Sp}(F:Fun K x qual st f fd)(S:FnScope N ps (Ce st))(len:∀vs H Q E,sp vs H Q E->vs.length=ps.length)
  (zk:∀(zq:Value) (A:Around) (outer:List Env) (s:Shared) (H:Hp) (vs:List V) (Q:VK) (E:XK),RoomC c k (A.deeper (envOfC qual (Ce st) s.heap.objs.size f zq))->sp vs H Q E->
   ∃t,PSs (El c P w K mg base N qual (Ce st) f zq A outer s H E) (Fg st) t/\t {nx:=λ_ H'=>Q .non H',rt:=Q} (Fy N vs) H):FnX P w K mg base c (k + 1) f fd ps sp:=by
 obtain⟨oc,od,kV,doc,pm,an,zq,ct,osl,rfl,lk,hcd⟩:=F.ex;exact ep_0 lk hcd S len λA outer s H vs Q E hr hsp=>zk zq A outer s H vs Q E hr hsp
def Lk(X:Cx)(EX:Bt):Prop:=∀(zd:AE) (σ:Sg) (H:Hp) (s:Shared) (e:Value) (s':Shared),Inv X zd σ H s->CXr X.prog X.w X.stack H s (EXE X.K (EX σ)) e s'->X.xe e s'
def n_1:Lk X Di:=λzd σ H s e s' I c=>by
 obtain⟨a,C,dx,T,H',_,_,_,_,_,_,_,_,_,_,x,G,_,_,q⟩:=c;exact False.elim q
def bz_7{c:Bool}{w:World}{N:List Str}{qual:Str}{scope:Scope}{f:Addr}{cd:Value}{A:Around}{outer:List Env}{s:Shared}{E:XK}:
  Lk (El c P w K mg base N qual scope f cd A outer s H E) (λ_=>EXof K E):=λzd σ H s e s' I h=>dh_4 I h λcls dx H' q=>q.of
def Bh(K:Frag)(n:Nat)(F:AF):Sp:=λvs H Q E=>vs.length=n/\∃G ds,Same G H/\HasL K G vs ds/\Out K (EXof K E) G H (F ds) Q
def At(n:Nat)(F:AF)(fa:FA):FE:=λ δ=>(fa δ).bind λds=>if ds.length=n then F ds else .no
def FnD(P:Program)(w:World)(K:Frag)(mg:AB)(base:Heap)(c:Bool)(x:Str)(k:Nat)(ps:List Str)(F:AF):Prop:=
 ∃f fd,FnX P w K mg base c k f fd ps (Bh K ps.length F)/\mg x=some (.ref f)/\keepIn K (.ref f)=true/\Binds K fd ps []
section
variable{X:Cx}{EX:Bt}{e:Expr}{es:List Expr}{fa:FA}{x:Str}{pp pos:Pos}{c:Bool}{k k':Nat}{ps:List Str}{F:AF}
def av_9{zd:AE}{σ:Sg}{s:Shared}{Q:VK}{f:Addr}{sp:Sp}(F:FnX X.prog X.w X.K X.mg X.base c k f fd ps sp)(hr:RoomC c k X.A)(hb:Binds X.K fd ps [])(lk:Lk X EX)
  (I:Inv X zd σ H s) (r:Vals vs us) (h:sp vs H Q (EXE X.K (EX σ))):wpAny (model X.prog X.w) X.A (call (.ref f) us) (EP X zd σ Q) X.xe s:=by
 have hl:us.length=ps.length:=by rw[<-r.length];exact F.len _ _ _ _ h
 have hb':=hb s us I.kIn (by rw[F9];exact hl);rw[F9]at hb';refine R7 (T3 (F.run X.A X.stack s H ⟨us,[]⟩ us vs Q _ hr I.env0 hb' r h) λr s' hq=> ?_);cases r with
 |error e=>exact lk zd σ H s e s' I hq
 |ok fl=>
  cases fl with
  |ret u=>exact I.after hq
  |next=>exact False.elim hq
  |brk=>exact False.elim hq
  |cont=>exact False.elim hq
def Bb(hr:RoomC c k' X.A)(lk:Lk X EX)(h:FnD X.prog X.w X.K X.mg X.base c x k ps F)(ha:AD X EX (e::es) fa)(hk:k<=k':=by decide)(hg:Gl X x:=by rfl)(hdb:AG x:=by decide)
  (he:starEach (e::es) X.env=(false,eval e X.env)::starEach es X.env:=by rfl) (hpl:(backTo pos (starEach es X.env)).any (·.1)=false:=by rfl):
  ED X EX (.Call (.Name x pp) (e::es) [] pos) (At ps.length F fa):=by
 obtain⟨f,fd,ok,hm,kp,hb⟩:=h;intro zd s σ H Q I q;obtain⟨G,δ,g0,s0,o⟩:=q;refine L8 (x_9 I hg hm ?_ hdb);have ta:tDa X.K EX fa σ H λvs H1=>Bh X.K ps.length F vs H1 Q (EXE X.K (EX σ)):=by
  refine tDa.seq g0 s0 o λds vs G' H' _ st r o'=> ?_
  split at o'
  ·rename_i hl;refine⟨by rw[r.length];exact hl,G',ds,st.gh,r, ?_⟩;cases q:F ds with
   |ok w=>rw[q]at o';exact o'
   |ex x=>rw[q]at o';exact EXof.in o'
   |no=>rw[q]at o';exact o'.elim
  ·exact o'.elim
 refine T8 (h₀:=X.base) I.ok.mod.kin kp (Bk (ha pos zd s σ H _ I ta) λus s1 ⟨vs,H1,I1,r,q⟩=>⟨I1.kIn, ?_⟩) he hpl;exact av_9 ok (hr.mono hk) hb lk I1 r q
end
inductive Sl where
 |no|sh (d:D)|ow (d:D)|tr (t:Tn)|lk (d:D)|lt (t:Tn)
abbrev SE:=List Sl
inductive Fl where
 |nx (Δ:SE)|rt (w:W)|bk (Δ:SE)|ct (Δ:SE)|ex (x:Xn) (Δ:SE)|no
abbrev FS:=SE->Fl
def Sl.pub:Sl->Option D
 | .sh d=>some d
 |_=>none
def Sl.any:Sl->Option D
 | .sh d=>some d
 | .ow d=>some d
 | .tr t=>some t.d
 | .lk d=>some d
 | .lt t=>some t.d
 | .no=>none
def Sl.give:Sl->Sl
 | .ow d=> .sh d
 | .tr t=> .sh t.d
 |s=>s
def Sl.own:Sl->Option Tn
 | .ow d=>some (Tn.of d)
 | .tr t=>some t
 | .lk d=>some (Tn.of d)
 | .lt t=>some t
 |_=>none
def Bg(Δ:SE):DE:=Δ.map Sl.pub
def Aw(Δ:SE):DE:=Δ.map Sl.any
def gall(Δ:SE):SE:=Δ.map Sl.give
abbrev OS:=Nat->AS
structure HB where
 h:Hp
 b:Nat->Addr
structure Ev(K:Frag)(H0:HB)(G0 G H:Hp)(σ:Sg)(Δ:SE)(A:OS):Prop where
 st:Step G0 H0.h G H
 len:σ.length=Δ.length
 sh:∀(i:Nat) (d:D),Δ[i]? =some (.sh d)->∃v,σ[i]? =some (some v)/\Has K G v d
 ow:∀(i:Nat) (s:Sl) (t:Tn),Δ[i]? =some s->s.own=some t->∃v,σ[i]? =some (some v)/\Ow K G H v t (A i)
 out:∀(i:Nat) (a:Addr),A i a->G a=none/\H0.h a=none/\H a≠none
 dj:∀(i j:Nat) (a:Addr),A i a->A j a->i=j
 lk:∀(i:Nat) (d:D),Δ[i]? =some (.lk d)->σ[i]? =some (some (.ref (H0.b i)))
 lt:∀(i:Nat) (t:Tn),Δ[i]? =some (.lt t)->σ[i]? =some (some (.ref (H0.b i)))
def Cy(G H:Hp)(A:OS):Hp:=Ib G H λb=>∃i,A i b
structure MStep(S:AS)(G H G' H':Hp):Prop where
 hh:∀b o,¬S b->H b=some o->H' b=some o
 al:∀b,H b≠none->H' b≠none
 gh:Same G' H'
 gg:Same G G'
 nw:∀b,G b=none->H b≠none->G' b=none
structure MStep2(S:AS)(G H G' H':Hp):Prop where
 hh:∀b o,¬S b->H b=some o->H' b=some o
 gh:Same G' H'
 gg:Same G G'
 nw:∀b,¬S b->G b=none->H b≠none->G' b=none
def MStep.weak{S:AS}{G H G' H':Hp}(m:MStep S G H G' H'):MStep2 S G H G' H':=⟨m.hh,m.gh,m.gg,λb _=>m.nw b⟩
def Step.m{S:AS}{G H G' H':Hp}(s:Step G H G' H'):MStep S G H G' H':=⟨λb o _ q=>s.hh b o q,λb n z=>n (s.hh.free z),s.gh,s.gg,s.nw⟩
def MStep.andThen{S:AS}{G H G1 H1 G2 H2:Hp}(a:MStep S G H G1 H1)(b:Step G1 H1 G2 H2):MStep S G H G2 H2:=
 ⟨λc o n q=>b.hh c o (a.hh c o n q),λc n z=>a.al c n (b.hh.free z),b.gh,a.gg.trans b.gg,λc e n=>b.nw c (a.nw c e n) (a.al c n)⟩
def MStep.write{S:AS}{G H:Hp}(g:Same G H){a:Addr}(hs:S a)(n:G a=none)(o:HO):MStep S G H G (L2.upd H a o):=
 ⟨λb o' nb q=>by rw[Bm (λz=>nb (by rw[z];exact hs))];exact q,λb nb=>by
  by_cases z:b=a
  ·subst z;rw[Ct];simp
  ·rw[Bm z];exact nb,λb o' q=>by
  by_cases z:b=a
  ·subst z;rw[n]at q;cases q
  ·rw[Bm z];exact g b o' q,Same.refl _,λ_ e _=>e⟩
def setA(A:OS)(i:Nat)(S:AS):OS:=λj=>if j=i then S else A j
def n_4{A:OS}{i:Nat}{S:AS}:setA A i S i=S:=if_pos rfl
def n_2{A:OS}{i j:Nat}{S:AS}(h:j≠i):setA A i S j=A j:=if_neg h
section
variable{K:Frag}{H0:HB}{G0 G H G' H':Hp}{σ:Sg}{Δ:SE}{A:OS}
def Ev.gsh(E:Ev K H0 G0 G H σ Δ A):HasS K G σ (Bg Δ):=⟨by rw[E.len];unfold Bg;rw[A0],λi d q=>by
 unfold Bg at q;rw[A8]at q;cases e:Δ[i]? with
 |none=>rw[e]at q;cases q
 |some z=>
  rw[e]at q;cases z with
  |sh d'=>cases q;exact E.sh i d e
  |_=>cases q⟩
def Ev.aH(E:Ev K H0 G0 G H σ Δ A):Same (Cy G H A) H:=λb o q=>by
 unfold Cy Ib at q
 split at q
 ·exact q
 ·exact E.st.gh b o q
def Ev.aG(E:Ev K H0 G0 G H σ Δ A):Same G (Cy G H A):=λb o q=>by
 unfold Cy Ib
 split
 ·rename_i hb;obtain⟨i,hb⟩:=hb;rw[(E.out i b hb).1]at q;cases q
 ·exact q
def Ev.aStep(E:Ev K H0 G0 G H σ Δ A):Step G0 H0.h (Cy G H A) H:=
 ⟨E.st.hh,E.aH,E.st.gg.trans E.aG,λb n z=>by
  unfold Cy Ib
  split
  ·rename_i hb;obtain⟨i,hb⟩:=hb;exact absurd (E.out i b hb).2.1 z
  ·exact E.st.nw b n z⟩
def Ev.aIn{A:OS}{G H:Hp}{i:Nat}{b:Addr}{o:HO}(hb:A i b)(q:H b=some o):Cy G H A b=some o:=by
 unfold Cy Ib;rw[if_pos ⟨i,hb⟩];exact q
def Ev.gall(E:Ev K H0 G0 G H σ Δ A):HasS K (Cy G H A) σ (Aw Δ):=⟨by rw[E.len];unfold Aw;rw[A0],λi d q=>by
 unfold Aw at q;rw[A8]at q;cases e:Δ[i]? with
 |none=>rw[e]at q;cases q
 |some z=>
  rw[e]at q;cases z with
  |sh d'=>
   cases q;obtain⟨v,e1,r⟩:=E.sh i d e;exact⟨v,e1,r.mono E.aG⟩
  |ow d'=>
   cases q;obtain⟨v,e1,t⟩:=E.ow i _ _ e rfl;have r:=t.has E.aG λb o hb q=>Ev.aIn hb q;rw[Tn.of_d]at r;exact⟨v,e1,r⟩
  |tr t'=>
   cases q;obtain⟨v,e1,t⟩:=E.ow i _ _ e rfl;exact⟨v,e1,t.has E.aG λb o hb q=>Ev.aIn hb q⟩
  |lk d'=>
   cases q;obtain⟨v,e1,t⟩:=E.ow i _ _ e rfl;have r:=t.has E.aG λb o hb q=>Ev.aIn hb q;rw[Tn.of_d]at r;exact⟨v,e1,r⟩
  |lt t'=>
   cases q;obtain⟨v,e1,t⟩:=E.ow i _ _ e rfl;exact⟨v,e1,t.has E.aG λb o hb q=>Ev.aIn hb q⟩
  |no=>cases q⟩
def Ev.grow(E:Ev K H0 G0 G H σ Δ A)(s:Step G H G' H'):Ev K H0 G0 G' H' σ Δ A:=
 ⟨E.st.trans s,E.len,λi d e=>let⟨v,e1,r⟩:=E.sh i d e;⟨v,e1,r.mono s.gg⟩,λi z d e z'=>let⟨v,e1,t⟩:=E.ow i z d e z';⟨v,e1,t.mono s.gg (λb o _ q=>s.hh b o q) λ_ q=>q⟩,
  λi a ha=>let⟨h1,h2,h3⟩:=E.out i a ha;⟨s.nw a h1 h3,h2,λz=>h3 (s.hh.free z)⟩,E.dj,E.lk,E.lt⟩
def Ev.keep(E:Ev K H0 G0 G H σ Δ A)(s:Same H H'):Ev K H0 G0 G H' σ Δ A:=
 E.grow ⟨s,E.st.gh.trans s,Same.refl _,λ_ n _=>n⟩
def Hi{α:Type}{l:List α}{i j:Nat}{x y:α}(h:(l.set i x)[j]? =some y):(i=j/\y=x)\/(i≠j/\l[j]? =some y):=by
 by_cases e:i=j
 ·subst e;rw[List.getElem?_set]at h;simp only[if_true]at h
  split at h
  ·exact .inl ⟨rfl,(J8 h).symm⟩
  ·cases h
 ·rw[B9 e]at h;exact .inr ⟨e,h⟩
def cs_9{α:Type}{l:List α}{i:Nat}{x y:α}(h:(l.set i x)[i]? =some y):i < l.length:=by
 by_cases hh:i < l.length
 ·exact hh
 ·rw[J7 (by rw[F2];omega)]at h;cases h
def Ev.put(E:Ev K H0 G0 G H σ Δ A){i:Nat}{d:D}(r:Has K G v d):Ev K H0 G0 G H (σ.set i (some v)) (Δ.set i (.sh d)) A:=by
 refine⟨E.st,by rw[F2,F2];exact E.len,λj d' e=> ?_,λj z d' e zo=> ?_,E.out,E.dj,λj d' e=> ?_,λj d' e=> ?_⟩
 ·rcases Hi e with⟨rfl,q⟩|⟨n,q⟩
  ·cases q;exact⟨v,by rw[K1 (by rw[E.len];exact cs_9 e)],r⟩
  ·obtain⟨v',e1,r'⟩:=E.sh j d' q;exact⟨v',by rw[B9 n];exact e1,r'⟩
 ·rcases Hi e with⟨rfl,q⟩|⟨n,q⟩
  ·subst q;cases zo
  ·obtain⟨v',e1,t⟩:=E.ow j z d' q zo;exact⟨v',by rw[B9 n];exact e1,t⟩
 ·rcases Hi e with⟨rfl,q⟩|⟨n,q⟩
  ·cases q
  ·rw[B9 n];exact E.lk j d' q
 ·rcases Hi e with⟨rfl,q⟩|⟨n,q⟩
  ·cases q
  ·rw[B9 n];exact E.lt j d' q
def Ev.putO(E:Ev K H0 G0 G H σ Δ A){i:Nat}{z:Sl}{d:Tn}{S:AS}(fr:∀a,S a->H0.h a=none/\G a=none/\H a≠none)(zo:z.own=some d)(zl:∀d,z≠ .lk d)(t:Ow K G H v d S)(nw:∀j a,A j a->¬S a)(zt:∀d,z=.lt d->v=.ref (H0.b i):=by intro _ z;cases z):
  Ev K H0 G0 G H (σ.set i (some v)) (Δ.set i z) (setA A i S):=by
 refine⟨E.st,by rw[F2,F2];exact E.len,λj d' e'=> ?_,λj z' d' e' zo'=> ?_,λj a ha=> ?_,λj j' a h1 h2=> ?_,λj d' e'=> ?_,λj d' e'=> ?_⟩
 ·rcases Hi e' with⟨rfl,q⟩|⟨nn,q⟩
  ·subst q;cases zo
  ·obtain⟨v',e1,r'⟩:=E.sh j d' q;exact⟨v',by rw[B9 nn];exact e1,r'⟩
 ·rcases Hi e' with⟨rfl,q⟩|⟨nn,q⟩
  ·subst q;rw[zo]at zo';cases zo';exact⟨v,by rw[K1 (by rw[E.len];exact cs_9 e')],by rw[n_4];exact t⟩
  ·obtain⟨v',e1,x⟩:=E.ow j z' d' q zo';exact⟨v',by rw[B9 nn];exact e1,by rw[n_2 (Ne.symm nn)];exact x⟩
 ·by_cases z:j=i
  ·subst z;rw[n_4]at ha;obtain⟨a1,a2,a3⟩:=fr a ha;exact⟨a2,a1,a3⟩
  ·rw[n_2 z]at ha;exact E.out j a ha
 ·by_cases z:j=i
  ·by_cases z':j'=i
   ·rw[z,z']
   ·rw[z,n_4]at h1;rw[n_2 z']at h2;exact absurd h1 (nw j' a h2)
  ·by_cases z':j'=i
   ·rw[n_2 z]at h1;rw[z',n_4]at h2;exact absurd h2 (nw j a h1)
   ·rw[n_2 z]at h1;rw[n_2 z']at h2;exact E.dj j j' a h1 h2
 ·rcases Hi e' with⟨rfl,q⟩|⟨nn,q⟩
  ·exact absurd q.symm (zl d')
  ·rw[B9 nn];exact E.lk j d' q
 ·rcases Hi e' with⟨rfl,q⟩|⟨nn,q⟩
  ·rw[K1 (by rw[E.len];exact cs_9 e'),zt d' q.symm]
  ·rw[B9 nn];exact E.lt j d' q
def Ev.step2(E:Ev K H0 G0 G H σ Δ A){i:Nat}{z:Sl}{d':Tn}{S:AS}(zo:z.own=some d')(zl:∀d,z≠ .lk d)(zt:∀d,z=.lt d->σ[i]? =some (some (.ref (H0.b i))))(ms:MStep2 (A i) G H G' H')(s:σ[i]? =some (some v))(fr:∀a,S a->(A i a\/H a=none)/\G' a=none/\H' a≠none)(t:Ow K G' H' v d' S):
  Ev K H0 G0 G' H' σ (Δ.set i z) (setA A i S):=by
 have st:Step G0 H0.h G' H':=⟨λb o q=>ms.hh b o (λhb=>by rw[(E.out i b hb).2.1]at q;cases q) (E.st.hh b o q),ms.gh,E.st.gg.trans ms.gg,
  λb n z=>ms.nw b (λhb=>z (E.out i b hb).2.1) (E.st.nw b n z) λq=>z (E.st.hh.free q)⟩
 refine⟨st,by rw[F2];exact E.len,λj d2 e'=> ?_,λj z' d2 e' zo'=> ?_,λj a ha=> ?_,λj j' a h1 h2=> ?_,λj d2 e'=> ?_,λj d2 e'=> ?_⟩
 ·rcases Hi e' with⟨rfl,q⟩|⟨nn,q⟩
  ·subst q;cases zo
  ·obtain⟨v',e1,r'⟩:=E.sh j d2 q;exact⟨v',e1,r'.mono ms.gg⟩
 ·rcases Hi e' with⟨rfl,q⟩|⟨nn,q⟩
  ·subst q;rw[zo]at zo';cases zo';exact⟨v,s,by rw[n_4];exact t⟩
  ·obtain⟨v',e1,x⟩:=E.ow j z' d2 q zo';rw[n_2 (Ne.symm nn)];exact⟨v',e1,x.mono ms.gg (λb o hb q=>ms.hh b o (λhi=>nn (E.dj i j b hi hb)) q) λ_ q=>q⟩
 ·by_cases z:j=i
  ·subst z;rw[n_4]at ha;obtain⟨a1,a2,a3⟩:=fr a ha;refine⟨a2, ?_,a3⟩;rcases a1 with a1|a1
   ·exact(E.out j a a1).2.1
   ·exact E.st.hh.free a1
  ·rw[n_2 z]at ha;obtain⟨h1,h2,h3⟩:=E.out j a ha;have hn:¬A i a:=λhb=>z (E.dj j i a ha hb);refine⟨ms.nw a hn h1 h3,h2,λq=> ?_⟩;cases e:H a with
   |none=>exact h3 e
   |some o=>rw[ms.hh a o hn e]at q;cases q
 ·have own:∀k,k≠i->A k a->¬S a:=λk nk hk hs=>by
   rcases(fr a hs).1 with q|q
   ·exact nk (E.dj k i a hk q)
   ·exact(E.out k a hk).2.2 q
  by_cases z:j=i
  ·by_cases z':j'=i
   ·rw[z,z']
   ·rw[z,n_4]at h1;rw[n_2 z']at h2;exact absurd h1 (own j' z' h2)
  ·by_cases z':j'=i
   ·rw[n_2 z]at h1;rw[z',n_4]at h2;exact absurd h2 (own j z h1)
   ·rw[n_2 z]at h1;rw[n_2 z']at h2;exact E.dj j j' a h1 h2
 ·rcases Hi e' with⟨rfl,q⟩|⟨nn,q⟩
  ·exact absurd q.symm (zl d2)
  ·exact E.lk j d2 q
 ·rcases Hi e' with⟨rfl,q⟩|⟨nn,q⟩
  ·exact zt d2 q.symm
  ·exact E.lt j d2 q
def Ev.step(E:Ev K H0 G0 G H σ Δ A){i:Nat}{z:Sl}{d':Tn}{S:AS}(zo:z.own=some d')(zl:∀d,z≠ .lk d)(ms:MStep (A i) G H G' H')(s:σ[i]? =some (some v))(fr:∀a,S a->(A i a\/H a=none)/\G' a=none/\H' a≠none)(t:Ow K G' H' v d' S)(zt:∀d,z≠ .lt d:=by intro _ z;cases z):
  Ev K H0 G0 G' H' σ (Δ.set i z) (setA A i S):=E.step2 zo zl (λd e=>absurd e (zt d)) ms.weak s fr t
def Ev.writeL(E:Ev K H0 G0 G H σ Δ A){i:Nat}{a:Addr}{ds:List D}(s:σ[i]? =some (some (.ref a)))(m:A i a)(r:HasL K G vs ds):Ev K H0 G0 G (upd H a (.lst vs)) σ (Δ.set i (.ow (.lst ds))) (setA A i (A i)):=
 have ms:=MStep.write E.st.gh m (E.out i a m).1 (.lst vs)
 E.step rfl (λ_ z=>by cases z) ms s (λb hb=>⟨.inl hb,(E.out i b hb).1,ms.al b (E.out i b hb).2.2⟩) (Ow.list Ct m r)
def Ev.writeD(E:Ev K H0 G0 G H σ Δ A){i:Nat}{a:Addr}{kvs:List (Av×V)}{kds:List (Av×D)}(s:σ[i]? =some (some (.ref a)))(m:A i a)(hk:kvs.map (·.1)=kds.map (·.1))(r:HasL K G (kvs.map (·.2)) (kds.map (·.2))):Ev K H0 G0 G (upd H a (.dK kvs)) σ (Δ.set i (.ow (.dic kds))) (setA A i (A i)):=
 have ms:=MStep.write E.st.gh m (E.out i a m).1 (.dK kvs)
 E.step rfl (λ_ z=>by cases z) ms s (λb hb=>⟨.inl hb,(E.out i b hb).1,ms.al b (E.out i b hb).2.2⟩) (Ow.dict Ct hk m r)
end
def give1(Δ:SE)(j:Nat):SE:=match Δ[j]? with
 |some s=>Δ.set j s.give
 |none=>Δ
def gsome(js:List Nat)(Δ:SE):SE:=js.foldl give1 Δ
section
variable{K:Frag}{H0:HB}{G0 G H:Hp}{σ:Sg}{Δ:SE}{A:OS}
def af_6{α:Type}{l:List α}{j:Nat}{x:α}(h:l[j]? =some x):l.set j x=l:=by
 apply Y5;intro i
 by_cases e:j=i
 ·subst e;have hlt:j < l.length:=(A5.mp h).1;rw[K1 hlt,h]
 ·rw[B9 e]
def Ev.give3(E:Ev K H0 G0 G H σ Δ A){j:Nat}{z:Sl}{t:Tn}(e:Δ[j]? =some z)(zo:z.own=some t):Same G (Ib G H (A j))/\Ev K H0 G0 (Ib G H (A j)) H σ (Δ.set j (.sh t.d)) (setA A j λ_=>False):=by
   obtain⟨v,s1,t⟩:=E.ow j z t e zo;have sg:Same G (Ib G H (A j)):=λb o q=>by
    unfold Ib
    split
    ·rename_i hb;rw[(E.out j b hb).1]at q;cases q
    ·exact q
   have gh:Same (Ib G H (A j)) H:=λb o q=>by
    unfold Ib at q
    split at q
    ·exact q
    ·exact E.st.gh b o q
   refine⟨sg,⟨E.st.hh,gh,E.st.gg.trans sg,λb h1 h2=> ?_⟩,by rw[F2];exact E.len,λi d' e'=> ?_,λi z' d' e' zo'=> ?_,λi b hb=> ?_,λi i' b h1 h2=> ?_,λi d' e'=> ?_,λi d' e'=> ?_⟩
   ·unfold Ib
    split
    ·rename_i hb;exact absurd (E.out j b hb).2.1 h2
    ·exact E.st.nw b h1 h2
   ·rcases Hi e' with⟨rfl,q⟩|⟨n,q⟩
    ·cases q;refine⟨v,s1,t.has sg λb o hb q=> ?_⟩;unfold Ib;rw[if_pos hb];exact q
    ·obtain⟨v',e1,r⟩:=E.sh i d' q;exact⟨v',e1,r.mono sg⟩
   ·rcases Hi e' with⟨rfl,q⟩|⟨n,q⟩
    ·subst q;cases zo'
    ·obtain⟨v',e1,t'⟩:=E.ow i z' d' q zo';rw[n_2 (Ne.symm n)];exact⟨v',e1,t'.mono sg (λb o _ q=>q) λ_ q=>q⟩
   ·by_cases z:i=j
    ·subst z;rw[n_4]at hb;exact hb.elim
    ·rw[n_2 z]at hb;obtain⟨k1,k2,k3⟩:=E.out i b hb;refine⟨?_,k2,k3⟩;unfold Ib;rw[if_neg λq=>z (E.dj i j b hb q)];exact k1
   ·by_cases z:i=j
    ·subst z;rw[n_4]at h1;exact h1.elim
    ·by_cases z':i'=j
     ·subst z';rw[n_4]at h2;exact h2.elim
     ·rw[n_2 z]at h1;rw[n_2 z']at h2;exact E.dj i i' b h1 h2
   ·rcases Hi e' with⟨rfl,q⟩|⟨n,q⟩
    ·cases q
    ·exact E.lk i d' q
   ·rcases Hi e' with⟨rfl,q⟩|⟨n,q⟩
    ·cases q
    ·exact E.lt i d' q
def Ev.give2(E:Ev K H0 G0 G H σ Δ A){j:Nat}{z:Sl}{t:Tn}(e:Δ[j]? =some z)(zo:z.own=some t):∃G' A',Same G G'/\Ev K H0 G0 G' H σ (Δ.set j (.sh t.d)) A':=⟨_,_,E.give3 e zo⟩
theorem Ev.give1(E:Ev K H0 G0 G H σ Δ A)(j:Nat):∃G' A',Same G G'/\Ev K H0 G0 G' H σ (L3.give1 Δ j) A':=by
 unfold L3.give1;cases e:Δ[j]? with
 |none=>exact⟨G,A,Same.refl _,E⟩
 |some s=>
  cases s with
  |no=>exact⟨G,A,Same.refl _,by show Ev K H0 G0 G H σ (Δ.set j .no) A;rw[af_6 e];exact E⟩
  |sh d=>exact⟨G,A,Same.refl _,by show Ev K H0 G0 G H σ (Δ.set j (.sh d)) A;rw[af_6 e];exact E⟩
  |ow d=>
   have:=E.give2 e (t:=Tn.of d) rfl;rw[Tn.of_d]at this;exact this
  |tr t=>exact E.give2 e rfl
  |lk d=>exact⟨G,A,Same.refl _,by show Ev K H0 G0 G H σ (Δ.set j (.lk d)) A;rw[af_6 e];exact E⟩
  |lt t=>exact⟨G,A,Same.refl _,by show Ev K H0 G0 G H σ (Δ.set j (.lt t)) A;rw[af_6 e];exact E⟩
theorem Ev.gsome:∀(js:List Nat) {G:Hp} {Δ:SE} {A:OS},Ev K H0 G0 G H σ Δ A->∃G' A',Same G G'/\Ev K H0 G0 G' H σ (L3.gsome js Δ) A'
 | [],G,Δ,A,E=>⟨G,A,Same.refl _,E⟩
 |j::js,G,Δ,A,E=>by
  obtain⟨G1,A1,s1,E1⟩:=E.give1 j;obtain⟨G2,A2,s2,E2⟩:=Ev.gsome js E1;exact⟨G2,A2,s1.trans s2,E2⟩
end
def Fin(K:Frag)(EX:Bt)(H0:HB)(G0 G1:Hp)(D:Ends):Fl->Prop
 | .nx Δ=>∀σ G H O,Ev K H0 G0 G H σ Δ O->Same G1 G->D.nx σ H
 | .bk Δ=>∀σ G H O,Ev K H0 G0 G H σ Δ O->Same G1 G->D.bk σ H
 | .ct Δ=>∀σ G H O,Ev K H0 G0 G H σ Δ O->Same G1 G->D.ct σ H
 | .rt w=>WP K G0 H0.h w D.rt
 | .ex x Δ=>∀σ G H O,Ev K H0 G0 G H σ Δ O->Same G1 G->(EX σ).p x G H
 | .no=>False
def Fin.mono{EX:Bt}{H0:HB}{G0 G1 G2:Hp}{D:Ends}{r:Fl}(s:Same G1 G2)(h:Fin K EX H0 G0 G1 D r):Fin K EX H0 G0 G2 D r:=by
 cases r with
 |nx Δ=>exact λ σ G H O E q=>h σ G H O E (s.trans q)
 |bk Δ=>exact λ σ G H O E q=>h σ G H O E (s.trans q)
 |ct Δ=>exact λ σ G H O E q=>h σ G H O E (s.trans q)
 |rt w=>exact h
 |ex x Δ=>exact λ σ G H O E q=>h σ G H O E (s.trans q)
 |no=>exact h
def tS(K:Frag)(EX:Bt)(g:FS):TS:=λD σ H=>∃H0 G0 G Δ O,Ev K H0 G0 G H σ Δ O/\Fin K EX H0 G0 G D (g Δ)
abbrev SD(X:Cx)(EX:Bt)(st:Stmt)(g:FS):Prop:=PS X st (tS X.K EX g)
abbrev BD(X:Cx)(EX:Bt)(st:List Stmt)(g:FS):Prop:=PSs X st (tS X.K EX g)
section
variable{X:Cx}{EX:Bt}{st:Stmt}{sts:List Stmt}{g h:FS}{pos:Pos}{e:Expr}{f:FE}{p:FT}
def Ba:FS:=λ Δ=> .nx Δ
noncomputable def Af(g h:FS):FS:=λ Δ=>match g Δ with
 | .nx Δ'=>h Δ'
 |r=>r
def Cp:BD X EX [] Ba:=PSs.imp ea_2 λD σ H ⟨H0,G0,G,Δ,O,E,q⟩=>q σ G H O E (Same.refl _)
def Ap(h1:SD X EX st g):BD X EX [st] g:=av_1 h1
def As(h1:SD X EX st g)(h2:BD X EX sts h):BD X EX (st::sts) (Af g h):=
 PSs.imp (dn_8 h1 h2) λD σ H ⟨H0,G0,G,Δ,O,E,q⟩=>by
  refine⟨H0,G0,G,Δ,O,E, ?_⟩;unfold Af at q;cases e:g Δ with
  |nx Δ'=>rw[e]at q;exact λ σ' G' H' O' E' sm=>⟨H0,G0,G',Δ',O',E',Fin.mono sm q⟩
  |bk Δ'=>rw[e]at q;exact q
  |ct Δ'=>rw[e]at q;exact q
  |rt w=>rw[e]at q;exact q
  |ex x Δ'=>rw[e]at q;exact q
  |no=>rw[e]at q;exact q
def exG(js:List Nat)(f:FE)(Δ:SE):Fl:=match f (Bg (gsome js Δ)) with
 | .ex x=> .ex x (gsome js Δ)
 |_=> .no
def exT(js:List Nat)(p:FT)(Δ:SE):Fl:=match p (Bg (gsome js Δ)) with
 | .ex x=> .ex x (gsome js Δ)
 |_=> .no
def ch_0{H0:HB}{G0 G G1 H:Hp}{σ:Sg}{Δ:SE}{O:OS}{D:Ends}{js:List Nat}{Q:VK}(E:Ev K H0 G0 G H σ Δ O)(sg:Same G1 G)(q:Fin K EX H0 G0 G1 D (exG js f Δ)):tD K EX f σ H Q:=by
 obtain⟨G',O',s',E'⟩:=E.gsome js;refine⟨G',Bg (gsome js Δ),E'.st.gh,E'.gsh, ?_⟩;unfold exG at q;cases e:f (Bg (gsome js Δ)) with
 |ok w=>rw[e]at q;exact q.elim
 |ex x=>rw[e]at q;exact q σ G' H O' E' (sg.trans s')
 |no=>rw[e]at q;exact q.elim
def dr_1{H0:HB}{G0 G G1 H:Hp}{σ:Sg}{Δ:SE}{O:OS}{D:Ends}{js:List Nat}{Q:Bool->Hp->Prop}(E:Ev K H0 G0 G H σ Δ O)(sg:Same G1 G)(q:Fin K EX H0 G0 G1 D (exT js p Δ)):tDt K EX p σ H Q:=by
 obtain⟨G',O',s',E'⟩:=E.gsome js;refine⟨G',Bg (gsome js Δ),E'.st.gh,E'.gsh, ?_⟩;unfold exT at q;cases e:p (Bg (gsome js Δ)) with
 |ok w=>rw[e]at q;exact q.elim
 |ex x=>rw[e]at q;exact q σ G' H O' E' (sg.trans s')
 |no=>rw[e]at q;exact q.elim
noncomputable def Am(js:List Nat)(f:FE):FS:=λ Δ=>match f (Aw Δ) with
 | .ok w=> .rt w
 | .ex _=>exG js f Δ
 | .no=> .no
def Be(js:List Nat)(he:ED X EX e f):SD X EX (.Return (some e) pos) (Am js f):=
 PS.imp (cr_0 he) λD σ H ⟨H0,G0,G,Δ,O,E,q⟩=>by
  unfold Am at q;cases e1:f (Aw Δ) with
  |ok w=>
   rw[e1]at q;exact⟨Cy G H O,Aw Δ,E.aH,E.gall,by rw[e1];exact WP.mono E.aStep q⟩
  |ex x=>rw[e1]at q;exact ch_0 E (Same.refl _) q
  |no=>rw[e1]at q;exact q.elim
def Db(i:Nat):FS:=λ Δ=>match Δ[i]? with
 |some (.sh d)=> .rt (.sh d)
 |some (.ow d)=> .rt (.ow d)
 |some (.tr t)=> .rt (.tr t)
 |_=> .no
def w_0(i:Nat){x:Str}{pos pos':Pos}(hN:X.N[i]? =some x:=by rfl)(hv:Vis X.env.scope x:=by trivial)(hd:AG x:=by decide)
  (hcd:(x ==("__classdict__" :Str))=false:=by decide):SD X EX (.Return (some (.Name x pos)) pos') (Db i):=
 PS.imp (cr_0 (Gr hN hv hd hcd)) λD σ H ⟨H0,G0,G,Δ,O,E,q⟩=>by
  unfold Db at q
  split at q
  ·rename_i d e;obtain⟨v,e1,r⟩:=E.sh i d e;exact⟨v,e1,(WP.mono (w:=.sh d) (Q:=D.rt) E.st q).use E.st.gh r⟩
  ·rename_i d e;obtain⟨v,e1,t⟩:=E.ow i _ _ e rfl;exact⟨v,e1,q v (O i) G H E.st (λa ha=>let⟨h1,h2,h3⟩:=E.out i a ha;⟨h2,h1,h3⟩) t⟩
  ·rename_i d e;obtain⟨v,e1,t⟩:=E.ow i _ _ e rfl;exact⟨v,e1,q v (O i) G H E.st (λa ha=>let⟨h1,h2,h3⟩:=E.out i a ha;⟨h2,h1,h3⟩) t⟩
  ·exact q.elim
def Em(i:Nat)(Δ:SE):R W->Fl
 | .ok (.sh d)=> .nx (Δ.set i (.sh d))
 | .ok (.ow d)=> .nx (Δ.set i (.ow d))
 | .ok (.tr t)=> .nx (Δ.set i (.tr t))
 | .ex x=> .ex x Δ
 | .no=> .no
noncomputable def Al(i:Nat)(js:List Nat)(f:FE):FS:=λ Δ=>match f (Bg Δ) with
 | .ok (.sh d)=> .nx (Δ.set i (.sh d))
 | .ok (.ow d)=> .nx (Δ.set i (.ow d))
 | .ok (.tr t)=> .nx (Δ.set i (.tr t))
 | .ex x=> .ex x Δ
 | .no=>match f (Aw Δ) with
  | .ex _=>Em i (gsome js Δ) (f (Bg (gsome js Δ)))
  | .no=> .no
  | .ok w=>if Bd w.d=true then .nx (Δ.set i (.sh w.d)) else Em i (gsome js Δ) (f (Bg (gsome js Δ)))
def bg_7{H0:HB}{G0 G G1 H:Hp}{σ:Sg}{Δ:SE}{O:OS}{D:Ends}{i:Nat}(E:Ev K H0 G0 G H σ Δ O)(sg:Same G1 G)
  (q:Fin K EX H0 G0 G1 D (Em i Δ (f (Bg Δ)))):tAsg (tD K EX f) (cy_9 i) D σ H:=by
 refine⟨G,Bg Δ,E.st.gh,E.gsh, ?_⟩;unfold Em at q;cases e1:f (Bg Δ) with
 |ok w=>
  rw[e1]at q;cases w with
  |sh d=>exact λv G' H' st r=>q _ G' H' O ((E.grow st).put r) (sg.trans st.gg)
  |ow d=>
   intro v S G' H' st fr t;exact q _ G' H' _ ((E.grow st).putO (λa ha=>⟨E.st.hh.free (fr a ha).1,(fr a ha).2⟩) rfl (λ_ z=>by cases z) t λj a hj hs=>(E.out j a hj).2.2 (fr a hs).1) (sg.trans st.gg)
  |tr d=>
   intro v S G' H' st fr t;exact q _ G' H' _ ((E.grow st).putO (λa ha=>⟨E.st.hh.free (fr a ha).1,(fr a ha).2⟩) rfl (λ_ z=>by cases z) t λj a hj hs=>(E.out j a hj).2.2 (fr a hs).1) (sg.trans st.gg)
 |ex x=>rw[e1]at q;exact q σ G H O E sg
 |no=>rw[e1]at q;exact q
def ch_1{D:Ends}{σ:Sg}{i:Nat}{js:List Nat}(q:tS K EX (Al i js f) D σ H):tAsg (tD K EX f) (cy_9 i) D σ H:=by
 obtain⟨H0,G0,G,Δ,O,E,q⟩:=q;unfold Al at q;cases e1:f (Bg Δ) with
 |ok w=>
  rw[e1]at q;refine bg_7 E (Same.refl _) ?_;unfold Em;rw[e1];cases w <;> exact q
 |ex x=>
  rw[e1]at q;refine bg_7 E (Same.refl _) ?_;unfold Em;rw[e1];exact q
 |no=>
  rw[e1]at q;cases e2:f (Aw Δ) with
  |ok w=>
   simp only[e2]at q
   split at q
   ·rename_i fl;refine⟨Cy G H O,Aw Δ,E.aH,E.gall, ?_⟩;rw[e2];exact WP.intro λv G' H' st r=>q _ G H' O ((E.keep st.hh).put (r.ofFl fl)) (Same.refl _)
   ·obtain⟨G',O',sg,E'⟩:=E.gsome js;exact bg_7 E' sg q
  |ex x=>
   simp only[e2]at q;obtain⟨G',O',sg,E'⟩:=E.gsome js;exact bg_7 E' sg q
  |no=>simp only[e2]at q;exact q.elim
def Bl{i:Nat}(js:List Nat){x:Str}{pos':Pos}(he:ED X EX e f)(hN:X.N.Nodup)(hi:X.N[i]? =some x:=by rfl)(hx:Loc X.env.scope x:=by trivial)(hs:swapsWith e (some (.Name x pos')) pos.line X.env=pure false:=by rfl)
  (hf:X.fn x=true\/X.env.scope.names.lookup x=some .local:=by trivial):SD X EX (.Assign [.Name x pos'] e pos) (Al i js f):=
 PS.imp (cr_1 hN hi hx he hs hf) λD σ H q=>ch_1 q
def Bj(js:List Nat)(f:FE):FS:=λ Δ=>match f (Aw Δ) with
 | .ok _=> .nx Δ
 | .ex _=>exG js f Δ
 | .no=> .no
def l_2(js:List Nat)(he:ED X EX e f)(hs:swapsWith e none pos.line X.env=pure false:=by rfl):SD X EX (.Expr e pos) (Bj js f):=
 PS.imp (ao_9 he hs) λD σ H ⟨H0,G0,G,Δ,O,E,q⟩=>by
  unfold Bj at q;cases e1:f (Aw Δ) with
  |ok w=>
   rw[e1]at q;exact⟨Cy G H O,Aw Δ,E.aH,E.gall,by rw[e1];exact WP.intro λv G' H' st r=>q σ G H' O (E.keep st.hh) (Same.refl _)⟩
  |ex x=>rw[e1]at q;exact ch_0 E (Same.refl _) q
  |no=>rw[e1]at q;exact q.elim
def Bq(js:List Nat)(p:FT)(g h:FS):FS:=λ Δ=>match p (Aw Δ) with
 | .ok b=>if b=true then g Δ else h Δ
 | .ex _=>exT js p Δ
 | .no=> .no
def bu_2{H0:HB}{G0 G H:Hp}{σ:Sg}{Δ:SE}{O:OS}{D:Ends}{k:Bool->Fl}{P:Bool->Hp->Prop}{js:List Nat}(E:Ev K H0 G0 G H σ Δ O)
  {G1:Hp} (sg:Same G1 G) (q:Fin K EX H0 G0 G1 D (match p (Aw Δ) with| .ok b=>k b| .ex _=>exT js p Δ| .no=> .no)) (i:∀b H',p (Aw Δ)=.ok b->Ev K H0 G0 G H' σ Δ O->Fin K EX H0 G0 G1 D (k b)->P b H'):tDt K EX p σ H P:=by
 cases e1:p (Aw Δ) with
 |ok b=>rw[e1]at q;exact⟨Cy G H O,Aw Δ,E.aH,E.gall,by rw[e1];exact λG' H' st=>i b H' e1 (E.keep st.hh) q⟩
 |ex x=>rw[e1]at q;exact dr_1 E sg q
 |no=>rw[e1]at q;exact q.elim
def Bv(js:List Nat){c:Expr}{as bs:List Stmt}(hc:TD X EX c p)(ha:BD X EX as g)(hb:BD X EX bs h):SD X EX (.If c as bs pos) (Bq js p g h):=
 PS.imp (eu_7 hc ha hb) λD σ H ⟨H0,G0,G,Δ,O,E,q⟩=>bu_2 (k:=λb=>if b=true then g Δ else h Δ) E (Same.refl _) q λb H' _ E' q'=>by
  cases b with
  |true=>rw[if_pos rfl];exact⟨H0,G0,G,Δ,O,E',q'⟩
  |false=>rw[if_neg A6];exact⟨H0,G0,G,Δ,O,E',q'⟩
def Hu(js:List Nat)(p:FT)(g:FS):Nat->FS
 |0=>λ_=> .no
 |n + 1=>λ Δ=>match p (Aw Δ) with
  | .ok b=>if b=true then(match g Δ with
    | .nx Δ'=>Hu js p g n Δ'
    | .ct Δ'=>Hu js p g n Δ'
    | .bk Δ'=> .nx Δ'
    |r=>r) else .nx Δ
  | .ex _=>exT js p Δ
  | .no=> .no
def ch_2(js:List Nat)(n:Nat){c:Expr}{body:List Stmt}(hp:PassesOwn (model X.prog X.w) X.A X.env X.xe)(hc:TD X EX c p)(hb:BD X EX body g):SD X EX (.While c body [] pos) (Hu js p g n):=
 PS.imp (do_0 hp hc hb) λD σ H ⟨H0,G0,G1,Δ,O,E,q⟩=>by
  refine⟨λm σ H=>∃G Δ O,Ev X.K H0 G0 G H σ Δ O/\Same G1 G/\Fin X.K EX H0 G0 G1 D (Hu js p g m Δ),⟨n,G1,Δ,O,E,Same.refl _,q⟩, ?_⟩
  rintro m σ H ⟨G,Δ,O,E,sg,q⟩
  cases m with
  |zero=>exact False.elim q
  |succ m=>
   refine bu_2 (k:=λb=>if b=true then(match g Δ with| .nx Δ'=>Hu js p g m Δ'| .ct Δ'=>Hu js p g m Δ'| .bk Δ'=> .nx Δ'|r=>r) else .nx Δ) E sg q λb H' _ E' q'=> ?_;cases b with
   |false=>rw[if_neg A6];exact q' σ G H' O E' sg
   |true=>
    rw[if_pos rfl];rw[if_pos rfl]at q';refine⟨λ σ' H'=>∃G Δ O,Ev X.K H0 G0 G H' σ' Δ O/\Same G1 G/\Fin X.K EX H0 G0 G1 D (Hu js p g m Δ),λ σ' H' w=>⟨m,P7 _,w⟩,H0,G0,G,Δ,O,E', ?_⟩;cases e1:g Δ with
    |nx Δ'=>rw[e1]at q';exact λ σ' G' H' O' E2 s2=>⟨G',Δ',O',E2,sg.trans s2,q'⟩
    |ct Δ'=>rw[e1]at q';exact λ σ' G' H' O' E2 s2=>⟨G',Δ',O',E2,sg.trans s2,q'⟩
    |bk Δ'=>rw[e1]at q';exact Fin.mono (r:=.nx Δ') sg q'
    |rt w=>rw[e1]at q';exact q'
    |ex x Δ'=>rw[e1]at q';exact Fin.mono (r:=.ex x Δ') sg q'
    |no=>rw[e1]at q';exact q'
end
def Ar(n:Nat)(ds:List D):SE:=ds.map Sl.sh ++ List.replicate (n - ds.length) .no
noncomputable def Ag(n:Nat)(g:FS)(ds:List D):R W:=match g (Ar n ds) with
 | .nx _=> .ok (.sh .non)
 | .rt w=> .ok w
 | .ex x _=> .ex x
 |_=> .no
def ch_3{G H:Hp}{ds:List D}{N:List Str}(g:Same G H)(r:HasL K G vs ds):Ev K ⟨H,λ_=>0⟩ G G H (Fy N vs) (Ar N.length ds) (λ_ _=>False):=by
 refine⟨Step.refl g, ?_,λi d e=> ?_,λi z d e zo=> ?_,λ_ _ ha=>ha.elim,λ_ _ _ ha=>ha.elim,λi d e=> ?_,λi d e=> ?_⟩
 ·unfold Fy Ar;simp only[B6,A0,K3,r.length]
 ·unfold Ar at e
  by_cases hi:i < ds.length
  ·rw[B7 (by rw[A0];exact hi),A8]at e;cases q:ds[i]? with
   |none=>rw[q]at e;cases e
   |some d'=>
    rw[q]at e;cases e;obtain⟨v,e1,h⟩:=r.get q;refine⟨v, ?_,h⟩;unfold Fy;rw[B7 (by rw[A0,r.length];exact hi),A8,e1];rfl
  ·rw[D6 (by rw[A0];omega),E8]at e
   split at e <;> cases e
 ·exfalso;unfold Ar at e
  by_cases hi:i < ds.length
  ·rw[B7 (by rw[A0];exact hi),A8]at e;cases q:ds[i]? with
   |none=>rw[q]at e;cases e
   |some d'=>rw[q]at e;cases e;cases zo
  ·rw[D6 (by rw[A0];omega),E8]at e
   split at e
   ·cases e;cases zo
   ·cases e
 ·exfalso;unfold Ar at e
  by_cases hi:i < ds.length
  ·rw[B7 (by rw[A0];exact hi),A8]at e;cases q:ds[i]? with
   |none=>rw[q]at e;cases e
   |some d'=>rw[q]at e;cases e
  ·rw[D6 (by rw[A0];omega),E8]at e
   split at e <;> cases e
 ·exfalso;unfold Ar at e
  by_cases hi:i < ds.length
  ·rw[B7 (by rw[A0];exact hi),A8]at e;cases q:ds[i]? with
   |none=>rw[q]at e;cases e
   |some d'=>rw[q]at e;cases e
  ·rw[D6 (by rw[A0];omega),E8]at e
   split at e <;> cases e
def fn_D{c:Bool}{w:World}{x qual:Str}{st:Stmt}{f:Addr}{N ps:List Str}{k:Nat}{g:FS}(F:Fun K x qual st f fd)(S:FnScope N ps (Ce st))
  (zk:∀(zq:Value) (A:Around) (outer:List Env) (s:Shared) (H:Hp) (E:XK),RoomC c k (A.deeper (envOfC qual (Ce st) s.heap.objs.size f zq))->
   BD (El c P w K mg base N qual (Ce st) f zq A outer s H E) (λ_=>EXof K E) (Fg st) g):FnX P w K mg base c (k + 1) f fd ps (Bh K ps.length (Ag N.length g)):=by
 refine Fun.okX F S (λvs H Q E h=>h.1) λzq A outer s H vs Q E hr h=>⟨_,zk zq A outer s H E hr, ?_⟩;obtain⟨hl,G,ds,g0,r,o⟩:=h;refine⟨⟨H,λ_=>0⟩,G,G,_,_,ch_3 g0 r, ?_⟩;unfold Ag at o;cases e:g (Ar N.length ds) with
 |nx Δ=>rw[e]at o;exact λ σ G' H' O E' _=>(WP.mono (w:=.sh .non) (Q:=Q) E'.st o).use E'.st.gh .non
 |rt w=>rw[e]at o;exact o
 |ex x Δ=>rw[e]at o;exact λ σ G' H' O E' _=>(EXof K E).mono _ _ _ _ _ E'.st o
 |bk Δ=>rw[e]at o;exact o.elim
 |ct Δ=>rw[e]at o;exact o.elim
 |no=>rw[e]at o;exact o
def ep_1{c:Bool}{w:World}{x:Str}{st:Stmt}{f:Addr}{ps:List Str}{k:Nat}{Fn:AF}(F:Fun K x x st f fd)(hm:mg x=some (.ref f))(hb:Binds K fd ps [])
  (ok:FnX P w K mg base c k f fd ps (Bh K ps.length Fn)):FnD P w K mg base c x k ps Fn:=⟨f,fd,ok,hm,F.kp,hb⟩
def dr_2(x:Str):It:=⟨λi _=>i < x.cps.size,λi H v H'=>H'=H/\∃c,x.cps[i]? =some c/\v=.str ⟨#[c]⟩,λi _=>i=x.cps.size⟩
def ct_0{w:World}{tg:Expr}{it:Addr}{n:Nat}{Pv:Nat->Value->Prop}{St:Nat->Heap->Prop}{J:It}
  (W:∀A':Around,A'.handled=none->Walks P w A' it [it] [it] n Pv St)
  (bb:∀i h,St i h->∃o nm vs,h.get? it=some o/\o.cls=.type nm/\o.data=.fields vs/\ ["enumerate","zip","dict_itemiterator","dict_reverseitemiterator","odict_iterator","itertools.zip_longest","itertools.pairwise"].contains nm=false)
  (cj:∀(i:Nat) (h h':Heap),St i h->(∀b∈ [it],∀o,h.get? b=some o->h'.get? b=some o)->St i h') (cb:∀(A:Around) (i:Nat) (s:Shared) (Q E:AA),St i s.heap->Q (.ref it) s->wpAny (model P w) A (pyIter (.ref it)) Q E s)
  (hgo:∀i H,J.go i H->i < n) (hst:∀i H,J.stop i H->i=n) (hy:∀i H u,Pv i u->∃x,RelV x u/\J.yld i H x H):Turn P w K tg J [it] it St where
 mem:=by simp
 obj:=λi h st b hb=>by
  have e:b=it:=by simpa using hb
  subst e;obtain⟨o,nm,vs,e,c,d,_⟩:=bb i h st;exact⟨o,e,λv z=>by rw[d]at z;cases z⟩
 keep:=cj
 item:=by
  intro X hP hw hK hc i zd s σ H E I hf st hg;subst hP hw hK;obtain⟨f0,f1,f2,f3,f4,f5⟩:=hf it (by simp);refine(W X.A (I.ok.hd hc)).item i s _ _ (hgo i H hg) st λv h' tk hv st' kk=> ?_;have I1:Inv X zd σ H {s with heap:=h',toks:=tk}:=I.turned (λb o hb e=>kk b o (by simpa using hb) e) f0 f1 f3 f4 f5;obtain⟨x,rx,yx⟩:=hy i H v hv;obtain⟨o,nm,vs,e,c,d,hn⟩:=bb (i + 1) h' st';exact⟨v,rfl,bs_5 (s:={s with heap:=h',toks:=tk}) e c d hn ⟨x,H,I1,rx,yx,st',λb hb=>(hf b hb).1⟩⟩
 done:=by
  intro X hP hw hK hc i zd s σ H E I hf st hg;subst hP hw hK;obtain⟨f0,f1,f2,f3,f4,f5⟩:=hf it (by simp);obtain rfl:=hst i H hg;exact(W X.A (I.ok.hd hc)).done s _ _ st λh' tk kk=>⟨rfl,I.turned (λb o hb e=>kk b o (by simpa using hb) e) f0 f1 f3 f4 f5⟩
 self:=cb
def ItD(K:Frag)(G1:Hp)(J:It)(ds:List D):Prop:=∀G H,Same G1 G->Same G H->∀i,
 (∀d,ds[i]? =some d->J.go i H/\∀x H',J.yld i H x H'->∃G',Step G H G' H'/\Has K G' x d)/\(ds.length=i->J.stop i H)
abbrev FI:=DE->R (List D)
def tI(K:Frag)(EX:Bt)(fi:FI):TI:=λ σ H Q=>∃G δ,Same G H/\HasS K G σ δ/\match fi δ with
 | .ok ds=>∀J G' H',Step G H G' H'->ItD K G' J ds->Q J H'
 | .ex x=>(EX σ).p x G H
 | .no=>False
abbrev ID(X:Cx)(EX:Bt)(tg iter:Expr)(fi:FI):Prop:=PI X tg iter (tI X.K EX fi)
def PI.imp{tg e:Expr}{t t':TI}(h:PI X tg e t)(i:∀σ H Q,t' σ H Q->t σ H Q):PI X tg e t':=λzd s σ H Q I q=>h zd s σ H Q I (i σ H Q q)
section
variable{X:Cx}{EX:Bt}{tg e a b:Expr}{f:FE}{fa:FA}{p pos:Pos}
def tDa.seqI{G H:Hp}{σ:Sg}{δ:DE}{k:List D->R (List D)}{Q:It->Hp->Prop}{P:List V->Hp->Prop}(g:Same G H)(s:HasS K G σ δ)
  (h:match(fa δ).bind k with| .ok ds=>∀J G' H',Step G H G' H'->ItD K G' J ds->Q J H'| .ex x=>(EX σ).p x G H| .no=>False)
  (i:∀ds vs G' H',Step G H G' H'->HasL K G' vs ds->(match k ds with| .ok ds=>∀J G2 H2,Step G' H' G2 H2->ItD K G2 J ds->Q J H2| .ex x=>(EX σ).p x G' H'| .no=>False)->P vs H'):tDa K EX fa σ H P:=by
 refine⟨G,δ,g,s, ?_⟩;cases e:fa δ with
 |ok ds=>
  rw[e]at h;simp only[R.bind_ok]at h;refine λvs G' H' st r=>i ds vs G' H' st r ?_;cases e2:k ds with
  |ok ds'=>rw[e2]at h;exact λJ G2 H2 st2 it=>h J G2 H2 (st.trans st2) it
  |ex x=>rw[e2]at h;exact(EX σ).mono _ _ _ _ _ st h
  |no=>rw[e2]at h;exact h
 |ex x=>rw[e]at h;exact h
 |no=>rw[e]at h;exact h
def De(lo:Int)(n:Nat):List D:=(List.range n).map λ(k:Nat)=>D.int (lo + (k:Int))
def ba_2{lo:Int}{n i:Nat}{d:D}(h:(De lo n)[i]? =some d):i < n/\d=.int (lo + (i:Int)):=by
 unfold De at h;rw[A8]at h
 by_cases hi:i < n
 ·rw[M7 hi]at h;cases h;exact⟨hi,rfl⟩
 ·rw[J7 (by rw[J0];omega)]at h;cases h
def q_3(lo:Int)(n:Nat):(De lo n).length=n:=by unfold De;rw[A0,J0]
def bu_3{G:Hp}(lo:Int)(n:Nat):ItD K G (Itr lo n) (De lo n):=λG' H _ g i=>by
 refine⟨λd e=> ?_,λe=> ?_⟩
 ·obtain⟨hi,rfl⟩:=ba_2 e;refine⟨hi,λx H' y=> ?_⟩;obtain⟨e1,e2⟩:=y;subst e1 e2;exact⟨G',Step.refl g,.int _⟩
 ·rw[q_3]at e;exact U8 e
def Dd:List D->R (List D)
 | [.int j]=>if j.natAbs < 4611686018427387904 then .ok (De 0 j.toNat) else .no
 |_=> .no
def Bf(k:List D->R (List D))(fa:FA):FI:=λ δ=>(fa δ).bind k
def n_5(hm:X.mg "range" =none)(ha:AD X EX [a] fa)(hg:Gl X "range" :=by rfl)(hs:starEach [a] X.env= [(false,eval a X.env)]:=by rfl):ID X EX tg (.Call (.Name "range" p) [a] [] pos) (Bf Dd fa):=
 PI.imp (dg_3 hg hm ha hs) λ σ H Q ⟨G,δ,g0,s0,o⟩=>tDa.seqI g0 s0 o λds vs G' H' st r o'=>by
  cases r with
  |nil=>exact False.elim o'
  |cons h t=>
   cases t with
   |cons _ _=>cases h <;> exact False.elim o'
   |nil=>
    cases h with
    |int j=>
     by_cases hc:j.natAbs < 4611686018427387904
     ·rw[show Dd [.int j]=.ok (De 0 j.toNat) from if_pos hc]at o';exact⟨j,rfl,by omega,by omega,o' _ G' H' (Step.refl st.gh) (bu_3 0 j.toNat)⟩
     ·rw[show Dd [.int j]=.no from if_neg hc]at o';exact o'.elim
    |_=>exact False.elim o'
def Hl(x:Str):List D:=x.cps.toList.map λc=> .str ⟨#[c]⟩
def Gv:D->R (List D)
 | .lst ds=> .ok ds
 | .tup ds=> .ok ds
 | .str x=> .ok (Hl x)
 |_=> .no
def Dj(f:FE):FI:=λ δ=>(f δ).bind λw=>Gv w.d
def iAny(K:Frag)(tl:TE):TI:=λ σ H Q=>tl σ H λx H1=>
 (∃a,x=.ref a/\(∃xs,SqL K H1 a xs)/\Q (Itl K a) H1)\/(∃a,x=.ref a/\(∃xs,SqT K H1 a xs)/\Q (Itt K a) H1)\/(∃z,x=.str z/\Q (dr_2 z) H1)
def ep_2{l:Expr}{tl:TE}(hl:PE X l tl):PI X tg l (iAny X.K tl):=by
 intro zd s σ H Q I h;refine Bk (hl zd s σ H _ I h) λv s1 ⟨x,H1,I1,r1,q1⟩=> ?_;rcases q1 with⟨a,e,⟨xs,hq⟩,q⟩|⟨a,e,⟨xs,hq⟩,q⟩|⟨z,e,q⟩
 ·subst e;cases r1;obtain⟨its,rv,p,hz⟩:=I1.list hq;refine Y6 p.isList ?_;refine⟨s1.heap.objs.size,[s1.heap.objs.size],_,_,H1,rfl,I1.kept (t':=s1.toks) λb o e=>A4 _ e,dg_2 a _,⟨_,C1 _ rfl,rfl,rfl⟩,λb hb=> ?_,q⟩;have e:b=s1.heap.objs.size:=by simpa using hb
  subst e;exact I1.fpOk (B0 _) (I1.hok.fresh (B0 _))
 ·subst e;cases r1;obtain⟨its,rv,p,hz⟩:=I1.tuple hq;refine wpAny_pyIter_tuple (show s1.heap.IsTuple a its.toArray from p) ?_;refine⟨s1.heap.objs.size,[s1.heap.objs.size],_,_,H1,rfl,I1.kept (t':=s1.toks) λb o e=>A4 _ e,cr_2 a _,⟨_,C1 _ rfl,rfl,rfl⟩,λb hb=> ?_,q⟩;have e:b=s1.heap.objs.size:=by simpa using hb
  subst e;exact I1.fpOk (B0 _) (I1.hok.fresh (B0 _))
 ·subst e;obtain⟨t,rfl⟩:=r1;have fin:∀(nm:String) (St:Nat->Heap->Prop),(∀i h,St i h↔h.IsStrIter s1.heap.objs.size nm z t i)->(∀A':Around,A'.handled=none->Walks X.prog X.w A' s1.heap.objs.size [s1.heap.objs.size] [s1.heap.objs.size] z.cps.size (SignAt z) St)->
    ["enumerate","zip","dict_itemiterator","dict_reverseitemiterator","odict_iterator","itertools.zip_longest","itertools.pairwise"].contains nm=false->
    (∀(A:Around) (i:Nat) (s:Shared) (Q E:AA),s.heap.IsStrIter s1.heap.objs.size nm z t i->Q (.ref s1.heap.objs.size) s->wpAny (model X.prog X.w) A (pyIter (.ref s1.heap.objs.size)) Q E s)->
    PIE X zd σ tg Q (.ref s1.heap.objs.size) {s1 with heap:=s1.heap.push {cls:=.type nm,data:=.fields #[.str z t,.int 0 0]}}:=by
   intro nm St hS W hn hslf;refine⟨s1.heap.objs.size,[s1.heap.objs.size],St,dr_2 z,H1,rfl,I1.kept (t':=s1.toks) λb o e=>A4 _ e,
    ct_0 W (λi h st=> ?_) (λi h h' st k=> ?_) (λA i s Q E st h=>hslf A i s Q E ((hS _ _).mp st) h) (λi H g=>g) (λi H g=> ?_) (λi H u hu=> ?_),(hS _ _).mpr ⟨_,C1 _ rfl,rfl,rfl⟩,λb hb=> ?_,q⟩
   ·obtain⟨o,ho,hc,hd⟩:=(hS _ _).mp st;exact⟨o,nm,_,ho,hc,hd,hn⟩
   ·obtain⟨o,ho,r⟩:=(hS _ _).mp st;exact(hS _ _).mpr ⟨o,k _ (by simp) o ho,r⟩
   ·exact g
   ·obtain⟨c,u',e1,e2⟩:=hu;subst e2;exact⟨.str ⟨#[c]⟩,⟨u',rfl⟩,rfl,c,e1,rfl⟩
   ·have e:b=s1.heap.objs.size:=by simpa using hb
    subst e;exact I1.fpOk (B0 _) (I1.hok.fresh (B0 _))
  cases ha:z.cps.all (· < 128)
  ·exact wpAny_pyIter_wide ha (fin "str_iterator" _ (λ_ _=>Iff.rfl) (λA' hA=>Walks.strWide hA _ z t) ⋯ λA i s Q E st h=>wpAny_pyIter_striter_wide st h)
  ·exact wpAny_pyIter_ascii ha (fin "str_ascii_iterator" _ (λ_ _=>Iff.rfl) (λA' hA=>Walks.strAscii hA _ z t) ⋯ λA i s Q E st h=>wpAny_pyIter_striter_ascii st h)
def dr_3{G:Hp}{a:Addr}{ds:List D}(h:SqL K G a vs)(r:HasL K G vs ds):ItD K G (Itl K a) ds:=λG' H g1 g i=>by
 refine⟨λd e=> ?_,λe=> ?_⟩
 ·obtain⟨v,e1,hv⟩:=r.get e;refine⟨⟨vs,v,(g1.trans g).seq h,e1⟩,λx H' y=> ?_⟩;obtain⟨e2,y⟩:=y;subst e2;have e3:=y vs ((g1.trans g).seq h);rw[e1]at e3;cases e3;exact⟨G',Step.refl g,hv.mono g1⟩
 ·exact⟨vs,(g1.trans g).seq h,by rw[r.length];exact U8 e⟩
def ec_6{G:Hp}{a:Addr}{ds:List D}(h:SqT K G a vs)(r:HasL K G vs ds):ItD K G (Itt K a) ds:=λG' H g1 g i=>by
 refine⟨λd e=> ?_,λe=> ?_⟩
 ·obtain⟨v,e1,hv⟩:=r.get e;refine⟨⟨vs,v,Same.tupS (g1.trans g) h,e1⟩,λx H' y=> ?_⟩;obtain⟨e2,y⟩:=y;subst e2;have e3:=y vs (Same.tupS (g1.trans g) h);rw[e1]at e3;cases e3;exact⟨G',Step.refl g,hv.mono g1⟩
 ·exact⟨vs,Same.tupS (g1.trans g) h,by rw[r.length];exact U8 e⟩
def ec_7{G:Hp}(z:Str):ItD K G (dr_2 z) (Hl z):=λG' H g1 g i=>by
 refine⟨λd e=> ?_,λe=> ?_⟩
 ·unfold Hl at e;rw[A8]at e;cases q:z.cps.toList[i]? with
  |none=>rw[q]at e;cases e
  |some c=>
   rw[q]at e;cases e;have hi:i < z.cps.size:=by
    have:=(A5.mp q).1;simpa using this
   refine⟨hi,λx H' y=> ?_⟩;obtain⟨e2,c',e3,e4⟩:=y;subst e2 e4;have:z.cps.toList[i]? =some c':=by simpa using e3
   rw[q]at this;cases this;exact⟨G',Step.refl g,.str _⟩
 ·unfold Hl at e;rw[A0]at e;show i=z.cps.size;simp at e;omega
def x_1(he:ED X EX e f):ID X EX tg e (Dj f):=
 PI.imp (ep_2 he) λ σ H Q ⟨G,δ,g0,s0,o⟩=>by
  refine⟨G,δ,g0,s0, ?_⟩;unfold Dj at o;cases e1:f δ with
  |ok w=>
   rw[e1]at o;simp only[R.bind_ok]at o;refine WP.intro λv G' H' st r=> ?_;revert r o;cases w.d with
   |lst ds=>
    intro o r;cases r with
    |lst h r=>exact .inl ⟨_,rfl,⟨_,st.gh.seq h⟩,o _ G' H' st (dr_3 h r)⟩
   |tup ds=>
    intro o r;cases r with
    |tup h r=>exact .inr (.inl ⟨_,rfl,⟨_,Same.tupS st.gh h⟩,o _ G' H' st (ec_6 h r)⟩)
   |str z=>
    intro o r;cases r;exact .inr (.inr ⟨z,rfl,o _ G' H' st (ec_7 z)⟩)
   |_=>intro o _;exact False.elim o
  |ex x=>rw[e1]at o;exact o
  |no=>rw[e1]at o;exact o
end
abbrev FG:=D->SE->R SE
def tG(K:Frag)(EX:Bt)(fg:FG):TG:=λv σ H Q=>∃H0 G0 G Δ O d,Ev K H0 G0 G H σ Δ O/\Has K G v d/\match fg d Δ with
 | .ok Δ'=>∀σ' G' H' O',Ev K H0 G0 G' H' σ' Δ' O'->Same G G'->Q σ' H'
 | .ex _=>False
 | .no=>False
def PG.imp{tg:Expr}{t t':TG}(h:PG X tg t)(i:∀v σ H Q,t' v σ H Q->t v σ H Q):PG X tg t':=λzd s σ H v u Q I r q=>h zd s σ H v u Q I r (i v σ H Q q)
abbrev GD(X:Cx)(EX:Bt)(tg:Expr)(fg:FG):Prop:=PG X tg (tG X.K EX fg)
section
variable{X:Cx}{EX:Bt}{pos:Pos}
def gV(i:Nat):FG:=λd Δ=> .ok (Δ.set i (.sh d))
def q_8{i:Nat}{x:Str}(hN:X.N.Nodup)(hi:X.N[i]? =some x:=by rfl)(hx:Loc X.env.scope x:=by trivial)
  (hf:X.fn x=true\/X.env.scope.names.lookup x=some .local:=by trivial):GD X EX (.Name x pos) (gV i):=
 PG.imp (ap_0 hN hi hx hf) λv σ H Q ⟨H0,G0,G,Δ,O,d,E,r,q⟩=>q _ G H O (E.put r) (Same.refl _)
def Gb(i j:Nat):FG:=λd Δ=>match d with
 | .tup [a,b]=> .ok ((Δ.set i (.sh a)).set j (.sh b))
 |_=> .no
def al_9{i j k:Nat}{x y:Str}{p1 p2:Pos}(hc:X.calm=true)(hN:X.N.Nodup)(hi:X.N[i]? =some x:=by rfl)(hj:X.N[j]? =some y:=by rfl)(hx:Loc X.env.scope x:=by trivial)(hy:Loc X.env.scope y:=by trivial)
  (hf:X.fn x=true\/X.env.scope.names.lookup x=some .local:=by trivial) (hf2:X.fn y=true\/X.env.scope.names.lookup y=some .local:=by trivial)
  (hn:(assignEach [.Name x p1,.Name y p2] X.env).length=2:=by rfl) (hst:(assignEach [.Name x p1,.Name y p2] X.env).findIdx? (·.1)=none:=by rfl)
  (hs:(assignEach [.Name x p1,.Name y p2] X.env).map (·.2)=assign (.Name x p1) X.env::(assignEach [.Name y p2] X.env).map (·.2):=by rfl) (hs2:(assignEach [.Name y p2] X.env).map (·.2)=assign (.Name y p2) X.env::(assignEach [] X.env).map (·.2):=by rfl):
  GD X EX (.Tuple [.Name x p1,.Name y p2] k pos) (Gb i j):=
 PG.imp (dn_9 hc (av_2 (ap_0 hN hi hx hf) (av_2 (ap_0 hN hj hy hf2) cz_0 hs2) hs) hn hst) λv σ H Q ⟨H0,G0,G,Δ,O,d,E,r,q⟩=>by
  cases r with
  |tup h r=>
   cases r with
   |nil=>exact False.elim q
   |cons r1 r=>
    cases r with
    |nil=>exact False.elim q
    |cons r2 r=>
     cases r with
     |nil=>exact⟨_,_,rfl,Same.tupS E.st.gh h,rfl,_,_,rfl,_,_,rfl,rfl,q _ G H O ((E.put r1).put r2) (Same.refl _)⟩
     |cons _ _=>exact False.elim q
  |_=>exact False.elim q
def Gk(fg:FG)(g:FS):List D->FS
 | []=>λ Δ=> .nx Δ
 |d::ds=>λ Δ=>match fg d Δ with
  | .ok Δ1=>(match g Δ1 with
   | .nx Δ2=>Gk fg g ds Δ2
   | .ct Δ2=>Gk fg g ds Δ2
   | .bk Δ2=> .nx Δ2
   |r=>r)
  | .ex _=> .no
  | .no=> .no
def Cb(js:List Nat)(fi:FI)(fg:FG)(g:FS):FS:=λ Δ=>match fi (Bg Δ) with
 | .ok ds=>Gk fg g ds Δ
 | .ex x=> .ex x Δ
 | .no=>match fi (Bg (gsome js Δ)) with
  | .ok ds=>Gk fg g ds (gsome js Δ)
  | .ex x=> .ex x (gsome js Δ)
  | .no=> .no
def am_0{α:Type}{l:List α}{i:Nat}(h:i < l.length):∃x,l[i]? =some x/\l.drop i=x::l.drop (i + 1):=⟨l[i],by simp[h],Y3 h⟩
def bu_4{fg:FG}{g:FS}{H0:HB}{G0 G1 H1:Hp}{J:It}{ds:List D}{Δ:SE}{O:OS}{σ:Sg}{D:Ends}(E:Ev K H0 G0 G1 H1 σ Δ O)(it:ItD K G1 J ds)(q:Fin K EX H0 G0 G1 D (Gk fg g ds Δ)):
  ∃W:Nat->Nat->Sg->Hp->Prop,(∃m,W 0 m σ H1)/\∀i m σ H,W i m σ H->
   (J.stop i H/\D.nx σ H)\/(J.go i H/\∃N:Sg->Hp->Prop,(∀σ' H',N σ' H'->∃m',m' < m/\W (i + 1) m' σ' H')/\∀x H',J.yld i H x H'->tG K EX fg x σ H' λ σ2 H2=>tS K EX g {D with nx:=N,ct:=N,bk:=D.nx} σ2 H2):=by
 refine⟨λi m σ H=>m=ds.length - i/\i<=ds.length/\∃G Δ O,Ev K H0 G0 G H σ Δ O/\Same G1 G/\Fin K EX H0 G0 G1 D (Gk fg g (ds.drop i) Δ),⟨ds.length,by simp,L9 _,G1,Δ,O,E,Same.refl _,q⟩, ?_⟩
 rintro i m σ H ⟨rfl,hi,G,Δ,O,E,sg,q⟩
 obtain⟨i1,i2⟩:=it G H sg E.st.gh i
 by_cases hlt:i < ds.length
 ·obtain⟨d,e1,e2⟩:=am_0 hlt;obtain⟨go,yl⟩:=i1 d e1;refine .inr ⟨go,λ σ' H'=>∃G Δ O,Ev K H0 G0 G H' σ' Δ O/\Same G1 G/\Fin K EX H0 G0 G1 D (Gk fg g (ds.drop (i + 1)) Δ),λ σ' H' w=>⟨ds.length - (i + 1),by omega,rfl,hlt,w⟩,λx H' y=> ?_⟩;obtain⟨G',st,hx⟩:=yl x H' y;rw[e2]at q;refine⟨H0,G0,G',Δ,O,d,E.grow st,hx, ?_⟩;have q':Fin K EX H0 G0 G1 D (match fg d Δ with
   | .ok Δ1=>(match g Δ1 with
    | .nx Δ2=>Gk fg g (ds.drop (i + 1)) Δ2
    | .ct Δ2=>Gk fg g (ds.drop (i + 1)) Δ2
    | .bk Δ2=> .nx Δ2
    |r=>r)
   | .ex _=> .no
   | .no=> .no):=q
  cases e3:fg d Δ with
  |ok Δ1=>
   rw[e3]at q';intro σ2 G2 H2 O2 E2 s2;have s12:Same G1 G2:=sg.trans (st.gg.trans s2);refine⟨H0,G0,G2,Δ1,O2,E2, ?_⟩;cases e4:g Δ1 with
   |nx Δ2=>simp only[e4]at q';exact λ σ3 G3 H3 O3 E3 s3=>⟨G3,Δ2,O3,E3,s12.trans s3,q'⟩
   |ct Δ2=>simp only[e4]at q';exact λ σ3 G3 H3 O3 E3 s3=>⟨G3,Δ2,O3,E3,s12.trans s3,q'⟩
   |bk Δ2=>simp only[e4]at q';exact λ σ3 G3 H3 O3 E3 s3=>q' σ3 G3 H3 O3 E3 (s12.trans s3)
   |rt w=>simp only[e4]at q';exact q'
   |ex x Δ2=>simp only[e4]at q';exact λ σ3 G3 H3 O3 E3 s3=>q' σ3 G3 H3 O3 E3 (s12.trans s3)
   |no=>simp only[e4]at q';exact q'
  |ex x=>rw[e3]at q';exact q'
  |no=>rw[e3]at q';exact q'
 ·have e:ds.length=i:=by omega
  refine .inl ⟨i2 e, ?_⟩;rw[V1 ()]at q;exact q σ G H O E sg
def Hk{tg iter:Expr}{body:List Stmt}{fi:FI}{fg:FG}{g:FS}(js:List Nat)(hp:PassesOwn (model X.prog X.w) X.A X.env X.xe)(hc:X.calm=true)(hi:ID X EX tg iter fi)(hg:GD X EX tg fg)(hb:BD X EX body g)
  (hs:∀x,foldedSetIterable iter X.env x=pure x:=by intro _;rfl):SD X EX (.For tg iter body [] pos) (Cb js fi fg g):=
 PS.imp (em_7 hp hc hi hg hb hs) λD σ H ⟨H0,G0,G,Δ,O,E,q⟩=>by
  unfold Cb at q;cases e1:fi (Bg Δ) with
  |ok ds=>
   rw[e1]at q;refine⟨G,Bg Δ,E.st.gh,E.gsh, ?_⟩;rw[e1];exact λJ G' H' st it=>bu_4 (E.grow st) it (Fin.mono st.gg q)
  |ex x=>
   rw[e1]at q;exact⟨G,Bg Δ,E.st.gh,E.gsh,by rw[e1];exact q σ G H O E (Same.refl _)⟩
  |no=>
   rw[e1]at q;obtain⟨G1,O1,sg,E1⟩:=E.gsome js;refine⟨G1,Bg (gsome js Δ),E1.st.gh,E1.gsh, ?_⟩;cases e2:fi (Bg (gsome js Δ)) with
   |ok ds=>
    simp only[e2]at q;exact λJ G' H' st it=>bu_4 (E1.grow st) it (Fin.mono (sg.trans st.gg) q)
   |ex x=>simp only[e2]at q;exact q σ G1 H O1 E1 sg
   |no=>simp only[e2]at q;exact q
def sApp(i:Nat)(f:FE):FS:=λ Δ=>match Δ[i]? with
 |some (.ow (.lst ds))=>if ds.length < 16777216 then(match f (Bg Δ) with
   | .ok w=> .nx (Δ.set i (.ow (.lst (ds ++ [w.d]))))
   | .ex x=> .ex x Δ
   | .no=>match f (Aw Δ) with
    | .ok w=>if Bd w.d=true then .nx (Δ.set i (.ow (.lst (ds ++ [w.d])))) else .no
    |_=> .no) else .no
 |_=> .no
def ct_1{i:Nat}{x:Str}{e:Expr}{f:FE}{p1 zh zf:Pos}(he:ED X EX e f)(hN:X.N[i]? =some x:=by rfl)(hv:Vis X.env.scope x:=by trivial)(hd:AG x:=by decide)
  (hcd:(x ==("__classdict__" :Str))=false:=by decide) (hsw:swapsWith (.Call (.Attribute (.Name x p1) "append" zh) [e] [] zf) none pos.line X.env=pure false:=by rfl)
  (aa:attributeBase (.Name x p1) "append" X.env (eval (.Name x p1) X.env)=eval (.Name x p1) X.env:=by rfl)
  (ax:((backTo zf (starEach [e] X.env)).all (λx=> !x.1) && (backToKw zf (keywordEach [] X.env)).all (λx=>x.1.isSome)
   && decide ([e].length + ([]:List Keyword).length + (if([]:List Keyword).isEmpty then 0 else 1) < 30))=true:=by rfl)
  (ae:(zh.endLine ==zf.line)=true:=by rfl) (hs:starEach [e] X.env=(false,eval e X.env)::starEach [] X.env:=by rfl) (af:(backTo zf (starEach [] X.env)).any (·.1)=false:=by rfl):
  SD X EX (.Expr (.Call (.Attribute (.Name x p1) "append" zh) [e] [] zf) pos) (sApp i f):=
 PS.imp (ao_9 (dp_4 U7 PySem.F.slot_list_append PySem.F.type_list_append bt_4 (Gr hN hv hd hcd) (Gj he u_3 hs) aa ax ae hs af) hsw) λD σ H ⟨H0,G0,G,Δ,O,E,q⟩=>by
  unfold sApp at q
  split at q
  ·rename_i ds e1
   split at q
   ·rename_i hz;obtain⟨v0,s1,t⟩:=E.ow i _ _ e1 rfl;obtain⟨a,vs,rfl,m,hH,rl⟩:=t.list_of
    ·skip
     refine⟨.ref a,s1,.inl ⟨rfl,_,SqL.of hH⟩, ?_⟩;have fin:∀{G' H':Hp} {v:V} {d:L3.D},Ev X.K H0 G0 G' H' σ Δ O->Same G G'->H' a=some (.lst vs)->HasL X.K G' vs ds->Has X.K G' v d->Fin X.K EX H0 G0 G D (.nx (Δ.set i (.ow (.lst (ds ++ [d])))))->
       cz_7 (.ref a) [v] H' λ_ H1=>D.nx σ H1:=λ{G' H' v d} E' sg hH' r' hv' q'=>
      ⟨a,vs,v,rfl,rfl,hH',by rw[r'.length,E5];exact hz,q' σ G' _ _ (E'.writeL s1 m (r'.append (.cons hv' .nil))) sg⟩
     cases e2:f (Bg Δ) with
     |ok w=>
      simp only[e2]at q;refine⟨G,Bg Δ,E.st.gh,E.gsh, ?_⟩;rw[e2];exact WP.intro λv G' H' st r=>fin (E.grow st) st.gg (st.hh _ _ hH) (rl.mono st.gg) r q
     |ex x=>
      simp only[e2]at q;exact⟨G,Bg Δ,E.st.gh,E.gsh,by rw[e2];exact q σ G H O E (Same.refl _)⟩
     |no=>
      simp only[e2]at q;refine⟨Cy G H O,Aw Δ,E.aH,E.gall, ?_⟩;cases e3:f (Aw Δ) with
      |ok w=>
       simp only[e3]at q
       split at q
       ·rename_i fl;exact WP.intro λv G' H' st r=>fin (E.keep st.hh) (Same.refl _) (st.hh _ _ hH) rl (r.ofFl fl) q
       ·exact q.elim
      |ex x=>simp only[e3]at q;exact q.elim
      |no=>simp only[e3]at q;exact q
   ·exact q.elim
  ·exact q.elim
end
def Ej(X:Cx)(scope:Scope)(cl:List (Str×Addr))(N':List Str)(C:Addr)(s0:Shared)(H0:Hp)(fp:List Addr)(pn:AE):Cx where
 prog:=X.prog
 w:=X.w
 K:=X.K
 mg:=X.mg
 base:=X.base
 A:=X.A
 N:=N'
 s₀:=s0
 H₀:=H0
 env:=compEnvC scope cl C X.env
 outer:=X.stack
 stack:=X.stack
 ex:=fp
 fn:=λ_=>false
 calm:=X.calm
 pn:=pn
 xe:=λ_ _=>False
abbrev Ic:=D->DE->R DE
def tGc(K:Frag)(EX:Bt)(fg:Ic):TG:=λv σ H Q=>∃G δ d,Same G H/\HasS K G σ δ/\Has K G v d/\match fg d δ with
 | .ok δ'=>∀σ',HasS K G σ' δ'->HasS K G σ' δ->Q σ' H
 | .ex x=>(EX σ).p x G H
 | .no=>False
abbrev GC(X:Cx)(EX:Bt)(tg:Expr)(fg:Ic):Prop:=PG X tg (tGc X.K EX fg)
def CTs(X:Cx)(EX:Bt)(ifs:List Expr)(p:FT):Prop:=
 ∀(zd:AE) (s:Shared) (σ:Sg) (H:Hp) (Q:Bool->Hp->Prop),Inv X zd σ H s->tDt X.K EX p σ H Q->
  wpAny (model X.prog X.w) X.A (forIn ifs true λc r=>if r=true then do let ok<-isTrue c X.env (eval c X.env);pure (ForInStep.yield ok) else pure (ForInStep.yield r)) (TP X zd σ Q) X.xe s
section
variable{X:Cx}{EX:Bt}{pos:Pos}
def gC(i:Nat):Ic:=λd δ=>match δ[i]? with
 |some none=> .ok (δ.set i (some d))
 |_=> .no
def HasS.put{G:Hp}{σ:Sg}{δ:DE}{d:D}(h:HasS K G σ δ)(r:Has K G v d)(i:Nat):HasS K G (σ.set i (some v)) (δ.set i (some d)):=by
 refine⟨by rw[F2,F2];exact h.len,λj d' e=> ?_⟩;rcases Hi e with⟨rfl,q⟩|⟨n,q⟩
 ·cases q;have hlt:i < δ.length:=by
   by_cases hh:i < δ.length
   ·exact hh
   ·rw[J7 (by rw[F2];omega)]at e;cases e
  exact⟨v,by rw[K1 (by rw[h.len];exact hlt)],r⟩
 ·obtain⟨v',e1,r'⟩:=h.get j d' q;exact⟨v',by rw[B9 n];exact e1,r'⟩
def ec_8{i:Nat}{x:Str}(hN:X.N.Nodup)(hi:X.N[i]? =some x:=by rfl)(hx:Loc X.env.scope x:=by trivial)
  (hf:X.fn x=true\/X.env.scope.names.lookup x=some .local:=by trivial):GC X EX (.Name x pos) (gC i):=
 PG.imp (ap_0 hN hi hx hf) λv σ H Q ⟨G,δ,d,g,s,r,q⟩=>by
  unfold gC at q;cases e:δ[i]? with
  |none=>rw[e]at q;exact q.elim
  |some o=>
   rw[e]at q;cases o with
   |some _=>exact q.elim
   |none=>
    refine q _ (s.put r i) ⟨by rw[F2];exact s.len,λj d' e'=> ?_⟩;obtain⟨v',e1,r'⟩:=s.get j d' e';refine⟨v', ?_,r'⟩;rw[B9]
    ·exact e1
    ·rintro rfl
     rw[e]at e';cases e'
def z_8:CTs X EX [] (λ_=> .ok true):=λzd s σ H Q I ⟨G,δ,g,h,q⟩=>wpAny_tests_nil ⟨H,I,q G H (Step.refl g)⟩
def bj_8{c:Expr}{p:FT}(h:TD X EX c p):CTs X EX [c] p:=λzd s σ H Q I q=>wpAny_tests_one (h zd s σ H Q I q)
def Gm(fg:Ic)(p:FT)(f:FE)(δ:DE):List D->R (List D)
 | []=> .ok []
 |d::ds=>(fg d δ).bind λ δ1=>(p δ1).bind λb=>if b=true then(f δ1).bind λw=>(Gm fg p f δ ds).bind λrs=> .ok (w.d::rs) else Gm fg p f δ ds
def R.calm{α:Type}:R α->R α
 | .ok w=> .ok w
 |_=> .no
@[simp] theorem R.calm_ok{α:Type}(a:α):(R.ok a).calm=.ok a:=rfl
@[simp] theorem R.calm_ex{α:Type}(x:Xn):(R.ex x:R α).calm=.no:=rfl
@[simp] theorem R.calm_no{α:Type}:(R.no:R α).calm=.no:=rfl
def Bx(m:Nat)(fi:FI)(fg:Ic)(p:FT)(f:FE):FE:=λ δ=>((fi δ).bind λds=>if ds.length<=16777216 then(Gm fg p f (δ ++ List.replicate m none) ds).bind λrs=> .ok (.ow (.lst rs)) else .no).calm
def R.calm_never{α:Type}{r:R α}{x:Xn}(h:r.calm=.ex x):False:=by
 cases r <;> cases h
def bj_9{m:Nat}{fi:FI}{fg:Ic}{p:FT}{f:FE}{δ:DE}{x:Xn}(h:Bx m fi fg p f δ=.ex x):False:=R.calm_never h
@[reducible] def ep_3(prog:Program)(w:World)(A:Around)(env:Env)(tg elt:Expr)(ifs:List Expr)(it zp:Value)(bad:AA)(fin more:Shared->Prop):Option Value->Shared->Prop
 |none=>fin
 |some v=>wpAny (model prog w) A (letOwnedTupleGo tg it v) (λ_=>wpAny (model prog w) A (assign tg env v) (λ_=>
   wpAny (model prog w) A (forIn ifs true λc r=>if r=true then do let ok<-isTrue c env (eval c env);pure (ForInStep.yield ok) else pure (ForInStep.yield r)) (λok=>
    if ok=true then wpAny (model prog w) A (eval elt env) (λx=>wpAny (model prog w) A (call (.builtin "list.append") [zp,x]) (λ_=>more) bad) bad else more) bad) bad) bad
def ct_2{prog:Program}{w:World}{A:Around}{R:Result->Shared->Prop}{s:Shared}{elt target iter:Expr}{ifs:List Expr}{scope:Scope}{it zp:Value}{env:Env}(I:Nat->Shared->Prop)
  (turn:∀n s,I n s->wpAny (model prog w) A (pyNext it) (ep_3 prog w A env target elt ifs it zp (notedBy (model prog w) A env λe=>R (.error e)) (R (.ok .next)) λs'=>∃m,m < n/\I m s') (notedBy (model prog w) A env λe=>R (.error e)) s)
  (n:Nat) (h:I n s):codeAny (model prog w) A (.compLoop (.ListComp elt [⟨target,iter,ifs,0⟩] scope pos) 0 it zp env) R s:=by
 refine codeAny_loop rfl I (λk t hk=>wpAny_noted (env:=env) (m:=compTurn (.ListComp elt [⟨target,iter,ifs,0⟩] scope pos) 0 it zp env) (compTurn_list .. ▸ ?_)) n h;refine A3 (Q7 (A3 (Bk (turn k t hk) ?_)))
 rintro (_|v) t1 g1
 ·exact C6 g1
 refine A3 (Bk g1 λ_ t2 g2=>A3 (Bk g2 λ_ t3 g3=>A3 (Bk g3 ?_)))
 rintro (_|_) t4 g4
 ·exact C6 ⟨rfl,g4⟩
 ·exact A3 (A3 (Bk g4 λ_ t5 g5=>A3 (Bk g5 λ_ t6 g6=>C6 (C6 ⟨rfl,g6⟩))))
structure CompN(X:Cx)(scope:Scope)(cl:List (Str×Addr))(N':List Str):Prop where
 clos:closureFor scope X.env=pure cl
 cell:∀y∈scope.names,y.2≠ .cell
 kind:scope.kind=.function
 names:∀y∈scope.names,y.2=.local->scope.names.lookup y.1=some .local
 sub:∀x c,cl.lookup x=some c->X.env.cells.lookup x=some c
 has:∀x,((relabel scope X.env).names.lookup x=some .cell\/(relabel scope X.env).names.lookup x=some .free)->∃c,cl.lookup x=some c
 old:∀(i:Nat) (x:Str),N'[i]? =some x->i < X.N.length->Vis (relabel scope X.env) x->X.N[i]? =some x/\(X.env.scope.names.lookup x=some .cell\/X.env.scope.names.lookup x=some .free)/\(∃c,cl.lookup x=some c)/\((relabel scope X.env).names.lookup x=some .cell\/(relabel scope X.env).names.lookup x=some .free)
def Dg(cells:List (Str×Addr)):List (Str×NameKind)->List (Str×Addr)->List (Str×Addr)
 | [],zp=>zp
 |(x,k)::r,zp=>Dg cells r (if k=.free then(x,(cells.lookup x).getD 0)::zp else zp)
def bp_8{scope:Scope}{env:Env}(h:∀p∈scope.names,p.2=.free->∃c,env.cells.lookup p.1=some c):closureFor scope env=pure (Dg env.cells scope.names []):=by
 have all:∀(names:List (Str×NameKind)) (zp:List (Str×Addr)),(∀p∈names,p.2=.free->∃c,env.cells.lookup p.1=some c)->
   (forIn names zp λ(x:Str×NameKind) (r:List (Str×Addr))=>if(x.2 == .free)=true then do let a<-cellOf env x.1;pure (ForInStep.yield ((x.1,a)::r)) else pure (ForInStep.yield r):Sem (List (Str×Addr)))=pure (Dg env.cells names zp):=by
  intro names
  induction names with
  |nil=>intro zp _;rfl
  |cons p r ih=>
   intro zp hp;obtain⟨x,k⟩:=p;rw[List.forIn_cons]
   by_cases hk:k=.free
   ·subst hk;obtain⟨c,e⟩:=hp (x,.free) F0 rfl;have e1:cellOf env x=pure c:=by unfold cellOf;rw[show env.cells.lookup x=some c from e]
    simp only[P8,if_true,e1,pure_bind];rw[ih _ λq hq=>hp q (C9 _ hq)];show _=pure (Dg env.cells r (if NameKind.free=.free then(x,(env.cells.lookup x).getD 0)::zp else zp));rw[if_pos rfl,show env.cells.lookup x=some c from e];rfl
   ·have hb:(k ==NameKind.free)=false:=by simpa using hk
    simp only[hb,N5,S4,pure_bind];rw[ih _ λq hq=>hp q (C9 _ hq)];show _=pure (Dg env.cells r (if k=.free then(x,(env.cells.lookup x).getD 0)::zp else zp));rw[if_neg hk]
 unfold closureFor;have:=all scope.names [] h;simpa using this
theorem ch_4{cells:List (Str×Addr)}{q:Str×Addr}:∀{names:List (Str×NameKind)} {zp:List (Str×Addr)},q∈Dg cells names zp->q∈zp\/((q.1,NameKind.free)∈names/\q.2=(cells.lookup q.1).getD 0)
 | [],zp,h=> .inl h
 |(x,k)::r,zp,h=>by
  rcases ch_4 (names:=r) h with h|⟨h1,h2⟩
  ·split at h
   ·rename_i hk;rcases B3.mp h with rfl|h
    ·exact .inr ⟨by rw[hk];exact F0,rfl⟩
    ·exact .inl h
   ·exact .inl h
  ·exact .inr ⟨C9 _ h1,h2⟩
theorem ch_5{cells:List (Str×Addr)}{x:Str}:∀{names:List (Str×NameKind)} {zp:List (Str×Addr)},(zp.lookup x).isSome=true->((Dg cells names zp).lookup x).isSome=true
 | [],zp,h=>h
 |(y,k)::r,zp,h=>by
  refine ch_5 (names:=r) ?_
  split
  ·rw[E7]
   split
   ·rfl
   ·exact h
  ·exact h
theorem ch_6{cells:List (Str×Addr)}{x:Str}:∀{names:List (Str×NameKind)} {zp:List (Str×Addr)},(x,NameKind.free)∈names->((Dg cells names zp).lookup x).isSome=true
 |(y,k)::r,zp,h=>by
  rcases B3.mp h with h|h
  ·cases h;refine ch_5 (names:=r) ?_;rw[if_pos rfl,E7];simp
  ·exact ch_6 (names:=r) h
theorem ab_0{env:Env}:∀(names:List (Str×NameKind)) (x:Str),
  (names.map λ(n,k)=>if(k ==NameKind.free && env.scope.kind == .function && env.kindOf n ==some .cell) then(n,NameKind.cell) else(n,k)).lookup x=(names.lookup x).map λk=>if(k ==NameKind.free && env.scope.kind == .function && env.kindOf x ==some .cell)=true then NameKind.cell else k
 | [],x=>rfl
 |(n,k)::r,x=>by
  have ih:=ab_0 (env:=env) r x;show List.lookup x ((if(k ==NameKind.free && env.scope.kind == .function && env.kindOf n ==some .cell)=true then(n,NameKind.cell) else(n,k))::_)=_;cases hx:x ==n with
  |true=>
   have e:x=n:=eq_of_beq hx;subst e
   by_cases hc:(k ==NameKind.free && env.scope.kind == .function && env.kindOf x ==some .cell)=true
   ·rw[if_pos hc];simp only[E7,P8,L5];rw[if_pos hc]
   ·rw[if_neg hc];simp only[E7,P8,L5];rw[if_neg hc]
  |false=>
   by_cases hc:(k ==NameKind.free && env.scope.kind == .function && env.kindOf n ==some .cell)=true
   ·rw[if_pos hc];simp only[E7,hx];exact ih
   ·rw[if_neg hc];simp only[E7,hx];exact ih
def Hm(inner outer:List (Str×NameKind))(N N':List Str):Bool:=
 (inner.all λp=>p.2 != .cell && (p.2 != .local || inner.lookup p.1 ==some .local) && (p.2 != .free || (outer.lookup p.1 ==some .cell || outer.lookup p.1 ==some .free))) &&
 (List.range N.length).all λi=>match N'[i]? with
  |some x=>(match inner.lookup x with
   |some .free=>N[i]? ==some x && (outer.lookup x ==some .cell || outer.lookup x ==some .free)
   |some .local=>false
   |some .cell=>false
   |_=>true)
  |none=>true
def bk_0{scope:Scope}{N':List Str}(ok:X.Ok)(hk:scope.kind=.function)(hb:Hm scope.names X.env.scope.names X.N N'=true):CompN X scope (Dg X.env.cells scope.names []) N':=by
 unfold Hm at hb;rw[C4]at hb;obtain⟨h1,h2⟩:=hb;have h1:=E9.mp h1;have h2:=E9.mp h2;have fr:∀p∈scope.names,p.2=.free->∃c,X.env.cells.lookup p.1=some c:=λp hp hf=>by
  have z:=h1 p hp;simp only[hf,C4,W7,bne_iff_ne,M3]at z;exact ok.has p.1 (by
   rcases z.2 with z|z
   ·exact absurd rfl z
   ·exact z)
 have inn:∀x k,scope.names.lookup x=some k->(x,k)∈scope.names:=λx k e=>M6 e;have av:∀p∈scope.names,p.2≠ .cell:=λp hp hc=>by
  have z:=h1 p hp;rw[hc]at z;simp at z
 have dh:∀x,scope.names.lookup x=some .free->∃c,(Dg X.env.cells scope.names []).lookup x=some c:=λx e=>Z0.mp (ch_6 (inn x _ e));have ff:∀x,((relabel scope X.env).names.lookup x=some .cell\/(relabel scope X.env).names.lookup x=some .free)->scope.names.lookup x=some .free:=λx h=>by
  unfold relabel at h;rw[ab_0]at h;cases e:scope.names.lookup x with
  |none=>rw[e]at h;simp at h
  |some k=>
   rw[e]at h;have nc:=av (x,k) (inn x k e);cases k with
   |free=>rfl
   |cell=>exact absurd rfl nc
   |«local»=>simp at h
   |globalExplicit=>simp at h
   |globalImplicit=>simp at h
 refine⟨bp_8 fr,av,hk,λy hy hl=> ?_,λx c e=> ?_,λx h=>dh x (ff x h),λi x e hi hv=> ?_⟩
 ·have z:=h1 y hy;simp only[hl,C4,W7,bne_iff_ne,M3]at z;rcases z.1.2 with z|z
  ·exact absurd rfl z
  ·exact z
 ·rcases ch_4 (M6 e) with z|⟨z1,z2⟩
  ·exact absurd z (by simp)
  ·obtain⟨c',e'⟩:=fr (x,.free) z1 rfl;have z2:c=(X.env.cells.lookup x).getD 0:=z2;have e':X.env.cells.lookup x=some c':=e';rw[e']at z2⊢;cases z2;rfl
 ·have z:=h2 i (J9.mpr hi);rw[e]at z;dsimp only at z;have look:scope.names.lookup x=some .free/\(((relabel scope X.env).names.lookup x=some .cell\/(relabel scope X.env).names.lookup x=some .free)):=by
   unfold Vis relabel at hv;unfold relabel;rw[ab_0]at hv⊢;cases q:scope.names.lookup x with
   |none=>rw[q]at hv;simp at hv
   |some k=>
    rw[q]at hv z;cases k with
    |free=>
     refine⟨rfl, ?_⟩
     by_cases hc:(X.env.scope.kind == .function && X.env.kindOf x ==some .cell)=true
     ·left;simp[Bool.and_assoc,hc]
     ·right;simp[Bool.and_assoc,hc]
    |cell=>simp at z
    |«local»=>simp at z
    |globalExplicit=>simp at hv
    |globalImplicit=>simp at hv
  rw[look.1]at z;simp only[C4,W7,M3]at z;exact⟨z.1,z.2,dh x look.1,look.2⟩
structure TurnZ(P:Program)(w:World)(K:Frag)(tg:Expr)(J:It)(fp:List Addr)(it:Addr)(tn:Nat->Heap->Prop)(B:Cx->Prop):Prop where
 obj:∀i h,tn i h->∀b∈fp,∃o,h.get? b=some o/\∀v,o.data≠ .cell v
 keep:∀i h h',tn i h->(∀b∈fp,∀o,h.get? b=some o->h'.get? b=some o)->tn i h'
 item:∀(X:Cx),X.prog=P->X.w=w->X.K=K->∀(i:Nat) (zd:AE) (s:Shared) (σ:Sg) (H:Hp) (E:AA),B X->Inv X zd σ H s->(∀b∈fp,Dn X zd H b)->tn i s.heap->J.go i H->
  wpAny (model P w) X.A (pyNext (.ref it)) (λr s1=>∃u,r=some u/\
   wpAny (model P w) X.A (letOwnedTupleGo tg (.ref it) u) (λ_ s2=>∃x H',Inv X zd σ H' s2/\RelV x u/\J.yld i H x H'/\tn (i + 1) s2.heap/\∀b∈fp,H' b=none) E s1) E s
 done:∀(X:Cx),X.prog=P->X.w=w->X.K=K->∀(i:Nat) (zd:AE) (s:Shared) (σ:Sg) (H:Hp) (E:AA),B X->Inv X zd σ H s->(∀b∈fp,Dn X zd H b)->tn i s.heap->J.stop i H->
  wpAny (model P w) X.A (pyNext (.ref it)) (λr s1=>r=none/\Inv X zd σ H s1) E s
 self:∀(A:Around) (i:Nat) (s:Shared) (Q:AA) (E:AA),tn i s.heap->Q (.ref it) s->wpAny (model P w) A (pyIter (.ref it)) Q E s
def da_6:Cx->Prop:=λX=>X.calm=true
def Turn.z{w:World}{tg:Expr}{J:It}{fp:List Addr}{it:Addr}{tn:Nat->Heap->Prop}(T:Turn P w K tg J fp it tn):TurnZ P w K tg J fp it tn da_6:=
 ⟨T.obj,T.keep,λX a b c i zd s σ H E hc=>T.item X a b c hc i zd s σ H E,λX a b c i zd s σ H E hc=>T.done X a b c hc i zd s σ H E,T.self⟩
def BX:Cx->Prop:=λX=>X.A.handled=none\/∃(x:Addr) (o:Obj) (u:HO) (us:Array Value),X.A.handled=some (.ref x)/\X.H₀ x=some (.frz o u)/\o.data=.fields us/\us[2]? =some .none
def BX.ok{zd:AE}{s:Shared}{σ:Sg}(b:BX X)(I:Inv X zd σ H s):HdOk X.A s.heap:=by
 rcases b with b|⟨x,o,u,us,e,h,d,c⟩
 ·exact .inl b
 ·exact .inr ⟨x,o,us,e,(I.hok x _ (I.base.frzs x o u h)).1,d,c⟩
def BX.ne{zd:AE}{s:Shared}{σ:Sg}{a:Addr}(b:BX X)(I:Inv X zd σ H s)(n:H a=none):X.A.handled≠some (.ref a):=λz=>by
 rcases b with b|⟨x,o,u,us,e,h,_⟩
 ·rw[b]at z;cases z
 ·rw[e]at z;injection z with z;injection z with z;rw[<-z,I.base.frzs x o u h]at n;cases n
def BX.on{X Y:Cx}{zd:AE}{s:Shared}{σ:Sg}(b:BX X)(I:Inv X zd σ H s)(e1:Y.A.handled=X.A.handled)(e2:Y.H₀=H):BX Y:=by
 rcases b with b|⟨x,o,u,us,e,h,d⟩
 ·exact .inl (e1.trans b)
 ·exact .inr ⟨x,o,u,us,e1.trans e,by rw[e2];exact I.base.frzs x o u h,d⟩
def PIZ(X:Cx)(B:Cx->Prop)(tg iter:Expr)(wi:TI):Prop:=
 ∀(zd:AE) (s:Shared) (σ:Sg) (H:Hp) (R:It->Hp->Prop),Inv X zd σ H s->wi σ H R->
  wpAny (model X.prog X.w) X.A (eval iter X.env) (λv s1=>wpAny (model X.prog X.w) X.A (pyIter v) (λitv s2=>∃(it:Addr) (fp:List Addr) (tn:Nat->Heap->Prop) (J:It) (H':Hp),itv=.ref it/\Inv X zd σ H' s2/\TurnZ X.prog X.w X.K tg J fp it tn B/\tn 0 s2.heap/\(∀b∈fp,Dn X zd H' b)/\R J H') X.xe s1) X.xe s
theorem PI.z{tg iter:Expr}{wi:TI}(h:PI X tg iter wi):PIZ X da_6 tg iter wi:=λzd s σ H R I q=>
 F1 (h zd s σ H R I q) (λv s1 h1=>F1 h1 (λitv s2 ⟨it,fp,tn,J,H',e,I2,T,r⟩=>⟨it,fp,tn,J,H',e,I2,Turn.z T,r⟩) λ_ _ z=>z) λ_ _ z=>z
def dh_9{elt iter tg:Expr}{ifs:List Expr}{scope:Scope}{N':List Str}{fi:FI}{fg:Ic}{p:FT}{f:FE}{m:Nat}(hx0:∀e s,¬X.xe e s){B:Cx->Prop}(hk:scope.kind=.function)(hb:Hm scope.names X.env.scope.names X.N N'=true)
  (hm:N'.length=X.N.length + m)
  (hin:∀C s0 H0 fp pn,GC (Ej X scope (Dg X.env.cells scope.names []) N' C s0 H0 fp pn) Di tg fg/\CTs (Ej X scope (Dg X.env.cells scope.names []) N' C s0 H0 fp pn) Di ifs p/\ED (Ej X scope (Dg X.env.cells scope.names []) N' C s0 H0 fp pn) Di elt f)
  {zd:AE} {s:Shared} {σ:Sg} {δ:DE} (I:Inv X zd σ H s) {Z:Hp->Hp->Prop} (hZ:∀G2 H2,Z G2 H2->Same G2 H2/\HasS X.K G2 σ δ) (hB:∀C s0 H0 fp pn,Inv X zd σ H0 s0->B (Ej X scope (Dg X.env.cells scope.names []) N' C s0 H0 fp pn))
  (hit:wpAny (model X.prog X.w) X.A (eval iter X.env) (λxv s₁=>wpAny (model X.prog X.w) X.A (pyIter xv) (λitv s₂=>∃(it:Addr) (fp:List Addr) (tn:Nat->Heap->Prop) (J:It) (H2:Hp) (ds:List D) (G2:Hp),itv=.ref it/\Inv X zd σ H2 s₂/\TurnZ X.prog X.w X.K tg J fp it tn B/\tn 0 s₂.heap/\(∀b∈fp,Dn X zd H2 b)/\fi δ=.ok ds/\Z G2 H2/\ItD X.K G2 J ds) X.xe s₁) X.xe s)
  {RR:Value->Addr->Result->Shared->Prop}
  (o:match Bx m fi fg p f δ with| .ok _=>True| .ex x=>False| .no=>False)
  (hRR:∀(Da C:Addr) (s1:Shared) (G2 H2 G' H':Hp) (vs:List V) (rs:List D),Bx m fi fg p f δ=.ok (.ow (.lst rs))->Inv X zd σ H' s1->(∃m,s1.heap.Ns C m)->Dn X zd H' C->Z G2 H2->Step G2 H2 G' H'->H2 Da=none->H' Da=some (.lst vs)->G' Da=none->HasL X.K G' vs rs->RR (.ref Da) C (.ok .next) s1):
  wpAny (model X.prog X.w) X.A (eval iter X.env) (λx s₁=>wpAny (model X.prog X.w) X.A (pyIter x) (λit s₂=>wpAny (model X.prog X.w) X.A (newList []) (λzp s₃=>
   wpAny (model X.prog X.w) X.A (newFunctionEnv scope X.env.globals (Dg X.env.cells scope.names []) [] X.env.qual none .none (some X.env)) (λcenv s₄=>
    codeAny (model X.prog X.w) X.A (.compStart (.ListComp elt [⟨tg,iter,ifs,0⟩] scope pos) 0 it zp {cenv with scope:=relabel scope X.env}) (RR zp cenv.locals) s₄) X.xe s₃) X.xe s₂) X.xe s₁) X.xe s:=by
 have n:=bk_0 I.ok hk hb;generalize hcle:Dg X.env.cells scope.names []=cl at n hin hB⊢;have cz:∀ds,fi δ=.ok ds->ds.length<=16777216/\(match Gm fg p f (δ ++ List.replicate m none) ds with| .ok rs=>Bx m fi fg p f δ=.ok (.ow (.lst rs))| .ex x=>False| .no=>False):=λds e=>by
  unfold Bx at o⊢;simp only[e,R.bind_ok]at o⊢
  by_cases hz:ds.length<=16777216
  ·refine⟨hz, ?_⟩;rw[if_pos hz]at o⊢;cases e2:Gm fg p f (δ ++ List.replicate m none) ds with
   |ok rs=>rfl
   |ex x=>rw[e2]at o;exact o
   |no=>rw[e2]at o;exact o
  ·rw[if_neg hz]at o;exact o.elim
 
 refine F1 hit (λxv s₁ h₁=>F1 h₁ (λitv s₂ h₂=> ?_) λ_ _ e=>(hx0 _ _ e).elim) λ_ _ e=>(hx0 _ _ e).elim;obtain⟨it,fp,tn,J,H2,ds,G2,rfl,I2,T,st2,f2,e2,hz2,itd⟩:=h₂;obtain⟨sg2,h0⟩:=hZ G2 H2 hz2;obtain⟨hz,o⟩:=cz ds e2
 
 have hfD:H2 s₂.heap.objs.size=none:=I2.hok.fresh (B0 _);refine V0 (wpAny_newFunctionEnv n.cell (by intro y hy;simp at hy) (λh₁ hns₁ hsb₁=> ?_) n.kind);dsimp only at hns₁ hsb₁⊢;generalize hDa:s₂.heap.objs.size=Da at hfD;have hDn: @Eq Nat s₂.heap.objs.size Da:=hDa;have I3:Inv X zd σ (upd H2 Da (.lst [])) {s₂ with heap:=s₂.heap.push {cls:=.type "list",dict:=none,data:=.seq ([]:List Value).toArray}}:=by
  rw[<-hDa];exact I2.lnew (t':=s₂.toks) .nil (L9 _)
 generalize hH3:s₂.heap.push {cls:=.type "list",dict:=none,data:=.seq ([]:List Value).toArray}=hp3 at hns₁ hsb₁ I3⊢;have hC:hp3.objs.size=Da + 1:=by rw[<-hH3,L4,hDa]
 generalize hCe:hp3.objs.size=C at hns₁ hsb₁ hC;have hCn: @Eq Nat hp3.objs.size C:=hCe;have hC2: @Eq Nat C (Da + 1):=hC;have gk:∀b o,s₂.heap.get? b=some o->hp3.get? b=some o:=λb o e=>by rw[<-hH3];exact A4 _ e
 have up:∀b o,hp3.get? b=some o->h₁.get? b=some o:=λb o e=>hsb₁.extBut b o (C7 (show @LT.lt Nat _ b C by rw[<-hCn];exact A7 e)) (A4 _ e)
 
 have fpC:∀b∈fp,b < s₂.heap.objs.size:=λb hb=>by
  obtain⟨o,e,_⟩:=T.obj _ _ st2 b hb;exact A7 e
 have hcl:∀x c,cl.lookup x=some c->c < hp3.objs.size/\c∉fp/\(upd H2 Da (.lst [])) c=none:=λx c e=>by
  have e':=n.sub x c e;obtain⟨v,hv⟩:=I3.cell x c e';exact⟨hv.lt,λz=>(f2 c z).2.2.2.2.1 x c e' rfl,I3.freeC x c e'⟩
 let X':=Ej X scope cl N' C {s₂ with heap:=hp3} (upd H2 Da (.lst [])) fp (X.pn ++ zd)
 have ok':X'.Ok:=by
  refine⟨I.ok.mod,n.kind,I.ok.glob,I.ok.blt,U8 hCe,λx y c h1 h2=>I.ok.inj x y c (n.sub x c h1) (n.sub y c h2),λx hx=>n.has x hx,λx c z=> ?_,I.ok.hd,I.ok.frames,.inl rfl,λb hb=>⟨?_,λx c e z=> ?_⟩,λb o e=> ?_, ?_,λb o e hb=> ?_,λb hb z=> ?_,I3.stack,I3.stkFree⟩
  ·exact absurd z A6
  ·exact C7 (B5 (fpC b hb) (show @LE.le Nat _ s₂.heap.objs.size C by omega))
  ·subst z;exact(hcl x c e).2.1 hb
  ·exact I3.bs b o e
  ·exact C5 I.ok.bsz I3.sz
  ·rcases(f2 b hb).2.2.2.1 with z|z
   ·exact I.ok.noex b o e z
   ·exact absurd (A7 (I.ok.bs b o e).1) (Nat.not_lt_of_le z)
  ·rcases B3.mp (I3.stkSub b z) with z|z
   ·exact(f2 b hb).2.1 z
   ·exact(f2 b hb).2.2.1 z
 have lenσ:σ.length=X.N.length:=I.len;have I4:Inv X' [] (σ ++ List.replicate m none) (upd H2 Da (.lst [])) {s₂ with heap:=h₁,toks:=s₂.toks + ([]:List (Str×Value)).length}:=by
  refine⟨ok',rfl,I2.bare,Un.kept up,⟨_,hns₁,λi x v e1 e2 e3=> ?_⟩,λx c e=> ?_, ?_,λx c e=>(hcl x c e).2.2,λp hp=> ?_,I3.hok.kept up, ?_⟩
  ·have hi:i < σ.length:=by
    by_cases hh:i < σ.length
    ·exact hh
    ·rw[D6 (),E8]at e2
     split at e2 <;> cases e2
   rw[B7 hi]at e2;obtain⟨n1,n2,⟨c,n3⟩,n4⟩:=n.old i x e1 () e3;obtain⟨mm,hnm,hl⟩:=I3.loc;obtain⟨u,r,l⟩:=hl i x v n1 e2 (.inr n2);refine⟨u,r,.inr ⟨n4,c,n3, ?_⟩⟩;have n3':=n.sub x c n3;rcases l with⟨k1,k2⟩|⟨k1,c',k2,k3⟩
   ·exfalso;have k1':X.env.scope.names.lookup x=some .local:=k1;rcases n2 with n2|n2
    ·rw[n2]at k1';cases k1'
    ·rw[n2]at k1';cases k1'
   ·rw[n3']at k2;cases k2;exact k3.keeps up
  ·obtain⟨v,hv⟩:=I3.cell x c (n.sub x c e);exact⟨v,hv.keeps up⟩
  ·show upd H2 Da (.lst []) C=none;exact I3.hok.fresh (by show hp3.objs.size<=C;omega)
  ·have hp':p∈X.pn ++ zd:=by
    have hp2:p∈(X.pn ++ zd) ++ []:=hp
    rwa[F9]at hp2
   obtain⟨z1,z2,z3,z4,z5⟩:=I3.pin p hp';refine⟨up _ _ z1,z2, ?_,λz=> ?_,z5⟩
   ·exact C7 (show @LT.lt Nat _ p.1 C by rw[<-hCn];exact A7 z1)
   ·rcases B3.mp (I3.stkSub p.1 z) with z|z
    ·exact z3 z
    ·exact z4 z
  ·rw[B6,K3,lenσ];exact hm.symm
 obtain⟨hgc,hct,hel⟩:=hin C {s₂ with heap:=hp3} (upd H2 Da (.lst [])) fp (X.pn ++ zd);have hS4:HasS X.K G2 (σ ++ List.replicate m none) (δ ++ List.replicate m none):=by
  refine⟨by rw[B6,B6,K3,K3,h0.len],λi d e=> ?_⟩
  by_cases hh:i < δ.length
  ·rw[B7 hh]at e;obtain⟨v,e1,r⟩:=h0.get i d e;exact⟨v,by rw[B7 (by rw[h0.len];exact hh)];exact e1,r⟩
  ·rw[D6 (),E8]at e
   split at e <;> cases e
 generalize hδ:δ ++ List.replicate m none=δ' at hS4 o;have stn:tn 0 h₁:=T.keep 0 _ _ st2 λb hb o e=>up b o (gk b o e);have fpn:∀b∈fp,(upd H2 Da (.lst [])) b=none:=λb hb=>by
  rw[Bm (C7 (show @LT.lt Nat _ b Da by rw[<-hDn];exact fpC b hb))];exact(f2 b hb).1
 have cv:∀{pl:AE} {H':Hp},pl= []->(∀b∈fp,H' b=none)->∀b∈fp,Dn X' pl H' b:=λ{pl H'} hpl hn b hb=>by
  subst hpl;refine⟨hn b hb, ?_,λz=> ?_,.inl hb,λx c e z=> ?_,λp hp z=> ?_⟩
  ·exact C7 (B5 (fpC b hb) (show @LE.le Nat _ s₂.heap.objs.size C by omega))
  ·rcases B3.mp (I3.stkSub b z) with z|z
   ·exact(f2 b hb).2.1 z
   ·exact(f2 b hb).2.2.1 z
  ·subst z;exact(hcl x c e).2.1 hb
  ·have hp':p∈X.pn ++ zd:=by
    have hp2:p∈(X.pn ++ zd) ++ []:=hp
    rwa[F9]at hp2
   exact(f2 b hb).2.2.2.2.2 p hp' z
 have loop:∀s4:Shared,Inv X' [] (σ ++ List.replicate m none) (upd H2 Da (.lst [])) s4->tn 0 s4.heap->codeAny (model X.prog X.w) X.A (.compLoop (.ListComp elt [⟨tg,iter,ifs,0⟩] scope pos) 0 (.ref it) (.ref Da) (compEnvC scope cl C X.env)) (RR (.ref Da) C) s4:=by
  intro s4 I4 tn4;refine ct_2 (λk s'=>∃i σ' H' G' vs rs,k=ds.length - i/\i<=ds.length/\Inv X' [] σ' H' s'/\tn i s'.heap/\(∀b∈fp,H' b=none)/\HasS X.K G' σ' δ'/\Step G2 H2 G' H'/\Same G2 G'/\H' Da=some (.lst vs)/\G' Da=none/\
   HasL X.K G' vs rs/\rs.length<=i/\(match Gm fg p f δ' (ds.drop i) with| .ok rs2=>Bx m fi fg p f δ=.ok (.ow (.lst (rs ++ rs2)))| .ex x=>False| .no=>False)) ?_ ds.length
   ⟨0,_,_,G2,[],[],by simp,L9 _,I4,tn4,fpn,hS4,Step.own sg2 hfD _,Same.refl _,Ct,sg2.free hfD,.nil,L9 _,by simpa using o⟩
  rintro k s' ⟨i,σ',H',G',vs,rs,rfl,hi,I',tni,fn',hS,st,sg,hD,gD,rl,hl,o'⟩
  obtain⟨i1,i2⟩:=itd G' H' sg st.gh i
  by_cases hlt:i < ds.length
  ·obtain⟨d,e1,e2⟩:=am_0 hlt;obtain⟨go,yl⟩:=i1 d e1;refine Bk (T.item X' rfl rfl rfl i [] s' σ' H' _ (hB _ _ _ _ _ I3) I' (cv rfl fn') tni go) λr s1 ⟨u,hr,h1⟩=> ?_;subst hr;refine Bk h1 λ_ s5 ⟨x,H5,I5,r5,y5,st5,fr5⟩=> ?_;obtain⟨G5,ar,hx5⟩:=yl x H5 y5;have I5':=I5.pinned (cv rfl fr5) (T.obj _ _ st5);rw[e2]at o';have o1:match((fg d δ').bind λ δ1=>(p δ1).bind λb=>if b=true then(f δ1).bind λw=>(Gm fg p f δ' (ds.drop (i + 1))).bind λrs=> .ok (w.d::rs) else Gm fg p f δ' (ds.drop (i + 1))) with| .ok rs2=>Bx m fi fg p f δ=.ok (.ow (.lst (rs ++ rs2)))| .ex x=>False| .no=>False:=o'
   have hS5:HasS X.K G5 σ' δ':=hS.mono ar.gg;refine F1 (hgc _ s5 σ' H5 x u (λ σ6 H6=>∃δ1,fg d δ'=.ok δ1/\H6=H5/\HasS X.K G5 σ6 δ1/\HasS X.K G5 σ6 δ') I5' r5 ⟨G5,δ',d,ar.gh,hS5,hx5, ?_⟩) (λ_ s6 ⟨σ6,H6,I6,δ1,e6,eH,hS6,hS6'⟩=> ?_) λ_ _ z=>False.elim z
   ·cases e6:fg d δ' with
    |ok δ1=>exact λ σ6 h6 h6'=>⟨δ1,rfl,rfl,h6,h6'⟩
    |ex x=>rw[e6]at o1;exact o1
    |no=>rw[e6]at o1;exact o1
   subst eH;rw[e6]at o1;simp only[R.bind_ok]at o1;refine F1 (hct _ s6 σ6 H6 (λb H7=>∃G7,p δ1=.ok b/\Step G5 H6 G7 H7) I6 ⟨G5,δ1,ar.gh,hS6, ?_⟩) (λb s7 ⟨H7,I7,G7,e7,stp7⟩=> ?_) λ_ _ z=>False.elim z
   ·cases e7:p δ1 with
    |ok b=>exact λG7 H7 st7=>⟨G7,rfl,st7⟩
    |ex x=>rw[e7]at o1;exact o1
    |no=>rw[e7]at o1;exact o1
   rw[e7]at o1;simp only[R.bind_ok]at o1
   
   have gD7:G7 Da=none:=(ar.trans stp7).nw Da gD (by rw[hD];simp);have hD7:H7 Da=some (.lst vs):=(ar.trans stp7).hh _ _ hD;have bo:∀{σ9:Sg} {H9:Hp} {s9:Shared},Inv X' ([] ++ bi_6 fp s5.heap) σ9 H9 s9->tn (i + 1) s9.heap/\∀b∈fp,H9 b=none:=λ{σ9 H9 s9} I9=>
    ⟨T.keep _ _ _ st5 λb hb o e=>(I9.pin (b,o) (D5 _ (D5 _ (ah_4 hb e)))).1,λb hb=>by
     obtain⟨o,e,d⟩:=T.obj _ _ st5 b hb;exact(I9.pin (b,o) (D5 _ (D5 _ (ah_4 hb e)))).2.1⟩
   have hSk:∀{G9:Hp},Same G7 G9->HasS X.K G9 σ6 δ':=λ{G9} sm=>hS6'.mono (stp7.gg.trans sm);cases b with
   |false=>
    rw[if_neg A6]at o1⊢;exact⟨ds.length - (i + 1),by omega,i + 1,σ6,H7,G7,vs,rs,rfl,hlt,I7.unpinned,(bo I7).1,(bo I7).2,hSk (Same.refl _),st.trans (ar.trans stp7),sg.trans (ar.gg.trans stp7.gg),hD7,gD7,rl.mono (ar.gg.trans stp7.gg),by omega,o1⟩
   |true=>
    rw[if_pos rfl]at o1⊢;refine F1 (hel _ s7 σ6 H7 (λv H8=>∃w G8,f δ1=.ok w/\Step G7 H7 G8 H8/\Has X.K G8 v w.d) I7 ⟨G7,δ1,stp7.gh,hS6.mono stp7.gg, ?_⟩) (λu8 s8 ⟨v8,H8,I8,r8,w8,G8,e8,stp8,hv8⟩=> ?_) λ_ _ z=>False.elim z
    ·cases e8:f δ1 with
     |ok w=>exact WP.intro λv G8 H8 st8 r8=>⟨w,G8,rfl,st8,r8⟩
     |ex x=>rw[e8]at o1;exact o1
     |no=>rw[e8]at o1;exact o1
    rw[e8]at o1;simp only[R.bind_ok]at o1;have gD8:G8 Da=none:=stp8.nw Da gD7 (by rw[hD7];simp);have hD8:H8 Da=some (.lst vs):=stp8.hh _ _ hD7;have rl8:HasL X.K G8 vs rs:=rl.mono (ar.gg.trans (stp7.gg.trans stp8.gg));refine F1 (bt_4 (X:=X') _ s8 σ6 H8 (.ref Da) [v8] (.ref Da) [u8] (λ_ H9=>H9=upd H8 Da (.lst (vs ++ [v8]))) I8 rfl (.cons r8 .nil) ⟨Da,vs,v8,rfl,rfl,hD8,by rw[rl.length,E5];omega,rfl⟩) (λ_ s9 ⟨_,H9,I9,_,e9⟩=> ?_) λ_ _ z=>False.elim z;subst e9;have stA:=st.trans (ar.trans (stp7.trans stp8));refine⟨ds.length - (i + 1),by omega,i + 1,σ6,_,G8,vs ++ [v8],rs ++ [w8.d],rfl,hlt,I9.unpinned,(bo I9).1,(bo I9).2,hSk stp8.gg,⟨λb o z=> ?_,λb o z=> ?_,stA.gg,stA.nw⟩,sg.trans (ar.gg.trans (stp7.gg.trans stp8.gg)),Ct,gD8,rl8.append (.cons hv8 .nil),by rw[B6,List.length_singleton];omega, ?_⟩
    ·rw[Bm (Hx z hfD)];exact stA.hh b o z
    ·rw[Bm (Hx z gD8)];exact stp8.gh b o z
    ·cases e10:Gm fg p f δ' (ds.drop (i + 1)) with
     |ok rs2=>
      rw[e10]at o1;simp only[R.bind_ok]at o1⊢;rw[List.append_assoc];exact o1
     |ex x=>rw[e10]at o1;exact o1
     |no=>rw[e10]at o1;exact o1
  ·have e:ds.length=i:=by omega
   refine Bk (T.done X' rfl rfl rfl i [] s' σ' H' _ (hB _ _ _ _ _ I3) I' (cv rfl fn') tni (i2 e)) λr s1 ⟨hr,I1⟩=> ?_;subst hr;rw[V1 ()]at o';have o1:Bx m fi fg p f δ=.ok (.ow (.lst (rs ++ []))):=o';rw[F9]at o1;obtain⟨mm,hnm,_⟩:=I1.loc;have gn:Inv X zd σ H' s1:=I3.call' (s':=s1) (ch:=fp) I1.os I1.base I1.hok I1.bare λb hb=>by
    obtain⟨f0,f1',f2',f3,f4,f5⟩:=f2 b hb;exact⟨f3,f1',f4,f5⟩
   exact hRR Da C s1 G2 H2 G' H' vs rs o1 gn ⟨mm,hnm⟩ (I3.fpOk (by show hp3.objs.size<=C;omega) I1.free) hz2 st hfD hD gD rl
 exact codeAny_compStart_list (loop _ I4 stn) (T.self X.A 0 _ _ _ stn (loop _ I4 stn))
def bk_1{elt iter tg:Expr}{ifs:List Expr}{scope:Scope}{N':List Str}{fi:FI}{fg:Ic}{p:FT}{f:FE}{m:Nat}(hx0:∀e s,¬X.xe e s){B:Cx->Prop}(hi:PIZ X B tg iter (tI X.K Di fi))(hk:scope.kind=.function)(hb:Hm scope.names X.env.scope.names X.N N'=true)
  (hm:N'.length=X.N.length + m)
  (hin:∀C s0 H0 fp pn,GC (Ej X scope (Dg X.env.cells scope.names []) N' C s0 H0 fp pn) Di tg fg/\CTs (Ej X scope (Dg X.env.cells scope.names []) N' C s0 H0 fp pn) Di ifs p/\ED (Ej X scope (Dg X.env.cells scope.names []) N' C s0 H0 fp pn) Di elt f)
  {zd:AE} {s:Shared} {σ:Sg} {G H:Hp} {δ:DE} (I:Inv X zd σ H s) (g0:Same G H) (h0:HasS X.K G σ δ) (hB:∀C s0 H0 fp pn,Inv X zd σ H0 s0->B (Ej X scope (Dg X.env.cells scope.names []) N' C s0 H0 fp pn)) {RR:Value->Addr->Result->Shared->Prop}
  (o:match Bx m fi fg p f δ with| .ok _=>True| .ex x=>False| .no=>False)
  (hRR:∀(Da C:Addr) (s1:Shared) (G' H':Hp) (vs:List V) (rs:List D),Bx m fi fg p f δ=.ok (.ow (.lst rs))->Inv X zd σ H' s1->(∃m,s1.heap.Ns C m)->Dn X zd H' C->Step G H G' H'->H Da=none->H' Da=some (.lst vs)->G' Da=none->HasL X.K G' vs rs->RR (.ref Da) C (.ok .next) s1):
  wpAny (model X.prog X.w) X.A (eval iter X.env) (λx s₁=>wpAny (model X.prog X.w) X.A (pyIter x) (λit s₂=>wpAny (model X.prog X.w) X.A (newList []) (λzp s₃=>
   wpAny (model X.prog X.w) X.A (newFunctionEnv scope X.env.globals (Dg X.env.cells scope.names []) [] X.env.qual none .none (some X.env)) (λcenv s₄=>
    codeAny (model X.prog X.w) X.A (.compStart (.ListComp elt [⟨tg,iter,ifs,0⟩] scope pos) 0 it zp {cenv with scope:=relabel scope X.env}) (RR zp cenv.locals) s₄) X.xe s₃) X.xe s₂) X.xe s₁) X.xe s:=by
 refine dh_9 hx0 (B:=B) hk hb hm hin I (Z:=λG2 H2=>Step G H G2 H2) (λG2 H2 z=>⟨z.gh,h0.mono z.gg⟩) hB ?_ o λDa C s1 G2 H2 G' H' vs rs e Io hm' fc z st h1 h2 h3 rl=>hRR Da C s1 G' H' vs rs e Io hm' fc (z.trans st) (z.hh.free h1) h2 h3 rl;refine F1 (hi zd s σ H (λJ H2=>∃ds G2,fi δ=.ok ds/\Step G H G2 H2/\ItD X.K G2 J ds) I ⟨G,δ,g0,h0, ?_⟩) (λxv s₁ h₁=>F1 h₁ (λitv s₂ h₂=> ?_) λ_ _ e=>(hx0 _ _ e).elim) λ_ _ e=>(hx0 _ _ e).elim
 ·unfold Bx at o;cases e:fi δ with
  |ok ds=>exact λJ G2 H2 st it=>⟨ds,G2,rfl,st,it⟩
  |ex x=>rw[e]at o;exact o
  |no=>rw[e]at o;exact o
 ·obtain⟨it,fp,tn,J,H2,rfl,I2,T,st2,f2,ds,G2,e2,stp,itd⟩:=h₂;exact⟨it,fp,tn,J,H2,ds,G2,rfl,I2,T,st2,f2,e2,stp,itd⟩
def bu_5{elt iter tg:Expr}{ifs:List Expr}{scope:Scope}{N':List Str}{fi:FI}{fg:Ic}{p:FT}{f:FE}{m:Nat}(hx0:∀e s,¬X.xe e s){B:Cx->Prop}(hB:∀zd σ C s0 H0 fp pn,Inv X zd σ H0 s0->B (Ej X scope (Dg X.env.cells scope.names []) N' C s0 H0 fp pn))(hi:PIZ X B tg iter (tI X.K Di fi))(hk:scope.kind=.function)(hb:Hm scope.names X.env.scope.names X.N N'=true)
  (hm:N'.length=X.N.length + m)
  (hin:∀C s0 H0 fp pn,GC (Ej X scope (Dg X.env.cells scope.names []) N' C s0 H0 fp pn) Di tg fg/\CTs (Ej X scope (Dg X.env.cells scope.names []) N' C s0 H0 fp pn) Di ifs p/\ED (Ej X scope (Dg X.env.cells scope.names []) N' C s0 H0 fp pn) Di elt f)
  (hs:∀x,foldedSetIterable iter X.env x=pure x:=by intro _;rfl):ED X Di (.ListComp elt [⟨tg,iter,ifs,0⟩] scope pos) (Bx m fi fg p f):=by
 intro zd s σ H Q I q;obtain⟨G,δ,g0,h0,o⟩:=q;rw[eval_ListComp];have n:=bk_0 I.ok hk hb;refine Z2 (use:=none) rfl hs n.clos n.kind n.names (bk_1 (RR:=λzp C=>compPost (model X.prog X.w) X.A X.xe none (EP X zd σ Q) zp C) hx0 hi hk hb hm hin I g0 h0 (hB _ _) ?_ λDa C s1 G' H' vs rs e Io hm' fc st h1 h2 h3 rl=> ?_)
 ·cases e:Bx m fi fg p f δ with
  |ok w=>trivial
  |ex x=>rw[e]at o;exact o
  |no=>rw[e]at o;exact o
 ·rw[e]at o;obtain⟨mm,hnm⟩:=hm';obtain⟨c0,c1,c2,c3,c4,c5⟩:=fc;exact⟨mm,hnm,λh' sb=>⟨.ref Da,H',Io.turned (t':=s1.toks) (λb ob hb e=>(sb.2 b hb).trans e) c0 c1 c3 c4 c5,rfl,o (.ref Da) (λb=>b=Da) G' H' st (λa e=>by subst e;exact⟨h1,h3,by rw[h2];simp⟩) (.list h2 rfl rl)⟩⟩
def dr_4{elt iter tg:Expr}{ifs:List Expr}{scope:Scope}{N':List Str}{fi:FI}{fg:Ic}{p:FT}{f:FE}{m:Nat}(hx0:∀e s,¬X.xe e s)(hc:X.calm=true)(hi:ID X Di tg iter fi)(hk:scope.kind=.function)(hb:Hm scope.names X.env.scope.names X.N N'=true)
  (hm:N'.length=X.N.length + m)
  (hin:∀C s0 H0 fp pn,GC (Ej X scope (Dg X.env.cells scope.names []) N' C s0 H0 fp pn) Di tg fg/\CTs (Ej X scope (Dg X.env.cells scope.names []) N' C s0 H0 fp pn) Di ifs p/\ED (Ej X scope (Dg X.env.cells scope.names []) N' C s0 H0 fp pn) Di elt f)
  (hs:∀x,foldedSetIterable iter X.env x=pure x:=by intro _;rfl):ED X Di (.ListComp elt [⟨tg,iter,ifs,0⟩] scope pos) (Bx m fi fg p f):=
 bu_5 (B:=da_6) hx0 (λ_ _ _ _ _ _ _ _=>hc) (PI.z hi) hk hb hm hin hs
def t_8{elt iter tg:Expr}{ifs:List Expr}{scope:Scope}{N':List Str}{fi:FI}{fg:Ic}{p:FT}{f:FE}{m:Nat}(hc:X.calm=true)(hi:ID X.nox Di tg iter fi)(hk:scope.kind=.function)(hb:Hm scope.names X.env.scope.names X.N N'=true)
  (hm:N'.length=X.N.length + m)
  (hin:∀C s0 H0 fp pn,GC (Ej X scope (Dg X.env.cells scope.names []) N' C s0 H0 fp pn) Di tg fg/\CTs (Ej X scope (Dg X.env.cells scope.names []) N' C s0 H0 fp pn) Di ifs p/\ED (Ej X scope (Dg X.env.cells scope.names []) N' C s0 H0 fp pn) Di elt f)
  (hs:∀x,foldedSetIterable iter X.env x=pure x:=by intro _;rfl):ED X EX (.ListComp elt [⟨tg,iter,ifs,0⟩] scope pos) (Bx m fi fg p f):=
 PE.imp (PE.nox (dr_4 (X:=X.nox) (λ_ _ z=>z) hc hi hk hb hm hin hs)) λ σ H Q ⟨G,δ,g0,h0,o⟩=>by
  refine⟨G,δ,g0,h0, ?_⟩;cases e:Bx m fi fg p f δ with
  |ok w=>rw[e]at o;exact o
  |ex x=>exact(bj_9 e).elim
  |no=>rw[e]at o;exact o
theorem PS.nox{st:Stmt}{t:TS}(h:PS X.nox st t):PS X st t:=λzd s σ H D I hw=>
 F1 (h zd s σ H D (I.wish _) hw) (λ_ _ q=>q.unwish) λ_ _ z=>False.elim z
def ec_9{i:Nat}{js:List Nat}{f:FE}(h:∀δ x,f δ≠ .ex x){Δ Δ':SE}{x:Xn}(e:Al i js f Δ=.ex x Δ'):False:=by
 unfold Al at e;have hp:∀Δ2,Em i Δ2 (f (Bg Δ2))=.ex x Δ'->False:=λ Δ2 e2=>by
  unfold Em at e2;cases q:f (Bg Δ2) with
  |ok w=>rw[q]at e2;cases w <;> cases e2
  |ex y=>exact h _ _ q
  |no=>rw[q]at e2;cases e2
 cases q:f (Bg Δ) with
 |ok w=>rw[q]at e;cases w <;> cases e
 |ex y=>exact h _ _ q
 |no=>
  rw[q]at e;cases q2:f (Aw Δ) with
  |ok w=>
   simp only[q2]at e
   split at e
   ·cases e
   ·exact hp _ e
  |ex y=>exact h _ _ q2
  |no=>simp only[q2]at e;cases e
def dr_5(js:List Nat){elt iter tg:Expr}{ifs:List Expr}{scope:Scope}{N':List Str}{fi:FI}{fg:Ic}{p:FT}{f:FE}{m i:Nat}{y:Str}{py bj:Pos}(hx0:∀e s,¬X.xe e s)(hc:X.calm=true)(hi:ID X Di tg iter fi)(hk:scope.kind=.function)(hb:Hm scope.names X.env.scope.names X.N N'=true)
  (hm:N'.length=X.N.length + m)
  (hin:∀C s0 H0 fp pn,GC (Ej X scope (Dg X.env.cells scope.names []) N' C s0 H0 fp pn) Di tg fg/\CTs (Ej X scope (Dg X.env.cells scope.names []) N' C s0 H0 fp pn) Di ifs p/\ED (Ej X scope (Dg X.env.cells scope.names []) N' C s0 H0 fp pn) Di elt f)
  (hN:X.N.Nodup) (hy:X.N[i]? =some y:=by rfl) (hx:Loc X.env.scope y:=by trivial) (hf:X.fn y=true\/X.env.scope.names.lookup y=some .local:=by trivial)
  (hsw:swapsWith (.ListComp elt [⟨tg,iter,ifs,0⟩] scope pos) (some (.Name y py)) bj.line X.env=pure true:=by rfl)
  (hs:∀x,foldedSetIterable iter X.env x=pure x:=by intro _;rfl):SD X Di (.Assign [.Name y py] (.ListComp elt [⟨tg,iter,ifs,0⟩] scope pos) bj) (Al i js (Bx m fi fg p f)):=by
 intro zd s σ H D I q;have q2:=ch_1 q;obtain⟨G,δ,g0,h0,o⟩:=q2;have n:=bk_0 I.ok hk hb;rw[exec_Assign_Name_used _ _ _ _ hsw];refine A3 (Q7 (A3 ?_));show wpAny _ X.A (do let _<-comprehension (.ListComp elt [⟨tg,iter,ifs,0⟩] scope pos) scope X.env _ (newList []) false (eval iter X.env) (some (assign (.Name y py) X.env))) _ _ s;refine A3 (F1 (Z2 (use:=some (assign (.Name y py) X.env)) (Q:=λ_ s'=>SP X zd D .next s') rfl hs n.clos n.kind n.names
  (bk_1 (RR:=λzp C=>compPost (model X.prog X.w) X.A X.xe (some (assign (.Name y py) X.env)) (λ_ s'=>SP X zd D .next s') zp C) hx0 (B:=da_6) (PI.z hi) hk hb hm hin I g0 h0 (λ_ _ _ _ _ _=>hc) ?_ λDa C s1 G' H' vs rs e Io hm' fc st h1 h2 h3 rl=> ?_)) (λ_ s' hq=>C6 (C6 hq)) λ_ _ e=>e)
 ·cases e:Bx m fi fg p f δ with
  |ok w=>trivial
  |ex x=>rw[e]at o;exact o
  |no=>rw[e]at o;exact o
 ·rw[e]at o;obtain⟨mm,hnm⟩:=hm';obtain⟨c0,c1,c2,c3,c4,c5⟩:=fc;show wpAny _ X.A (assign (.Name y py) X.env (.ref Da)) _ _ _;refine wpAny_assign_Name (bs_4 Io hN hy hx (v:=.ref Da) rfl (λs2 I2 ⟨a,sb,ha⟩=> ?_) hf);have hCa:C≠a:=by
   rcases ha with rfl|ha
   ·exact c1
   ·exact λz=>c4 y a ha z.symm
  refine⟨mm,hnm.sameBut sb hCa,λh' sb'=>⟨_,H',I2.turned (t':=s2.toks) (λb ob hb e=>(sb'.2 b hb).trans e) c0 c1 c3 c4 c5, ?_⟩⟩;exact o (.ref Da) (λb=>b=Da) G' H' st (λa e=>by subst e;exact⟨h1,h3,by rw[h2];simp⟩) (.list h2 rfl rl)
def bg_8(js:List Nat){elt iter tg:Expr}{ifs:List Expr}{scope:Scope}{N':List Str}{fi:FI}{fg:Ic}{p:FT}{f:FE}{m i:Nat}{y:Str}{py bj:Pos}(hc:X.calm=true)(hi:ID X.nox Di tg iter fi)(hk:scope.kind=.function)(hb:Hm scope.names X.env.scope.names X.N N'=true)
  (hm:N'.length=X.N.length + m)
  (hin:∀C s0 H0 fp pn,GC (Ej X scope (Dg X.env.cells scope.names []) N' C s0 H0 fp pn) Di tg fg/\CTs (Ej X scope (Dg X.env.cells scope.names []) N' C s0 H0 fp pn) Di ifs p/\ED (Ej X scope (Dg X.env.cells scope.names []) N' C s0 H0 fp pn) Di elt f)
  (hN:X.N.Nodup) (hy:X.N[i]? =some y:=by rfl) (hx:Loc X.env.scope y:=by trivial) (hf:X.fn y=true\/X.env.scope.names.lookup y=some .local:=by trivial)
  (hsw:swapsWith (.ListComp elt [⟨tg,iter,ifs,0⟩] scope pos) (some (.Name y py)) bj.line X.env=pure true:=by rfl)
  (hs:∀x,foldedSetIterable iter X.env x=pure x:=by intro _;rfl):SD X EX (.Assign [.Name y py] (.ListComp elt [⟨tg,iter,ifs,0⟩] scope pos) bj) (Al i js (Bx m fi fg p f)):=
 PS.imp (PS.nox (dr_5 (X:=X.nox) js (λ_ _ z=>z) hc hi hk hb hm hin hN hy hx hf hsw hs)) λD σ H ⟨H0,G0,G,Δ,O,E,q⟩=>by
  refine⟨H0,G0,G,Δ,O,E, ?_⟩;cases e:Al i js (Bx m fi fg p f) Δ with
  |ex x Δ'=>exact(ec_9 (λ_ _ z=>bj_9 z) e).elim
  |_=>rw[e]at q;exact q
end
def ap_1:bootBuiltins "bool" =some (.type "bool"):=by decide +kernel
def n_6{k:Nat}{scope:Scope}{cl:List (Str×Addr)}{N':List Str}{C:Addr}{s0:Shared}{H0:Hp}{fp:List Addr}{pn:AE}{c:Bool}(h:RoomC c k (Cx.A X)):RoomC c k (Cx.A (Ej X scope cl N' C s0 H0 fp pn)):=h
def ba_3{scope:Scope}{cl:List (Str×Addr)}{N':List Str}{C:Addr}{s0:Shared}{H0:Hp}{fp:List Addr}{pn:AE}(h:Cx.calm X=true):Cx.calm (Ej X scope cl N' C s0 H0 fp pn)=true:=h
section
variable{X:Cx}{EX:Bt}{a b e:Expr}{es:List Expr}{f g:FE}{fa:FA}{pos p2:Pos}
abbrev FO:=DE->R (Option Int)
def tDo(K:Frag)(EX:Bt)(fo:FO):TO:=λ σ H Q=>∃G δ,Same G H/\HasS K G σ δ/\match fo δ with
 | .ok i=>∀G' H',Step G H G' H'->Q i H'
 | .ex x=>(EX σ).p x G H
 | .no=>False
abbrev OD(X:Cx)(EX:Bt)(e:Option Expr)(fo:FO):Prop:=PO X e (tDo X.K EX fo)
def Dm:FO:=λ_=> .ok none
def intPart:D->R (Option Int)
 | .int i=> .ok (some i)
 |_=> .no
def Cu(f:FE):FO:=λ δ=>(f δ).bind λw=>intPart w.d
def PO.imp{e:Option Expr}{t t':TO}(h:PO X e t)(i:∀σ H Q,t' σ H Q->t σ H Q):PO X e t':=λzd s σ H Q I q=>h zd s σ H Q I (i σ H Q q)
def ac_9:OD X EX none Dm:=PO.imp eb_0 λ σ H Q ⟨G,δ,g,s,o⟩=>o G H (Step.refl g)
def y_1(h:ED X EX e f):OD X EX (some e) (Cu f):=PO.imp (eb_1 h) λ σ H Q ⟨G,δ,g,s,o⟩=>by
 refine⟨G,δ,g,s, ?_⟩;unfold Cu at o;cases e1:f δ with
 |ok w=>
  rw[e1]at o;simp only[R.bind_ok]at o;refine WP.intro λv G' H' st r=> ?_;revert r o;cases w.d with
  |int i=>intro o r;cases r;exact⟨i,rfl,o G' H' st⟩
  |_=>intro o _;exact False.elim o
 |ex x=>rw[e1]at o;exact o
 |no=>rw[e1]at o;exact o
def Ek{α:Type}(xs:List α)(lo hi:Option Int):List α:=(xs.drop (HT.sIx xs.length 0 lo)).take (HT.sIx xs.length xs.length hi - HT.sIx xs.length 0 lo)
def am_1:D->Option Int->Option Int->R W
 | .lst ds,lo,hi=> .ok (.ow (.lst (Ek ds lo hi)))
 | .str x,lo,hi=>if x.length<=16777216 then .ok (.sh (.str (Txt.slice x lo hi))) else .no
 |_,_,_=> .no
def ep_4:SlR X (λx lo hi H Q=>∃z,x=.str z/\z.length<=sizeLine/\Q (.str (Txt.slice z lo hi)) H):=by
 intro zd s σ H x v vl vu lo hi sl Q I rx hs pl pu h;obtain⟨z,rfl,hz,q⟩:=h;obtain⟨t,rfl⟩:=rx;refine⟨"str",_,PySem.F.slot_str_getitem.lookup,typeIs_str _ _ _, ?_⟩;obtain⟨o,ho,hc,hd⟩:=hs;have fin:∀t' k,EP X zd σ Q (.str (Txt.slice z lo hi) t') {s with toks:=k}:=λt' k=>⟨.str _,H,I.tok _,⟨_,rfl⟩,q⟩;cases pl with
 |none=>
  cases pu with
  |none=>exact R3 (l:=none) (u:=none) (st:=none) ⟨o,ho,hc,hd⟩ rfl (W8 ⟨C5 (ZA2 z _ _) hz,fin⟩)
  |int j uj=>exact R3 (l:=none) (u:=some (j,uj)) (st:=none) ⟨o,ho,hc,hd⟩ rfl (W8 ⟨C5 (ZA2 z _ _) hz,fin⟩)
 |int i ui=>
  cases pu with
  |none=>exact R3 (l:=some (i,ui)) (u:=none) (st:=none) ⟨o,ho,hc,hd⟩ rfl (W8 ⟨C5 (ZA2 z _ _) hz,fin⟩)
  |int j uj=>exact R3 (l:=some (i,ui)) (u:=some (j,uj)) (st:=none) ⟨o,ho,hc,hd⟩ rfl (W8 ⟨C5 (ZA2 z _ _) hz,fin⟩)
def rSlD(K:Frag):V->Option Int->Option Int->Hp->VK->Prop:=λx lo hi H Q=>∃(EX:EXT) (G:Hp) (d:D),Same G H/\Has K G x d/\Out K EX G H (am_1 d lo hi) Q
def sl_d:SlR X (rSlD X.K):=by
 intro zd s σ H x v vl vu lo hi sl Q I rx hs pl pu h;obtain⟨EX,G,d,g,r,o⟩:=h;cases r with
 |lst h r=>
  rename_i vs ds;refine eb_3 zd s σ H _ v vl vu lo hi sl Q I rx hs pl pu ⟨_,_,rfl,g.seq h,λp hp=> ?_⟩;have gr:HasL X.K G (cutV vs lo hi) (Ek ds lo hi):=by
   unfold cutV Ek;rw[r.length];exact(r.drop _).take _
  exact ac_6 o g gr p hp
 |str z=>
  simp only[am_1]at o
  split at o
  ·rename_i hz;exact ep_4 zd s σ H _ v vl vu lo hi sl Q I rx hs pl pu ⟨z,rfl,by rw[E5];exact hz,Dr o g (.str _)⟩
  ·exact o.elim
 |_=>exact False.elim o
def Bs(f:FE)(lo hi:FO):FE:=λ δ=>(f δ).bind λw=>(lo δ).bind λl=>(hi δ).bind λu=>am_1 w.d l u
def tDo.seq{G H:Hp}{σ:Sg}{δ:DE}{fo:FO}{k:Option Int->R W}{Q:VK}{P:Option Int->Hp->Prop}(g:Same G H)(s:HasS K G σ δ)(h:Out K (EX σ) G H ((fo δ).bind k) Q)
  (i:∀b G' H',fo δ=.ok b->Step G H G' H'->Out K (EX σ) G' H' (k b) Q->P b H'):tDo K EX fo σ H P:=by
 refine⟨G,δ,g,s, ?_⟩;cases e:fo δ with
 |ok w=>rw[e]at h;exact λG' H' st=>i w G' H' e st (Out.mono st h)
 |ex x=>rw[e]at h;exact h
 |no=>rw[e]at h;exact h
def w_1{lo hi:Option Expr}{fl fh:FO}(he:ED X EX e f)(hl:OD X EX lo fl)(hu:OD X EX hi fh):ED X EX (.Subscript e (.Slice lo hi none p2) pos) (Bs f fl fh):=
 PE.imp (do_9 sl_d he hl hu) λ σ H Q ⟨G,δ,g0,s0,o⟩=>tD.seq g0 s0 o λw v G1 H1 _ st1 r1 o1=>tDo.seq st1.gh (s0.mono st1.gg) o1 λl G2 H2 _ st2 o2=>
  tDo.seq st2.gh (s0.mono (st1.gg.trans st2.gg)) o2 λu G3 H3 _ st3 o3=>⟨_,G3,w.d,st3.gh,r1.mono (st2.gg.trans st3.gg),o3⟩
def tyD(T:String):D->Bool
 | .str _=>T == "str"
 | .int _=>T == "int"
 | .lst _=>T == "list"
 |_=>false
def ej_6{G H:Hp}{T:String}{d:D}(g:Same G H)(r:Has K G v d)(h:tyD T d=true):tyV K T v H:=by
 cases r with
 |str x=>exact eq_of_beq h
 |int i=>exact eq_of_beq h
 |lst hq r=>exact .inl ⟨eq_of_beq h,_,g.seq hq⟩
 |_=>cases h
def rDm(K:Frag)(fn:D->AF):V->List V->Hp->VK->Prop:=λx vs H Q=>∃(EX:EXT) (G:Hp) (d:D) (ds:List D),Same G H/\Has K G x d/\HasL K G vs ds/\Out K EX G H (fn d ds) Q
abbrev MtD(X:Cx)(id:String)(fn:D->AF):Prop:=MtR X id (rDm X.K fn)
def Ia(T:String)(fn:D->AF)(f:FE)(fa:FA):FE:=λ δ=>(f δ).bind λw=>if tyD T w.d=true then(fa δ).bind λds=>fn w.d ds else .no
variable{o:Expr}{name:Str}{zh zf:Pos}{T id:String}{fn:D->AF}
def bg_9(pa:PlainAttrs T)(slot:Slot T name id)(hty:typeOf (.builtin id)=pure (.type "method_descriptor"))(hm:MtD X id fn)(ho:ED X EX o f)(ha:AD X EX (e::es) fa)
  (aa:attributeBase o name X.env (eval o X.env)=eval o X.env:=by rfl)
  (ax:((backTo zf (starEach (e::es) X.env)).all (λx=> !x.1) && (backToKw zf (keywordEach [] X.env)).all (λx=>x.1.isSome)
   && decide ((e::es).length + ([]:List Keyword).length + (if([]:List Keyword).isEmpty then 0 else 1) < 30))=true:=by rfl)
  (ae:(zh.endLine ==zf.line)=true:=by rfl) (hs:starEach (e::es) X.env=(false,eval e X.env)::starEach es X.env:=by rfl) (af:(backTo zf (starEach es X.env)).any (·.1)=false:=by rfl):
  ED X EX (.Call (.Attribute o name zh) (e::es) [] zf) (Ia T fn f fa):=
 PE.imp (dp_4 pa slot hty hm ho ha aa ax ae hs af) λ σ H Q ⟨G,δ,g0,s0,o⟩=>tD.seq g0 s0 o λw v G1 H1 _ st1 r1 o1=>by
  split at o1
  ·rename_i ht;exact⟨ej_6 st1.gh r1 ht,tDa.seq st1.gh (s0.mono st1.gg) o1 λds vs G2 H2 _ st2 r2 o2=>⟨_,G2,w.d,ds,st2.gh,r1.mono st2.gg,r2,o2⟩⟩
  ·exact o1.elim
def eMeth0(T:String)(fn:D->AF)(f:FE):FE:=λ δ=>(f δ).bind λw=>if tyD T w.d=true then fn w.d [] else .no
def dr_6(pa:PlainAttrs T)(slot:Slot T name id)(hty:typeOf (.builtin id)=pure (.type "method_descriptor"))(hm:MtD X id fn)(ho:ED X EX o f)
  (aa:attributeBase o name X.env (eval o X.env)=eval o X.env:=by rfl) (ae:(zh.endLine ==zf.line)=true:=by rfl):ED X EX (.Call (.Attribute o name zh) [] [] zf) (eMeth0 T fn f):=
 PE.imp (dp_3 pa slot hty hm ho aa ae) λ σ H Q ⟨G,δ,g0,s0,o⟩=>tD.seq g0 s0 o λw v G1 H1 _ st1 r1 o1=>by
  split at o1
  ·rename_i ht;exact⟨ej_6 st1.gh r1 ht,_,G1,w.d,[],st1.gh,r1,.nil,o1⟩
  ·exact o1.elim
def dr_7:D->List D->R W
 | .int i,[]=> .ok (.sh (.int (Builtin.Int.intBits i:Nat)))
 |_,_=> .no
def di_0:MtD X "int.bit_length" dr_7:=by
 intro zd s σ H x vs v us Q I rx rv h;obtain⟨EX,G,d,ds,g,r,rl,o⟩:=h;cases r with
 |int i=>
  cases rl with
  |nil=>
   obtain⟨t,rfl⟩:=rx;cases rv;exact PyProof.Rows.call_int_bit_length ⟨.int _,H,I.tok _,⟨_,rfl⟩,Dr o g (.int _)⟩
  |cons _ _=>exact False.elim o
 |_=>cases rl <;> exact False.elim o
def ca_0:D->List D->R W
 | .str x,[.str y]=> .ok (.sh (.int (Txt.count x y)))
 |_,_=> .no
def da_7{G:Hp}{d:D}{ds:List D}(r:Has K G v d)(rl:HasL K G vs ds){P:Prop}(h:∀x y,v=.str x->d=.str x->vs= [.str y]->ds= [.str y]->P)(n:(∀x y,¬(d=.str x/\ds= [.str y]))->P):P:=by
 by_cases e:∃x y,d=.str x/\ds= [.str y]
 ·obtain⟨x,y,rfl,rfl⟩:=e;cases r;cases rl with
  |cons a t=>cases a;cases t;exact h x y rfl rfl rfl rfl
 ·exact n λx y z=>e ⟨x,y,z⟩
def di_1:MtD X "str.count" ca_0:=by
 intro zd s σ H x vs v us Q I rx rv h;obtain⟨EX,G,d,ds,g,r,rl,o⟩:=h;refine da_7 r rl (λx y e1 e2 e3 e4=> ?_) λn=> ?_
 ·subst e1 e2 e3 e4;obtain⟨t,rfl⟩:=rx;obtain⟨u,rfl,t',rfl⟩:=rv.one;exact SC.count ⟨.int _,H,I.tok _,⟨_,rfl⟩,Dr o g (.int _)⟩
 ·have e:ca_0 d ds=.no:=by
   unfold ca_0
   split
   ·rename_i x y;exact absurd ⟨rfl,rfl⟩ (n x y)
   ·rfl
  rw[e]at o;exact o.elim
def ch_7:D->List D->R W
 | .str x,[.str y]=> .ok (.sh (.int (Txt.find x y)))
 |_,_=> .no
def dr_8:MtD X "str.find" ch_7:=by
 intro zd s σ H x vs v us Q I rx rv h;obtain⟨EX,G,d,ds,g,r,rl,o⟩:=h;refine da_7 r rl (λx y e1 e2 e3 e4=> ?_) λn=> ?_
 ·subst e1 e2 e3 e4;obtain⟨t,rfl⟩:=rx;obtain⟨u,rfl,t',rfl⟩:=rv.one;exact SC.find ⟨.int _,H,I.tok _,⟨_,rfl⟩,Dr o g (.int _)⟩
 ·have e:ch_7 d ds=.no:=by
   unfold ch_7
   split
   ·rename_i x y;exact absurd ⟨rfl,rfl⟩ (n x y)
   ·rfl
  rw[e]at o;exact o.elim
def bu_6:List D->Option (List Str)
 | []=>some []
 | .str x::ds=>(bu_6 ds).map (x:: ·)
 |_=>none
theorem ch_8{G:Hp}:∀{vs:List V} {ds:List D} {us:List Value} {ys:List Str},HasL K G vs ds->Vals vs us->bu_6 ds=some ys->StrsAre us ys
 |_,_,_,_,.nil,r,e=>by cases r;cases e;exact .nil
 |_,_,_,_,.cons h t,r,e=>by
  cases r with
  |cons r1 r2=>
   cases h with
   |str x=>
    obtain⟨t',rfl⟩:=r1;simp only[bu_6]at e;obtain⟨zs,q,rfl⟩:=D3.mp e;exact .cons x t' (ch_8 t r2 q)
   |_=>cases e
def aw_0:D->List D->R W
 | .str x,[.lst ds]=>match bu_6 ds with
  |some ys=>if(ys.map (·.length)).sum + ys.length * x.length<=16777216 then .ok (.sh (.str (Txt.join x ys))) else .no
  |none=> .no
 |_,_=> .no
def ch_9:MtD X "str.join" aw_0:=by
 intro zd s σ H x vs v us Q I rx rv h;obtain⟨EX,G,d,ds,g,r,rl,o⟩:=h;cases r with
 |str x=>
  cases rl with
  |nil=>exact False.elim o
  |cons a t=>
   cases t with
   |cons _ _=>cases a <;> exact False.elim o
   |nil=>
    cases a with
    |lst h r=>
     obtain⟨t,rfl⟩:=rx;obtain⟨u,rfl,ru⟩:=rv.one;cases ru;simp only[aw_0]at o
     split at o
     ·rename_i ys e
      split at o
      ·rename_i hz;obtain⟨its,rv',pl,_⟩:=I.list (g.seq h);exact join_list pl.isList (by simpa using ch_8 r rv' e) hz λt' k=>⟨.str _,H,I.tok _,⟨_,rfl⟩,Dr o g (.str _)⟩
      ·exact o.elim
     ·exact o.elim
    |_=>exact False.elim o
 |_=>cases rl <;> exact False.elim o
def Du(T:String):D->Option Bool
 | .non=>some false
 | .bl _=>some (T == "bool" || T == "int")
 | .int _=>some (T == "int")
 | .str _=>some (T == "str")
 | .lst _=>some (T == "list")
 | .tup _=>some (T == "tuple")
 |_=>none
def eIs(T:String)(f:FE):FE:=λ δ=>(f δ).bind λw=>match Du T w.d with
 |some k=> .ok (.sh (.bl k))
 |none=> .no
structure KitT(K:Frag)(T:String):Prop where
 non:kitOne K (.type "NoneType") (.type T)=some false
 bl:kitOne K (.type "bool") (.type T)=some (T == "bool" || T == "int")
 int:kitOne K (.type "int") (.type T)=some (T == "int")
 str:kitOne K (.type "str") (.type T)=some (T == "str")
 lst:kitOne K (.type "list") (.type T)=some (T == "list")
 tup:kitOne K (.type "tuple") (.type T)=some (T == "tuple")
def dr_9{T:String}(k:KitT X.K T):Ei X (.builtin "isinstance") (λxs H Q=>∃G x d b,xs= [x,.ty T]/\Same G H/\Has X.K G x d/\Du T d=some b/\Q (.bl b) H):=by
 intro zd s σ H xs us Q I rv h;obtain⟨G,x,d,b,rfl,g,r,e,q⟩:=h;obtain⟨u,u2,rfl,r1,r2⟩:=rv.two;cases r2;have fin:∀tk,EP X zd σ Q (.bool b) {s with toks:=tk}:=λtk=>⟨.bl b,H,I.tok _,rfl,q⟩;cases r with
 |non=>cases r1;exact kia_one kitx_none I.kIn True.intro (k.non.trans e) (λz=>nomatch z) fin
 |bl y=>cases r1;exact kia_one kitx_bool I.kIn True.intro (k.bl.trans e) (λz=>nomatch z) fin
 |int i=>obtain⟨t,rfl⟩:=r1;exact kia_one kitx_int I.kIn True.intro (k.int.trans e) (λz=>nomatch z) fin
 |str y=>obtain⟨t,rfl⟩:=r1;exact kia_one kitx_str I.kIn True.intro (k.str.trans e) (λz=>nomatch z) fin
 |lst h r=>
  cases r1;obtain⟨its,_,⟨ob,n,e1,c,_,_⟩,_⟩:=I.list (g.seq h);exact kia_one kitx_list I.kIn ⟨ob,e1,c⟩ (k.lst.trans e) (λz=>nomatch z) fin
 |tup h r=>
  cases r1;obtain⟨its,_,⟨ob,e1,c,_⟩,_⟩:=I.tuple (Same.tupS g h);exact kia_one kitx_tuple I.kIn ⟨ob,e1,c⟩ (k.tup.trans e) (λz=>nomatch z) fin
 |exn0 _ _=>cases e
 |exn1 _ _ _ _ _=>cases e
 |dic _ _ _=>cases e
 |obj _ _ _ _=>cases e
def am_2{Tn:Str}{T:String}{pp p3:Pos}(k:KitT X.K T)(ha:ED X EX a f)(hm:X.mg "isinstance" =none)(hmT:X.mg Tn=none)(hvT:bootBuiltins Tn=some (.type T))(hg:Gl X "isinstance" :=by rfl)(hgT:Gl X Tn:=by rfl)
  (hn:Tn≠ "__name__" :=by decide) (hdT:AG Tn:=by decide)
  (he:starEach [a,.Name Tn p3] X.env=(false,eval a X.env)::starEach [.Name Tn p3] X.env:=by rfl) (hpl:(backTo pos (starEach [.Name Tn p3] X.env)).any (·.1)=false:=by rfl)
  (hs:starEach [.Name Tn p3] X.env=(false,eval (.Name Tn p3) X.env)::starEach [] X.env:=by rfl):ED X EX (.Call (.Name "isinstance" pp) [a,.Name Tn p3] [] pos) (eIs T f):=
 PE.imp (af_3 (dr_9 k) hg hm T6 (Gj ha (Gj (cy_8 (v:=.ty T) hgT hmT hvT rfl hn hdT) u_3 hs) he) ⋯ ⋯ he hpl) λ σ H Q ⟨G,δ,g0,s0,o⟩=>tD.seq g0 s0 o λw v G1 H1 _ st1 r1 o1=>by
  split at o1
  ·rename_i b e;exact⟨G1,v,w.d,b,rfl,st1.gh,r1,e,Dr o1 st1.gh (.bl b)⟩
  ·exact o1.elim
end
def bk_2(K:Frag):Sp:=λvs H Q _=>∃(a:Addr) (ns:List Int),vs= [.ref a]/\SqL K H a (ns.map V.int)/\ns.length<=63/\∀H',Q (.bl true) H'
theorem da_8{G:Hp}:∀ns:List Int,HasL K G (ns.map V.int) (ns.map D.int)
 | []=> .nil
 |n::ns=> .cons (.int n) (da_8 ns)
def ep_5{w:World}{k:Nat}{f:Addr}{x:Str}{F:AF}(h:FnX P w K mg base true k f fd [x] (Bh K 1 F))
  (hF:∀ns:List Int,ns.length<=63->∃v,F [.lst (ns.map D.int)]=.ok v/\v.d=.bl true):FnOk P w K mg base CX0 k f fd [x] (bk_2 K):=by
 have hs:∀vs H Q E,bk_2 K vs H Q E->Bh K 1 F vs H Q λ_ _ _=>False:=λvs H Q E q=>by
  obtain⟨a,ns,rfl,hS,hl,q⟩:=q;obtain⟨v,e,ev⟩:=hF ns hl;refine⟨rfl,H,[.lst (ns.map D.int)],Same.refl _,.cons (.lst hS (da_8 ns)) .nil, ?_⟩;rw[e];refine WP.intro λu G' H' st r=> ?_;rw[ev]at r;cases r;exact q H'
 refine⟨λvs H Q E q=>(hs vs H Q E q).1,λA outer s H args us vs Q E hr e0 hb hv q=>T3 (h.run A outer s H args us vs Q _ (RoomC.of hr) e0 hb hv (hs vs H Q E q)) λr s' hq=> ?_⟩;cases r with
 |error e=>
  obtain⟨a,C,dx,T,H',_,_,_,_,_,_,_,_,_,_,z⟩:=hq;exact z
 |ok fl=>cases fl <;> exact hq
def ex_3{l:PySem.W.OpenLaw}{q:Program}{loose:List Str}{XP:(AB)->Heap->Prop}{YP:World->Heap->Prop}{d:DefRec}{K:Params->Frag}{x:Str}{k:Nat}(hn:l.most=some 63)(hdf:d.params.defaults= [])(hr:Room k callerA)
  (hY:∀(w:World) (h:Heap),YP w h->(K w.params).In h)
  (F:∀(w:World) (mg:AB) (fa:Addr) (h:Heap),(K w.params).In h->h.Ns mainGlobals mg->mg d.name=some (.ref fa)->
   ∃fd:FuncData,(∀(s:Shared) (u:Value),BindsTo s fd ⟨[u],[]⟩ [(x,u)])/\∀base:Heap,(K w.params).In base->base.Ns mainGlobals mg->FnOk l.prog w (K w.params) mg base CX0 k fa fd [x] (bk_2 (K w.params))):
  PySem.W.WalkO q loose XP YP l.row.toRowW d [] (λf vs=>PySem.call f vs):=
 eb_5 (n:=63) (k:=k) (x:=x) (CX:=λ_=>CX0) (sp:=λw=>bk_2 (K w.params)) hn ⋯ hdf hr hY F (λ_ _ a ns hl _ hS=>⟨a,ns,rfl,hS,hl,λ_=>rfl⟩) λ_ _ _ _ _ z=>z
def Inv.pair{zd:AE}{σ:Sg}{s:Shared}{e it:Addr}{h':Heap}{tk:Nat}{its:List Value}(I:Inv X zd σ H s)(fe:Dn X zd H e)(fi:Dn X zd H it)
  (k:∀b o,b≠e->b≠it->s.heap.get? b=some o->h'.get? b=some o) (he:∃o,h'.get? e=some o) (hi:∃o,h'.get? it=some o) (ht:h'.get? s.heap.objs.size=some {cls:=.type "tuple",data:=.seq its.toArray}) (rv:Vals vs its) (hz:vs.length<=sizeLine):
  Inv X zd σ (upd H s.heap.objs.size (.tup vs)) {s with heap:=h',toks:=tk}:=by
 have hn:H s.heap.objs.size=none:=I.hok.fresh (B0 _);obtain⟨e0,e1,e2,e3,e4,e5⟩:=fe;obtain⟨i0,i1,i2,i3,i4,i5⟩:=fi;have neH:∀b u,H b=some u->b≠e/\b≠it:=λb u q=>⟨λz=>(by rw[z,e0]at q;cases q),λz=>(by rw[z,i0]at q;cases q)⟩;have lt:∀b o,s.heap.get? b=some o->b≠s.heap.objs.size:=λb o q=>C7 (A7 q);refine I.step (g':=s.gens) (d':=s.drawn) (ch:=[e,it]) (λb hb=> ?_) (λb o _ _ hc q _=>k b o (λz=>hc (by simp[z])) (λz=>hc (by simp[z])) q)
  (λb o _ _ hc q _=>⟨o.slots,k b o (λz=>hc (by simp[z])) (λz=>hc (by simp[z])) q⟩) (λb o _ q n=>by rw[Bm (lt b o q)];exact n) (λb o hc q=>⟨o,k b o (λz=>hc (by simp[z])) (λz=>hc (by simp[z])) q⟩)
  (λb xs q=>by rw[Bm (Hx q hn)];exact q) (λb o u q=>by rw[Bm (Hx q hn)];exact q) (λb ps q=>⟨#[],by rw[Bm (Hx q hn),q];simp⟩) (λm hm=> ?_) (λb u q=> ?_) I.bare
 ·have hb':b=e\/b=it:=by simpa using hb
  rcases hb' with rfl|rfl
  ·exact⟨e3,e1,e4,e5⟩
  ·exact⟨i3,i1,i4,i5⟩
 ·obtain⟨o,es,ep,ho,r⟩:=hm;exact⟨o,es,ep,k _ o (Ne.symm e1) (Ne.symm i1) ho,r⟩
 ·by_cases z:b=s.heap.objs.size
  ·subst z;rw[Ct]at q;cases q;exact⟨hz,its,rv,⟨_,ht,rfl,0,rfl⟩⟩
  ·rw[Bm z]at q;refine(I.hok b u q).stay (λc v hc r=> ?_) (λc r=>by rw[Bm (Hx r hn)];exact r) λc xs r=>by rw[Bm (Hx r hn)];exact r
   rcases hc with rfl|hc
   ·exact k c v (neH c u q).1 (neH c u q).2 r
   ·exact k c v (neH c _ hc).1 (neH c _ hc).2 r
def Inv.turned2{zd:AE}{σ:Sg}{s:Shared}{e it:Addr}{h':Heap}{tk:Nat}(I:Inv X zd σ H s)(fe:Dn X zd H e)(fi:Dn X zd H it)
  (k:∀b o,b≠e->b≠it->s.heap.get? b=some o->h'.get? b=some o):Inv X zd σ H {s with heap:=h',toks:=tk}:=by
 obtain⟨e0,e1,e2,e3,e4,e5⟩:=fe;obtain⟨i0,i1,i2,i3,i4,i5⟩:=fi;have neH:∀b u,H b=some u->b≠e/\b≠it:=λb u q=>⟨λz=>(by rw[z,e0]at q;cases q),λz=>(by rw[z,i0]at q;cases q)⟩;refine I.step (g':=s.gens) (d':=s.drawn) (ch:=[e,it]) (λb hb=> ?_) (λb o _ _ hc q _=>k b o (λz=>hc (by simp[z])) (λz=>hc (by simp[z])) q)
  (λb o _ _ hc q _=>⟨o.slots,k b o (λz=>hc (by simp[z])) (λz=>hc (by simp[z])) q⟩) (λb o _ q n=>n) (λb o hc q=>⟨o,k b o (λz=>hc (by simp[z])) (λz=>hc (by simp[z])) q⟩)
  (λb xs q=>q) (λb o u q=>q) (λb ps q=>⟨#[],by rw[q];simp⟩) (λm hm=> ?_) (λb u q=> ?_) I.bare
 ·have hb':b=e\/b=it:=by simpa using hb
  rcases hb' with rfl|rfl
  ·exact⟨e3,e1,e4,e5⟩
  ·exact⟨i3,i1,i4,i5⟩
 ·obtain⟨o,es,ep,ho,r⟩:=hm;exact⟨o,es,ep,k _ o (Ne.symm e1) (Ne.symm i1) ho,r⟩
 ·refine(I.hok b u q).stay (λc v hc r=> ?_) (λc r=>r) λc xs r=>r;rcases hc with rfl|hc
  ·exact k c v (neH c u q).1 (neH c u q).2 r
  ·exact k c v (neH c _ hc).1 (neH c _ hc).2 r
def enL(K:Frag)(l:Addr):It:=
 ⟨λi H=>∃xs x,SqL K H l xs/\xs[i]? =some x,λi H v H'=>∃p,H p=none/\v=.ref p/\∀xs x,SqL K H l xs->xs[i]? =some x->H'=upd H p (.tup [.int (i:Int),x]),λi H=>∃xs,SqL K H l xs/\xs.length=i⟩
def enS(z:Str):It:=
 ⟨λi _=>i < z.cps.size,λi H v H'=>∃p c,H p=none/\v=.ref p/\z.cps[i]? =some c/\H'=upd H p (.tup [.int (i:Int),.str ⟨#[c]⟩]),λi _=>i=z.cps.size⟩
def ds_0{w:World}{elts:List Expr}{x1:Nat}(e it l:Addr)(hei:e≠it):Turn P w K (.Tuple elts x1 pos) (enL K l) [e,it] e (λi h=>(∃old,IsEnum h e it (i:Int) old)/\h.IsListIter it l i) where
 mem:=by simp
 obj:=λi h st b hb=>by
  have hb':b=e\/b=it:=by simpa using hb
  rcases hb' with rfl|rfl
  ·obtain⟨⟨old,q⟩,_⟩:=st;exact⟨_,q,λv z=>by cases z⟩
  ·obtain⟨_,⟨o,q,c,d⟩⟩:=st;exact⟨o,q,λv z=>by rw[d]at z;cases z⟩
 keep:=λi h h' st k=>by
  obtain⟨⟨old,q⟩,r⟩:=st;exact⟨⟨old,k e (by simp) _ q⟩,r.at λo z=>k it (by simp) o z⟩
 item:=by
  intro X hP hw hK hc i zd s σ H E I hf st hg;subst hP hw hK;obtain⟨xs,x,hq,hx⟩:=hg;obtain⟨its,rv,p,hz⟩:=I.list hq;obtain⟨u,hu,ru⟩:=rv.get hx;obtain⟨⟨old,he⟩,hit⟩:=st;have fe:=hf e (by simp);have fi:=hf it (by simp);have pl:=p.isList;have nle:l≠e:=λz=>by
   subst z;obtain⟨o,ho,hc',_⟩:=pl;rw[show s.heap.get? l=_ from he]at ho;cases ho;exact absurd hc' (by simp)
  have nli:l≠it:=λz=>by
   subst z;obtain⟨o,ho,hc',_⟩:=pl;obtain⟨o',ho',hc2,_⟩:=hit;rw[ho]at ho';cases ho';rw[hc']at hc2;exact absurd hc2 (by simp)
  have hlt:i < its.toArray.size:=by
   have:=(A5.mp hu).1;simpa using this
  refine Z7 (Draws.list (A:=X.A.in1) (I.ok.hd hc) it l nli its.toArray) he ⟨hit,pl⟩ hlt hei (by simp[hei,Ne.symm nle]) λy h' tk hy ho hst cw hsz kk=> ?_;have ey:y=u:=by
   have:its.toArray[i]? =some u:=by simpa using hu
   rw[this]at hy;exact(J8 hy).symm
  subst ey;refine⟨_,rfl,X7 ho λh'' bg sb=> ?_⟩;have ay:∃old,IsEnum h'' e it ((i + 1:Nat):Int) old:=⟨_,by
   have e1:((i + 1:Nat):Int)=(i:Int) + 1:=by omega
   rw[e1];exact bg⟩
  refine⟨.ref s.heap.objs.size,upd H s.heap.objs.size (.tup [.int (i:Int),x]), ?_,rfl,⟨_,I.hok.fresh (B0 _),rfl,λys y' hy' ey'=> ?_⟩,⟨ay, ?_⟩,λb hb=> ?_⟩
  ·have ne:s.heap.objs.size≠e:=λz=>absurd (A7 he) (by rw[<-z];exact F5 _);refine Inv.pair (its:=[.int (i:Int) tk,y]) I fe fi (λb o h1 h2 q=>(sb.2 b h1).trans (kk b o h1 h2 q)) ⟨_,bg⟩ ?_ ((sb.2 _ ne).trans cw) (.cons ⟨_,rfl⟩ (.cons ru .nil)) (by show 2<=sizeLine;decide);obtain⟨⟨o,q,_⟩,_⟩:=hst;exact⟨o,(sb.2 it (Ne.symm hei)).trans q⟩
  ·have:=I.list_inj hy' hq;subst this;rw[hx]at ey';cases ey';rfl
  ·exact hst.1.at λo z=>(sb.2 it (Ne.symm hei)).trans z
  ·have hb':b=e\/b=it:=by simpa using hb
   have hbl:b < s.heap.objs.size:=by
    rcases hb' with rfl|rfl
    ·exact A7 he
    ·obtain⟨o,q,_⟩:=hit;exact A7 q
   rw[Bm (C7 hbl)];exact(hf b hb).1
 done:=by
  intro X hP hw hK hc i zd s σ H E I hf st hg;subst hP hw hK;obtain⟨xs,hq,hx⟩:=hg;obtain⟨its,rv,p,hz⟩:=I.list hq;obtain⟨⟨old,he⟩,hit⟩:=st;have hl:=rv.length;have pl:=p.isList;have nli:l≠it:=λz=>by
   subst z;obtain⟨o,ho,hc',_⟩:=pl;obtain⟨o',ho',hc2,_⟩:=hit;rw[ho]at ho';cases ho';rw[hc']at hc2;exact absurd hc2 (by simp)
  have en:i=its.toArray.size:=by simp;omega
  refine ZA3 (Draws.list (A:=X.A.in1) (I.ok.hd hc) it l nli its.toArray) he (by rw[<-en];exact⟨hit,pl⟩) λh' eb=>⟨rfl, ?_⟩;exact Inv.turned2 (tk:=s.toks) I (hf e (by simp)) (hf it (by simp)) λb o h1 h2 q=>eb b o h2 q
 self:=λA i s Q E st h=>by
  obtain⟨⟨old,he⟩,_⟩:=st;exact V2 he h
def bu_7{prog:Program}{w:World}{A:Around}(hh:A.handled=none)(it:Addr)(x:Str)(t:Tok):
  Draws prog w A it [it] x.cps.size (λi v=>∃c u,x.cps[i]? =some c/\v=.str ⟨#[c]⟩ u) (λi h=>h.IsStrIter it (strIterType x) x t i):=by
 unfold strIterType;cases ha:x.cps.all (· < 128)
 ·exact Draws.strWide hh it x t
 ·exact Draws.strAscii hh it x t
def ds_1{w:World}{elts:List Expr}{x1:Nat}(e it:Addr)(z:Str)(t:Tok)(hei:e≠it):Turn P w K (.Tuple elts x1 pos) (enS z) [e,it] e (λi h=>(∃old,IsEnum h e it (i:Int) old)/\h.IsStrIter it (strIterType z) z t i) where
 mem:=by simp
 obj:=λi h st b hb=>by
  have hb':b=e\/b=it:=by simpa using hb
  rcases hb' with rfl|rfl
  ·obtain⟨⟨old,q⟩,_⟩:=st;exact⟨_,q,λv z=>by cases z⟩
  ·obtain⟨_,⟨o,q,c,d⟩⟩:=st;exact⟨o,q,λv z=>by rw[d]at z;cases z⟩
 keep:=λi h h' st k=>by
  obtain⟨⟨old,q⟩,⟨o,r,c⟩⟩:=st;exact⟨⟨old,k e (by simp) _ q⟩,⟨o,k it (by simp) o r,c⟩⟩
 item:=by
  intro X hP hw hK hc i zd s σ H E I hf st hg;subst hP hw hK;obtain⟨⟨old,he⟩,hit⟩:=st;have fe:=hf e (by simp);have fi:=hf it (by simp);refine Z7 (bu_7 (A:=X.A.in1) (I.ok.hd hc) it z t) he hit hg hei (by simp[hei]) λy h' tk hy ho hst cw hsz kk=> ?_;obtain⟨c,uc,hcx,rfl⟩:=hy;refine⟨_,rfl,X7 ho λh'' bg sb=> ?_⟩;have ay:∃old,IsEnum h'' e it ((i + 1:Nat):Int) old:=⟨_,by
   have e1:((i + 1:Nat):Int)=(i:Int) + 1:=by omega
   rw[e1];exact bg⟩
  refine⟨.ref s.heap.objs.size,upd H s.heap.objs.size (.tup [.int (i:Int),.str ⟨#[c]⟩]), ?_,rfl,⟨_,c,I.hok.fresh (B0 _),rfl,hcx,rfl⟩,⟨ay, ?_⟩,λb hb=> ?_⟩
  ·have ne:s.heap.objs.size≠e:=λz=>absurd (A7 he) (by rw[<-z];exact F5 _);refine Inv.pair (its:=[.int (i:Int) tk,.str ⟨#[c]⟩ uc]) I fe fi (λb o h1 h2 q=>(sb.2 b h1).trans (kk b o h1 h2 q)) ⟨_,bg⟩ ?_ ((sb.2 _ ne).trans cw) (.cons ⟨_,rfl⟩ (.cons ⟨_,rfl⟩ .nil)) (by show 2<=sizeLine;decide);obtain⟨o,q,_⟩:=hst;exact⟨o,(sb.2 it (Ne.symm hei)).trans q⟩
  ·obtain⟨o,q,r⟩:=hst;exact⟨o,(sb.2 it (Ne.symm hei)).trans q,r⟩
  ·have hb':b=e\/b=it:=by simpa using hb
   have hbl:b < s.heap.objs.size:=by
    rcases hb' with rfl|rfl
    ·exact A7 he
    ·obtain⟨o,q,_⟩:=hit;exact A7 q
   rw[Bm (C7 hbl)];exact(hf b hb).1
 done:=by
  intro X hP hw hK hc i zd s σ H E I hf st hg;subst hP hw hK;obtain⟨⟨old,he⟩,hit⟩:=st;have en:i=z.cps.size:=hg;refine ZA3 (bu_7 (A:=X.A.in1) (I.ok.hd hc) it z t) he (by rw[<-en];exact hit) λh' eb=>⟨rfl, ?_⟩;exact Inv.turned2 (tk:=s.toks) I (hf e (by simp)) (hf it (by simp)) λb o h1 h2 q=>eb b o h2 q
 self:=λA i s Q E st h=>by
  obtain⟨⟨old,he⟩,_⟩:=st;exact V2 he h
def Cl(k:Nat):List D->List D
 | []=> []
 |d::ds=> .tup [.int (k:Int),d]::Cl (k + 1) ds
theorem n_7:∀{ds:List D} {k i:Nat} {d:D},(Cl k ds)[i]? =some d->∃d',ds[i]? =some d'/\d=.tup [.int ((k + i:Nat):Int),d']
 | [],_,_,_,h=>by simp[Cl]at h
 |x::ds,k,0,d,h=>by simp[Cl]at h;exact⟨x,rfl,h.symm⟩
 |x::ds,k,i + 1,d,h=>by
  obtain⟨d',e1,e2⟩:=n_7 (ds:=ds) (k:=k + 1) (i:=i) (by simpa[Cl] using h);exact⟨d',by simpa using e1,by rw[e2,show k + 1 + i=k + (i + 1) by omega]⟩
theorem ba_4:∀(ds:List D) (k:Nat),(Cl k ds).length=ds.length
 | [],_=>rfl
 |_::ds,k=>by simp[Cl,ba_4 ds (k + 1)]
def am_3:D->R (List D)
 | .lst ds=> .ok (Cl 0 ds)
 | .str x=> .ok (Cl 0 (Hl x))
 |_=> .no
def Ep(f:FE):FI:=λ δ=>(f δ).bind λw=>am_3 w.d
section
variable{X:Cx}{EX:Bt}{a:Expr}{f:FE}{elts:List Expr}{x1:Nat}{tp p pos:Pos}
def iEn(K:Frag)(t:TA):TI:=λ σ H Q=>t σ H λvs H1=>(∃l,vs= [.ref l]/\(∃xs,SqL K H1 l xs)/\Q (enL K l) H1)\/(∃z,vs= [.str z]/\Q (enS z) H1)
def ed_0{ta:TA}(hg:Gl X "enumerate")(hm:X.mg "enumerate" =none)(ha:PA X [a] ta)(hs:starEach [a] X.env= [(false,eval a X.env)]:=by rfl):PI X (.Tuple elts x1 tp) (.Call (.Name "enumerate" p) [a] [] pos) (iEn X.K ta):=by
 intro zd s σ H Q I h;refine Call_ (ah_2 I hg hm PyProof.Rows.boot_enumerate (J6 (Bk (ha pos zd s σ H _ I h) λus s1 ⟨vs,H1,I1,r1,q1⟩=> ?_) hs rfl));rcases q1 with⟨l,rfl,⟨xs,hq⟩,q⟩|⟨z,rfl,q⟩
 ·obtain⟨u,rfl,ru⟩:=r1.one;cases ru;obtain⟨its,rv,pl,hz⟩:=I1.list hq;refine call_enumerate_list pl.isList λh' he hit hsz kk=>V2 he ?_;refine⟨s1.heap.objs.size + 1,[s1.heap.objs.size + 1,s1.heap.objs.size],_,enL X.K l,H1,rfl,I1.kept (t':=s1.toks) kk,ds_0 _ _ l (Nat.succ_ne_self _),⟨⟨_,he⟩,hit⟩,λb hb=> ?_,q⟩;have hb':b=s1.heap.objs.size + 1\/b=s1.heap.objs.size:=by simpa using hb
  have hbl:s1.heap.objs.size<=b:=by
   rcases hb' with rfl|rfl
   ·exact U6 _
   ·exact B0 _
  exact I1.fpOk hbl (I1.hok.fresh hbl)
 ·obtain⟨u,rfl,t,rfl⟩:=r1.one;refine call_enumerate_str λh' he hit hsz kk=>V2 he ?_;refine⟨s1.heap.objs.size + 1,[s1.heap.objs.size + 1,s1.heap.objs.size],_,enS z,H1,rfl,I1.kept (t':=s1.toks) kk,ds_1 _ _ z t (Nat.succ_ne_self _),⟨⟨_,he⟩,hit⟩,λb hb=> ?_,q⟩;have hb':b=s1.heap.objs.size + 1\/b=s1.heap.objs.size:=by simpa using hb
  have hbl:s1.heap.objs.size<=b:=by
   rcases hb' with rfl|rfl
   ·exact U6 _
   ·exact B0 _
  exact I1.fpOk hbl (I1.hok.fresh hbl)
def ed_1{G:Hp}{l:Addr}{ds:List D}(h:SqL K G l vs)(r:HasL K G vs ds):ItD K G (enL K l) (Cl 0 ds):=λG' H g1 g i=>by
 refine⟨λd e=> ?_,λe=> ?_⟩
 ·obtain⟨d',e1,rfl⟩:=n_7 e;obtain⟨v,e2,hv⟩:=r.get e1;refine⟨⟨vs,v,(g1.trans g).seq h,e2⟩,λx H' y=> ?_⟩;obtain⟨p,hp,rfl,y⟩:=y;have:=y vs v ((g1.trans g).seq h) e2;subst this;refine⟨_,Step.new g hp _,.tup (SqT.of Ct) (.cons (by rw[O9];exact .int _) (.cons (hv.mono (g1.trans (p_6 (g.free hp) _))) .nil))⟩
 ·rw[ba_4]at e;exact⟨vs,(g1.trans g).seq h,by rw[r.length];exact e⟩
def ed_2{G:Hp}(z:Str):ItD K G (enS z) (Cl 0 (Hl z)):=λG' H g1 g i=>by
 refine⟨λd e=> ?_,λe=> ?_⟩
 ·obtain⟨d',e1,rfl⟩:=n_7 e;unfold Hl at e1;rw[A8]at e1;cases q:z.cps.toList[i]? with
  |none=>rw[q]at e1;cases e1
  |some c=>
   rw[q]at e1;cases e1;have hi:i < z.cps.size:=by
    have:=(A5.mp q).1;simpa using this
   refine⟨hi,λx H' y=> ?_⟩;obtain⟨p,c',hp,rfl,hc,rfl⟩:=y;have:z.cps.toList[i]? =some c':=by simpa using hc
   rw[q]at this;cases this;refine⟨_,Step.new g hp _,.tup (SqT.of Ct) (.cons (by rw[O9];exact .int _) (.cons (.str _) .nil))⟩
 ·rw[ba_4]at e;unfold Hl at e;rw[A0]at e;show i=z.cps.size;simp at e;omega
def ad_0(hm:X.mg "enumerate" =none)(he:ED X EX a f)(hg:Gl X "enumerate" :=by rfl)(hs:starEach [a] X.env= [(false,eval a X.env)]:=by rfl)(hs1:starEach [a] X.env=(false,eval a X.env)::starEach [] X.env:=by rfl):
  ID X EX (.Tuple elts x1 tp) (.Call (.Name "enumerate" p) [a] [] pos) (Ep f):=
 PI.imp (ed_0 hg hm (Gj he u_3 hs1) hs) λ σ H Q ⟨G,δ,g0,s0,o⟩=>by
  refine⟨G,δ,g0,s0, ?_⟩;unfold Ep at o;cases e1:f δ with
  |ok w=>
   rw[e1]at o;simp only[R.bind_ok]at o;refine WP.intro λv G' H' st r=> ?_;revert r o;cases w.d with
   |lst ds=>
    intro o r;cases r with
    |lst h r=>exact .inl ⟨_,rfl,⟨_,st.gh.seq h⟩,o _ G' H' st (ed_1 h r)⟩
   |str z=>
    intro o r;cases r;exact .inr ⟨z,rfl,o _ G' H' st (ed_2 z)⟩
   |_=>intro o _;exact False.elim o
  |ex x=>rw[e1]at o;exact o
  |no=>rw[e1]at o;exact o
end
def C3(i j c:Int):Prop:=0<=i/\i.natAbs < 1073741824/\j.natAbs < 1073741824/\0 < c/\c.natAbs < 1073741824
instance (i j c:Int):Decidable (C3 i j c):=by unfold C3;exact inferInstance
section
variable{X:Cx}{EX:Bt}{tg a b c:Expr}{fa:FA}{ta:TA}{p pos:Pos}
end
section
variable{X:Cx}{EX:Bt}{a:Expr}{f:FE}{pos:Pos}
def am_4:List D->Option (List Bool)
 | []=>some []
 | .bl b::ds=>(am_4 ds).map (b:: ·)
 |_=>none
def allD:List D->R W
 | [.lst ds]=>match am_4 ds with
  |some bs=> .ok (.sh (.bl (bs.all id)))
  |none=> .no
 |_=> .no
theorem ci_0{G:Hp}:∀{vs:List V} {ds:List D} {us:List Value} {bs:List Bool},HasL K G vs ds->Vals vs us->am_4 ds=some bs->us=bs.map Value.bool
 |_,_,_,_,.nil,r,e=>by cases r;cases e;rfl
 |_,_,_,_,.cons h t,r,e=>by
  cases r with
  |cons r1 r2=>
   cases h with
   |bl x=>
    cases r1;simp only[am_4]at e;obtain⟨zs,q,rfl⟩:=D3.mp e;rw[A9,ci_0 t r2 q]
   |_=>cases e
def di_2(bs:List Bool):(List.range bs.length).all (λi=>bs.getD i true)=bs.all id:=by
 rw[O7,E9,E9];constructor
 ·intro h b hb;obtain⟨i,hi,e⟩:=M8 hb;have:=h i (J9.mpr hi);simp[hi]at this;rw[<-e];exact this
 ·intro h i hi;have hi:=J9.mp hi;simp[hi];exact h _ (List.getElem_mem hi)
def di_3(hc:X.calm=true):Et X (.builtin "all") allD:=by
 intro zd s σ H vs us Q I rv q;obtain⟨EX,G,ds,g,r,o⟩:=q;cases r with
 |nil=>exact False.elim o
 |cons h t=>
  cases t with
  |cons _ _=>cases h <;> exact False.elim o
  |nil=>
   cases h with
   |lst h r=>
    rename_i l _ _;simp only[allD]at o
    split at o
    ·rename_i bs e;obtain⟨u,rfl,ru⟩:=rv.one;cases ru;obtain⟨its,rv',pl,hz⟩:=I.list (g.seq h);have eb:=ci_0 r rv' e;subst eb;have nl:l≠s.heap.objs.size:=λz=>by
      obtain⟨o',ho,_⟩:=pl.isList;exact absurd (A7 ho) (by rw[<-z];exact F5 _)
     refine call_all_walk (Y6 pl.isList ⟨s.heap.objs.size,_,_,_,_,_,λi=>bs.getD i true,rfl,Walks.list (A:=X.A.in1) (I.ok.hd hc) s.heap.objs.size l nl (bs.map Value.bool).toArray,⟨⟨_,C1 _ rfl,rfl,rfl⟩, ?_⟩,λi v s' Q' E' hP hQ=> ?_,λh' tk kk=> ?_⟩)
     ·exact pl.isList.at λo z=>A4 _ z
     ·have hP':(bs.map Value.bool)[i]? =some v:=by simpa using hP
      rw[A8]at hP';cases q:bs[i]? with
      |none=>rw[q]at hP';cases hP'
      |some b=>
       rw[q]at hP';cases hP';have:bs.getD i true=b:=by simp[List.getD,q]
       dsimp only at hQ;rw[this]at hQ;exact Q4 hQ
     ·have en:(bs.map Value.bool).toArray.size=bs.length:=by simp
      rw[en,di_2];refine⟨.bl _,H,I.kept (t':=tk) λb o' z=>kk b o' (by
       have hb:b≠s.heap.objs.size:=C7 (A7 z);simpa using hb) (A4 _ z),rfl,Dr o g (.bl _)⟩
    ·exact o.elim
   |_=>exact False.elim o
end
section
variable{prog:Program}{w:World}{A:Around}{E:AA}{s:Shared}
def aw_1{env:Env}{elts:List Expr}{x1}{t:Addr}{items:Array Value}{Q:Unit->Shared->Prop}(hh:A.handled=none)(ht:s.heap.IsList t items)
  (hn:(assignEach elts env).length=items.size) (cy:(assignEach elts env).findIdx? (·.1)=none)
  (h:∀h',Heap.ExtBut s.heap.objs.size s.heap h'->wpAny (model prog w) A (assignInOrder ((assignEach elts env).map (·.2)) items.toList) Q E {s with heap:=h'}):
  wpAny (model prog w) A (assign (.Tuple elts x1 pos) env (.ref t)) Q E s:=by
 rw[assign_Tuple,unpack,hn,cy];exact A3 (Q7 (A3 (K9 (kun_itemsOf hh ht h))))
end
section
variable{X:Cx}{EX:Bt}{pos:Pos}
def gSeq(K:Frag)(n:Nat)(t:TGs):TG:=λv σ H Q=>∃a xs,v=.ref a/\(SqT K H a xs\/SqL K H a xs)/\xs.length=n/\t xs σ H Q
def ep_6{es:List Expr}{k:Nat}{t:TGs}{n:Nat}(hc:X.calm=true)(h:PGs X es t)
  (hn:(assignEach es X.env).length=n:=by rfl) (hst:(assignEach es X.env).findIdx? (·.1)=none:=by rfl):PG X (.Tuple es k pos) (gSeq X.K n t):=by
 intro zd s σ H v u Q I r hw;obtain⟨a,xs,e1,hq,hl,hw⟩:=hw;rcases hq with hq|hq
 ·exact dn_9 hc h hn hst zd s σ H v u Q I r ⟨a,xs,e1,hq,hl,hw⟩
 ·subst e1;cases r;obtain⟨its,rv,ht,hz⟩:=I.list hq;refine aw_1 (I.ok.hd hc) ht.isList (by simp[hn,<-hl,rv.length]) hst λh' hx=> ?_;have I1:Inv X zd σ H {s with heap:=h'}:=I.kept (t':=s.toks) λb o e=>hx b o (C7 (A7 e)) e;exact h zd _ σ H xs _ Q I1 (by simpa using rv) hw
def HasS.skip{G:Hp}{σ:Sg}{δ:DE}{i:Nat}(h:HasS K G σ δ)(e:δ[i]? =some none):HasS K G (σ.set i (some v)) δ:=by
 refine⟨by rw[F2];exact h.len,λj d' e'=> ?_⟩;obtain⟨v',e1,r'⟩:=h.get j d' e';refine⟨v', ?_,r'⟩;rw[B9]
 ·exact e1
 ·rintro rfl
  rw[e]at e';cases e'
def gC2(i j:Nat):Ic:=λd δ=>match d with
 | .tup [a,b]=>(gC i a δ).bind λ δ1=>gC j b δ1
 | .lst [a,b]=>(gC i a δ).bind λ δ1=>gC j b δ1
 |_=> .no
def ci_1(i:Nat)(d:D)(δ:DE):(δ[i]? =some none/\gC i d δ=.ok (δ.set i (some d)))\/gC i d δ=.no:=by
 unfold gC;cases e:δ[i]? with
 |none=>exact .inr rfl
 |some o=>
  cases o with
  |some _=>exact .inr rfl
  |none=>exact .inl ⟨rfl,rfl⟩
def ds_2{δ:DE}{i j:Nat}{d:D}(h:(δ.set i (some d))[j]? =some none):δ[j]? =some none:=by
 rcases Hi h with⟨_,q⟩|⟨_,q⟩
 ·cases q
 ·exact q
def ej_7{G:Hp}{σ:Sg}{δ:DE}{i j:Nat}{v1 v2:V}{a b:D}{Q:Sg->Hp->Prop}(s:HasS K G σ δ)(r1:Has K G v1 a)(r2:Has K G v2 b)
  (q:match(gC i a δ).bind λ δ1=>gC j b δ1 with| .ok δ'=>∀σ',HasS K G σ' δ'->HasS K G σ' δ->Q σ' H| .ex x=>(EX σ).p x G H| .no=>False):Q ((σ.set i (some v1)).set j (some v2)) H:=by
 rcases ci_1 i a δ with⟨n1,e1⟩|e1
 ·rw[e1]at q;simp only[R.bind_ok]at q;rcases ci_1 j b (δ.set i (some a)) with⟨n2,e2⟩|e2
  ·rw[e2]at q;exact q _ ((s.put r1 i).put r2 j) ((s.skip n1).skip (ds_2 n2))
  ·rw[e2]at q;exact q.elim
 ·rw[e1]at q;exact q.elim
def ds_3{i j k:Nat}{x y:Str}{p1 p2:Pos}(hc:X.calm=true)(hN:X.N.Nodup)(hi:X.N[i]? =some x:=by rfl)(hj:X.N[j]? =some y:=by rfl)(hx:Loc X.env.scope x:=by trivial)(hy:Loc X.env.scope y:=by trivial)
  (hf:X.fn x=true\/X.env.scope.names.lookup x=some .local:=by trivial) (hf2:X.fn y=true\/X.env.scope.names.lookup y=some .local:=by trivial)
  (hn:(assignEach [.Name x p1,.Name y p2] X.env).length=2:=by rfl) (hst:(assignEach [.Name x p1,.Name y p2] X.env).findIdx? (·.1)=none:=by rfl)
  (hs:(assignEach [.Name x p1,.Name y p2] X.env).map (·.2)=assign (.Name x p1) X.env::(assignEach [.Name y p2] X.env).map (·.2):=by rfl) (hs2:(assignEach [.Name y p2] X.env).map (·.2)=assign (.Name y p2) X.env::(assignEach [] X.env).map (·.2):=by rfl):
  GC X EX (.Tuple [.Name x p1,.Name y p2] k pos) (gC2 i j):=
 PG.imp (ep_6 hc (av_2 (ap_0 hN hi hx hf) (av_2 (ap_0 hN hj hy hf2) cz_0 hs2) hs) hn hst) λv σ H Q ⟨G,δ,d,g,s,r,q⟩=>by
  cases r with
  |tup h r=>
   cases r with
   |nil=>exact False.elim q
   |cons r1 r=>
    cases r with
    |nil=>exact False.elim q
    |cons r2 r=>
     cases r with
     |nil=>exact⟨_,_,rfl,.inl (Same.tupS g h),rfl,_,_,rfl,_,_,rfl,rfl,ej_7 s r1 r2 q⟩
     |cons _ _=>exact False.elim q
  |lst h r=>
   cases r with
   |nil=>exact False.elim q
   |cons r1 r=>
    cases r with
    |nil=>exact False.elim q
    |cons r2 r=>
     cases r with
     |nil=>exact⟨_,_,rfl,.inr (g.seq h),rfl,_,_,rfl,_,_,rfl,rfl,ej_7 s r1 r2 q⟩
     |cons _ _=>exact False.elim q
  |_=>exact False.elim q
end
section
variable{X:Cx}{EX:Bt}
def nonB:D->Bool
 | .non=>true
 |_=>false
def isND(neg:Bool):D->D->R W
 |d,.non=> .ok (.sh (.bl (if neg then !nonB d else nonB d)))
 |_,_=> .no
end
def Itv(K:Frag)(a:Addr)(xs:List V):It:=⟨λi H=>SqL K H a xs/\i < xs.length,λi H x H'=>H'=H/\xs[xs.length - 1 - i]? =some x,λi _=>i=xs.length⟩
def ds_4{w:World}{tg:Expr}(a it:Addr)(xs:List V):Turn P w K tg (Itv K a xs) [it] it (λi h=>h.IsRevIter it a ((xs.length:Int) - 1 - (i:Int))) where
 mem:=by simp
 obj:=λi h st b hb=>by
  have e:b=it:=by simpa using hb
  subst e;obtain⟨o,e,c,d⟩:=st;exact⟨o,e,λv z=>by rw[d]at z;cases z⟩
 keep:=λi h h' st k=>st.at λo e=>k it (by simp) o e
 item:=by
  intro X hP hw hK hc i zd s σ H E I hf st hg;subst hP hw hK;obtain⟨hq,hlt⟩:=hg;obtain⟨its,rv,p,hz⟩:=I.list hq;obtain⟨f0,f1,f2,f3,f4,f5⟩:=hf it (by simp);have e:(xs.length:Int) - 1 - (i:Int)=((xs.length - 1 - i:Nat):Int):=by omega
  rw[e]at st;obtain⟨x,hx⟩:∃x,xs[xs.length - 1 - i]? =some x:=⟨_,B2 ()⟩;obtain⟨u,hu,ru⟩:=rv.get hx;refine wpAny_pyNext_rev_item st p.isList (x:=u) (by simpa using hu) λh' st' sb=> ?_;have I1:Inv X zd σ H {s with heap:=h'}:=I.turned (t':=s.toks) (λb o hb e=>(sb.2 b hb).trans e) f0 f1 f3 f4 f5;have e2:((xs.length - 1 - i:Nat):Int) - 1=(xs.length:Int) - 1 - ((i + 1:Nat):Int):=by omega
  rw[e2]at st';obtain⟨o,e,c,d⟩:=id st';exact⟨u,rfl,bs_5 (s:={s with heap:=h'}) e c d ⋯ ⟨x,H,I1,ru,⟨rfl,hx⟩,st',λb hb=>(hf b hb).1⟩⟩
 done:=by
  intro X hP hw hK hc i zd s σ H E I hf st hg;subst hP hw hK;have hg:i=xs.length:=hg;subst hg;obtain⟨f0,f1,f2,f3,f4,f5⟩:=hf it (by simp);have e:(xs.length:Int) - 1 - (xs.length:Int)= -1:=by omega
  rw[e]at st;exact wpAny_pyNext_rev_end (I.ok.hd hc) st λh' eb=>⟨rfl,I.turned (t':=s.toks) (λb o hb e=>eb b o hb e) f0 f1 f3 f4 f5⟩
 self:=λ_ _ _ _ _ st h=>wpAny_pyIter_revIter st h
def ej_8:D->R (List D)
 | .lst ds=> .ok ds.reverse
 |_=> .no
def iRev(f:FE):FI:=λ δ=>(f δ).bind λw=>ej_8 w.d
def ed_3{G:Hp}{l:Addr}{ds:List D}(h:SqL K G l vs)(r:HasL K G vs ds):ItD K G (Itv K l vs) ds.reverse:=λG' H g1 g i=>by
 have hl:=r.length;refine⟨λd e=> ?_,λe=> ?_⟩
 ·have hi:i < ds.length:=by
   have:=(A5.mp e).1;simpa using this
  rw[List.getElem?_reverse hi]at e;obtain⟨v,e2,hv⟩:=r.get e;refine⟨⟨(g1.trans g).seq h,by omega⟩,λx H' y=> ?_⟩;obtain⟨e3,y⟩:=y;subst e3;rw[hl,e2]at y;cases y;exact⟨G',Step.refl g,hv.mono g1⟩
 ·rw[List.length_reverse]at e;show i=vs.length;omega
section
variable{X:Cx}{EX:Bt}{tg a b:Expr}{f g:FE}{fa:FA}{p pos:Pos}
def iRv(K:Frag)(t:TA):TI:=λ σ H Q=>t σ H λvs H1=>∃l xs,vs= [.ref l]/\SqL K H1 l xs/\Q (Itv K l xs) H1
def ep_7{ta:TA}(hg:Gl X "reversed")(hm:X.mg "reversed" =none)(ha:PA X [a] ta)(hs:starEach [a] X.env= [(false,eval a X.env)]:=by rfl):PI X tg (.Call (.Name "reversed" p) [a] [] pos) (iRv X.K ta):=by
 intro zd s σ H Q I h;refine Call_ (ah_2 I hg hm PyProof.Rows.boot_reversed (J6 (Bk (ha pos zd s σ H _ I h) λus s1 ⟨vs,H1,I1,r1,q1⟩=> ?_) hs rfl));obtain⟨l,xs,rfl,hq,q⟩:=q1;obtain⟨u,rfl,ru⟩:=r1.one;cases ru;obtain⟨its,rv,pl,hz⟩:=I1.list hq;have hl:=rv.length;refine call_reversed_list pl.isList ?_;refine wpAny_pyIter_revIter (i:=(its.toArray.size:Int) - 1) ⟨_,C1 _ rfl,rfl,rfl⟩ ?_;refine⟨s1.heap.objs.size,[s1.heap.objs.size],_,Itv X.K l xs,H1,rfl,I1.kept (t':=s1.toks) λb o e=>A4 _ e,ds_4 l _ xs,⟨_,C1 _ rfl,rfl, ?_⟩,λb hb=> ?_,q⟩
 ·have e:(xs.length:Int) - 1 - ((0:Nat):Int)=(its.toArray.size:Int) - 1:=by simp;omega
  rw[e];rfl
 ·have e:b=s1.heap.objs.size:=by simpa using hb
  subst e;exact I1.fpOk (B0 _) (I1.hok.fresh (B0 _))
def ep_8(hm:X.mg "reversed" =none)(he:ED X EX a f)(hg:Gl X "reversed" :=by rfl)(hs:starEach [a] X.env= [(false,eval a X.env)]:=by rfl)(hs1:starEach [a] X.env=(false,eval a X.env)::starEach [] X.env:=by rfl):
  ID X EX tg (.Call (.Name "reversed" p) [a] [] pos) (iRev f):=
 PI.imp (ep_7 hg hm (Gj he u_3 hs1) hs) λ σ H Q ⟨G,δ,g0,s0,o⟩=>by
  refine⟨G,δ,g0,s0, ?_⟩;unfold iRev at o;cases e1:f δ with
  |ok w=>
   rw[e1]at o;simp only[R.bind_ok]at o;refine WP.intro λv G' H' st r=> ?_;revert r o;cases w.d with
   |lst ds=>
    intro o r;cases r with
    |lst h r=>exact⟨_,_,rfl,st.gh.seq h,o _ G' H' st (ed_3 h r)⟩
   |_=>intro o _;exact False.elim o
  |ex x=>rw[e1]at o;exact o
  |no=>rw[e1]at o;exact o
theorem HasL.rep{G:Hp}{ds:List D}(r:HasL K G vs ds):∀n:Nat,HasL K G (List.replicate n vs).flatten (List.replicate n ds).flatten
 |0=> .nil
 |n + 1=>by rw[F3,F3,I0,I0];exact r.append (HasL.rep r n)
def repD(ds:List D):D->R W
 | .int k=>if k.natAbs < 4611686018427387904/\ds.length * k.toNat<=16777216 then .ok (.ow (.lst (List.replicate k.toNat ds).flatten)) else .no
 |_=> .no
def eRep(fa:FA)(f:FE):FE:=λ δ=>(fa δ).bind λds=>if ds.length<=16777216 then(f δ).bind λw=>repD ds w.d else .no
def ct_4{es:List Expr}{dm:Pos}(ha:AD X EX es fa)(hb:ED X EX b f):ED X EX (.BinOp (.List es dm) .Mult b pos) (eRep fa f):=
 PE.imp (ej_3 eo_1 (do_8 ha) hb) λ σ H Q ⟨G,δ,g0,s0,o⟩=>tDa.seq g0 s0 o λds vs G' H' _ st r o'=>by
  split at o'
  ·rename_i hz;refine⟨by rw[r.length,E5];exact hz,λq hq=> ?_⟩;have so:=Step.own st.gh hq (.lst vs);refine tD.seq so.gh (s0.mono st.gg) (Out.mono so o') λw v G2 H2 _ st2 r2 o2=> ?_;revert r2 o2;cases w.d with
   |int k=>
    intro r2 o2;cases r2;simp only[repD]at o2
    split at o2
    ·rename_i hk;exact⟨q,k,vs,rfl,rfl,st2.hh _ _ Ct,by have:=hk.1;omega,by have:=hk.1;omega,by rw[r.length,E5];exact hk.2,ac_6 o2 st2.gh ((r.mono st2.gg).rep k.toNat)⟩
    ·exact o2.elim
   |_=>intro _ o2;exact False.elim o2
  ·exact o'.elim
def bu_8:List D->Option (List Int)
 | []=>some []
 | .int i::ds=>(bu_8 ds).map (i:: ·)
 |_=>none
def sumD:List D->R W
 | [.lst ds]=>match bu_8 ds with
  |some is=> .ok (.sh (.int is.sum))
  |none=> .no
 |_=> .no
theorem da_9{G:Hp}:∀{vs:List V} {ds:List D} {us:List Value} {is:List Int},HasL K G vs ds->Vals vs us->bu_8 ds=some is->us.length=is.length/\∀(j:Nat) (v:Value),us[j]? =some v->∃t,v=.int (is.getD j 0) t
 |_,_,_,_,.nil,r,e=>by cases r;cases e;exact⟨rfl,λj v h=>by simp at h⟩
 |_,_,_,_,.cons h t,r,e=>by
  cases r with
  |cons r1 r2=>
   cases h with
   |int x=>
    obtain⟨tk,rfl⟩:=r1;simp only[bu_8]at e;obtain⟨zs,q,rfl⟩:=D3.mp e;obtain⟨h1,h2⟩:=da_9 t r2 q;refine⟨by simp[h1],λj v hj=> ?_⟩;cases j with
    |zero=>simp at hj;subst hj;exact⟨tk,rfl⟩
    |succ j=>
     obtain⟨t',e'⟩:=h2 j v (by simpa using hj);exact⟨t',by rw[e'];simp⟩
   |_=>cases e
theorem bc_8(is:List Int):∀j,preSum (λi=>is.getD i 0) j=(is.take j).sum
 |0=>by simp[preSum]
 |j + 1=>by rw[preSum,bc_8 is j,PySem.sum_take_succ]
def di_5(hc:X.calm=true):Et X (.builtin "sum") sumD:=by
 intro zd s σ H vs us Q I rv q;obtain⟨EX,G,ds,g,r,o⟩:=q;cases r with
 |nil=>exact False.elim o
 |cons h t=>
  cases t with
  |cons _ _=>cases h <;> exact False.elim o
  |nil=>
   cases h with
   |lst h r=>
    rename_i l _ _;simp only[sumD]at o
    split at o
    ·rename_i is e;obtain⟨u,rfl,ru⟩:=rv.one;cases ru;obtain⟨its,rv',pl,hz⟩:=I.list (g.seq h);obtain⟨el,ev⟩:=da_9 r rv' e;have nl:l≠s.heap.objs.size:=λz=>by
      obtain⟨o',ho,_⟩:=pl.isList;exact absurd (A7 ho) (by rw[<-z];exact F5 _)
     have ll:l < s.heap.objs.size:=by
      obtain⟨o',ho,_⟩:=pl.isList;exact A7 ho
     refine call_sum_walkAnyS (Y6 pl.isList ⟨s.heap.objs.size,_,_,_,_,_,_,λi=>is.getD i 0,rfl,(Walks.list (A:=X.A.in1) (I.ok.hd hc) s.heap.objs.size l nl its.toArray).toS,⟨⟨_,C1 _ rfl,rfl,rfl⟩, ?_⟩,λb hb=> ?_,λi v hP=>ev i v (by simpa using hP),λs' t' mv=> ?_⟩)
     ·exact pl.isList.at λo z=>A4 _ z
     ·rw[L4];have hb':b=s.heap.objs.size\/b=l:=by simpa using hb
      rcases hb' with rfl|rfl
      ·exact P7 _
      ·exact Y7 ll
     ·have en:its.toArray.size=is.length:=by simp[el]
      rw[en,bc_8,K6];obtain⟨m1,m2,m3,m4,m5⟩:=mv;have e':s'={s with heap:=s'.heap,toks:=s'.toks}:=by
       cases s';simp only at m2 m3 m4;subst m2 m3 m4;rfl
      rw[e'];refine⟨.int _,H,I.kept (t':=s'.toks) λb o' z=>m1 b o' (by
       have hb:b≠s.heap.objs.size:=C7 (A7 z);simpa using hb) (A4 _ z),⟨t',rfl⟩,Dr o g (.int _)⟩
    ·exact o.elim
   |_=>exact False.elim o
def di_6{G:Hp}(lo:Int):∀n:Nat,HasL K G ((List.range n).map λ(k:Nat)=>V.int (lo + (k:Int))) (De lo n):=by
 intro n;unfold De;generalize List.range n=l
 induction l with
 |nil=>exact .nil
 |cons a l ih=>exact .cons (.int _) ih
def ex_4{n:Nat}{lo:Int}{zp:Array Value}(h:PySem.ItemsOf (λi v=>∃t,v=.int (lo + i * 1) t) zp n):Vals ((List.range n).map λ(k:Nat)=>V.int (lo + (k:Int))) zp.toList:=by
 obtain⟨h1,h2⟩:=h;have all:∀(l:List Value) (k:Nat),(∀(j:Nat) v,l[j]? =some v->∃t,v=.int (lo + ((k + j:Nat):Int)) t)->Vals ((List.range' k l.length).map λ(k:Nat)=>V.int (lo + (k:Int))) l:=by
  intro l
  induction l with
  |nil=>intro k _;exact .nil
  |cons a l ih=>
   intro k h;rw[D2,List.range'_succ,A9];refine .cons ?_ (ih (k + 1) λj v hj=> ?_)
   ·obtain⟨t,e⟩:=h 0 a rfl;exact⟨t,by rw[e];rfl⟩
   ·obtain⟨t,e⟩:=h (j + 1) v (by simpa using hj);exact⟨t,by rw[e,show k + (j + 1)=k + 1 + j by omega]⟩
 have:=all zp.toList 0 λj v hj=>by
  obtain⟨t,e⟩:=h2 j v (by simpa using hj);exact⟨t,by rw[e];simp⟩
 rw[show zp.toList.length=n by simpa using h1]at this;rw[List.range_eq_range'];exact this
def ci_3{zd:AE}{s:Shared}{σ:Sg}{Q:VK}{lo hi:Int}{t u v:Tok}{tk:Nat}(hc:X.calm=true)(I:Inv X zd σ H s)(h1: -(2 ^ 62)<=lo)(h2:lo < 2 ^ 62)(h3: -(2 ^ 62)<=hi)(h4:hi < 2 ^ 62)(hz:(hi - lo).toNat<=16777216)
  (q:∀p,H p=none->Q (.ref p) (upd H p (.lst ((List.range (hi - lo).toNat).map λ(k:Nat)=>V.int (lo + (k:Int)))))):
  wpAny (model X.prog X.w) X.A (call (.type "list") [.ref s.heap.objs.size]) (EP X zd σ Q) X.xe {s with heap:=s.heap.push {cls:=.type "range",data:=.fields #[.int lo t,.int hi u,.int 1 v]},toks:=tk}:=by
 have I1:Inv X zd σ H {s with heap:=s.heap.push {cls:=.type "range",data:=.fields #[.int lo t,.int hi u,.int 1 v]},toks:=tk}:=I.kept λb o e=>A4 _ e;have en:Builtin.Range.rangeSize lo hi 1=(((hi - lo).toNat:Nat):Int):=by rw[ZB7];split <;> omega
 refine PySem.call_list_range (I1.ok.hd hc) (IsRange.new ..) (small_one h1 h2 h3 h4) en hz λh' tk' zp c kk hat it=> ?_;have rv:=ex_4 it;have fr:=I1.hok.fresh (B0 _);refine⟨.ref _,upd H _ (.lst _),I1.laid (t':=tk') kk (B0 _) ⟨?_,zp.toList,c,rv,by simpa using hat⟩,rfl,q _ fr⟩;rw[rv.length,E5];have:=it.1;simp;omega
def eRng(k:List D->R (List D))(fa:FA):FE:=λ δ=>(fa δ).bind λas=>(k as).bind λds=>if ds.length<=16777216 then .ok (.ow (.lst ds)) else .no
def aq_8{p' pos':Pos}(hc:X.calm=true)(hml:X.mg "list" =none)(hm:X.mg "range" =none)(ha:AD X EX [a] fa)(hgl:Gl X "list" :=by rfl)(hg:Gl X "range" :=by rfl)
  (hs:starEach [a] X.env= [(false,eval a X.env)]:=by rfl)
  (hs2:starEach [.Call (.Name "range" p') [a] [] pos'] X.env=(false,eval (.Call (.Name "range" p') [a] [] pos') X.env)::starEach [] X.env:=by rfl):
  ED X EX (.Call (.Name "list" p) [.Call (.Name "range" p') [a] [] pos'] [] pos) (eRng Dd fa):=by
 intro zd s σ H Q I q;obtain⟨G,δ,g0,s0,o⟩:=q;refine Call_ (ah_2 I hgl hml P3 (J6 ?_ hs2 rfl));rw[hs2];show wpAny _ _ (spliced ((false,eval (.Call (.Name "range" p') [a] [] pos') X.env)::backTo pos (starEach [] X.env))) _ _ s;refine T9 ?_;refine Call_ (ah_2 I hg hm boot_range (J6 (Bk (ha pos' zd s σ H _ I (tDa.seq g0 s0 o (P:=λvs H1=>∃j G1,Same G1 H1/\vs= [.int j]/\j.natAbs < 4611686018427387904/\j.toNat<=16777216/\Out X.K (EX σ) G1 H1 (.ok (.ow (.lst (De 0 j.toNat)))) Q) λds vs G' H' _ st r o'=> ?_)) λus s1 ⟨vs,H1,I1,r1,q1⟩=> ?_) hs rfl))
 ·cases r with
  |nil=>exact False.elim o'
  |cons h t=>
   cases t with
   |cons _ _=>cases h <;> exact False.elim o'
   |nil=>
    cases h with
    |int j=>
     simp only[Dd]at o'
     split at o'
     ·rename_i hj;simp only[R.bind_ok,q_3]at o'
      split at o'
      ·rename_i hl;exact⟨j,G',st.gh,rfl,hj,hl,o'⟩
      ·exact o'.elim
     ·exact o'.elim
    |_=>exact False.elim o'
 ·obtain⟨j,G1,sg,rfl,hj,hl,o'⟩:=q1;obtain⟨u,rfl,t,rfl⟩:=r1.one;refine ZC0 ?_;refine Y4 ?_;have hl':(j - 0).toNat<=16777216:=by simpa using hl
  refine ci_3 hc I1 () () () () hl' ?_;rw[Int.sub_zero];exact ac_6 o' sg (di_6 0 _)
def db_0(i:Nat)(js:List Nat)(fi fe:FE):FS:=λ Δ=>match(gsome js Δ)[i]? with
 |some (.ow (.lst ds))=>(match fe (Bg (gsome js Δ)) with
  | .ok w=>(match fi (Aw (gsome js Δ)) with
   | .ok z=>(match z.d with
    | .int k=>(match ixN ds.length k with
     |some j=> .nx ((gsome js Δ).set i (.ow (.lst (ds.set j w.d))))
     |none=> .no)
    |_=> .no)
   |_=> .no)
  |_=> .no)
 |_=> .no
def ed_4{i:Nat}(js:List Nat){x:Str}{e ie:Expr}{fe fi:FE}{p1 zj pos:Pos}(he:ED X EX e fe)(hi:ED X EX ie fi)(hN:X.N[i]? =some x:=by rfl)(hv:Vis X.env.scope x:=by trivial)(hd:AG x:=by decide)
  (hcd:(x ==("__classdict__" :Str))=false:=by decide)
  (ha:∀v,assign (.Subscript (.Name x p1) ie zj) X.env v=(do
   let ov<-holding [v] (eval (.Name x p1) X.env)
   let iv<-holding [v,ov] (eval ie X.env)
   standAt zj
   holding [v,ov,iv] (setItem ov iv v)
   release [v,ov,iv] []):=by intro _;rfl)
  (hs:swapsWithSole [.Subscript (.Name x p1) ie zj] e pos.line X.env=pure false:=by rfl) (hw:swappedStores [.Subscript (.Name x p1) ie zj] e X.env=pure none:=by rfl)
  (h1:(assignEach [.Subscript (.Name x p1) ie zj] X.env).map (·.2)= [assign (.Subscript (.Name x p1) ie zj) X.env]:=by rfl):
  SD X EX (.Assign [.Subscript (.Name x p1) ie zj] e pos) (db_0 i js fi fe):=
 PS.imp (em_5 he (em_4 (Gr hN hv hd hcd) hi dp_0 ha) hs hw h1) λD σ H ⟨H0,G0,G,Δ,O,E,q⟩=>by
  obtain⟨G1,O1,sg,E1⟩:=E.gsome js;unfold db_0 at q;generalize gsome js Δ=Δ1 at q E1
  split at q
  ·rename_i ds e1;obtain⟨v0,s1,t⟩:=E1.ow i _ _ e1 rfl;obtain⟨a,vs,rfl,m,hH,rl⟩:=t.list_of
   ·skip
    refine⟨G1,Bg Δ1,E1.st.gh,E1.gsh, ?_⟩;cases e2:fe (Bg Δ1) with
    |ex x=>rw[e2]at q;exact q.elim
    |no=>rw[e2]at q;exact q.elim
    |ok w=>
     simp only[e2]at q;refine WP.intro λv G' H' st r=> ?_;have E2:=E1.grow st;refine⟨.ref a,s1,Cy G' H' O1,Aw Δ1,E2.aH,E2.gall, ?_⟩;cases e3:fi (Aw Δ1) with
     |ex x=>simp only[e3]at q;exact q.elim
     |no=>simp only[e3]at q;exact q.elim
     |ok z=>
      simp only[e3]at q;refine WP.intro λv2 G2 H2 st2 r2=> ?_;revert q r2;cases z.d with
      |int k=>
       intro q r2;cases r2;cases e4:ixN ds.length k with
       |none=>simp only[e4]at q;exact q.elim
       |some j=>
        simp only[e4]at q;have hH2:H2 a=some (.lst vs):=st2.hh _ _ (st.hh _ _ hH);refine⟨a,vs,k,j,rfl,rfl,hH2,by rw[rl.length];exact e4, ?_⟩;exact q σ G' _ _ ((E2.keep st2.hh).writeL s1 m (HasL.set r j (rl.mono st.gg))) (sg.trans st.gg)
      |_=>intro q _;exact False.elim q
  ·exact q.elim
end
@[elab_as_elim] theorem at_3{P:List Value->Prop}{us:List Value}{n:Nat}(h:us.length=n)(k:∀y:Nat->Value,P ((List.range n).map y)):P us:=by
 have e:us=(List.range n).map λi=>us.getD i .none:=by
  apply Y5;intro i;rw[A8]
  by_cases hi:i < n
  ·rw[M7 hi,L5,D7,B2 ()];rfl
  ·rw[J7 (),J7 (by rw[J0];omega)];rfl
 rw[e];exact k _
section
variable{K:Frag}{x qual:Str}{st:Stmt}{f:Addr}{fd:FuncData}{ps:List Str}
def Fun.binds1(F:Fun K x qual st f fd)(hl:ps.length=1:=by rfl)(h:∀(kV doc pm:Value) (an:Option Addr) (zq ct a:Value),bindArgs (fnOf x qual (l_1 st) (Fg st) (Ce st) .none kV doc pm an zq ct) ⟨[a],[]⟩=pure (ps.zip [a]):=by intros;rfl):Binds K fd ps []:=
 F.binds λkV doc pm an zq ct us hu=>at_3 (hu.trans hl) λy=>h kV doc pm an zq ct (y 0)
def Fun.binds2(F:Fun K x qual st f fd)(hl:ps.length=2:=by rfl)(h:∀(kV doc pm:Value) (an:Option Addr) (zq ct a b:Value),bindArgs (fnOf x qual (l_1 st) (Fg st) (Ce st) .none kV doc pm an zq ct) ⟨[a,b],[]⟩=pure (ps.zip [a,b]):=by intros;rfl):Binds K fd ps []:=
 F.binds λkV doc pm an zq ct us hu=>at_3 (hu.trans hl) λy=>h kV doc pm an zq ct (y 0) (y 1)
def Fun.binds3(F:Fun K x qual st f fd)(hl:ps.length=3:=by rfl)(h:∀(kV doc pm:Value) (an:Option Addr) (zq ct a b c:Value),bindArgs (fnOf x qual (l_1 st) (Fg st) (Ce st) .none kV doc pm an zq ct) ⟨[a,b,c],[]⟩=pure (ps.zip [a,b,c]):=by intros;rfl):Binds K fd ps []:=
 F.binds λkV doc pm an zq ct us hu=>at_3 (hu.trans hl) λy=>h kV doc pm an zq ct (y 0) (y 1) (y 2)
def Fun.binds4(F:Fun K x qual st f fd)(hl:ps.length=4:=by rfl)(h:∀(kV doc pm:Value) (an:Option Addr) (zq ct a b c d:Value),bindArgs (fnOf x qual (l_1 st) (Fg st) (Ce st) .none kV doc pm an zq ct) ⟨[a,b,c,d],[]⟩=pure (ps.zip [a,b,c,d]):=by intros;rfl):Binds K fd ps []:=
 F.binds λkV doc pm an zq ct us hu=>at_3 (hu.trans hl) λy=>h kV doc pm an zq ct (y 0) (y 1) (y 2) (y 3)
def Fun.binds5(F:Fun K x qual st f fd)(hl:ps.length=5:=by rfl)(h:∀(kV doc pm:Value) (an:Option Addr) (zq ct a b c d e:Value),bindArgs (fnOf x qual (l_1 st) (Fg st) (Ce st) .none kV doc pm an zq ct) ⟨[a,b,c,d,e],[]⟩=pure (ps.zip [a,b,c,d,e]):=by intros;rfl):Binds K fd ps []:=
 F.binds λkV doc pm an zq ct us hu=>at_3 (hu.trans hl) λy=>h kV doc pm an zq ct (y 0) (y 1) (y 2) (y 3) (y 4)
def Fun.binds6(F:Fun K x qual st f fd)(hl:ps.length=6:=by rfl)(h:∀(kV doc pm:Value) (an:Option Addr) (zq ct a b c d e g:Value),bindArgs (fnOf x qual (l_1 st) (Fg st) (Ce st) .none kV doc pm an zq ct) ⟨[a,b,c,d,e,g],[]⟩=pure (ps.zip [a,b,c,d,e,g]):=by intros;rfl):Binds K fd ps []:=
 F.binds λkV doc pm an zq ct us hu=>at_3 (hu.trans hl) λy=>h kV doc pm an zq ct (y 0) (y 1) (y 2) (y 3) (y 4) (y 5)
def Fun.binds7(F:Fun K x qual st f fd)(hl:ps.length=7:=by rfl)(h:∀(kV doc pm:Value) (an:Option Addr) (zq ct a b c d e g k:Value),bindArgs (fnOf x qual (l_1 st) (Fg st) (Ce st) .none kV doc pm an zq ct) ⟨[a,b,c,d,e,g,k],[]⟩=pure (ps.zip [a,b,c,d,e,g,k]):=by intros;rfl):Binds K fd ps []:=
 F.binds λkV doc pm an zq ct us hu=>at_3 (hu.trans hl) λy=>h kV doc pm an zq ct (y 0) (y 1) (y 2) (y 3) (y 4) (y 5) (y 6)
end
structure ZApart(z TI TO i1 i2:Addr):Prop where
 TIz:TI≠z
 TOz:TO≠z
 i1z:i1≠z
 i2z:i2≠z
 TITO:TI≠TO
 TIi1:TI≠i1
 TIi2:TI≠i2
 TOi1:TO≠i1
 TOi2:TO≠i2
 i12:i1≠i2
section
variable{X:Cx}{EX:Bt}{a b:Expr}{fa:FA}{elts:List Expr}{x1:Nat}{tp p pos:Pos}
end
def met(is:List Int):List Int:=PyProof.Rows.firstMet (λi=>is.getD i 0) is.length
section
variable{X:Cx}{EX:Bt}{a:Expr}{f:FE}{p p' pos pos':Pos}
end
def Dw:D->Option Av
 | .int i=>some (.inl i)
 | .str x=>some (.inr x)
 |_=>none
def ah_9{G:Hp}{d:D}{k:Av}(r:Has K G v d)(e:Dw d=some k):v=kV k:=by
 cases r <;> first|(cases e;rfl)|cases e
section
variable{α:Type}
def Ed(kvs:List (Av×α))(k:Av):Option α:=(kvs.find? λkv=>decide (kv.1=k)).map (·.2)
def Eh(kvs:List (Av×α))(k:Av)(v:α):List (Av×α):=if(kvs.any λkv=>decide (kv.1=k))=true then kvs.map (λkv=>if kv.1=k then(kv.1,v) else kv) else kvs ++ [(k,v)]
def Gq(kvs:List (Av×α))(k:Av):List (Av×α):=kvs.filter λkv=>decide (kv.1≠k)
def Eo(kvs:List (Av×α))(k:Av):Bool:=(Ed kvs k).isSome
end
def db_1(kvs:List (Av×V))(k:Av)(v:V):Dy kvs k v=Eh kvs k v:=rfl
theorem bh_0{G:Hp}:∀{kvs:List (Av×V)} {kds:List (Av×D)} (k:Av),kvs.map (·.1)=kds.map (·.1)->HasL K G (kvs.map (·.2)) (kds.map (·.2))->(Co kvs k).isSome=Eo kds k/\∀d,Ed kds k=some d->∃v,Co kvs k=some v/\Has K G v d
 | [],[],k,_,_=>⟨rfl,λd e=>by cases e⟩
 | [],_::_,k,e,_=>by simp at e
 |_::_,[],k,e,_=>by simp at e
 |(x,v)::kvs,(y,d)::kds,k,e,r=>by
  simp only[A9,T7]at e;obtain⟨e1,e2⟩:=e;subst e1;cases r with
  |cons h r=>
   obtain⟨i1,i2⟩:=bh_0 (kvs:=kvs) (kds:=kds) k e2 r
   by_cases q:x=k
   ·have a1:Co ((x,v)::kvs) k=some v:=al_5 q;have a2:Ed ((x,d)::kds) k=some d:=by unfold Ed;rw[P4 (by simpa using q)];rfl
    refine⟨by unfold Eo;rw[a1,a2];rfl,λd' e'=> ?_⟩;rw[a2]at e';cases e';exact⟨v,a1,h⟩
   ·have a1:Co ((x,v)::kvs) k=Co kvs k:=al_6 q;have a2:Ed ((x,d)::kds) k=Ed kds k:=by unfold Ed;rw[P5 (by simpa using q)]
    refine⟨by unfold Eo at i1⊢;rw[a1,a2];exact i1,λd' e'=> ?_⟩;rw[a2]at e';rw[a1];exact i2 d' e'
theorem bk_3{α β:Type}:∀{kvs:List (Av×α)} {kds:List (Av×β)} (k:Av),kvs.map (·.1)=kds.map (·.1)->(kvs.any λkv=>decide (kv.1=k))=kds.any λkv=>decide (kv.1=k)
 | [],[],_,_=>rfl
 | [],_::_,k,e=>by simp at e
 |_::_,[],k,e=>by simp at e
 |(x,v)::kvs,(y,d)::kds,k,e=>by
  simp only[A9,T7]at e;obtain⟨e1,e2⟩:=e;subst e1;rw[Q9,Q9,bk_3 k e2]
def db_2{G:Hp}{kvs:List (Av×V)}{kds:List (Av×D)}(k:Av){d:D}(e:kvs.map (·.1)=kds.map (·.1))(r:HasL K G (kvs.map (·.2)) (kds.map (·.2)))(h:Has K G v d):
  (Dy kvs k v).map (·.1)=(Eh kds k d).map (·.1)/\HasL K G ((Dy kvs k v).map (·.2)) ((Eh kds k d).map (·.2)):=by
 rw[db_1];unfold Eh;rw[bk_3 k e]
 split
 ·have all:∀{kvs:List (Av×V)} {kds:List (Av×D)},kvs.map (·.1)=kds.map (·.1)->HasL K G (kvs.map (·.2)) (kds.map (·.2))->
    (kvs.map (λkv=>if kv.1=k then(kv.1,v) else kv)).map (·.1)=(kds.map (λkv=>if kv.1=k then(kv.1,d) else kv)).map (·.1)/\HasL K G ((kvs.map (λkv=>if kv.1=k then(kv.1,v) else kv)).map (·.2)) ((kds.map (λkv=>if kv.1=k then(kv.1,d) else kv)).map (·.2)):=by
   intro kvs
   induction kvs with
   |nil=>
    intro kds e r;cases kds with
    |nil=>exact⟨rfl,.nil⟩
    |cons _ _=>simp at e
   |cons p kvs ih=>
    intro kds e r;cases kds with
    |nil=>simp at e
    |cons q kds=>
     obtain⟨x,u⟩:=p;obtain⟨y,w⟩:=q;simp only[A9,T7]at e;obtain⟨e1,e2⟩:=e;subst e1;cases r with
     |cons h1 r=>
      obtain⟨i1,i2⟩:=ih e2 r;simp only[A9]
      by_cases z:x=k
      ·simp only[z,if_true];exact⟨by rw[i1],.cons h i2⟩
      ·simp only[z,S4];exact⟨by rw[i1],.cons h1 i2⟩
  exact all e r
 ·refine⟨by rw[D1,D1,e];rfl, ?_⟩;rw[D1,D1];exact r.append (.cons h .nil)
section
variable{X:Cx}{EX:Bt}{pos:Pos}
def Ht:FE:=λ_=> .ok (.ow (.dic []))
def bh_1:ED X EX (.Dict [] [] pos) Ht:=PE.imp cg_5 λ σ H Q ⟨G,δ,g,s,o⟩=>λp hp=>
 o (.ref p) (λb=>b=p) G _ (Step.own g hp _) (λa e=>by subst e;exact⟨hp,g.free hp,by rw[Ct];simp⟩) (.dict Ct rfl rfl .nil)
def inK(neg:Bool):D->D->R W
 |d,.dic kvs=>match Dw d with
  |some k=> .ok (.sh (.bl (if neg then !Eo kvs k else Eo kvs k)))
  |none=> .no
 |_,_=> .no
def DGet.rd{a:Addr}{kvs:List (Av×V)}{k:Av}(e:Rd H a (.dK kvs)):DGet H a (kV k) (Co kvs k):=.inl ⟨kvs,k,e,rfl,rfl⟩
def ep_9(hu:X.A.units + 64 < cLine):Gn X (compareOp .In) (inK false):=by
 intro zd s σ H x y v u Q I rx ry q;obtain⟨EX,G,a,b,g,ra,rb,o⟩:=q;cases rb with
 |dic h hk r=>
  simp only[inK]at o
  split at o
  ·rename_i k ek;have ex:=ah_9 ra ek;subst ex;cases ry;refine d_in () I (DGet.rd (k:=k) (Same.rdD g h)) rx λs' I'=>⟨.bl _,H,I',rfl, ?_⟩;rw[(bh_0 k hk r).1];exact Dr o g (.bl _)
  ·exact o.elim
 |_=>exact False.elim o
def bu_9(hu:X.A.units + 64 < cLine):Gn X (compareOp .NotIn) (inK true):=by
 intro zd s σ H x y v u Q I rx ry q;obtain⟨EX,G,a,b,g,ra,rb,o⟩:=q;cases rb with
 |dic h hk r=>
  simp only[inK]at o
  split at o
  ·rename_i k ek;have ex:=ah_9 ra ek;subst ex;cases ry;refine eb_9 () I (DGet.rd (k:=k) (Same.rdD g h)) rx λs' I'=>⟨.bl _,H,I',rfl, ?_⟩;rw[(bh_0 k hk r).1];exact Dr o g (.bl _)
  ·exact o.elim
 |_=>exact False.elim o
def Fb:D->D->R W
 | .dic kvs,d=>match Dw d with
  |some k=>(match Ed kvs k with
   |some x=> .ok (.sh x)
   |none=> .no)
  |none=> .no
 |_,_=> .no
def ca_1{o i:Expr}{f g:FE}(hu:X.A.units + 64 < cLine)(ho:ED X EX o f)(hi:ED X EX i g)(hs:NoSl i:=by intro _ _;rfl):ED X EX (.Subscript o i pos) (Aj Fb f g):=
 PE.imp (bz_4 () ho hi hs) λ σ H Q ⟨G,δ,g0,s0,o⟩=>tD.seq g0 s0 o λw v G1 H1 _ st1 r1 o1=>tD.seq st1.gh (s0.mono st1.gg) o1 λw2 v2 G2 H2 _ st2 r2 o2=>by
  have r1:=r1.mono st2.gg;revert r1 o2;cases w.d with
  |dic kvs=>
   intro o2 r1;simp only[Fb]at o2
   split at o2
   ·rename_i k ek
    split at o2
    ·rename_i x ex;cases r1 with
     |dic h hk r=>
      obtain⟨u,e1,e2⟩:=(bh_0 k hk r).2 x ex;have e3:=ah_9 r2 ek;subst e3;refine⟨_,u,rfl, ?_,Dr o2 st2.gh e2⟩;rw[<-e1];exact DGet.rd (Same.rdD st2.gh h)
    ·exact o2.elim
   ·exact o2.elim
  |_=>intro o2 _;exact False.elim o2
def lenK:List D->R W
 | [.dic kvs]=> .ok (.sh (.int kvs.length))
 |_=> .no
def di_7:Et X (.builtin "len") lenK:=by
 intro zd s σ H vs us Q I rv q;obtain⟨EX,G,ds,g,r,o⟩:=q;cases r with
 |nil=>exact False.elim o
 |cons h t=>
  cases t with
  |cons _ _=>cases h <;> exact False.elim o
  |nil=>
   cases h with
   |dic h hk r=>
    rename_i kvs kds;obtain⟨u,rfl,ru⟩:=rv.one;cases ru;refine ew_7 I (Same.rdD g h) λt s' I'=>⟨.int _,H,I',⟨t,rfl⟩, ?_⟩;have hl:kds.length=kvs.length:=by
     have:=Q5 List.length hk;rw[A0,A0]at this;exact this.symm
    rw[<-hl];exact Dr o g (.int _)
   |_=>exact False.elim o
def aw_3(i:Nat)(js:List Nat)(fk fe:FE):FS:=λ Δ=>match(gsome js Δ)[i]? with
 |some (.ow (.dic kvs))=>(match fe (Bg (gsome js Δ)) with
  | .ok w=>(match fk (Aw (gsome js Δ)) with
   | .ok z=>(match Dw z.d with
    |some k=>if kvs.length < 16777216 then .nx ((gsome js Δ).set i (.ow (.dic (Eh kvs k w.d)))) else .no
    |none=> .no)
   |_=> .no)
  |_=> .no)
 |_=> .no
def ca_2{i:Nat}(js:List Nat){x:Str}{e ie:Expr}{fe fk:FE}{p1 zj pos:Pos}(hu:X.A.units + 64 < cLine)(he:ED X EX e fe)(hi:ED X EX ie fk)(hN:X.N[i]? =some x:=by rfl)(hv:Vis X.env.scope x:=by trivial)(hd:AG x:=by decide)
  (hcd:(x ==("__classdict__" :Str))=false:=by decide) (hs:swapsWith e (some (.Subscript (.Name x p1) ie zj)) pos.line X.env=pure false:=by rfl):
  SD X EX (.Assign [.Subscript (.Name x p1) ie zj] e pos) (aw_3 i js fk fe):=
 PS.imp (bz_5 () (Gr hN hv hd hcd) hi he hs) λD σ H ⟨H0,G0,G,Δ,O,E,q⟩=>by
  obtain⟨G1,O1,sg,E1⟩:=E.gsome js;unfold aw_3 at q;generalize gsome js Δ=Δ1 at q E1
  split at q
  ·rename_i kds e1;obtain⟨v0,s1,t⟩:=E1.ow i _ _ e1 rfl;obtain⟨a,kvs,rfl,m,hH,hk,rl⟩:=t.dict_of;refine⟨G1,Bg Δ1,E1.st.gh,E1.gsh, ?_⟩;cases e2:fe (Bg Δ1) with
   |ex x=>rw[e2]at q;exact q.elim
   |no=>rw[e2]at q;exact q.elim
   |ok w=>
    simp only[e2]at q;refine WP.intro λv G' H' st r=> ?_;have E2:=E1.grow st;refine⟨.ref a,s1,Cy G' H' O1,Aw Δ1,E2.aH,E2.gall, ?_⟩;cases e3:fk (Aw Δ1) with
    |ex x=>simp only[e3]at q;exact q.elim
    |no=>simp only[e3]at q;exact q.elim
    |ok z=>
     simp only[e3]at q;refine WP.intro λv2 G2 H2 st2 r2=> ?_
     split at q
     ·rename_i k ek
      split at q
      ·rename_i hl;have e4:=ah_9 r2 ek;subst e4;have hH2:H2 a=some (.dK kvs):=st2.hh _ _ (st.hh _ _ hH);have hle:kvs.length=kds.length:=by
        have:=Q5 List.length hk
        rwa[A0,A0]at this
       obtain⟨p1,p2⟩:=db_2 k hk (rl.mono st.gg) r;exact⟨a,_,rfl,DPut.k hH2 (by rw[hle,E5];exact hl),q σ G' _ _ ((E2.keep st2.hh).writeD s1 m p1 p2) (sg.trans st.gg)⟩
      ·exact q.elim
     ·exact q.elim
  ·exact q.elim
end
section
variable{K:Frag}{H0 H1:HB}{G0 G H:Hp}{σ:Sg}{Δ:SE}{O:OS}
end
section
variable{X:Cx}{EX:Bt}{pos:Pos}
end
section
variable{X:Cx}{EX:Bt}{pos:Pos}
end
def eQ_0(t:Tn):Sl.any (.tr t)=some t.d:=rfl
section
variable{X:Cx}{EX:Bt}{a b:Expr}{fa:FA}{p pos:Pos}
end
section
variable{K:Frag}{G H:Hp}
theorem OwL.append:∀{vs us:List V} {ts rs:List Tn} {S1 S2 S:AS},OwL K G H vs ts S1->OwL K G H us rs S2->(∀b,S1 b->S2 b->False)->(∀b,S1 b->S b)->(∀b,S2 b->S b)->OwL K G H (vs ++ us) (ts ++ rs) S
 |_,_,_,_,_,_,_,.nil,r,_,_,i2=>r.mono (Same.refl _) (λ_ _ _ q=>q) i2
 |_,_,_,_,S1,S2,S,.cons (S1:=Sa) (S2:=Sb) h r dj s1 s2,q,d,i1,i2=>
  .cons (S2:=λb=>Sb b\/S2 b) h (OwL.append r q (λb z1 z2=>d b (s2 b z1) z2) (λb z=> .inl z) λb z=> .inr z) (λb z1 z2=>by
   rcases z2 with z2|z2
   ·exact dj b z1 z2
   ·exact d b (s1 b z1) z2) (λb z=>i1 b (s1 b z)) λb z=>by
   rcases z with z|z
   ·exact i1 b (s2 b z)
   ·exact i2 b z
end
section
variable{α:Type}
def Fe:List (Av×α)->Av->α->List (Av×α)
 | [],_,_=> []
 |(x,v)::r,k,v'=>if x=k then(x,v')::r else(x,v)::Fe r k v'
theorem ba_7:∀(l:List (Av×α)) (k:Av) (v:α),(Fe l k v).map (·.1)=l.map (·.1)
 | [],_,_=>rfl
 |(x,v0)::r,k,v=>by
  unfold Fe
  split
  ·rfl
  ·rw[A9,A9,ba_7 r k v]
end
def unS:List (Av×Tn)->Option (List (Av×D))
 | []=>some []
 |(k,.sh d)::r=>(unS r).map ((k,d):: ·)
 |_=>none
theorem bk_4:∀{zn:List (Av×Tn)} {kds:List (Av×D)},unS zn=some kds->zn=kds.map λp=>(p.1,Tn.sh p.2)
 | [],_,e=>by cases e;rfl
 |(k,t)::r,kds,e=>by
  cases t with
  |sh d=>
   simp only[unS]at e;cases q:unS r with
   |none=>rw[q]at e;cases e
   |some l=>
    rw[q]at e;cases e;rw[bk_4 q];rfl
  |_=>cases e
theorem ct_7:∀kds:List (Av×D),unS (kds.map λp=>(p.1,Tn.sh p.2))=some kds
 | []=>rfl
 |(k,d)::r=>by
  show(unS (r.map λp=>(p.1,Tn.sh p.2))).map ((k,d):: ·)=_;rw[ct_7 r];rfl
section
variable{K:Frag}{G H:Hp}
theorem OwL.focusK(k:Av):∀{kvs:List (Av×V)} {zn:List (Av×Tn)} {S:AS} {t:Tn},kvs.map (·.1)=zn.map (·.1)->OwL K G H (kvs.map (·.2)) (zn.map (·.2)) S->Ed zn k=some t->
  ∃v S1,Co kvs k=some v/\Ow K G H v t S1/\(∀b,S1 b->S b)/\
   ∀{H':Hp} {t':Tn},(∀b o,S b->¬S1 b->H b=some o->H' b=some o)->Ow K G H' v t' S1->OwL K G H' (kvs.map (·.2)) ((Fe zn k t').map (·.2)) S
 | [],[],_,_,_,_,e=>by cases e
 | [],_::_,_,_,e,_,_=>by simp at e
 |_::_,[],_,_,e,_,_=>by simp at e
 |(x,v)::kvs,(y,t0)::zn,S,t,e,r,h=>by
  simp only[A9,T7]at e;obtain⟨e1,e2⟩:=e;subst e1;cases r with
  |cons hh r dj s1 s2=>
   rename_i S1 S2
   by_cases q:x=k
   ·have a2:Ed ((x,t0)::zn) k=some t0:=by unfold Ed;rw[P4 (by simpa using q)];rfl
    rw[a2]at h;cases h;refine⟨v,S1,al_5 q,hh,s1,λ{H' t'} f h'=> ?_⟩;unfold Fe;rw[if_pos q];exact .cons h' (r.mono (Same.refl _) (λb o hb z=>f b o (s2 b hb) (λw=>dj b w hb) z) λ_ z=>z) dj s1 s2
   ·have a2:Ed ((x,t0)::zn) k=Ed zn k:=by unfold Ed;rw[P5 (by simpa using q)]
    rw[a2]at h;obtain⟨v',S',e1,h',i',f'⟩:=OwL.focusK k e2 r h;refine⟨v',S',by rw[al_6 q];exact e1,h',λb z=>s2 b (i' b z),λ{H' t'} f h2=> ?_⟩;unfold Fe;rw[if_neg q];exact .cons (hh.mono (Same.refl _) (λb o hb z=>f b o (s1 b hb) (λw=>dj b hb (i' b w)) z) λ_ z=>z) (f' (λb o hb nb z=>f b o (s2 b hb) nb z) h2) dj s1 s2
end
def Sl.tree:Sl->Option (Tn×Bool)
 | .ow d=>some (Tn.of d,false)
 | .tr t=>some (t,false)
 | .lt t=>some (t,true)
 |_=>none
def Sl.mk(b:Bool)(t:Tn):Sl:=if b then .lt t else .tr t
def Sl.tree_own{s:Sl}{t:Tn}{b:Bool}(e:s.tree=some (t,b)):s.own=some t:=by
 cases s <;> first|(cases e;rfl)|cases e
def Sl.mk_own(b:Bool)(t:Tn):(Sl.mk b t).own=some t:=by cases b <;> rfl
def Sl.mk_lk(b:Bool)(t:Tn):∀d,Sl.mk b t≠ .lk d:=by intro d;cases b <;> (intro z;cases z)
def Ev.mk_lt{H0:HB}{G0 G H:Hp}{σ:Sg}{Δ:SE}{O:OS}(E:Ev K H0 G0 G H σ Δ O){i:Nat}{s:Sl}{t:Tn}{b:Bool}(e:Δ[i]? =some s)(q:s.tree=some (t,b))(t':Tn):∀d,Sl.mk b t'=.lt d->σ[i]? =some (some (.ref (H0.b i))):=by
 intro d z;cases b with
 |false=>cases z
 |true=>
  cases s with
  |lt t0=>exact E.lt i t0 e
  |_=>cases q
def Ev.writeIn{H0:HB}{G0 G H:Hp}{σ:Sg}{Δ:SE}{O:OS}(E:Ev K H0 G0 G H σ Δ O){i:Nat}{s:Sl}{t t':Tn}{b:Bool}{a:Addr}{o:HO}(e:Δ[i]? =some s)(q:s.tree=some (t,b))(s1:σ[i]? =some (some v))(m:O i a)(t1:Ow K G (upd H a o) v t' (O i)):
  Ev K H0 G0 G (upd H a o) σ (Δ.set i (Sl.mk b t')) (setA O i (O i)):=
 have ms:=MStep.write E.st.gh m (E.out i a m).1 o
 E.step2 (Sl.mk_own b t') (Sl.mk_lk b t') (E.mk_lt e q t') ms.weak s1 (λb hb=>⟨.inl hb,(E.out i b hb).1,ms.al b (E.out i b hb).2.2⟩) t1
def Ow.dic_of{G H:Hp}{zn:List (Av×Tn)}{S:AS}(t:Ow K G H v (.dic zn) S):∃a kvs S1,v=.ref a/\S a/\H a=some (.dK kvs)/\kvs.map (·.1)=zn.map (·.1)/\(∀b,S1 b->S b/\b≠a)/\OwL K G H (kvs.map (·.2)) (zn.map (·.2)) S1:=by
 cases t with
 |dic h hk ha sub r=>exact⟨_,_,_,rfl,ha,h,hk,sub,r⟩
section
variable{X:Cx}{EX:Bt}{pos:Pos}
def bv_0(i:Nat)(f1 f2 fe:FE):FS:=λ Δ=>match(Δ[i]?).bind Sl.tree with
 |some (.dic zn,lk)=>(match fe (Bg Δ) with
  | .ok w=>(match f1 (Aw Δ) with
   | .ok z1=>(match Dw z1.d with
    |some k1=>(match Ed zn k1 with
     |some (.dic kt2)=>(match unS kt2 with
      |some kds=>(match f2 (Aw Δ) with
       | .ok z2=>(match Dw z2.d with
        |some k2=>if kds.length < 16777216 then .nx (Δ.set i (Sl.mk lk (.dic (Fe zn k1 (Tn.of (.dic (Eh kds k2 w.d))))))) else .no
        |none=> .no)
       |_=> .no)
      |none=> .no)
     |_=> .no)
    |none=> .no)
   |_=> .no)
  |_=> .no)
 |_=> .no
def ed_5{i:Nat}{x:Str}{e e1 e2:Expr}{fe f1 f2:FE}{p1 p2 zj pos:Pos}(hu:X.A.units + 64 < cLine)(he:ED X EX e fe)(h1:ED X EX e1 f1)(h2:ED X EX e2 f2)(hN:X.N[i]? =some x:=by rfl)(hv:Vis X.env.scope x:=by trivial)(hd:AG x:=by decide)
  (hcd:(x ==("__classdict__" :Str))=false:=by decide) (hn1:NoSl e1:=by intro _ _;rfl) (hs:swapsWith e (some (.Subscript (.Subscript (.Name x p1) e1 p2) e2 zj)) pos.line X.env=pure false:=by rfl):
  SD X EX (.Assign [.Subscript (.Subscript (.Name x p1) e1 p2) e2 zj] e pos) (bv_0 i f1 f2 fe):=
 PS.imp (bz_5 () (bz_4 () (Gr hN hv hd hcd) h1 hn1) h2 he hs) λD σ H ⟨H0,G0,G,Δ,O,E,q⟩=>by
  unfold bv_0 at q
  split at q
  ·rename_i zn lk e0;obtain⟨s,e1,etr⟩:=M0.mp e0;obtain⟨v0,s1,t⟩:=E.ow i _ _ e1 (Sl.tree_own etr);obtain⟨a,kvs,S1,rfl,m,hH,hk,sub,rl⟩:=t.dic_of;refine⟨G,Bg Δ,E.st.gh,E.gsh, ?_⟩;cases e2:fe (Bg Δ) with
   |ex x=>simp only[e2]at q;exact q.elim
   |no=>simp only[e2]at q;exact q.elim
   |ok w=>
    simp only[e2]at q;refine WP.intro λv G' H' st r=> ?_;have E2:=E.grow st;refine⟨.ref a,s1,Cy G' H' O,Aw Δ,E2.aH,E2.gall, ?_⟩;cases e3:f1 (Aw Δ) with
    |ex x=>simp only[e3]at q;exact q.elim
    |no=>simp only[e3]at q;exact q.elim
    |ok z1=>
     simp only[e3]at q;refine WP.intro λv1 G1 H1 st1 r1=> ?_
     split at q
     ·rename_i k1 ek1
      split at q
      ·rename_i kt2 ev
       split at q
       ·rename_i kds eu;have hv1:=ah_9 r1 ek1;subst hv1;have E3:=E2.keep st1.hh;obtain⟨vb,s1',t3⟩:=E3.ow i _ _ e1 (Sl.tree_own etr);obtain⟨a',cu,S1',ea,m',hH',hk',ba,rl'⟩:=t3.dic_of;rw[s1]at s1';cases s1';cases ea;obtain⟨vc,Sc,ec,tc,ic,fc⟩:=OwL.focusK k1 hk' rl' ev;have tc':=tc;rw[bk_4 eu]at tc';obtain⟨c,kvc,rfl,mc,hHc,hkc,rlc⟩:=Ow.dict_of (kds:=kds) tc';refine⟨a,.ref c,rfl, ?_, ?_⟩
        ·exact Or.inl ⟨cu,k1,.inl hH',rfl,ec.symm⟩
        refine⟨Cy G' H1 O,Aw Δ,E3.aH,E3.gall, ?_⟩;cases e4:f2 (Aw Δ) with
        |ex x=>simp only[e4]at q;exact q.elim
        |no=>simp only[e4]at q;exact q.elim
        |ok z2=>
         simp only[e4]at q;refine WP.intro λv2 G2 H2 st2 r2=> ?_
         split at q
         ·rename_i k2 ek2
          split at q
          ·rename_i hl;have hv2:=ah_9 r2 ek2;subst hv2;have E4:=E3.keep st2.hh;have bq:H2 c=some (.dK kvc):=st2.hh _ _ hHc;have hle:kvc.length=kds.length:=by
            have:=Q5 List.length hkc
            rwa[A0,A0]at this
           obtain⟨p1,p2⟩:=db_2 k2 hkc rlc r;have hca:c≠a:=(ba c (ic c mc)).2;refine⟨c,_,rfl,DPut.k bq (by rw[hle,E5];exact hl),q σ G' _ _ (E4.writeIn e1 etr s1 (ba c (ic c mc)).1 ?_) st.gg⟩;refine Ow.dic (S1:=S1') (by rw[Bm (Ne.symm hca)];exact st2.hh _ _ hH') (by rw[ba_7];exact hk') m' ba ?_;refine fc (λb o hb nb z=> ?_) (Ow.dict Ct p1 mc p2);rw[Bm (show b≠c from λw=>nb (by rw[w];exact mc))];exact st2.hh _ _ z
          ·exact q.elim
         ·exact q.elim
       ·exact q.elim
      ·exact q.elim
     ·exact q.elim
  ·exact q.elim
end
theorem ci_4{G:Hp}(k:Av):∀{kvs:List (Av×V)} {kds:List (Av×D)},kvs.map (·.1)=kds.map (·.1)->HasL K G (kvs.map (·.2)) (kds.map (·.2))->(Hy kvs k).map (·.1)=(Gq kds k).map (·.1)/\HasL K G ((Hy kvs k).map (·.2)) ((Gq kds k).map (·.2))
 | [],[],_,_=>⟨rfl,.nil⟩
 | [],_::_,e,_=>by simp at e
 |_::_,[],e,_=>by simp at e
 |(x,v)::kvs,(y,d)::kds,e,r=>by
  simp only[A9,T7]at e;obtain⟨e1,e2⟩:=e;subst e1;cases r with
  |cons h r=>
   obtain⟨i1,i2⟩:=ci_4 k (kvs:=kvs) (kds:=kds) e2 r
   by_cases q:x=k
   ·have a1:Hy ((x,v)::kvs) k=Hy kvs k:=dh_8 q;have a2:Gq ((x,d)::kds) k=Gq kds k:=by unfold Gq;rw[O4 (by simpa using q)]
    rw[a1,a2];exact⟨i1,i2⟩
   ·have a1:Hy ((x,v)::kvs) k=(x,v)::Hy kvs k:=bu_0 q;have a2:Gq ((x,d)::kds) k=(x,d)::Gq kds k:=by unfold Gq;rw[O5 (by simpa using q)]
    rw[a1,a2];exact⟨by rw[A9,A9,i1],.cons h i2⟩
section
variable{X:Cx}{EX:Bt}{pos:Pos}
def db_3(i:Nat)(f1 f2:FE):FS:=λ Δ=>match(Δ[i]?).bind Sl.tree with
 |some (.dic zn,lk)=>(match f1 (Aw Δ) with
   | .ok z1=>(match Dw z1.d with
    |some k1=>(match Ed zn k1 with
     |some (.dic kt2)=>(match unS kt2 with
      |some kds=>(match f2 (Aw Δ) with
       | .ok z2=>(match Dw z2.d with
        |some k2=> .nx (Δ.set i (Sl.mk lk (.dic (Fe zn k1 (Tn.of (.dic (Gq kds k2)))))))
        |none=> .no)
       |_=> .no)
      |none=> .no)
     |_=> .no)
    |none=> .no)
   |_=> .no)
 |_=> .no
def ed_6{i:Nat}{x:Str}{e1 e2:Expr}{f1 f2:FE}{j:Nat}{p1 p2 p3 zh zf pos:Pos}(hu:X.A.units + 64 < cLine)(h1:ED X EX e1 f1)(h2:ED X EX e2 f2)(hN:X.N[i]? =some x:=by rfl)(hv:Vis X.env.scope x:=by trivial)(hd:AG x:=by decide)
  (hcd:(x ==("__classdict__" :Str))=false:=by decide) (hn1:NoSl e1:=by intro _ _;rfl) (hm:M2 X (.Subscript (.Name x p1) e1 p2) "pop" zh e2 (.Constant .none j p3) zf:=by exact⟨rfl,rfl,rfl,rfl⟩)
  (hs:swapsWith (.Call (.Attribute (.Subscript (.Name x p1) e1 p2) "pop" zh) [e2,.Constant .none j p3] [] zf) none pos.line X.env=pure false:=by rfl):
  SD X EX (.Expr (.Call (.Attribute (.Subscript (.Name x p1) e1 p2) "pop" zh) [e2,.Constant .none j p3] [] zf) pos) (db_3 i f1 f2):=
 PS.imp (ao_9 (dq_7 (bz_4 () (Gr hN hv hd hcd) h1 hn1) h2 dn_6 hm) hs) λD σ H ⟨H0,G0,G,Δ,O,E,q⟩=>by
  unfold db_3 at q
  split at q
  ·rename_i zn lk e0;obtain⟨s,e1,etr⟩:=M0.mp e0;obtain⟨v0,s1,t⟩:=E.ow i _ _ e1 (Sl.tree_own etr);obtain⟨a,kvs,S1,rfl,m,hH,hk,sub,rl⟩:=t.dic_of;refine⟨.ref a,s1,Cy G H O,Aw Δ,E.aH,E.gall, ?_⟩;cases e3:f1 (Aw Δ) with
   |ex x=>simp only[e3]at q;exact q.elim
   |no=>simp only[e3]at q;exact q.elim
   |ok z1=>
    simp only[e3]at q;refine WP.intro λv1 G1 H1 st1 r1=> ?_
    split at q
    ·rename_i k1 ek1
     split at q
     ·rename_i kt2 ev
      split at q
      ·rename_i kds eu;have hv1:=ah_9 r1 ek1;subst hv1;have E3:=E.keep st1.hh;obtain⟨vb,s1',t3⟩:=E3.ow i _ _ e1 (Sl.tree_own etr);obtain⟨a',cu,S1',ea,m',hH',hk',ba,rl'⟩:=t3.dic_of;rw[s1]at s1';cases s1';cases ea;obtain⟨vc,Sc,ec,tc,ic,fc⟩:=OwL.focusK k1 hk' rl' ev;have tc':=tc;rw[bk_4 eu]at tc';obtain⟨c,kvc,rfl,mc,hHc,hkc,rlc⟩:=Ow.dict_of (kds:=kds) tc';refine⟨a,.ref c,rfl,Or.inl ⟨cu,k1,.inl hH',rfl,ec.symm⟩,c,rfl,.inl ⟨kvc,.inl hHc⟩, ?_⟩;refine⟨Cy G H1 O,Aw Δ,E3.aH,E3.gall, ?_⟩;cases e4:f2 (Aw Δ) with
       |ex x=>simp only[e4]at q;exact q.elim
       |no=>simp only[e4]at q;exact q.elim
       |ok z2=>
        simp only[e4]at q;refine WP.intro λv2 G2 H2 st2 r2=> ?_
        split at q
        ·rename_i k2 ek2;have hv2:=ah_9 r2 ek2;subst hv2;have E4:=E3.keep st2.hh;have bq:H2 c=some (.dK kvc):=st2.hh _ _ hHc;have hca:c≠a:=(ba c (ic c mc)).2;obtain⟨p1,p2⟩:=ci_4 k2 hkc rlc;have fin:∀o:HO,o=.dK (Hy kvc k2)->D.nx σ (upd H2 c o):=λo eo=>by
          subst eo;refine q σ G _ _ (E4.writeIn e1 etr s1 (ba c (ic c mc)).1 ?_) (Same.refl _);refine Ow.dic (S1:=S1') (by rw[Bm (Ne.symm hca)];exact st2.hh _ _ hH') (by rw[ba_7];exact hk') m' ba ?_;refine fc (λb o hb nb z=> ?_) (Ow.dict Ct p1 mc p2);rw[Bm (show b≠c from λw=>nb (by rw[w];exact mc))];exact st2.hh _ _ z
         refine⟨kvc,k2,bq,rfl,λv _=>fin _ rfl,λen=> ?_⟩;have:H2=upd H2 c (.dK (Hy kvc k2)):=by
          rw[cg_6 (dq_8 en)]
          funext b
          by_cases z:b=c
          ·rw[z,Ct,bq]
          ·rw[Bm z]
         show D.nx σ H2;rw[this];exact fin _ rfl
        ·exact q.elim
      ·exact q.elim
     ·exact q.elim
    ·exact q.elim
  ·exact q.elim
def bv_1(i:Nat)(f1:FE):FS:=λ Δ=>match(Δ[i]?).bind Sl.tree with
 |some (.dic zn,lk)=>(match f1 (Aw Δ) with
   | .ok z1=>(match Dw z1.d with
    |some k1=>if(Ed zn k1).isSome then .no else if zn.length < 16777216 then .nx (Δ.set i (Sl.mk lk (.dic (zn ++ [(k1,.dic [])])))) else .no
    |none=> .no)
   |_=> .no)
 |_=> .no
def ed_7{i:Nat}{x:Str}{e1:Expr}{f1:FE}{p1 p2 zj pos:Pos}(hu:X.A.units + 64 < cLine)(h1:ED X EX e1 f1)(hN:X.N[i]? =some x:=by rfl)(hv:Vis X.env.scope x:=by trivial)(hd:AG x:=by decide)
  (hcd:(x ==("__classdict__" :Str))=false:=by decide) (hs:swapsWith (.Dict [] [] p2) (some (.Subscript (.Name x p1) e1 zj)) pos.line X.env=pure false:=by rfl):
  SD X EX (.Assign [.Subscript (.Name x p1) e1 zj] (.Dict [] [] p2) pos) (bv_1 i f1):=
 PS.imp (bz_5 () (Gr hN hv hd hcd) h1 cg_5 hs) λD σ H ⟨H0,G0,G,Δ,O,E,q⟩=>by
  unfold bv_1 at q
  split at q
  ·rename_i zn lk e0;obtain⟨s,e1,etr⟩:=M0.mp e0;intro p hp;have E1:=E.keep (p_6 hp (.dK []));obtain⟨v0,s1,t⟩:=E1.ow i _ _ e1 (Sl.tree_own etr);obtain⟨a,kvs,S1,rfl,m,hH,hk,sub,rl⟩:=t.dic_of;refine⟨.ref a,s1,Cy G (upd H p (.dK [])) O,Aw Δ,E1.aH,E1.gall, ?_⟩;cases e3:f1 (Aw Δ) with
   |ex x=>simp only[e3]at q;exact q.elim
   |no=>simp only[e3]at q;exact q.elim
   |ok z1=>
    simp only[e3]at q;refine WP.intro λv1 G1 H1 st1 r1=> ?_
    split at q
    ·rename_i k1 ek1
     split at q
     ·exact q.elim
     ·rename_i hno
      split at q
      ·rename_i hl;have hv1:=ah_9 r1 ek1;subst hv1;have E3:=E1.keep st1.hh;have hH1:H1 a=some (.dK kvs):=st1.hh _ _ hH;have hp1:H1 p=some (.dK []):=st1.hh _ _ Ct;have hle:kvs.length=zn.length:=by
        have:=Q5 List.length hk
        rwa[A0,A0]at this
       have npO:∀j b,O j b->b≠p:=λj b hb z=>(E.out j b hb).2.2 (by rw[z];exact hp);have hap:a≠p:=npO i a m;refine⟨a,_,rfl,DPut.k hH1 (by rw[hle,E5];exact hl), ?_⟩;have fj:(kvs.any λkv=>decide (kv.1=k1))=false:=by
        rw[bk_3 k1 hk];cases h:zn.any λkv=>decide (kv.1=k1) with
        |false=>rfl
        |true=>
         exfalso;apply hno;unfold Ed;rw[O0,List.find?_isSome];exact R1.mp h
       have dz:Dy kvs k1 (.ref p)=kvs ++ [(k1,.ref p)]:=by
        rw[db_1];unfold Eh;rw[fj];rfl
       rw[dz];have Gp:G p=none:=E.st.gh.free hp;have old:∀b o,H b=some o->H1 b=some o:=λb o z=>st1.hh _ _ (p_6 hp _ b o z);have ms:MStep2 (O i) G H G (upd H1 a (.dK (kvs ++ [(k1,.ref p)]))):=⟨λb o nb z=>by rw[Bm (λw=>nb (by rw[w];exact m))];exact old b o z,λb o z=>by
        have:b≠a:=λw=>by rw[w,(E.out i a m).1]at z;cases z
        rw[Bm this];exact old b o (E.st.gh b o z),Same.refl _,λb _ z _=>z⟩
       refine q σ G _ _ (E.step2 (S:=λb=>O i b\/b=p) (Sl.mk_own lk _) (Sl.mk_lk lk _) (E.mk_lt e1 etr _) ms s1 (λb hb=> ?_) ?_) (Same.refl _)
       ·rcases hb with hb|hb
        ·refine⟨.inl hb,(E.out i b hb).1, ?_⟩
         by_cases w:b=a
         ·rw[w,Ct];simp
         ·rw[Bm w];cases e:H b with
          |none=>exact absurd e (E.out i b hb).2.2
          |some o=>rw[old b o e];simp
        ·subst hb;exact⟨.inr hp,Gp,by rw[Bm (Ne.symm hap),hp1];simp⟩
       ·refine Ow.dic (S1:=λb=>S1 b\/b=p) Ct (by rw[D1,D1,hk];rfl) (.inl m) (λb hb=> ?_) ?_
        ·rcases hb with hb|hb
         ·exact⟨.inl (sub b hb).1,(sub b hb).2⟩
         ·subst hb;exact⟨.inr rfl,Ne.symm hap⟩
        ·rw[D1,D1];refine OwL.append (S2:=λb=>b=p) (rl.mono (Same.refl _) (λb o hb z=> ?_) λ_ z=>z) (.cons (S1:=λb=>b=p) (S2:=λ_=>False) (.dic (S1:=λ_=>False) (by rw[Bm (Ne.symm hap)];exact hp1) rfl rfl (λ_ z=>z.elim) .nil) .nil (λ_ _ z=>z) (λ_ z=>z) λ_ z=>z.elim) (λb z1 z2=>npO i b (sub b z1).1 z2) (λb z=> .inl z) λb z=> .inr z;rw[Bm (sub b hb).2];exact st1.hh _ _ z
      ·exact q.elim
    ·exact q.elim
  ·exact q.elim
end
def kD:Av->D
 | .inl i=> .int i
 | .inr x=> .str x
def eQ_8{G:Hp}(k:Av):Has K G (kV k) (kD k):=by cases k <;> constructor
theorem db_4{G:Hp}:∀ks:List Av,HasL K G (ks.map kV) (ks.map kD)
 | []=> .nil
 |k::ks=> .cons (eQ_8 k) (db_4 ks)
def ds_7{w:World}{k:Av}{u:Value}(h:(k_1 P w).is k u=true):RelV (kV k) u:=by
 rcases k_4 h with⟨i,t,rfl,rfl⟩|⟨x,t,rfl,rfl⟩
 ·exact⟨t,rfl⟩
 ·exact⟨t,rfl⟩
theorem bv_2{w:World}:∀{kvs:List (Av×V)} {vs:List (Av×Value)} {us:List Value},KV kvs vs->us.length=vs.length->(∀(j:Nat) v,us[j]? =some v->∃k x,vs[j]? =some (k,x)/\(k_1 P w).is k v=true)->Vals ((kvs.map (·.1)).map kV) us
 | [],vs,us,r,hl,_=>by
  have:=r.length;simp at this;have:us= []:=N9 ();subst this;exact .nil
 |(k,v)::kvs,vs,us,r,hl,h=>by
  cases r with
  |cons h1 r=>
   rename_i q vs;obtain⟨k',x⟩:=q;cases us with
   |nil=>simp at hl
   |cons u us=>
    obtain⟨k2,x2,e,i⟩:=h 0 u rfl;have e:(k',x)=(k2,x2):=by simpa using e
    cases e;have e1:k=k':=h1.1;subst e1;exact .cons (ds_7 i) (bv_2 r (by simpa using hl) λj v e=>by
     obtain⟨a,b,c,d⟩:=h (j + 1) v (by simpa using e);exact⟨a,b,by simpa using c,d⟩)
section
variable{X:Cx}{EX:Bt}{pos:Pos}
def db_5:List D->R W
 | [.dic kvs]=> .ok (.ow (.lst (kvs.map λp=>kD p.1)))
 |_=> .no
def ct_8(hc:X.calm=true):Et X (.type "list") db_5:=by
 intro zd s σ H vs us Q I rv q;obtain⟨EX,G,ds,g,r,o⟩:=q;cases r with
 |nil=>exact False.elim o
 |cons h t=>
  cases t with
  |cons _ _=>cases h <;> exact False.elim o
  |nil=>
   cases h with
   |dic h hk r=>
    rename_i kvs kds;obtain⟨u,rfl,ru⟩:=rv.one;cases ru;obtain⟨z,lo,ws,kv,dd⟩:=av_6 I.hok (Same.rdD g h);obtain⟨ep,da⟩:=dd.dictAt;refine kdl_call (kdl_dict lo) (I.ok.hd hc) da (by rw[<-kv.length];exact z) λh' tk zp c kk hat it=> ?_;have rv':Vals ((kvs.map (·.1)).map kV) zp.toList:=bv_2 kv (by rw[X0];exact it.1) λj v e=>it.2 j v (by rw[<-Array.getElem?_toList];exact e);have fr:=I.hok.fresh (B0 _);refine⟨.ref _,upd H _ (.lst _),I.laid (t':=tk) kk (B0 _) ⟨?_,zp.toList,c,rv',by simpa using hat⟩,rfl, ?_⟩
    ·rw[A0,A0];exact z
    ·have e:(kds.map λp=>kD p.1)=(kvs.map (·.1)).map kD:=by rw[hk,D4];rfl
     have o':Out X.K EX G H (.ok (.ow (.lst ((kvs.map (·.1)).map kD)))) Q:=by rw[<-e];exact o
     exact ac_6 o' g (db_4 _) _ fr
   |_=>exact False.elim o
def minK:List D->R W
 | [.dic kvs]=>(match kvs with
  | [(.inl i,_)]=> .ok (.sh (.int i))
  |_=> .no)
 |_=> .no
def di_9(hc:X.calm=true):Et X (.builtin "min") minK:=by
 intro zd s σ H vs us Q I rv q;obtain⟨EX,G,ds,g,r,o⟩:=q;cases r with
 |nil=>exact False.elim o
 |cons h t=>
  cases t with
  |cons _ _=>cases h <;> exact False.elim o
  |nil=>
   cases h with
   |dic h hk r=>
    rename_i kvs kds;cases kds with
    |nil=>exact False.elim o
    |cons p kds=>
     obtain⟨k,d⟩:=p;cases k with
     |inr x=>exact False.elim o
     |inl i=>
      cases kds with
      |cons _ _=>exact False.elim o
      |nil=>
       obtain⟨u,rfl,ru⟩:=rv.one;cases ru;obtain⟨z,lo,ws,kv,dd⟩:=av_6 I.hok (Same.rdD g h);obtain⟨ep,da⟩:=dd.dictAt;have hws:∃x,ws= [(.inl i,x)]:=by
        have e1:=kv.keys;rw[hk]at e1;cases ws with
        |nil=>simp at e1
        |cons q ws=>
         cases ws with
         |cons _ _=>simp at e1
         |nil=>
          obtain⟨k',x⟩:=q;have:(.inl i:Av)=k':=by simpa using e1
          subst this;exact⟨x,rfl⟩
       obtain⟨x,rfl⟩:=hws;obtain⟨oI,St,hit,W,st⟩:=(kdl_dict (knd:=k_1 X.prog X.w) lo).iter X.A.in1 s (I.ok.hd hc) da;refine call_min_walk (hit _ _ ⟨_,_,_,_,_,_,λa b=>decide ((λ_=>i) a < (λ_=>i) b),rfl,W,st,λb hb=> ?_,Nat.zero_lt_one,CmpOf.ints_lt (λ_=>i) (λj v hj=> ?_),λv h' tk hP hk'=> ?_⟩)
       ·show b < (s.heap.push oI).objs.size;rw[L4];rcases B3.mp hb with e|hb
        ·rw[e];exact P7 _
        ·rw[F7.mp hb];exact Y7 da.lt_size
       ·obtain⟨k,y,e1,e2⟩:=hj;cases j with
        |zero=>
         cases e1;exact ds_7 e2
        |succ j=>simp at e1
       ·obtain⟨k,y,e1,e2⟩:=hP;have e1:((.inl i,x):Av×Value)=(k,y):=by simpa[argBest] using e1
        cases e1;obtain⟨t,rfl⟩:=ds_7 e2;have old:∀b o,s.heap.get? b=some o->h'.get? b=some o:=λb o e=>
         hk' b o (λhm=>absurd (A7 e) (by rw[F7.mp hm];exact F5 _)) (A4 _ e)
        exact⟨.int i,H,I.kept (t':=tk) old,⟨t,rfl⟩,Dr o g (.int _)⟩
   |_=>exact False.elim o
end
def ct_9(l b:Addr)(xs ys:Array Value)(n m:Nat)(dd:Option Addr)(sl:Array (Option Value))(h0:¬(!xs.isEmpty && Builtin.List.listTooLong (xs.size + ys.size))=true)(h1:xs.size<=sizeLine)(h2:xs.size + ys.size<=sizeLine + 1):
  Meets (Builtin.«list.extend» ⟨[.ref l,.ref b],[]⟩) (λ_ R s=>s.heap.get? l=some {cls:=.type "list",data:=.seq xs n}/\s.heap.get? b=some ⟨.type "tuple",dd,.seq ys m,sl⟩/\
   R (.ok (.ret Value.none)) {s with heap:=s.heap.update l (Obj.mapSeq λz=>z ++ ys),toks:=s.toks}):=
 .of_wp λprog w A R s h=>by
  obtain⟨hp,g,d,tk,os⟩:=s;obtain⟨ha,hc,h⟩:=h;have g1:=AutoSeq1.idx_int;have g2:=AutoSeq1.sub_tuple_tuple;have g3:=AutoSeq1.sub_list_list;have g4:=AutoSeq1.sub_tuple_list;have g5:=AutoSeq1.sub_list_tuple;have hz:(xs ++ ys).size<=sizeLine + 1:=by rw[Array.size_append];exact h2
  wp_walk using(wpAny_updateSeq ha rfl (hz:=h1) (_hz':=hz)),ZA6 ha,ZA6 hc
  exact⟨_,rfl,h⟩
section
variable{X:Cx}{EX:Bt}{pos:Pos}
def ex_5(K:Frag):V->List V->Hp->VK->Prop:=λx vs H Q=>∃l b xs zs,x=.ref l/\vs= [.ref b]/\H l=some (.lst xs)/\SqT K H b zs/\xs.length + zs.length<=sizeLine/\Q .non (upd H l (.lst (xs ++ zs)))
def ed_8:MtM X "list.extend" (ex_5 X.K):=by
 intro zd s σ H x vs v us Q I rx rv h;obtain⟨l,b,xs,zs,rfl,rfl,hH,hB,hz,q⟩:=h;cases rx;obtain⟨u,rfl,ru⟩:=rv.one;cases ru;obtain⟨z,its,n,r,hl,e⟩:=I.lstM hH;obtain⟨its2,r2,⟨o,e2,c2,n2,dat⟩,z2⟩:=I.tuple hB;have hl2:=r2.length;obtain⟨cls,dd,data,sl⟩:=o;simp only at c2 dat;subst c2 dat;have hsz:its.toArray.size + its2.toArray.size<=sizeLine:=by rw[B4,B4];omega
 have az:¬(!its.toArray.isEmpty && Builtin.List.listTooLong (its.toArray.size + its2.toArray.size))=true:=by
  rw[cg_1 hsz,Bool.and_false];simp
 refine ZA0 Z3 ⟨_,e,rfl⟩ PySem.F.entry_list_extend (PySem.F.args_list_extend_2 _ _) (ct_9 l b its.toArray its2.toArray n n2 dd sl az (by rw[B4];omega) ()) ⟨e,e2, ?_⟩;refine⟨.non,_,I.lset (its':=its ++ its2) hH e (by simp) (r.append r2) ?_,rfl,q⟩;rw[B6];omega
def sExt(i:Nat)(f:FE):FS:=λ Δ=>match Δ[i]? with
 |some (.ow (.lst ds))=>(match f (Bg Δ) with
  | .ok w=>(match w.d with
   | .tup es=>if ds.length + es.length<=16777216 then .nx (Δ.set i (.ow (.lst (ds ++ es)))) else .no
   |_=> .no)
  |_=> .no)
 |_=> .no
def eQ_9{i:Nat}{x:Str}{e:Expr}{f:FE}{p1 zh zf:Pos}(he:ED X EX e f)(hN:X.N[i]? =some x:=by rfl)(hv:Vis X.env.scope x:=by trivial)(hd:AG x:=by decide)
  (hcd:(x ==("__classdict__" :Str))=false:=by decide) (hsw:swapsWith (.Call (.Attribute (.Name x p1) "extend" zh) [e] [] zf) none pos.line X.env=pure false:=by rfl)
  (aa:attributeBase (.Name x p1) "extend" X.env (eval (.Name x p1) X.env)=eval (.Name x p1) X.env:=by rfl)
  (ax:((backTo zf (starEach [e] X.env)).all (λx=> !x.1) && (backToKw zf (keywordEach [] X.env)).all (λx=>x.1.isSome)
   && decide ([e].length + ([]:List Keyword).length + (if([]:List Keyword).isEmpty then 0 else 1) < 30))=true:=by rfl)
  (ae:(zh.endLine ==zf.line)=true:=by rfl) (hs:starEach [e] X.env=(false,eval e X.env)::starEach [] X.env:=by rfl) (af:(backTo zf (starEach [] X.env)).any (·.1)=false:=by rfl):
  SD X EX (.Expr (.Call (.Attribute (.Name x p1) "extend" zh) [e] [] zf) pos) (sExt i f):=
 PS.imp (ao_9 (dp_4 U7 Z3 PySem.F.type_list_extend ed_8 (Gr hN hv hd hcd) (Gj he u_3 hs) aa ax ae hs af) hsw) λD σ H ⟨H0,G0,G,Δ,O,E,q⟩=>by
  unfold sExt at q
  split at q
  ·rename_i ds e1;obtain⟨v0,s1,t⟩:=E.ow i _ _ e1 rfl;obtain⟨a,vs,rfl,m,hH,rl⟩:=t.list_of;refine⟨.ref a,s1,.inl ⟨rfl,_,SqL.of hH⟩,G,Bg Δ,E.st.gh,E.gsh, ?_⟩;cases e2:f (Bg Δ) with
   |ex x=>simp only[e2]at q;exact q.elim
   |no=>simp only[e2]at q;exact q.elim
   |ok w=>
    simp only[e2]at q;refine WP.intro λv G' H' st r=> ?_;revert q r;cases w.d with
    |tup es=>
     intro q r;simp only at q
     split at q
     ·rename_i hz;cases r with
      |tup h r=>exact⟨a,_,vs,_,rfl,rfl,st.hh _ _ hH,Same.tupS st.gh h,by rw[rl.length,r.length,E5];exact hz,q σ G' _ _ ((E.grow st).writeL s1 m ((rl.mono st.gg).append r)) st.gg⟩
     ·exact q.elim
    |_=>intro q _;exact False.elim q
  ·exact q.elim
def ci_5(i j:Nat):FS:=λ Δ=>match Δ[j]? with
 |some (.ow (.lst ds))=>(match ds[ds.length - 1]? with
  |some d=> .nx ((Δ.set j (.ow (.lst ds.dropLast))).set i (.sh d))
  |none=> .no)
 |_=> .no
theorem HasL.dropLast{G:Hp}{ds:List D}(h:HasL K G vs ds):HasL K G vs.dropLast ds.dropLast:=by
 rw[List.dropLast_eq_take,List.dropLast_eq_take,h.length];exact h.take _
def ee_0{i j:Nat}{x y:Str}{p1 p2 zh zf:Pos}(hN:X.N.Nodup)(hi:X.N[i]? =some x:=by rfl)(hx:Loc X.env.scope x:=by trivial)(hj:X.N[j]? =some y:=by rfl)(hv:Vis X.env.scope y:=by trivial)(hd:AG y:=by decide)
  (hcd:(y ==("__classdict__" :Str))=false:=by decide) (hs:swapsWith (.Call (.Attribute (.Name y p1) "pop" zh) [] [] zf) (some (.Name x p2)) pos.line X.env=pure false:=by rfl)
  (hf:X.fn x=true\/X.env.scope.names.lookup x=some .local:=by trivial)
  (aa:attributeBase (.Name y p1) "pop" X.env (eval (.Name y p1) X.env)=eval (.Name y p1) X.env:=by rfl) (ae:(zh.endLine ==zf.line)=true:=by rfl):
  SD X EX (.Assign [.Name x p2] (.Call (.Attribute (.Name y p1) "pop" zh) [] [] zf) pos) (ci_5 i j):=
 PS.imp (cr_1 hN hi hx (dp_3 U7 PySem.F.slot_list_pop PySem.F.type_list_pop eo_0 (Gr hj hv hd hcd) aa ae) hs hf) λD σ H ⟨H0,G0,G,Δ,O,E,q⟩=>by
  unfold ci_5 at q
  split at q
  ·rename_i ds e1;obtain⟨v0,s1,t⟩:=E.ow j _ _ e1 rfl;obtain⟨a,vs,rfl,m,hH,rl⟩:=t.list_of
   split at q
   ·rename_i d e2;rw[<-rl.length]at e2;obtain⟨v,e3,hv⟩:=rl.get e2;exact⟨.ref a,s1,.inl ⟨rfl,_,SqL.of hH⟩,a,vs,v,rfl,rfl,hH,e3,q _ G _ _ ((E.writeL s1 m rl.dropLast).put hv) (Same.refl _)⟩
   ·exact q.elim
  ·exact q.elim
theorem HasL.eraseIdx{G:Hp}:∀{vs:List V} {ds:List D} (n:Nat),HasL K G vs ds->HasL K G (vs.eraseIdx n) (ds.eraseIdx n)
 |_,_,_,.nil=> .nil
 |_,_,0,.cons _ r=>r
 |_,_,n + 1,.cons h r=> .cons h (HasL.eraseIdx n r)
def ci_6(i:Nat)(f:FE):FS:=λ Δ=>match f (Aw Δ) with
 | .ok (.ow (.lst ds))=>if ds.all Bd=true then .nx (Δ.set i (.ow (.lst ds))) else .no
 |_=> .no
theorem HasL.ofFl{G G':Hp}:∀{vs:List V} {ds:List D},HasL K G vs ds->ds.all Bd=true->HasL K G' vs ds
 |_,_,.nil,_=> .nil
 |_,_,.cons h r,f=>by
  rw[Q8,C4]at f;exact .cons (h.ofFl f.1) (HasL.ofFl r f.2)
def ee_1{i:Nat}{x:Str}{e:Expr}{f:FE}{pos':Pos}(he:ED X EX e f)(hN:X.N.Nodup)(hi:X.N[i]? =some x:=by rfl)(hx:Loc X.env.scope x:=by trivial)(hs:swapsWith e (some (.Name x pos')) pos.line X.env=pure false:=by rfl)
  (hf:X.fn x=true\/X.env.scope.names.lookup x=some .local:=by trivial):SD X EX (.Assign [.Name x pos'] e pos) (ci_6 i f):=
 PS.imp (cr_1 hN hi hx he hs hf) λD σ H ⟨H0,G0,G,Δ,O,E,q⟩=>by
  unfold ci_6 at q;refine⟨Cy G H O,Aw Δ,E.aH,E.gall, ?_⟩
  split at q
  ·rename_i ds e1
   split at q
   ·rename_i fl;rw[e1];intro v S G' H' st fr t;obtain⟨a,vs,rfl,m,hH,rl⟩:=t.list_of;have nG:G a=none:=E.st.gh.free (fr a m).1;refine q _ G H' _ ((E.keep st.hh).putO (S:=λb=>b=a) (λb hb=> ?_) rfl (λ_ z=>by cases z) (Ow.list hH rfl (rl.ofFl fl)) λj b hj hb=> ?_) (Same.refl _)
    ·subst hb;exact⟨E.st.hh.free (fr b m).1,nG,by rw[hH];simp⟩
    ·subst hb;exact(E.out j b hj).2.2 (fr b m).1
   ·exact q.elim
  ·exact q.elim
end
def ca_3(n:Nat)(ds:List D)(t:Tn):SE:=(Ar n ds).set ds.length (.lt t)
def ci_7(n:Nat)(g:FS)(ds:List D)(t:Tn):Option Tn:=match g (ca_3 n ds t) with
 | .nx Δ=>(match Δ[ds.length]? with
  |some (.lt t')=>some t'
  |_=>none)
 |_=>none
def spM(K:Frag)(n:Nat)(F:List D->Tn->Option Tn):Sp:=λvs H Q _=>∃vs0 a0,vs=vs0 ++ [.ref a0]/\vs0.length=n/\∃G ds t S t',Same G H/\HasL K G vs0 ds/\Ow K G H (.ref a0) t S/\(∀a,S a->G a=none/\H a≠none)/\F ds t=some t'/\
 ∀G' H' S',MStep2 S G H G' H'->(∀a,S' a->(S a\/H a=none)/\G' a=none/\H' a≠none)->Ow K G' H' (.ref a0) t' S'->Q .non H'
def dj_0{G H h0:Hp}{vs us:List V}{ds:List D}{N:List Str}{b:Nat->Addr}(g:Same G H)(i0:Same h0 H)(r:HasL K G vs ds)(hl:(vs ++ us).length<=N.length):Ev K ⟨h0,b⟩ G G H (Fy N (vs ++ us)) (Ar N.length ds) (λ_ _=>False):=by
 have key:∀(i:Nat) (s:Sl),(Ar N.length ds)[i]? =some s->(∃d,s=.sh d/\ds[i]? =some d)\/s=.no:=λi s e=>by
  unfold Ar at e
  by_cases hi:i < ds.length
  ·rw[B7 (by rw[A0];exact hi),A8]at e;obtain⟨d,e1,e2⟩:=D3.mp e;exact .inl ⟨d,e2.symm,e1⟩
  ·rw[D6 (by rw[A0];omega),E8]at e
   split at e
   ·cases e;exact .inr rfl
   ·cases e
 refine⟨⟨i0,g,Same.refl _,λ_ n _=>n⟩, ?_,λi d e=> ?_,λi z d e zo=> ?_,λ_ _ ha=>ha.elim,λ_ _ _ ha=>ha.elim,λi d e=> ?_,λi d e=> ?_⟩
 ·unfold Fy Ar;have:=r.length;simp only[B6,A0,K3]at hl⊢;omega
 ·rcases key i _ e with⟨d',q,q2⟩|q
  ·cases q;obtain⟨v,e1,h⟩:=r.get q2;refine⟨v, ?_,h⟩;unfold Fy;have hi:i < vs.length:=(A5.mp e1).1;rw[B7 (by rw[A0,B6];omega),A8,B7 hi,e1];rfl
  ·cases q
 ·rcases key i _ e with⟨d',q,_⟩|q <;> (subst q;cases zo)
 ·rcases key i _ e with⟨d',q,_⟩|q <;> cases q
 ·rcases key i _ e with⟨d',q,_⟩|q <;> cases q
open Classical in
def fn_M{c:Bool}{w:World}{x qual:Str}{st:Stmt}{f:Addr}{N ps:List Str}{k n:Nat}{g:FS}(F:Fun K x qual st f fd)(S:FnScope N ps (Ce st))(hn:ps.length=n + 1)(hle:ps.length<=N.length)
  (zk:∀(zq:Value) (A:Around) (outer:List Env) (s:Shared) (H:Hp) (E:XK),RoomC c k (A.deeper (envOfC qual (Ce st) s.heap.objs.size f zq))->
   BD (El c P w K mg base N qual (Ce st) f zq A outer s H E) (λ_=>EXof K E) (Fg st) g):FnX P w K mg base c (k + 1) f fd ps (spM K n (ci_7 N.length g)):=by
 refine Fun.okX F S (λvs H Q E h=> ?_) λzq A outer s H vs Q E hr h=>⟨_,zk zq A outer s H E hr, ?_⟩
 ·obtain⟨vs0,a0,rfl,hl,_⟩:=h;rw[B6,hl,hn];rfl
 obtain⟨vs0,a0,rfl,hl,G,ds,t,S0,t',g0,r,tw,out,ef,q⟩:=h;have i0:Same (λb=>if S0 b then none else H b) H:=λb o e=>by
  simp only at e
  split at e
  ·cases e
  ·exact e
 have E0:=dj_0 (N:=N) (b:=λ_=>a0) (us:=[.ref a0]) g0 i0 r (by rw[B6,hl];show n + 1<=_;omega);have zm:ds.length=n:=by rw[<-r.length];exact hl
 have hs:(Fy N (vs0 ++ [.ref a0]))[ds.length]? =some (some (.ref a0)):=by
  unfold Fy;rw[B7 (by rw[A0,B6,hl,zm];exact P7 _),A8,D6 (by rw[hl,zm];exact B0 _),hl,zm,Nat.sub_self];rfl
 have E1:=E0.putO (i:=ds.length) (z:=.lt t) (S:=S0) (λa ha=>⟨by simp only;rw[if_pos ha],(out a ha).1,(out a ha).2⟩) rfl (λ_ z=>by cases z) tw (λj a ha=>ha.elim) (λ_ _=>rfl);rw[af_6 hs]at E1;refine⟨⟨λb=>if S0 b then none else H b,λ_=>a0⟩,G,G,_,_,E1, ?_⟩;unfold ci_7 at ef;have e2:(Ar N.length ds).set ds.length (.lt t)=ca_3 N.length ds t:=rfl;rw[e2];cases e:g (ca_3 N.length ds t) with
 |nx Δ=>
  rw[e]at ef;simp only at ef
  split at ef
  ·rename_i t2 e3;cases ef;intro σ G' H' O E' _;obtain⟨v,s1,t3⟩:=E'.ow _ _ _ e3 rfl;have s2:=E'.lt _ _ e3;rw[s1]at s2;cases s2;refine q G' H' (O ds.length) ⟨λb o nb z=>E'.st.hh b o (by simp only;rw[if_neg nb];exact z),E'.st.gh,E'.st.gg,λb nb z1 z2=>E'.st.nw b z1 (by simp only;rw[if_neg nb];exact z2)⟩ (λa ha=> ?_) t3;obtain⟨k1,k2,k3⟩:=E'.out _ a ha;refine⟨?_,k1,k3⟩;simp only at k2
   split at k2
   ·rename_i z;exact .inl z
   ·exact .inr k2
  ·cases ef
 |rt w=>rw[e]at ef;cases ef
 |ex x Δ=>rw[e]at ef;cases ef
 |bk Δ=>rw[e]at ef;cases ef
 |ct Δ=>rw[e]at ef;cases ef
 |no=>rw[e]at ef;cases ef
def FnMd(P:Program)(w:World)(K:Frag)(mg:AB)(base:Heap)(c:Bool)(x:Str)(k n:Nat)(ps:List Str)(F:List D->Tn->Option Tn):Prop:=
 ∃f fd,FnX P w K mg base c k f fd ps (spM K n F)/\mg x=some (.ref f)/\keepIn K (.ref f)=true/\Binds K fd ps []
def er_0{c:Bool}{w:World}{x:Str}{st:Stmt}{f:Addr}{ps:List Str}{k n:Nat}{Fn:List D->Tn->Option Tn}(F:Fun K x x st f fd)(hm:mg x=some (.ref f))(hb:Binds K fd ps [])
  (ok:FnX P w K mg base c k f fd ps (spM K n Fn)):FnMd P w K mg base c x k n ps Fn:=⟨f,fd,ok,hm,F.kp,hb⟩
section
variable{X:Cx}{EX:Bt}{e:Expr}{es:List Expr}{x:Str}{pp pos:Pos}{c:Bool}{k k':Nat}{ps:List Str}
def ds_8{sp:Sp}{ta:TA}{f:Addr}(hr:RoomC c k' X.A)(lk:Lk X EX)(ok:FnX X.prog X.w X.K X.mg X.base c k f fd ps sp)(hm:X.mg x=some (.ref f))(kp:keepIn X.K (.ref f)=true)(hb:Binds X.K fd ps [])(ha:PA X (e::es) ta)(hk:k<=k')(hg:Gl X x)(hdb:AG x)
  (he:starEach (e::es) X.env=(false,eval e X.env)::starEach es X.env) (hpl:(backTo pos (starEach es X.env)).any (·.1)=false):
  PE X (.Call (.Name x pp) (e::es) [] pos) (λ σ H Q=>ta σ H λvs H1=>sp vs H1 Q (EXE X.K (EX σ))):=by
 intro zd s σ H Q I q;refine L8 (x_9 I hg hm ?_ hdb);refine T8 (h₀:=X.base) I.ok.mod.kin kp (Bk (ha pos zd s σ H _ I q) λus s1 ⟨vs,H1,I1,r,q⟩=>⟨I1.kIn, ?_⟩) he hpl;exact av_9 ok (hr.mono hk) hb lk I1 r q
def bk_5(i:Nat)(F:List D->Tn->Option Tn)(f1 f2:FE):FS:=λ Δ=>match(Δ[i]?).bind Sl.tree with
 |some (.dic zn,lk)=>(match f1 (Bg Δ) with
  | .ok w1=>(match f2 (Bg Δ) with
   | .ok w2=>(match F [w1.d,w2.d] (.dic zn) with
    |some t'=> .nx (Δ.set i (Sl.mk lk t'))
    |none=> .no)
   |_=> .no)
  |_=> .no)
 |_=> .no
def ds_9{i:Nat}{y:Str}{e1 e2:Expr}{f1 f2:FE}{F:List D->Tn->Option Tn}{p3:Pos}(hr:RoomC c k' X.A)(lk:Lk X EX)(h:FnMd X.prog X.w X.K X.mg X.base c x k 2 ps F)(h1:ED X EX e1 f1)(h2:ED X EX e2 f2)(hk:k<=k':=by decide)
  (hN:X.N[i]? =some y:=by rfl) (hv:Vis X.env.scope y:=by trivial) (hd:AG y:=by decide) (hcd:(y ==("__classdict__" :Str))=false:=by decide)
  (hg:Gl X x:=by rfl) (hdb:AG x:=by decide) (hs1:starEach [e1,e2,.Name y p3] X.env=(false,eval e1 X.env)::starEach [e2,.Name y p3] X.env:=by rfl) (hs2:starEach [e2,.Name y p3] X.env=(false,eval e2 X.env)::starEach [.Name y p3] X.env:=by rfl) (hs3:starEach [.Name y p3] X.env=(false,eval (.Name y p3) X.env)::starEach [] X.env:=by rfl)
  (hpl:(backTo pos (starEach [e2,.Name y p3] X.env)).any (·.1)=false:=by rfl) (hsw:swapsWith (.Call (.Name x pp) [e1,e2,.Name y p3] [] pos) none pos.line X.env=pure false:=by rfl) {bh:Pos} (df:swapsWith (.Call (.Name x pp) [e1,e2,.Name y p3] [] pos) none bh.line X.env=pure false:=by rfl):
  SD X EX (.Expr (.Call (.Name x pp) [e1,e2,.Name y p3] [] pos) bh) (bk_5 i F f1 f2):=by
 obtain⟨f,fd,ok,hm,kp,hb⟩:=h;refine PS.imp (ao_9 (ds_8 hr lk ok hm kp hb (Gj h1 (Gj h2 (Gj (Gr hN hv hd hcd) u_3 hs3) hs2) hs1) hk hg hdb hs1 hpl) df) λD σ H ⟨H0,G0,G,Δ,O,E,q⟩=> ?_;unfold bk_5 at q
 split at q
 ·rename_i zn lk e0;obtain⟨s,e1,etr⟩:=M0.mp e0;refine⟨G,Bg Δ,E.st.gh,E.gsh, ?_⟩;cases q1:f1 (Bg Δ) with
  |ex x=>simp only[q1]at q;exact q.elim
  |no=>simp only[q1]at q;exact q.elim
  |ok w1=>
   simp only[q1]at q;refine WP.intro λv1 G1 H1 st1 r1=> ?_;have E1:=E.grow st1;refine⟨G1,Bg Δ,E1.st.gh,E1.gsh, ?_⟩;cases q2:f2 (Bg Δ) with
   |ex x=>simp only[q2]at q;exact q.elim
   |no=>simp only[q2]at q;exact q.elim
   |ok w2=>
    simp only[q2]at q;refine WP.intro λv2 G2 H2 st2 r2=> ?_;have E2:=E1.grow st2;obtain⟨v0,s1,t0⟩:=E2.ow i _ _ e1 (Sl.tree_own etr);refine⟨v0,s1, ?_⟩
    split at q
    ·rename_i t' ef;obtain⟨a0,_,_,rfl,_⟩:=t0.dic_of;refine⟨[v1,v2],a0,rfl,rfl,G2,[w1.d,w2.d],.dic zn,O i,t',E2.st.gh,.cons (r1.mono st2.gg) (.cons r2 .nil),t0,λa ha=>⟨(E2.out i a ha).1,(E2.out i a ha).2.2⟩,ef,λG' H' S' ms fr t1=> ?_⟩;exact q σ G' H' _ (E2.step2 (Sl.mk_own lk t') (Sl.mk_lk lk t') (E2.mk_lt e1 etr t') ms s1 fr t1) ((st1.gg.trans st2.gg).trans ms.gg)
    ·exact q.elim
 ·exact q.elim
def dt_0(i j:Nat):FS:=λ Δ=>if i=j then .no else match(Δ[i]?).bind Sl.tree,(Δ[j]?).bind Sl.tree with
 |some (t1,false),some (t2,false)=> .rt (.tr (.tup [t1,t2]))
 |_,_=> .no
def ee_3{i j x1:Nat}{x y:Str}{p1 p2 p3:Pos}(hN:X.N[i]? =some x:=by rfl)(hv:Vis X.env.scope x:=by trivial)(hd:AG x:=by decide)
  (hcd:(x ==("__classdict__" :Str))=false:=by decide) (hN2:X.N[j]? =some y:=by rfl) (hv2:Vis X.env.scope y:=by trivial) (hd2:AG y:=by decide)
  (ez:(y ==("__classdict__" :Str))=false:=by decide) (hs1:starEach [.Name x p1,.Name y p2] X.env=(false,eval (.Name x p1) X.env)::starEach [.Name y p2] X.env:=by rfl) (hs2:starEach [.Name y p2] X.env=(false,eval (.Name y p2) X.env)::starEach [] X.env:=by rfl):
  SD X EX (.Return (some (.Tuple [.Name x p1,.Name y p2] x1 p3)) pos) (dt_0 i j):=
 PS.imp (cr_0 (cr_9 (Gj (Gr hN hv hd hcd) (Gj (Gr hN2 hv2 hd2 ez) u_3 hs2) hs1))) λD σ H ⟨H0,G0,G,Δ,O,E,q⟩=>by
  unfold dt_0 at q
  split at q
  ·exact q.elim
  ·rename_i hij
   split at q
   ·rename_i t1 t2 e1 e2;obtain⟨z1,a1,b1⟩:=M0.mp e1;obtain⟨z2,a2,b2⟩:=M0.mp e2;obtain⟨v1,s1,w1⟩:=E.ow i _ _ a1 (Sl.tree_own b1);obtain⟨v2,s2,w2⟩:=E.ow j _ _ a2 (Sl.tree_own b2);refine⟨v1,s1,v2,s2,by rw[E5];show 2<=_;decide,λp hp=> ?_⟩;have np:∀k b,O k b->b≠p:=λk b hb z=>(E.out k b hb).2.2 (by rw[z];exact hp);have grow:∀k b o,O k b->H b=some o->upd H p (.tup [v1,v2]) b=some o:=λk b o hb z=>by rw[Bm (np k b hb)];exact z
    refine q (.ref p) (λb=>b=p\/O i b\/O j b) G _ (E.st.trans (Step.own E.st.gh hp _)) (λa ha=> ?_) ?_
    ·rcases ha with ha|ha|ha
     ·subst ha;exact⟨E.st.hh.free hp,E.st.gh.free hp,by rw[Ct];simp⟩
     ·obtain⟨k1,k2,k3⟩:=E.out i a ha;exact⟨k2,k1,by rw[Bm (np i a ha)];exact k3⟩
     ·obtain⟨k1,k2,k3⟩:=E.out j a ha;exact⟨k2,k1,by rw[Bm (np j a ha)];exact k3⟩
    ·refine Ow.tup (S1:=λb=>O i b\/O j b) Ct (.inl rfl) (λb hb=>⟨.inr hb, ?_⟩) (.cons (S1:=O i) (S2:=O j) (w1.mono (Same.refl _) (grow i) λ_ z=>z) (.cons (S1:=O j) (S2:=λ_=>False) (w2.mono (Same.refl _) (grow j) λ_ z=>z) .nil (λ_ _ z=>z) (λ_ z=>z) λ_ z=>z.elim) (λb z1 z2=>hij (E.dj i j b z1 z2)) (λ_ z=> .inl z) λ_ z=> .inr z);rcases hb with hb|hb
     ·exact np i b hb
     ·exact np j b hb
   ·exact q.elim
end
def OFld(K:Frag)(cs:List Str)(f:Str):Prop:=∀c,cs.contains c=true->∀C,ClsAt K c C->Cls K C/\NoAttr K C f
def OFld.nil{f:Str}:OFld K [] f:=λc h=>by cases h
def ClsAt.same{c:Str}{C C':Addr}(a:ClsAt K c C)(b:ClsAt K c C'):C'=C:=by
 unfold ClsAt at a b;rw[a]at b;injection b with b
 injection b with b
 injection b with b
 exact b.symm
def OFld.one{c:Str}{C:Addr}{cs:List Str}{f:Str}(a:ClsAt K c C)(k:Cls K C)(n:NoAttr K C f)(r:OFld K cs f):OFld K (c::cs) f:=λc' h C' a'=>by
 rw[Q0,W7]at h;rcases h with h|h
 ·have e:=M3.mp h;subst e;rw[a.same a'];exact⟨k,n⟩
 ·exact r c' h C' a'
def Bz(cs:List Str)(f:Str)(fo:FE):FE:=λ δ=>(fo δ).bind λw=>match w.d with
 | .obj c ns vs=>if cs.contains c then(match(ns.zip vs).lookup f with
  |some d=> .ok (.sh d)
  |none=> .no) else .no
 |_=> .no
theorem bh_2{G:Hp}{f:Str}:∀{ns:List Str} {us:List V} {vs:List D},HasL K G us vs->ns.length=us.length->(∀d,(ns.zip vs).lookup f=some d->∃v,(ns.zip us).lookup f=some v/\Has K G v d)/\(ns.contains f=false->(ns.zip us).lookup f=none)
 | [],_,_,_,_=>⟨λd e=>(by cases e),λ_=>rfl⟩
 |n::ns,[],_,_,e=>by simp at e
 |n::ns,u::us,_,.cons h r,e=>by
  obtain⟨i1,i2⟩:=bh_2 (f:=f) (ns:=ns) r (by simpa using e);refine⟨λd q=> ?_,λq=> ?_⟩
  ·rw[X8,E7]at q⊢;cases hb:f ==n with
   |true=>simp only[hb]at q⊢;cases q;exact⟨u,rfl,h⟩
   |false=>simp only[hb]at q⊢;exact i1 d q
  ·rw[Q0,Bool.or_eq_false_iff]at q;rw[X8,E7];simp only[q.1];exact i2 q.2
section
variable{X:Cx}{EX:Bt}{e:Expr}{pos:Pos}
def Dp{cs:List Str}{f:Str}{fo:FE}(k:OFld X.K cs f)(he:ED X EX e fo)(hb:attributeBase e f X.env (eval e X.env)=eval e X.env:=by rfl):ED X EX (.Attribute e f pos) (Bz cs f fo):=
 PE.imp (en_5 he hb) λ σ H Q ⟨G,δ,g0,s0,o⟩=>tD.seq g0 s0 o λw v G1 H1 _ st r o'=>by
  revert o' r;cases w.d with
  |obj c ns vs=>
   intro r o';simp only at o'
   split at o'
   ·rename_i hc
    split at o'
    ·rename_i d ed;cases r with
     |obj hC hh hl rl=>
      obtain⟨v1,e1,h1⟩:=(bh_2 (f:=f) rl hl).1 d ed;obtain⟨kc,kn⟩:=k c hc _ hC;exact⟨_,_,_,_,v1,rfl,st.gh _ _ hh,kc,kn,e1,Dr o' st.gh h1⟩
    ·exact o'.elim
   ·exact o'.elim
  |_=>intro _ o';exact False.elim o'
end
structure MethD(P:Program)(w:World)(K:Frag)(mg:AB)(base:Heap)(cc:Bool)(k n:Nat)(m c:Str)(F:AF):Prop where
 ex:∃C f fd ps,ClsAt K c C/\Cls K C/\Meth K C m f/\FnX P w K mg base cc k f fd ps (Bh K (n + 1) F)/\Binds K fd ps []
def MethT(P:Program)(w:World)(K:Frag)(mg:AB)(base:Heap)(cc:Bool)(k n:Nat)(m:Str)(tb:List (Str×(AF))):Prop:=∀c F,tb.lookup c=some F->MethD P w K mg base cc k n m c F
def MethT.nil{w:World}{cc:Bool}{k n:Nat}{m:Str}:MethT P w K mg base cc k n m []:=λc F e=>by cases e
def FnX.up{w:World}{c:Bool}{j k:Nat}{f:Addr}{ps:List Str}{sp:Sp}(F:FnX P w K mg base c j f fd ps sp)(h:j<=k):FnX P w K mg base c k f fd ps sp:=
 ⟨F.len,λA outer s H args us vs Q E hr=>F.run A outer s H args us vs Q E (hr.mono h)⟩
def MethT.one{w:World}{cc:Bool}{j k n:Nat}{m c:Str}{F:AF}{tb:List (Str×(AF))}(d:MethD P w K mg base cc j n m c F)(hj:j<=k)(r:MethT P w K mg base cc k n m tb):MethT P w K mg base cc k n m ((c,F)::tb):=λc' F' e=>by
 rw[E7]at e;cases hb:c' ==c with
 |true=>
  simp only[hb]at e;cases e;have:=M3.mp hb;subst this;obtain⟨C,f,fd,ps,a1,a2,a3,a4,a5⟩:=d.ex;exact⟨C,f,fd,ps,a1,a2,a3,a4.up hj,a5⟩
 |false=>simp only[hb]at e;exact r c' F' e
def Bp(m:Str)(n:Nat)(tb:List (Str×(AF)))(fo:FE)(fa:FA):FE:=λ δ=>(fo δ).bind λw=>match w.d with
 | .obj c ns vs=>if ns.contains m then .no else match tb.lookup c with
  |some F=>(fa δ).bind λds=>if ds.length=n then F (.obj c ns vs::ds) else .no
  |none=> .no
 |_=> .no
section
variable{X:Cx}{EX:Bt}{e o:Expr}{es:List Expr}{pos zh:Pos}{cc:Bool}{k k' n:Nat}{m:Str}{tb:List (Str×(AF))}{fo:FE}{fa:FA}
def dt_1(X:Cx)(EX:Bt)(cc:Bool)(k:Nat)(m:Str)(ta:TE)(t:TA):TE:=λ σ H Q=>ta σ H λx H1=>∃a C dx fs f fd ps sp,x=.ref a/\H1 a=some (.ins C dx fs)/\fs.lookup m=none/\Cls X.K C/\Meth X.K C m f/\
 FnX X.prog X.w X.K X.mg X.base cc k f fd ps sp/\Binds X.K fd ps []/\t σ H1 λvs H2=>sp (.ref a::vs) H2 Q (EXE X.K (EX σ))
def ee_4{pl:Sem Bool}{ta:TE}{t:TA}(he:PE X o ta)(hr:RoomC cc k X.A)(lk:Lk X EX)(ha:PA X (e::es) t)
  (hst:starEach (e::es) X.env=(false,eval e X.env)::starEach es X.env) (hpl:(backTo pos (starEach es X.env)).any (·.1)=false)
  (ht:eval (.Call (.Attribute o m zh) (e::es) [] pos) X.env=(do
   let ov<-eval o X.env
   standAt zh.atName
   let(f,first)<-holding [ov] (getMethod ov m pl)
   callWith pos f first (backTo pos (starEach (e::es) X.env)) (backToKw pos (keywordEach [] X.env)))):
  PE X (.Call (.Attribute o m zh) (e::es) [] pos) (dt_1 X EX cc k m ta t):=by
 intro zd s σ H Q I h;refine Y8 (pl:=pl) (Bk (he zd s σ H _ I h) λu s1 hh=> ?_) ht;obtain⟨x,H1,I1,rx,a,C,dx,fs,f,fd,ps,sp,ex,ea,l,c,hm,F,hb,q⟩:=hh;subst ex;obtain rfl:u=Value.ref a:=rx;refine bi_9 I1 ea c hm l ?_;refine T8 (first:=[.ref a]) (h₀:=X.base) I.ok.mod.kin hm.kp (Bk (ha pos zd s1 σ H1 _ I1 q) λus s2 ⟨vs,H2,I2,r,q2⟩=>⟨I2.kIn, ?_⟩) hst hpl;exact av_9 (us:=.ref a::us) (vs:=.ref a::vs) F hr hb lk I2 (.cons rfl r) q2
def dt_2{pl:Sem Bool}{ta:TE}(he:PE X o ta)(hr:RoomC cc k X.A)(lk:Lk X EX)
  (ht:eval (.Call (.Attribute o m zh) [] [] pos) X.env=(do
   let ov<-eval o X.env
   standAt zh.atName
   let(f,first)<-holding [ov] (getMethod ov m pl)
   callWith pos f first (backTo pos (starEach [] X.env)) (backToKw pos (keywordEach [] X.env)))):
  PE X (.Call (.Attribute o m zh) [] [] pos) (dt_1 X EX cc k m ta tNil):=by
 intro zd s σ H Q I h;refine Y8 (pl:=pl) (Bk (he zd s σ H _ I h) λu s1 hh=> ?_) ht;obtain⟨x,H1,I1,rx,a,C,dx,fs,f,fd,ps,sp,ex,ea,l,c,hm,F,hb,q⟩:=hh;subst ex;obtain rfl:u=Value.ref a:=rx;refine bi_9 I1 ea c hm l ?_;exact callWith_K0 (first:=[.ref a]) I1.kIn hm.kp (av_9 (us:=[.ref a]) (vs:=[.ref a]) F hr hb lk I1 (.cons rfl .nil) q)
def er_1{σ:Sg}{Q:VK}(hK:X.K=K)(T:MethT X.prog X.w X.K X.mg X.base cc k n m tb)(q:tD K EX (Bp m n tb fo fa) σ H Q):dt_1 X EX cc k m (tD K EX fo) (tDa K EX fa) σ H Q:=by
 subst hK;obtain⟨G,δ,g0,s0,o⟩:=q;refine tD.seq g0 s0 o λw v G1 H1 _ st r o'=> ?_;revert o' r;cases w.d with
 |obj c ns vs=>
  intro r o';simp only at o'
  split at o'
  ·exact o'.elim
  ·rename_i hn
   split at o'
   ·rename_i F ef;cases r with
    |obj hC hh hl rl=>
     rename_i a0 C0 dx0 us0;obtain⟨C,f,fd,ps,a1,a2,a3,a4,a5⟩:=(T c F ef).ex;have:=a1.same hC;subst this;refine⟨_,_,_,_,f,fd,ps,_,rfl,st.gh _ _ hh,(bh_2 (f:=m) rl hl).2 (by simpa using hn),a2,a3,a4,a5, ?_⟩;refine tDa.seq st.gh (s0.mono st.gg) o' λds us G' H' _ st' r' o2=> ?_
     split at o2
     ·rename_i zm;refine⟨by rw[D2,r'.length,zm],G',.obj c ns vs::ds,st'.gh,.cons (Has.mono st'.gg (.obj hC hh hl rl)) r', ?_⟩;cases q:F (.obj c ns vs::ds) with
      |ok w=>rw[q]at o2;exact o2
      |ex x=>rw[q]at o2;exact EXof.in o2
      |no=>rw[q]at o2;exact o2.elim
     ·exact o2.elim
   ·exact o'.elim
 |_=>intro _ o';exact False.elim o'
def m_1{pl:Sem Bool}(T:MethT X.prog X.w X.K X.mg X.base cc k n m tb)(hr:RoomC cc k' X.A)(lk:Lk X EX)(he:ED X EX o fo)(ha:AD X EX (e::es) fa)(hk:k<=k':=by decide)
  (hst:starEach (e::es) X.env=(false,eval e X.env)::starEach es X.env:=by rfl) (hpl:(backTo pos (starEach es X.env)).any (·.1)=false:=by rfl)
  (ht:eval (.Call (.Attribute o m zh) (e::es) [] pos) X.env=(do
   let ov<-eval o X.env
   standAt zh.atName
   let(f,first)<-holding [ov] (getMethod ov m pl)
   callWith pos f first (backTo pos (starEach (e::es) X.env)) (backToKw pos (keywordEach [] X.env))):=by rfl):ED X EX (.Call (.Attribute o m zh) (e::es) [] pos) (Bp m n tb fo fa):=
 PE.imp (ee_4 he (hr.mono hk) lk ha hst hpl ht) λ_ _ _ q=>er_1 rfl T q
def n_8{pl:Sem Bool}(T:MethT X.prog X.w X.K X.mg X.base cc k 0 m tb)(hr:RoomC cc k' X.A)(lk:Lk X EX)(he:ED X EX o fo)(hk:k<=k':=by decide)
  (ht:eval (.Call (.Attribute o m zh) [] [] pos) X.env=(do
   let ov<-eval o X.env
   standAt zh.atName
   let(f,first)<-holding [ov] (getMethod ov m pl)
   callWith pos f first (backTo pos (starEach [] X.env)) (backToKw pos (keywordEach [] X.env))):=by rfl):ED X EX (.Call (.Attribute o m zh) [] [] pos) (Bp m 0 tb fo Ac):=
 PE.imp (dt_2 he (hr.mono hk) lk ht) λ σ H Q ⟨G,δ,g0,s0,q⟩=>tD.seq g0 s0 q λw v G1 H1 _ st r o'=>by
  revert o' r;cases w.d with
  |obj c ns vs=>
   intro r o';simp only at o'
   split at o'
   ·exact o'.elim
   ·rename_i hn
    split at o'
    ·rename_i F ef;cases r with
     |obj hC hh hl rl=>
      obtain⟨C,f,fd,ps,a1,a2,a3,a4,a5⟩:=(T c F ef).ex;have:=a1.same hC;subst this;refine⟨_,_,_,_,f,fd,ps,_,rfl,st.gh _ _ hh,(bh_2 (f:=m) rl hl).2 (by simpa using hn),a2,a3,a4,a5, ?_⟩;have o2:Out X.K (EX σ) G1 H1 (F [.obj c ns vs]) Q:=o';refine⟨rfl,G1,[.obj c ns vs],st.gh,.cons (.obj hC hh hl rl) .nil, ?_⟩;cases q:F [.obj c ns vs] with
      |ok w=>rw[q]at o2;exact o2
      |ex x=>rw[q]at o2;exact EXof.in o2
      |no=>rw[q]at o2;exact o2.elim
    ·exact o'.elim
  |_=>intro _ o';exact False.elim o'
end
def unT:List Tn->Option (List D)
 | []=>some []
 | .sh d::r=>(unT r).map (d:: ·)
 |_=>none
theorem ci_8:∀{ts:List Tn} {ds:List D},unT ts=some ds->ts=ds.map .sh
 | [],_,e=>by cases e;rfl
 |t::r,ds,e=>by
  cases t with
  |sh d=>
   simp only[unT]at e;cases q:unT r with
   |none=>rw[q]at e;cases e
   |some l=>
    rw[q]at e;cases e;rw[ci_8 q];rfl
  |_=>cases e
def ai_0(n:Nat)(c:Str)(ds:List D):SE:=.lt (.obj c [] [])::(ds.map Sl.sh ++ List.replicate (n - (ds.length + 1)) .no)
def AJ(n:Nat)(c:Str)(g:FS)(ds:List D):R (List Str×List D):=match g (ai_0 n c ds) with
 | .nx Δ=>(match Δ[(0:Nat)]? with
  |some (.lt (.obj c' ns ts))=>if c'=c then(match unT ts with
   |some rs=> .ok (ns,rs)
   |none=> .no) else .no
  |_=> .no)
 | .ex x _=> .ex x
 |_=> .no
def spI(K:Frag)(C:Addr)(n:Nat)(F:List D->R (List Str×List D)):Sp:=λvs H Q E=>∃x dx vs0 Hq G ds,vs=.ref x::vs0/\vs0.length=n/\Hq x=none/\Same Hq H/\H x=some (.ins C dx [])/\Same G Hq/\HasL K G vs0 ds/\
 (match F ds with
 | .ok p=>∀G' H' us dx',Step G Hq G' H'->G' x=none->H' x=some (.ins C dx' (p.1.zip us))->p.1.length=us.length->HasL K G' us p.2->Q .non H'
 | .ex e=>(EXof K E).p e G Hq
 | .no=>False)
def dj_1{G H h0:Hp}{v0:V}{ds:List D}{N:List Str}{b:Nat->Addr}(g:Same G H)(i0:Same h0 H)(r:HasL K G vs ds)(hl:vs.length + 1<=N.length):Ev K ⟨h0,b⟩ G G H (Fy N (v0::vs)) (.no::(ds.map Sl.sh ++ List.replicate (N.length - (ds.length + 1)) .no)) (λ_ _=>False):=by
 have key:∀(i:Nat) (s:Sl),(Sl.no::(ds.map Sl.sh ++ List.replicate (N.length - (ds.length + 1)) .no))[i]? =some s->(∃j d,i=j + 1/\s=.sh d/\ds[j]? =some d)\/s=.no:=λi s e=>by
  cases i with
  |zero=>exact .inr (by simpa using e.symm)
  |succ i=>
   rw[O6]at e
   by_cases hi:i < ds.length
   ·rw[B7 (by rw[A0];exact hi),A8]at e;obtain⟨d,e1,e2⟩:=D3.mp e;exact .inl ⟨i,d,rfl,e2.symm,e1⟩
   ·rw[D6 (by rw[A0];omega),E8]at e
    split at e
    ·cases e;exact .inr rfl
    ·cases e
 refine⟨⟨i0,g,Same.refl _,λ_ n _=>n⟩, ?_,λi d e=> ?_,λi z d e zo=> ?_,λ_ _ ha=>ha.elim,λ_ _ _ ha=>ha.elim,λi d e=> ?_,λi d e=> ?_⟩
 ·unfold Fy;have:=r.length;simp only[B6,A0,K3,D2]at hl⊢;omega
 ·rcases key i _ e with⟨j,d',rfl,q,q2⟩|q
  ·cases q;obtain⟨v,e1,h⟩:=r.get q2;refine⟨v, ?_,h⟩;unfold Fy;have hi:j < vs.length:=(A5.mp e1).1;rw[B7 (by rw[A0,D2];omega),A8,O6,e1];rfl
  ·cases q
 ·rcases key i _ e with⟨j,d',_,q,_⟩|q <;> (subst q;cases zo)
 ·rcases key i _ e with⟨j,d',_,q,_⟩|q <;> cases q
 ·rcases key i _ e with⟨j,d',_,q,_⟩|q <;> cases q
def fn_I{c:Bool}{w:World}{x qual cn:Str}{st:Stmt}{f C:Addr}{N ps:List Str}{k n:Nat}{g:FS}(F:Fun K x qual st f fd)(S:FnScope N ps (Ce st))(hC:ClsAt K cn C)(hn:ps.length=n + 1)(hle:ps.length<=N.length)
  (zk:∀(zq:Value) (A:Around) (outer:List Env) (s:Shared) (H:Hp) (E:XK),RoomC c k (A.deeper (envOfC qual (Ce st) s.heap.objs.size f zq))->
   BD (El c P w K mg base N qual (Ce st) f zq A outer s H E) (λ_=>EXof K E) (Fg st) g):FnX P w K mg base c (k + 1) f fd ps (spI K C n (AJ N.length cn g)):=by
 refine Fun.okX F S (λvs H Q E h=> ?_) λzq A outer s H vs Q E hr h=>⟨_,zk zq A outer s H E hr, ?_⟩
 ·obtain⟨x,dx,vs0,Hq,G,ds,rfl,hl,_⟩:=h;rw[D2,hl,hn]
 obtain⟨x,dx,vs0,Hq,G,ds,rfl,hl,n1,i0,hx,g0,r,q⟩:=h;have E0:=dj_1 (N:=N) (b:=λ_=>x) (v0:=.ref x) (g0.trans i0) i0 r (by rw[hl];omega);have hs:(Fy N (.ref x::vs0))[0]? =some (some (.ref x)):=rfl;have E1:=E0.putO (i:=0) (z:=.lt (.obj cn [] [])) (v:=.ref x) (S:=λb=>b=x) (λa ha=>by subst ha;exact⟨n1,g0.free n1,by rw[hx];simp⟩) rfl (λ_ z=>by cases z) (.obj (S1:=λ_=>False) hC (us:=[]) hx rfl rfl (λ_ z=>z.elim) .nil) (λj a ha=>ha.elim) (λ_ _=>rfl);rw[af_6 hs]at E1;refine⟨⟨Hq,λ_=>x⟩,G,G,_,_,E1, ?_⟩;unfold AJ at q;have e2:(Sl.no::(ds.map Sl.sh ++ List.replicate (N.length - (ds.length + 1)) .no)).set 0 (.lt (.obj cn [] []))=ai_0 N.length cn ds:=rfl;rw[e2];cases e:g (ai_0 N.length cn ds) with
 |nx Δ=>
  rw[e]at q;intro σ G' H' O E' _;simp only at q
  split at q
  ·rename_i p ep
   split at ep
   ·rename_i c2 ns ts e3
    split at ep
    ·rename_i hcc;subst hcc
     split at ep
     ·rename_i rs eu;cases ep;obtain⟨v,s1,t3⟩:=E'.ow _ _ _ e3 rfl;have s2:=E'.lt _ _ e3;rw[s1]at s2;cases s2;cases t3 with
      |obj hc h hl' ha sub rl=>
       rw[ci_8 eu]at rl;have:=hC.same hc;subst this;exact q G' H' _ _ E'.st (E'.out _ _ ha).1 h hl' rl.off
     ·cases ep
    ·cases ep
   ·cases ep
  ·rename_i x2 ep
   split at ep
   ·split at ep
    ·split at ep <;> cases ep
    ·cases ep
   ·cases ep
  ·rename_i ep;exact q.elim
 |ex x Δ=>rw[e]at q;exact λ σ G' H' O E' _=>(EXof K E).mono _ _ _ _ _ E'.st q
 |rt w=>rw[e]at q;exact q.elim
 |bk Δ=>rw[e]at q;exact q.elim
 |ct Δ=>rw[e]at q;exact q.elim
 |no=>rw[e]at q;exact q.elim
theorem ci_9{f:Str}{y:V}:∀{ns:List Str} {us:List V},ns.length=us.length->ns.contains f=false->Dk f y (ns.zip us)=(ns ++ [f]).zip (us ++ [y])
 | [],[],_,_=>rfl
 | [],_::_,e,_=>by simp at e
 |_::_,[],e,_=>by simp at e
 |n::ns,u::us,e,h=>by
  rw[Q0,Bool.or_eq_false_iff]at h;have hn:¬n=f:=λz=>by rw[z]at h;simp at h
  show Dk f y ((n,u)::ns.zip us)=(n,u)::(ns ++ [f]).zip (us ++ [y]);unfold Dk;rw[if_neg hn,ci_9 (by simpa using e) h.2]
def Dq(i:Nat)(cs:List Str)(f:Str)(js:List Nat)(fe:FE):FS:=λ Δ=>match(gsome js Δ)[i]? with
 |some (.lt (.obj c ns ts))=>if cs.contains c=true/\ns.contains f=false/\ns.length < 1000 then(match fe (Bg (gsome js Δ)) with
  | .ok w=> .nx ((gsome js Δ).set i (.lt (.obj c (ns ++ [f]) (ts ++ [.sh w.d]))))
  | .ex x=> .ex x (gsome js Δ)
  | .no=> .no) else .no
 |_=> .no
section
variable{X:Cx}{EX:Bt}{pos:Pos}
def Fo{i:Nat}{cs:List Str}{f x:Str}(js:List Nat){e:Expr}{fe:FE}{p1 p2:Pos}(k:OFld X.K cs f)(he:ED X EX e fe)(hN:X.N[i]? =some x:=by rfl)(hv:Vis X.env.scope x:=by trivial)(hd:AG x:=by decide)
  (hcd:(x ==("__classdict__" :Str))=false:=by decide) (hs:swapsWith e (some (.Attribute (.Name x p1) f p2)) pos.line X.env=pure false:=by rfl):SD X EX (.Assign [.Attribute (.Name x p1) f p2] e pos) (Dq i cs f js fe):=
 PS.imp (en_6 (Gr hN hv hd hcd) he hs) λD σ H ⟨H0,G0,G,Δ,O,E,q⟩=>by
  obtain⟨G1,O1,sg,E1⟩:=E.gsome js;unfold Dq at q;generalize gsome js Δ=Δ1 at q E1
  split at q
  ·rename_i c ns ts e1
   split at q
   ·rename_i hc;obtain⟨hc1,hc2,hc3⟩:=hc;refine⟨G1,Bg Δ1,E1.st.gh,E1.gsh, ?_⟩;cases e2:fe (Bg Δ1) with
    |ex y=>simp only[e2]at q;exact q σ G1 H O1 E1 sg
    |no=>simp only[e2]at q;exact q.elim
    |ok w=>
     simp only[e2]at q;refine WP.intro λv G2 H2 st r=> ?_;have E2:=E1.grow st;obtain⟨v0,s1,t⟩:=E2.ow i _ _ e1 rfl;have s2:=E2.lt i _ e1;generalize et:(Tn.obj c ns ts)=t0 at t;cases t with
     | @obj a C dx c2 ns2 us ts2 S S1 hC h hl ha sub rl=>
      injection et with et1 et2 et3
      subst et1 et2 et3;obtain⟨kc,kn⟩:=k _ hc1 _ hC;refine⟨_,s1,_,_,_,_,rfl,h,kc,kn,by rw[List.length_zip,<-hl,Nat.min_self];exact hc3, ?_⟩;rw[ci_9 hl hc2];have ms:=MStep.write (S:=O1 i) E2.st.gh ha (E2.out i _ ha).1 (.ins C dx ((ns ++ [f]).zip (us ++ [v])));refine q σ G2 _ _ (E2.step2 (S:=O1 i) (z:=.lt _) rfl (λ_ z=>by cases z) (λ_ _=>by rw[s1]at s2⊢;exact s2) ms.weak s1 (λb hb=>⟨.inl hb,(E2.out i b hb).1,ms.al b (E2.out i b hb).2.2⟩) ?_) (sg.trans st.gg);refine .obj hC Ct (by rw[B6,B6,hl];rfl) ha sub ?_;refine OwL.append (S2:=λ_=>False) (rl.mono (Same.refl _) (λb o hb z=> ?_) λ_ z=>z) (.cons (S1:=λ_=>False) (S2:=λ_=>False) (.sh r) .nil (λ_ z _=>z) (λ_ z=>z.elim) λ_ z=>z.elim) (λ_ _ z=>z) (λ_ z=>z) λ_ z=>z.elim;rw[Bm (sub b hb).2];exact z
     |_=>cases et
   ·exact q.elim
  ·exact q.elim
end
section
variable{X:Cx}{EX:Bt}{e:Expr}{es:List Expr}{x:Str}{pp pos:Pos}{cc:Bool}{k k' n:Nat}{ps:List Str}{C f:Addr}{fd:FuncData}
def dj_2{zd:AE}{σ:Sg}{s:Shared}{Q:VK}{sp:Sp}(M:Mk X.K C f)(F:FnX X.prog X.w X.K X.mg X.base cc k f fd ps sp)(hr:RoomC cc (k + 1) X.A)(hb:Binds X.K fd ps [])(lk:Lk X EX)(I:Inv X zd σ H s)(r:Vals vs us)
  (h:∀x dx,H x=none->H dx=none->dx≠x->sp (.ref x::vs) (upd (upd H dx (.own x)) x (.ins C dx [])) (λv H2=>v=.non/\Q (.ref x) H2) (EXE X.K (EX σ))):wpAny (model X.prog X.w) X.A (call (.ref C) us) (EP X zd σ Q) X.xe s:=by
 have hq:=h (s.heap.objs.size + 1) s.heap.objs.size (I.hok.fresh (U6 _)) (I.hok.fresh (B0 _)) (C7 (P7 _));have I2:=Inv.made (C:=C) I;have r2:Vals (V.ref (s.heap.objs.size + 1)::vs) (Value.ref (s.heap.objs.size + 1)::us):=.cons rfl r;have hl:(Value.ref (s.heap.objs.size + 1)::us).length=ps.length:=by
  rw[<-r2.length];exact F.len _ _ _ _ hq
 have hb':=hb _ (Value.ref (s.heap.objs.size + 1)::us) I2.kIn (by rw[F9];exact hl);rw[F9]at hb';refine R7 (do_7 (f:=f) I.kIn M.makes M.init (M3.mp M.fn) (T3 (F.run _ X.stack _ _ ⟨Value.ref (s.heap.objs.size + 1)::us,[]⟩ (Value.ref (s.heap.objs.size + 1)::us) _ _ _ (hr.make C us []) (I2.env0.make C us []) hb' r2 hq) λr s' hq'=> ?_));cases r with
 |error e=>exact lk zd σ _ _ e s' I2 hq'
 |ok fl=>
  cases fl with
  |ret u=>
   obtain⟨v,H',I3,rv,ev,q3⟩:=I2.after hq';subst ev;exact⟨rv,⟨V.ref (s.heap.objs.size + 1),H',I3,rfl,q3⟩⟩
  |next=>exact False.elim hq'
  |brk=>exact False.elim hq'
  |cont=>exact False.elim hq'
def Fz(P:Program)(w:World)(K:Frag)(mg:AB)(base:Heap)(cc:Bool)(c:Str)(k n:Nat)(F:List D->R (List Str×List D)):Prop:=
 ∃C f fd ps,ClsAt K c C/\mg c=some (.ref C)/\Mk K C f/\FnX P w K mg base cc k f fd ps (spI K C n F)/\Binds K fd ps []
def Fp(c:Str)(n:Nat)(F:List D->R (List Str×List D))(fa:FA):FE:=λ δ=>(fa δ).bind λds=>if ds.length=n then(F ds).bind λp=> .ok (.sh (.obj c p.1 p.2)) else .no
def t_9{F:List D->R (List Str×List D)}{fa:FA}(hr:RoomC cc k' X.A)(lk:Lk X EX)(h:Fz X.prog X.w X.K X.mg X.base cc x k n F)(ha:AD X EX (e::es) fa)(hk:k + 1<=k':=by decide)(hg:Gl X x:=by rfl)(hdb:AG x:=by decide)
  (he:starEach (e::es) X.env=(false,eval e X.env)::starEach es X.env:=by rfl) (hpl:(backTo pos (starEach es X.env)).any (·.1)=false:=by rfl):ED X EX (.Call (.Name x pp) (e::es) [] pos) (Fp x n F fa):=by
 obtain⟨C,f,fd,ps,hC,hm,M,ok,hb⟩:=h;intro zd s σ H Q I q;obtain⟨G,δ,g0,s0,o⟩:=q;refine L8 (x_9 I hg hm ?_ hdb);have ta:tDa X.K EX fa σ H λvs H1=>∃G1 ds,Same G1 H1/\HasL X.K G1 vs ds/\ds.length=n/\Out X.K (EX σ) G1 H1 ((F ds).bind λp=> .ok (.sh (.obj x p.1 p.2))) Q:=by
  refine tDa.seq g0 s0 o λds vs G' H' _ st r o'=> ?_
  split at o'
  ·rename_i hl;exact⟨G',ds,st.gh,r,hl,o'⟩
  ·exact o'.elim
 refine T8 (h₀:=X.base) I.ok.mod.kin M.kp (Bk (ha pos zd s σ H _ I ta) λus s1 ⟨vs,H1,I1,r,G1,ds,sg,rl,hl,o'⟩=>⟨I1.kIn, ?_⟩) he hpl;refine dj_2 M ok (hr.mono hk) hb lk I1 r λy dy ny ndy ne=> ?_;refine⟨y,dy,vs,H1,G1,ds,rfl,by rw[rl.length];exact hl,ny,(λb o e=>by rw[Bm (Hx e ny),Bm (Hx e ndy)];exact e),Ct,sg,rl, ?_⟩;cases ef:F ds with
 |ok p=>
  rw[ef]at o';intro G' H' us' dx' st gy hy zm rr;refine⟨rfl, ?_⟩;have st2:Step G1 H1 (upd G' y (.ins C dx' (p.1.zip us'))) H':=⟨st.hh,λb u z=>by
   by_cases w:b=y
   ·subst w;rw[Ct]at z;rw[hy];exact z
   ·rw[Bm w]at z;exact st.gh b u z,st.gg.trans (p_6 gy _),λb z1 z2=>by
   have w:b≠y:=λw=>z2 (by rw[w];exact ny);rw[Bm w];exact st.nw b z1 z2⟩
  exact o' _ _ _ st2 (.obj hC Ct zm (rr.mono (p_6 gy _)))
 |ex z=>rw[ef]at o';exact EXof.in o'
 |no=>rw[ef]at o';exact o'
end
section
variable{K:Frag}{G:Hp}{a:Addr}{vs:List V}{ds:List D}
theorem HasL.flat_same:∀{vs:List V} {ds es:List D},HasL K G vs ds->HasL K G vs es->ds.all Bd=true->es=ds
 |_,_,_,.nil,.nil,_=>rfl
 |_,_,_,.cons h r,.cons h' r',f=>by
  rw[Q8,C4]at f;rw[HasL.flat_same r r' f.2]
  congr 1
  cases h with
  |non=>cases h';rfl
  |bl b=>cases h';rfl
  |int i=>cases h';rfl
  |str x=>cases h';rfl
  |_=>cases f.1
end
section
variable{X:Cx}{EX:Bt}{pos:Pos}
end
end L3
namespace L3
open PySem L2 Builtin Builtin.Str
variable{K:Frag}{fd:FuncData}{mg:AB}{P:Program}{vs:List V}{us:List Value}{base:Heap}{H:Hp}{X:Cx}{pos:Pos}{v:V}
def ca_4{x y:Str}(h:x.cps.toList=y.cps.toList):x=y:=by
 obtain⟨a⟩:=x;obtain⟨b⟩:=y;simp only at h;have:a=b:=by
  have:=Q5 List.toArray h;simpa using this
 rw[this]
def bh_3(x:Str):x.length=x.cps.toList.length:=by simp[Str.length]
def ee_5(x y:Str):(x ++ y).cps.toList=x.cps.toList ++ y.cps.toList:=by
 show(Str.append x y).cps.toList=_;simp[Str.append]
def dt_3(n:Nat)(d:Int):Option Int->Int
 |none=>d
 |some i=>max 0 (min (if i < 0 then i + (n:Int) else i) (n:Int))
def cj_0(n d:Nat)(o:Option Int):dt_3 n (d:Int) o=((HT.sIx n d o:Nat):Int):=by
 cases o with
 |none=>rfl
 |some v=>
  show max 0 (min (if v < 0 then v + (n:Int) else v) (n:Int))=(((if v < 0 then(v + (n:Int)).toNat else min v.toNat n):Nat):Int)
  by_cases hv:v < 0
  ·simp only[if_pos hv];omega
  ·simp only[if_neg hv];omega
def cu_0(lo hi:Option Int)(n:Nat):strSliceIndices lo hi 1 n=(List.range (HT.sIx n n hi - HT.sIx n 0 lo)).map (HT.sIx n 0 lo + ·):=by
 have e:strSliceIndices lo hi 1 n=sliceRange (dt_3 n ((0:Nat):Int) lo) (dt_3 n (n:Int) hi) 1:=by
  unfold strSliceIndices;simp only[show((1:Int) > 0)=True from by simp,if_true];cases lo <;> cases hi <;> rfl
 rw[e,cj_0,cj_0,sliceRange_one]
def cu_1(x:Str)(lo hi:Option Int):(Txt.slice x lo hi).cps.toList=Ek x.cps.toList lo hi:=by
 unfold Txt.slice Ek;rw[cu_0];have hl:x.cps.toList.length=x.length:=(bh_3 x).symm;rw[hl];have p:=pick_run x.cps (HT.sIx x.length 0 lo) (HT.sIx x.length x.length hi - HT.sIx x.length 0 lo)
 split
 ·rename_i h;have h':((List.range (HT.sIx x.length x.length hi - HT.sIx x.length 0 lo)).map (HT.sIx x.length 0 lo + ·)).length=x.length:=by
   simpa using h
  rw[A0,J0]at h';have h3:=HT.sIx_le x.length x.length (B0 _) hi;have h4:=HT.sIx_le x.length 0 (L9 _) lo;have e0:HT.sIx x.length 0 lo=0:=by omega
  rw[h',e0,V3,V4 ()]
 ·rw[p]
end L3
namespace L3
open PySem L2
variable{K:Frag}{fd:FuncData}{mg:AB}{P:Program}{vs:List V}{us:List Value}{base:Heap}{H:Hp}{X:Cx}{pos:Pos}{v:V}
def l_3(i j:Int):By (.int i) (.int j)=.ok (.sh (.bl (decide (i=j)))):=by
 have h:Fj (.int i) (.int j)=decide (i=j):=by
  show(i ==j)=decide (i=j);rw[Bool.beq_eq_decide_eq]
 show(if eqC (.int i) (.int j)=true then R.ok (W.sh (D.bl (Fj (.int i) (.int j)))) else .no)=_;rw[if_pos (by rfl),h]
def bh_4(x y:Str):By (.str x) (.str y)=.ok (.sh (.bl (decide (x=y)))):=rfl
def ee_6(x y:Str):Fc (.str x) (.str y)=.ok (.sh (.bl (!decide (x=y)))):=rfl
def p_1{i j:Int}(h1: -18446744073709551616 < i)(h2:i < 18446744073709551616):Fk i j=true:=D9 (.inl ())
def ba_8{i j:Int}(h1: -18446744073709551616 < j)(h2:j < 18446744073709551616):Fk i j=true:=D9 (.inr ())
def Gf{i j:Int}(h:Fk i j=true):Ec (.int i) (.int j)=.ok (.sh (.int (i * j))):=by unfold Ec intD;simp only[h,if_true]
def p_2(i j:Int):Cc (.int i) (.int j)=.ok (.sh (.int (i + j))):=rfl
def at_5(i j:Int):Es (.int i) (.int j)=.ok (.sh (.int (i - j))):=rfl
def w_2{i j:Int}(h1:0 < j)(h2:j < 1361129467683753853853498429727072845824):Do (.int i) (.int j)=.ok (.sh (.int (i / j))):=by
 exact if_pos (show divC i j=true from D9 ⟨h1,by omega⟩)
def Gz{i j:Int}(h1:0 < j):Er (.int i) (.int j)=.ok (.sh (.int (i % j))):=by
 exact if_pos (show modC i j=true from D9 h1)
def En(i j:Int):ltD (.int i) (.int j)=.ok (.sh (.bl (decide (i < j)))):=rfl
def aw_4(i j:Int):leD (.int i) (.int j)=.ok (.sh (.bl (decide (i<=j)))):=rfl
def Gg(i j:Int):gtD (.int i) (.int j)=.ok (.sh (.bl (decide (j < i)))):=rfl
def ex_6(i j:Int):geD (.int i) (.int j)=.ok (.sh (.bl (decide (j<=i)))):=rfl
def dt_4{x y:Str}(h:x.length + y.length<=16777216):Cc (.str x) (.str y)=.ok (.sh (.str (x ++ y))):=if_pos h
def ee_7{x y:List D}(h:x.length + y.length<=16777216):Cc (.lst x) (.lst y)=.ok (.ow (.lst (x ++ y))):=if_pos h
def ca_5{i j:Int}(h:powC i j=true):powD (.int i) (.int j)=.ok (.sh (.int (i ^ j.toNat))):=by unfold powD intD;simp only[h,if_true]
def aw_5{i j:Int}(h1:0<=j)(h2:j<=1000000)(h3: -18446744073709551616 < i)(h4:i < 18446744073709551616):powC i j=true:=D9 ⟨h1,by omega,by omega⟩
def Fs(ds:List D):Cf [.lst ds]=.ok (.sh (.int ds.length)):=rfl
def ab_1{x:Str}(h:x.length<=16777216):Cf [.str x]=.ok (.sh (.int x.length)):=if_pos h
def ca_6(i j:Int):Ez [.int i,.int j]=.ok (.sh (.int (max i j))):=by
 show R.ok (W.sh (D.int (if j > i then j else i)))=_;rw[show(if j > i then j else i)=max i j by rw[Int.max_def];split <;> split <;> omega]
def dt_5(i j:Int):minD [.int i,.int j]=.ok (.sh (.int (min i j))):=by
 show R.ok (W.sh (D.int (if j < i then j else i)))=_;rw[show(if j < i then j else i)=min i j by rw[Int.min_def];split <;> split <;> omega]
def Gd{ds:List D}{i:Int}{d:D}(h:atI ds i=some d):Bu (.lst ds) (.int i)=.ok (.sh d):=by unfold Bu;simp only[h]
def ca_7{ds:List D}{i:Int}{d:D}(h:atI ds i=some d):Bu (.tup ds) (.int i)=.ok (.sh d):=by unfold Bu;simp only[h]
def ee_8{x:Str}{i:Int}{c:Nat}(hz:x.length<=16777216)(h:atI x.cps.toList i=some c):Bu (.str x) (.int i)=.ok (.sh (.str ⟨#[c]⟩)):=by
 unfold Bu;simp only[h,if_pos hz]
def cu_2{α:Type}{xs:List α}{i:Int}{x:α}(h0:0<=i)(h:xs[i.toNat]? =some x):atI xs i=some x:=by
 have hl:i.toNat < xs.length:=(A5.mp h).1;unfold atI ixN;rw[if_pos h0,if_pos ()];exact h
def ba_9(fg:FG)(g:FS)(I:Nat->SE->Prop){n:Nat}{lo:Int}{Δ:SE}(h0:I 0 Δ)
  (step:∀k Δ,k < n->I k Δ->∃Δ1,fg (.int (lo + (k:Int))) Δ=.ok Δ1/\∃Δ2,(g Δ1=.nx Δ2\/g Δ1=.ct Δ2)/\I (k + 1) Δ2):∃Δ',Gk fg g (De lo n) Δ=.nx Δ'/\I n Δ':=by
 have all:∀(m k:Nat) (Δ:SE),k + m=n->I k Δ->∃Δ',Gk fg g ((List.range' k m).map λ(j:Nat)=>D.int (lo + (j:Int))) Δ=.nx Δ'/\I n Δ':=by
  intro m
  induction m with
  |zero=>intro k Δ e h;exact⟨Δ,rfl,by rw[<-e];exact h⟩
  |succ m ih=>
   intro k Δ e h;obtain⟨Δ1,e1,Δ2,e2,h2⟩:=step k Δ () h;obtain⟨Δ',e3,h3⟩:=ih (k + 1) Δ2 () h2;refine⟨Δ', ?_,h3⟩;rw[List.range'_succ,A9];show(match fg (.int (lo + (k:Int))) Δ with
    | .ok Δ1=>(match g Δ1 with
     | .nx Δ2=>Gk fg g _ Δ2
     | .ct Δ2=>Gk fg g _ Δ2
     | .bk Δ2=> .nx Δ2
     |r=>r)
    | .ex _=> .no
    | .no=> .no)=_
   rw[e1];rcases e2 with e2|e2
   ·simp only[e2];exact e3
   ·simp only[e2];exact e3
 obtain⟨Δ',e,h⟩:=all n 0 Δ () h0;refine⟨Δ', ?_,h⟩;unfold De;rw[List.range_eq_range'];exact e
def g_1(fg:FG)(g:FS)(I:Nat->SE->Prop){ds:List D}{Δ:SE}(h0:I 0 Δ)
  (step:∀k d Δ,ds[k]? =some d->I k Δ->∃Δ1,fg d Δ=.ok Δ1/\∃Δ2,(g Δ1=.nx Δ2\/g Δ1=.ct Δ2)/\I (k + 1) Δ2):∃Δ',Gk fg g ds Δ=.nx Δ'/\I ds.length Δ':=by
 have all:∀(m k:Nat) (Δ:SE),k + m=ds.length->I k Δ->∃Δ',Gk fg g (ds.drop k) Δ=.nx Δ'/\I ds.length Δ':=by
  intro m
  induction m with
  |zero=>
   intro k Δ e h;rw[V1 ()];exact⟨Δ,rfl,by rw[<-e];exact h⟩
  |succ m ih=>
   intro k Δ e h;obtain⟨d,d1,d2⟩:=am_0 (l:=ds) (i:=k) ();obtain⟨Δ1,e1,Δ2,e2,h2⟩:=step k d Δ d1 h;obtain⟨Δ',e3,h3⟩:=ih (k + 1) Δ2 () h2;refine⟨Δ', ?_,h3⟩;rw[d2];show(match fg d Δ with
    | .ok Δ1=>(match g Δ1 with
     | .nx Δ2=>Gk fg g (ds.drop (k + 1)) Δ2
     | .ct Δ2=>Gk fg g (ds.drop (k + 1)) Δ2
     | .bk Δ2=> .nx Δ2
     |r=>r)
    | .ex _=> .no
    | .no=> .no)=_
   rw[e1];rcases e2 with e2|e2
   ·simp only[e2];exact e3
   ·simp only[e2];exact e3
 have:=all ds.length 0 Δ () h0
 rwa[V3]at this
def dj_3{fg:Ic}{p:FT}{f:FE}{δ:DE}{F:Int->D}:∀(n:Nat) (lo:Int),(∀k:Nat,k < n->∃δ1 w,fg (.int (lo + (k:Int))) δ=.ok δ1/\p δ1=.ok true/\f δ1=.ok w/\w.d=F (lo + (k:Int)))->
  Gm fg p f δ (De lo n)=.ok ((List.range n).map λ(k:Nat)=>F (lo + (k:Int))):=by
 have all:∀(es:List Nat) (lo:Int),(∀k∈es,∃δ1 w,fg (.int (lo + ((k:Nat):Int))) δ=.ok δ1/\p δ1=.ok true/\f δ1=.ok w/\w.d=F (lo + (k:Int)))->
   Gm fg p f δ (es.map λ(k:Nat)=>D.int (lo + (k:Int)))=.ok (es.map λ(k:Nat)=>F (lo + (k:Int))):=by
  intro es lo
  induction es with
  |nil=>intro _;rfl
  |cons k es ih=>
   intro h;obtain⟨δ1,w,e1,e2,e3,e4⟩:=h k F0;have e5:=ih λj hj=>h j (C9 _ hj);rw[A9,A9];show((fg (.int (lo + (k:Int))) δ).bind λ δ1=>(p δ1).bind λb=>if b=true then(f δ1).bind λw=>(Gm fg p f δ _).bind λrs=> .ok (w.d::rs) else Gm fg p f δ _)=_;rw[e1];simp only[R.bind_ok,e2,if_true,e3];rw[e5];simp only[R.bind_ok,e4]
 intro n lo h;exact all (List.range n) lo λk hk=>h k (J9.mp hk)
def s_2{j:Int}(h1: -4611686018427387903<=j)(h2:j < 4611686018427387904):Dd [.int j]=.ok (De 0 j.toNat):=by
 have h:j.natAbs < 4611686018427387904:=by omega
 exact if_pos h
def j_9{m:Nat}{fi:FI}{fg:Ic}{p:FT}{f:FE}{δ:DE}{ds rs:List D}(h:fi δ=.ok ds)(hl:ds.length<=16777216)(hc:Gm fg p f (δ ++ List.replicate m none) ds=.ok rs):Bx m fi fg p f δ=.ok (.ow (.lst rs)):=by
 unfold Bx;rw[h];simp only[R.bind_ok];rw[if_pos hl,hc];rfl
def ej_9{fg:Ic}{p:FT}{f:FE}{δ:DE}:∀(n:Nat) (lo:Int),(∀k:Nat,k < n->∃δ1 z,fg (.int (lo + (k:Int))) δ=.ok δ1/\p δ1=.ok true/\f δ1=.ok (.sh (.int z)))->
  ∃cs:List Int,cs.length=n/\Gm fg p f δ (De lo n)=.ok (cs.map D.int):=by
 have all:∀(es:List Nat) (lo:Int),(∀k∈es,∃δ1 z,fg (.int (lo + ((k:Nat):Int))) δ=.ok δ1/\p δ1=.ok true/\f δ1=.ok (.sh (.int z)))->
   ∃cs:List Int,cs.length=es.length/\Gm fg p f δ (es.map λ(k:Nat)=>D.int (lo + (k:Int)))=.ok (cs.map D.int):=by
  intro es lo
  induction es with
  |nil=>intro _;exact⟨[],rfl,rfl⟩
  |cons k es ih=>
   intro h;obtain⟨δ1,z,e1,e2,e3⟩:=h k F0;obtain⟨cs,l5,e5⟩:=ih λj hj=>h j (C9 _ hj);refine⟨z::cs,by simp[l5], ?_⟩;rw[A9,A9];show((fg (.int (lo + (k:Int))) δ).bind λ δ1=>(p δ1).bind λb=>if b=true then(f δ1).bind λw=>(Gm fg p f δ _).bind λrs=> .ok (w.d::rs) else Gm fg p f δ _)=_;rw[e1];simp only[R.bind_ok,e2,if_true,e3];rw[e5];rfl
 intro n lo h;obtain⟨cs,l,e⟩:=all (List.range n) lo λk hk=>h k (J9.mp hk);exact⟨cs,by rw[l,J0],e⟩
def cj_1{js:List Nat}{p:FT}{g:FS}{n:Nat}{Δ Δ':SE}(h1:p (Aw Δ)=.ok true)(h2:g Δ=.nx Δ'):Hu js p g (n + 1) Δ=Hu js p g n Δ':=by
 show(match p (Aw Δ) with
  | .ok b=>if b=true then(match g Δ with
    | .nx Δ'=>Hu js p g n Δ'
    | .ct Δ'=>Hu js p g n Δ'
    | .bk Δ'=> .nx Δ'
    |r=>r) else .nx Δ
  | .ex _=>exT js p Δ
  | .no=> .no)=_
 rw[h1];simp only[if_true,h2]
def bb_0{js:List Nat}{p:FT}{g:FS}{n:Nat}{Δ:SE}(h1:p (Aw Δ)=.ok false):Hu js p g (n + 1) Δ=.nx Δ:=by
 show(match p (Aw Δ) with
  | .ok b=>if b=true then(match g Δ with
    | .nx Δ'=>Hu js p g n Δ'
    | .ct Δ'=>Hu js p g n Δ'
    | .bk Δ'=> .nx Δ'
    |r=>r) else .nx Δ
  | .ex _=>exT js p Δ
  | .no=> .no)=_
 rw[h1];simp only[N5,S4]
def cu_3(d:D):Sl.pub (.sh d)=some d:=rfl
def dt_6(d:D):Sl.pub (.ow d)=none:=rfl
def dt_7:Sl.pub .no=none:=rfl
def cu_4(d:D):Sl.any (.sh d)=some d:=rfl
def er_2(d:D):Sl.any (.ow d)=some d:=rfl
def er_3:Sl.any .no=none:=rfl
def ee_9(d:D):Sl.give (.sh d)=.sh d:=rfl
def ef_0(d:D):Sl.give (.ow d)=.sh d:=rfl
def ef_1:Sl.give .no=.no:=rfl
def Bn{g h:FS}{Δ Δ':SE}(e:g Δ=.nx Δ'):Af g h Δ=h Δ':=by unfold Af;rw[e]
def r_1{n:Nat}{g:FS}{ds:List D}{w:W}(e:g (Ar n ds)=.rt w):Ag n g ds=.ok w:=by unfold Ag;rw[e]
theorem x_4{fg:Ic}{p:FT}{f:FE}{δ:DE}(P:D->Bool)(F:D->D):∀(ds:List D),(∀d∈ds,∃δ1,fg d δ=.ok δ1/\p δ1=.ok (P d)/\(P d=true->∃w,f δ1=.ok w/\w.d=F d))->
  Gm fg p f δ ds=.ok ((ds.filter P).map F)
 | [],_=>rfl
 |d::ds,h=>by
  obtain⟨δ1,e1,e2,e3⟩:=h d F0;have ih:=x_4 P F ds λx hx=>h x (C9 _ hx);show((fg d δ).bind λ δ1=>(p δ1).bind λb=>if b=true then(f δ1).bind λw=>(Gm fg p f δ ds).bind λrs=> .ok (w.d::rs) else Gm fg p f δ ds)=_;rw[e1];simp only[R.bind_ok,e2];cases hP:P d with
  |true=>
   obtain⟨w,e4,e5⟩:=e3 hP;rw[if_pos rfl,e4,ih];simp only[R.bind_ok,e5,O5 hP,A9]
  |false=>
   rw[if_neg A6,ih,O4 (by rw[hP];exact A6)]
def y_9{fg:Ic}{f:FE}{δ:DE}(F:D->D)(ds:List D)(h:∀d∈ds,∃δ1 w,fg d δ=.ok δ1/\f δ1=.ok w/\w.d=F d):
  Gm fg (λ_=> .ok true) f δ ds=.ok (ds.map F):=by
 have:=x_4 (fg:=fg) (p:=λ_=> .ok true) (f:=f) (δ:=δ) (λ_=>true) F ds λd hd=>by
  obtain⟨δ1,w,e1,e2,e3⟩:=h d hd;exact⟨δ1,e1,rfl,λ_=>⟨w,e2,e3⟩⟩
 rw[this,X2.mpr λ_ _=>rfl]
def dj_4(x:Str)(a b:Nat)(h1:a<=b)(h2:b<=x.length):(Txt.slice x (some (a:Int)) (some (b:Int))).cps.toList=(x.cps.toList.drop a).take (b - a):=by
 rw[cu_1];unfold Ek;rw[<-bh_3];have e1:HT.sIx x.length 0 (some (a:Int))=a:=by
  show(if(a:Int) < 0 then((a:Int) + (x.length:Int)).toNat else min (a:Int).toNat x.length)=a;rw[if_neg ()];omega
 have e2:HT.sIx x.length x.length (some (b:Int))=b:=by
  show(if(b:Int) < 0 then((b:Int) + (x.length:Int)).toNat else min (b:Int).toNat x.length)=b;rw[if_neg ()];omega
 rw[e1,e2]
def cu_5{js:List Nat}{p:FT}{g:FS}(st:Nat->SE){m fuel:Nat}(hf:m < fuel)(go:∀i,i < m->p (Aw (st i))=.ok true/\g (st i)=.nx (st (i + 1)))(stop:p (Aw (st m))=.ok false):Hu js p g fuel (st 0)=.nx (st m):=by
 have all:∀(k i fuel:Nat),i + k=m->k < fuel->Hu js p g fuel (st i)=.nx (st m):=by
  intro k
  induction k with
  |zero=>
   intro i fuel e hf;obtain⟨f,rfl⟩:∃f,fuel=f + 1:=⟨fuel - 1,by omega⟩;have:i=m:=by omega
   subst this;exact bb_0 stop
  |succ k ih=>
   intro i fuel e hf;obtain⟨f,rfl⟩:∃f,fuel=f + 1:=⟨fuel - 1,by omega⟩;obtain⟨h1,h2⟩:=go i ();rw[cj_1 h1 h2];exact ih (i + 1) f () ()
 exact all m 0 fuel () hf
theorem bv_3{α:Type}(f:α->Str):∀l:List α,bu_6 (l.map λa=> .str (f a))=some (l.map f)
 | []=>rfl
 |a::l=>by
  show(bu_6 (l.map λa=> .str (f a))).map (f a:: ·)=_;rw[bv_3 f l];rfl
theorem bv_4:∀(l:List Str) (zp:Array Nat),(l.foldl (λzp p=>zp ++ (Str.ofString "").cps ++ p.cps) zp).toList=zp.toList ++ (l.map λx=>x.cps.toList).flatten
 | [],zp=>by simp
 |x::l,zp=>by
  rw[ZA7,bv_4 l];have e:(Str.ofString "").cps= #[]:=rfl;simp[e]
def cj_2(l:List Str):(Txt.join (Str.ofString "") l).cps.toList=(l.map λx=>x.cps.toList).flatten:=by
 unfold Txt.join Builtin.Str.glued;cases l with
 |nil=>rfl
 |cons x l=>
  show(l.foldl (λzp p=>zp ++ (Str.ofString "").cps ++ p.cps) x.cps).toList=_;rw[bv_4];simp
def cj_3{α:Type}(f:α->Str)(l:List α)(h:((l.map f).map (·.length)).sum<=16777216):aw_0 (.str "") [.lst (l.map λa=> .str (f a))]=.ok (.sh (.str (Txt.join (Str.ofString "") (l.map f)))):=by
 unfold aw_0;simp only[bv_3];have e:Str.length (Str.ofString "")=0:=rfl;exact if_pos (by rw[e];omega)
def cj_4:Du "int" .non=some false:=rfl
def cu_6(b:Bool):Du "int" (.bl b)=some true:=rfl
def cj_5(i:Int):Du "int" (.int i)=some true:=rfl
def cj_6(x:Str):Du "int" (.str x)=some false:=rfl
def cj_7(l:List D):Du "int" (.lst l)=some false:=rfl
def cj_8(l:List D):Du "int" (.tup l)=some false:=rfl
def ca_8:Du "bool" .non=some false:=rfl
def cj_9(b:Bool):Du "bool" (.bl b)=some true:=rfl
def ca_9(i:Int):Du "bool" (.int i)=some false:=rfl
def cb_0(x:Str):Du "bool" (.str x)=some false:=rfl
def cb_1(l:List D):Du "bool" (.lst l)=some false:=rfl
def cb_2(l:List D):Du "bool" (.tup l)=some false:=rfl
def ck_0:Du "str" .non=some false:=rfl
def cu_7(b:Bool):Du "str" (.bl b)=some false:=rfl
def ck_1(i:Int):Du "str" (.int i)=some false:=rfl
def ck_2(x:Str):Du "str" (.str x)=some true:=rfl
def ck_3(l:List D):Du "str" (.lst l)=some false:=rfl
def ck_4(l:List D):Du "str" (.tup l)=some false:=rfl
def cb_3:Du "list" .non=some false:=rfl
def ck_5(b:Bool):Du "list" (.bl b)=some false:=rfl
def cb_4(i:Int):Du "list" (.int i)=some false:=rfl
def cb_5(x:Str):Du "list" (.str x)=some false:=rfl
def cb_6(l:List D):Du "list" (.lst l)=some true:=rfl
def cb_7(l:List D):Du "list" (.tup l)=some false:=rfl
def bp_9:Du "tuple" .non=some false:=rfl
def cb_8(b:Bool):Du "tuple" (.bl b)=some false:=rfl
def bq_0(i:Int):Du "tuple" (.int i)=some false:=rfl
def bq_1(x:Str):Du "tuple" (.str x)=some false:=rfl
def bq_2(l:List D):Du "tuple" (.lst l)=some false:=rfl
def bq_3(l:List D):Du "tuple" (.tup l)=some true:=rfl
end L3
namespace L3
open PySem PySem.Spec PyProof.Rows L2
variable{K:Frag}{fd:FuncData}{mg:AB}{P:Program}{vs:List V}{us:List Value}{base:Heap}{H:Hp}{X:Cx}{pos:Pos}{v:V}
def cb_9:List Value->Bool
 | .ref _::r=>cb_9 r
 |l=>l == [.type "ValueError",.type "Exception",.type "BaseException",.type "object"]
theorem ar_0(self:Value):∀{l:List Value},cb_9 l=true->refuseLoop self "__setattr__" l=pure .unit
 | [],e=>by cases e
 | .ref c::r,e=>by rw[refuseLoop_ref];exact ar_0 self e
 | .type n::r,e=>by
  have e':(Value.type n::r)= [.type "ValueError",.type "Exception",.type "BaseException",.type "object"]:=eq_of_beq e;rw[e'];exact PySem.F.store_ValueError.passes self
 | .none::r,e=>by cases(eq_of_beq (show((Value.none::r) == [.type "ValueError",.type "Exception",.type "BaseException",.type "object"])=true from e))
 | .bool b::r,e=>by cases(eq_of_beq (show((Value.bool b::r) == [.type "ValueError",.type "Exception",.type "BaseException",.type "object"])=true from e))
 | .int b t::r,e=>by cases(eq_of_beq (show((Value.int b t::r) == [.type "ValueError",.type "Exception",.type "BaseException",.type "object"])=true from e))
 | .str b t::r,e=>by cases(eq_of_beq (show((Value.str b t::r) == [.type "ValueError",.type "Exception",.type "BaseException",.type "object"])=true from e))
 | .builtin b::r,e=>by cases(eq_of_beq (show((Value.builtin b::r) == [.type "ValueError",.type "Exception",.type "BaseException",.type "object"])=true from e))
theorem bk_6:∀{l:List Value},cb_9 l=true->l.contains (.type "object")=true/\l.isEmpty=false
 | [],e=>by cases e
 | .ref c::r,e=>⟨by rw[Q0,(bk_6 (l:=r) e).1,ZC2],rfl⟩
 | .type n::r,e=>by
  have e':(Value.type n::r)= [.type "ValueError",.type "Exception",.type "BaseException",.type "object"]:=eq_of_beq e;rw[e'];exact⟨by decide,rfl⟩
 | .none::r,e=>by cases(eq_of_beq (show((Value.none::r) == [.type "ValueError",.type "Exception",.type "BaseException",.type "object"])=true from e))
 | .bool b::r,e=>by cases(eq_of_beq (show((Value.bool b::r) == [.type "ValueError",.type "Exception",.type "BaseException",.type "object"])=true from e))
 | .int b t::r,e=>by cases(eq_of_beq (show((Value.int b t::r) == [.type "ValueError",.type "Exception",.type "BaseException",.type "object"])=true from e))
 | .str b t::r,e=>by cases(eq_of_beq (show((Value.str b t::r) == [.type "ValueError",.type "Exception",.type "BaseException",.type "object"])=true from e))
 | .builtin b::r,e=>by cases(eq_of_beq (show((Value.builtin b::r) == [.type "ValueError",.type "Exception",.type "BaseException",.type "object"])=true from e))
structure XCls(K:Frag)(C:Addr):Prop where
 sa:findIn K (.ref C) "__setattr__" =some (some (.builtin "object.__setattr__"))
 over:(clsIn K C).any (λcd=>cb_9 cd.mro && cd.hasDict)=true
section
variable{prog:Program}{w:World}{A:Around}{E:AA}{s:Shared}{K:Frag}{x C:Addr}{R:Result->Shared->Prop}
def ef_2{ox:Obj}{od:Option Obj}{name:Str}{tk:Tok}{v:Value}(X:K.In s.heap)(I:InstAt s.heap x ox C od)(xc:XCls K C)(ha:findIn K (.ref C) name=some none)
  (h:wpAny (model prog w) A.in1 (Builtin.ObjectAttr.storeInOwnDict (.ref x) (.ref C) (.str name tk) name v false)
   (λfin s'=>match fin with| .done f=>R (.ok f) s'| .again c'=>c'.quiet=true/\codeAny (model prog w) A c' R s') (λe s'=>R (.error e) s') s):
  codeAny (model prog w) A (.call (.builtin "object.__setattr__") ⟨[.ref x,.str name tk,v],[]⟩) R s:=by
 have SF:=PySem.F.store_object;obtain⟨cd,hc,ho⟩:=Z4 xc.over;rw[C4]at ho;obtain⟨hs1,hs2⟩:=bk_6 ho.1;have sub:Looks (model prog w) s.heap (isInstance (.ref x) (.type "object")) true:=I.type.andThen (ZB1 X (by unfold mroIn;rw[hc,N6,if_neg (by rw[hs2];decide),hs1]));refine S6 SF.slot.plain SF.entry (@ZB8 (model prog w) _ _ s "object.__setattr__" "object" "__setattr__" (.ref x) [.str name tk,v] [] _ SF.kind SF.split sub (SF.args (.ref x) (.str name tk) v) ?_);have hm:Looks (model prog w) s.heap (mroOf (.ref C)) cd.mro:=(ZB0 X hc).andThen .now;rw[osa_eq,refuse_eq];refine A3 (A3 (I.type.here (A3 (hm.here ?_))));rw[ar_0 _ ho.1];refine C6 (A3 (I.type.here (A3 ((S7 X ha).here (A3 (C6 (a:=(none:Option Value)) ?_))))));exact h
def dj_5{D:Addr}{name:Str}{tk:Tok}{v:Value}{Q:PySem.Fin->Shared->Prop}(hD:s.heap.get? D=some {cls:=.type "dict",data:=.dict #[]})
  (h:∀h' tk,h'.Ns1 D (λy=>if y=name then some v else none)->Heap.SameBut D s.heap h'->Q (.done (.ret .none)) {s with heap:=h',toks:=tk}):wpAny (model prog w) A (Builtin.ObjectAttr.storeInDict D (.str name tk) name v) Q E s:=by
 have bu:s.heap.Ns D λ_=>none:=⟨_, #[],_,hD,rfl,λ_ he=>(Array.not_mem_empty _ he).elim,λ_=>rfl⟩;unfold Builtin.ObjectAttr.storeInDict Builtin.ObjectAttr.newKeyGuard
 wp_walk using wpAny_nsSet1 (Heap.Ns1.of_empty bu)
 intro h' n sb;obtain⟨o,es,ep,at1,is1,few⟩:=n.count (.cons name v .nil);have le:es.size<=sizeLine + 1:=C5 few (by simp[E5]);exact A3 (wpAny_lookBehind at1 (is1▸pastItsLine_dict le) (C6 (h h' _ n sb)))
def ck_6{name:Str}{v:Value}{us:Array Value}{Q:Unit->Shared->Prop}(X:K.In s.heap)(hx:s.heap.get? x=some ⟨.ref C,none,.fields us, #[]⟩)(xc:XCls K C)(ha:findIn K (.ref C) name=some none)
  (h:∀h' tk,h'.get? x=some ⟨.ref C,some s.heap.objs.size,.fields us, #[]⟩->h'.Ns1 s.heap.objs.size (λy=>if y=name then some v else none)->(∀b o,b≠x->s.heap.get? b=some o->h'.get? b=some o)->Q .unit {s with heap:=h',toks:=tk}):
  wpAny (model prog w) A (setAttr (.ref x) name v) Q E s:=by
 have I:InstAt s.heap x ⟨.ref C,none,.fields us, #[]⟩ C none:=⟨hx,rfl,rfl,True.intro⟩;refine set_plain X I xc.sa (ef_2 (s:={s with toks:=s.toks + 1}) X I xc ha ?_);obtain⟨cd,hc,hd'⟩:=Z4 xc.over;rw[C4]at hd';refine A3 (C6 (A3 (A3 (ZB3 (s:={s with toks:=s.toks + 1}) hx (A3 (ZB9 (s:={s with toks:=s.toks + 1}) (ZB0 X hc) ?_))))));rw[hd'.2]
 
 have Fc:x≠s.heap.objs.size:=C7 (A7 hx);have old:∀b o,b≠x->s.heap.get? b=some o->((s.heap.push {cls:=.type "dict",data:=.dict #[]}).update x λo=>{o with dict:=some s.heap.objs.size}).get? b=some o:=λb o hb e=>by
  rw[Heap.get?_update_ne _ _ _ _ hb];exact A4 _ e
 have itself:=N2 (λo:Obj=>{o with dict:=some s.heap.objs.size}) (A4 {cls:=.type "dict",data:=.dict #[]} hx) rfl;have isD:((s.heap.push {cls:=.type "dict",data:=.dict #[]}).update x λo=>{o with dict:=some s.heap.objs.size}).get? s.heap.objs.size=some {cls:=.type "dict",data:=.dict #[]}:=by
  rw[Heap.get?_update_ne _ _ _ _ (Ne.symm Fc)];exact C1 _ rfl
 refine A3 (wpAny_alloc' (A3 (wpAny_update' (A4 _ hx) (C6 (dj_5 isD λh' tk n sb=>h h' tk ?_ n λb o hb e=> ?_)))))
 ·rw[sb.2 x Fc];exact itself
 ·rw[sb.2 b (C7 (A7 e))];exact old b o hb e
end
def XE(a:Addr)(o:Obj):HO:=.ext λh=>h.get? a=some o
def XE.ok{w:World}{h:Heap}{a:Addr}{o:Obj}(e:h.get? a=some o):ObjOk P w H h a (XE a o):=⟨e,⟨o,e⟩,λ_ _ p k=>k _ p⟩
theorem XE.get{w:World}{h:Heap}{a:Addr}{o:Obj}(x:HOk P w H h)(e:H a=some (XE a o)):h.get? a=some o:=(x a _ e).1
def XO.ok{w:World}{h:Heap}{a C:Addr}{dx:Option Addr}{us:Array Value}{sl:Array (Option Value)}(e:h.get? a=some ⟨.ref C,dx,.fields us,sl⟩)(c2:us[2]? =some .none):ObjOk P w H h a (XO a C dx):=
 ⟨⟨us,sl,e,c2⟩,⟨_,e⟩,λ_ _ ⟨us,sl,p,c⟩ k=>⟨us,sl,k _ p,c⟩⟩
section
variable{X:Cx}{zd:AE}{σ:Sg}{H:Hp}{s:Shared}
def Inv.excSet{a:Addr}{o0 o1:Obj}{h':Heap}{t':Nat}{fs:List (Str×V)}{mA:AB}(I:Inv X zd σ H s)(e:H a=some (XE a o0))(hx:h'.get? a=some o1)(hn:h'.Ns1 s.heap.objs.size mA)(hr:∀f,RelO (fs.lookup f) (mA f))
  (k:∀b o,b≠a->s.heap.get? b=some o->h'.get? b=some o):Inv X zd σ (upd (upd H s.heap.objs.size (.xd fs)) a (XE a o1)) {s with heap:=h',toks:=t'}:=by
 have hf:H s.heap.objs.size=none:=I.hok.fresh (B0 _);have other:∀b u,H b=some u->b≠a->(upd (upd H s.heap.objs.size (.xd fs)) a (XE a o1)) b=some u:=λb u q n=>by
  rw[Bm n,Bm (Hx q hf)];exact q
 refine I.un (h':=h') ⟨λb o q n _ _=>k b o (λz=>by subst z;rw[e]at n;cases n) q,λb o q n _ _=>⟨o.slots,k b o (λz=>by subst z;rw[e]at n;cases n) q⟩,λb o q n _=> ?_,λb o q _=> ?_,λb xs q=> ?_,λb o u q=> ?_,λb ps q=> ?_⟩ λb u q=> ?_
 ·rw[Bm (λz=>by subst z;rw[e]at n;cases n),Bm (C7 (A7 q))];exact n
 ·by_cases z:b=a
  ·subst z;exact⟨_,hx⟩
  ·exact⟨_,k b o z q⟩
 ·exact other b _ q λz=>by subst z;rw[e]at q;cases q
 ·exact other b _ q λz=>by subst z;rw[e]at q;cases q
 ·exact⟨#[],by rw[other b _ q λz=>by subst z;rw[e]at q;cases q];simp⟩
 ·by_cases z:b=a
  ·subst z;rw[Ct]at q;cases q;exact XE.ok hx
  ·rw[Bm z]at q
   by_cases z2:b=s.heap.objs.size
   ·subst z2;rw[Ct]at q;cases q;exact⟨mA,hn,hr⟩
   ·rw[Bm z2]at q;refine(I.hok b u q).stay (λc v hc z3=>k c v ?_ z3) (λc z3=>other c _ z3 λz4=> ?_) λc xs z3=>other c _ z3 λz4=> ?_
    ·rcases hc with rfl|hc
     ·exact z
     ·exact λz4=>by subst z4;rw[e]at hc;cases hc
    ·subst z4;rw[e]at z3;cases z3
    ·subst z4;rw[e]at z3;cases z3
def Inv.forget{a:Addr}{φ:Heap->Prop}(I:Inv X zd σ (upd H a (.ext φ)) s)(hn:H a=none):Inv X zd σ H s:=by
 have sub:∀b u,H b=some u->upd H a (.ext φ) b=some u:=λb u e=>by rw[Bm (Hx e hn)];exact e
 have nf:∀b,upd H a (.ext φ) b=none->H b=none:=λb e=>by
  by_cases z:b=a
  ·subst z;exact hn
  ·rw[Bm z]at e;exact e
 have bk:∀b u,upd H a (.ext φ) b=some u->(∀ψ,u≠ .ext ψ)->H b=some u:=λb u e n=>by
  by_cases z:b=a
  ·subst z;rw[Ct]at e;cases e;exact absurd rfl (n φ)
  ·rw[Bm z]at e;exact e
 have B:=I.base;refine⟨I.ok,I.os,I.bare,⟨B.keep,B.slot,λb u q n x=>nf b (B.free b u q n x),B.there,λb xs q=>bk _ _ (B.tups b xs q) (λ_ z=>nomatch z),λb u v q=>bk _ _ (B.frzs b u v q) (λ_ z=>nomatch z),λb ps q=> ?_⟩,I.loc,I.cell,nf _ I.free,λx c e=>nf _ (I.freeC x c e),λp hp=> ?_,λb u e=> ?_,I.len⟩
 ·obtain⟨more,z⟩:=B.tbls b ps q;exact⟨more,bk _ _ z (λ_ z=>nomatch z)⟩
 ·obtain⟨p1,p2,p3⟩:=I.pin p hp;exact⟨p1,nf _ p2,p3⟩
 ·exact(I.hok b u (sub b u e)).stay (λ_ _ _ q=>q) (λc q=>bk _ _ q (λ_ z=>nomatch z)) (λc xs q=>bk _ _ q (λ_ z=>nomatch z))
end
def am_6(C:Addr)(f:Str):Sp:=λvs H Q _=>∃a v us,vs= [.ref a,v]/\H a=some (XE a ⟨.ref C,none,.fields us, #[]⟩)/\∀d,H d=none->d≠a->Q .non (upd (upd H d (.xd [(f,v)])) a (XE a ⟨.ref C,some d,.fields us, #[]⟩))
section
variable{X:Cx}{C:Addr}{f:Str}{pos pos' p1 p2:Pos}{x y:Str}
def ek_0(C:Addr)(f:Str):TS:=λD σ H=>∃a v us,σ[0]? =some (some (.ref a))/\σ[1]? =some (some v)/\H a=some (XE a ⟨.ref C,none,.fields us, #[]⟩)/\∀d,H d=none->d≠a->D.nx σ (upd (upd H d (.xd [(f,v)])) a (XE a ⟨.ref C,some d,.fields us, #[]⟩))
def bh_5(xc:XCls X.K C)(hn:findIn X.K (.ref C) f=some none)(ho:PE X (.Name x p1) (tVar 0))(hv:PE X (.Name y p2) (tVar 1))(hs:swapsWith (.Name y p2) (some (.Attribute (.Name x p1) f pos')) pos.line X.env=pure false:=by rfl):
  PS X (.Assign [.Attribute (.Name x p1) f pos'] (.Name y p2) pos) (ek_0 C f):=by
 intro zd s σ H D I h;obtain⟨a,v,us,e0,e1,ha,q⟩:=h;refine V8 (Bk (hv zd s σ H (λy H1=>y=v/\H1=H) I ⟨v,e1,rfl,rfl⟩) λu s1 ⟨y,H1,I1,ry,ey,eH⟩=>Bk (ho zd s1 σ H1 (λy H2=>y=.ref a/\H2=H) I1 ⟨.ref a,e0,rfl,eH⟩) λov s2 ⟨x,H2,I2,rx,ex,eH2⟩=> ?_) hs;subst ey ex eH eH2;obtain rfl:ov=Value.ref a:=rx;refine ck_6 I2.kIn (XE.get I2.hok ha) xc hn λh' tk g1 g2 g3=> ?_;refine⟨σ,_,Inv.excSet I2 (t':=tk) (fs:=[(f,y)]) ha g1 g2 (λg=> ?_) g3,q _ (I2.hok.fresh (B0 _)) ?_⟩
 ·show RelO ([(f,y)].lookup g) (if g=f then some u else none)
  by_cases z:g=f
  ·subst z;rw[if_pos rfl];simp only[E7,P8];exact ry
  ·rw[if_neg z];have zb:(g ==f)=false:=by simpa using z
   simp only[E7,zb,List.lookup_nil]
   trivial
 ·exact Nat.ne_of_gt (A7 (XE.get I2.hok ha))
end
abbrev bmVE:List Value:=[.type "ValueError",.type "Exception",.type "BaseException",.type "object"]
def t_0(es:Array DictEntry):Bool:=es.toList.all λe=>match e.key with| .str _ _=>true|_=>false
def cu_8{es:Array DictEntry}(h:t_0 es=true):StrKeys es:=λe he=>by
 have q:=E9.mp h e (Array.mem_toList_iff.mpr he);revert q;cases hk:e.key with
 |str n t=>intro _;exact⟨n,t,rfl⟩
 |_=>intro q;cases q
def db_6{N:Addr}{oc:Value}{od:Option Addr}{es:Array DictEntry}{ep:Nat}{sl:Array (Option Value)}(l:K.lookup N=some ⟨oc,od,.dict es ep,sl⟩)(k:t_0 es=true){h:Heap}(X:K.In h):h.Ns N (nsFind es):=
 ⟨_,es,ep,X _ _ l,rfl,cu_8 k,λ_=>rfl⟩
def XMk(K:Frag)(C fI:Addr):Prop:=∃(nm q:Str) (N:Addr) (bs bm:List Value) (sn:List Str) (sub:List Value) (ab:Bool) (col:Option Bool) (dd:Option Addr) (k0 k1 k2 k3 k5:Option Value) (mN:AB),
 K.lookup C=some (excClassObj nm q C N bs bm true sn sub ab col dd k0 k1 k2 k3 k5 "ValueError.__new__")/\(∀h:Heap,K.In h->OwnTail h bmVE bm)/\(∀h:Heap,K.In h->h.Ns N mN)/\mN "__init__" =some (.ref fI)
def er_4{C fI N L:Addr}{nm q:Str}{bs:List Value}{sn:List Str}{sub:List Value}{ab:Bool}{col:Option Bool}{dd:Option Addr}{k0 k1 k2 k3 k5:Option Value}{oc c0 oL:Value}{od ddL odL:Option Addr}{es esL:Array DictEntry}{ep epL:Nat}{sl sl0 slL:Array (Option Value)}{cd:ClassData}
  (lc:K.lookup C=some (excClassObj nm q C N bs (.ref L::bmVE) true sn sub ab col dd k0 k1 k2 k3 k5 "ValueError.__new__")) (ln:K.lookup N=some ⟨oc,od,.dict es ep,sl⟩) (kn:t_0 es=true) (hi:nsFind es "__init__" =some (.ref fI))
  (ll:K.lookup L=some ⟨c0,ddL,.cls cd,sl0⟩) (lm:K.lookup cd.ns=some ⟨oL,odL,.dict esL epL,slL⟩) (km:t_0 esL=true) (hL:nsFind esL "__init__" =none):XMk K C fI:=
 ⟨nm,q,N,bs,_,sn,sub,ab,col,dd,k0,k1,k2,k3,k5,nsFind es,lc,λh X=> .own (X _ _ ll) (db_6 lm km X) hL .base,λh X=>db_6 ln kn X,hi⟩
def ef_3{C N L:Addr}{nm q:Str}{bs:List Value}{sn:List Str}{sub:List Value}{ab:Bool}{col:Option Bool}{dd:Option Addr}{k0 k1 k2 k3 k5:Option Value}
  (lc:K.lookup C=some (excClassObj nm q C N bs (.ref L::bmVE) true sn sub ab col dd k0 k1 k2 k3 k5 "ValueError.__new__")) (sa:findIn K (.ref C) "__setattr__" =some (some (.builtin "object.__setattr__"))):XCls K C:=
 ⟨sa,by unfold clsIn;rw[lc];rfl⟩
def bh_6{c:Bool}{w:World}{x qual sf at_ fl:Str}{st:Stmt}{f C:Addr}{k:Nat}(F:Fun K x qual st f fd)(S:FnScope [sf,at_] [sf,at_] (Ce st))
  (zk:∀(zq:Value) (A:Around) (outer:List Env) (s:Shared) (H:Hp) (E:XK),PSs (El c P w K mg base [sf,at_] qual (Ce st) f zq A outer s H E) (Fg st) (ek_0 C fl)):FnX P w K mg base c (k + 1) f fd [sf,at_] (am_6 C fl):=by
 refine Fun.okX F S (λvs H Q E h=> ?_) λzq A outer s H vs Q E hr h=>⟨_,zk zq A outer s H E, ?_⟩
 ·obtain⟨a,v,us,rfl,_⟩:=h;rfl
 ·obtain⟨a,v,us,rfl,ha,q⟩:=h;exact⟨a,v,us,rfl,rfl,ha,q⟩
theorem bb_1{h:Heap}:∀{bm:List Value},OwnTail h bmVE bm->bm.contains (.type "BaseException")=true
 |_,.base=>by decide
 |_,.own _ _ _ t=>by rw[Q0,bb_1 t,ZC2]
structure XC(P:Program)(w:World)(K:Frag)(mg:AB)(base:Heap)(c:Str)(f:Str)(C:Addr):Prop where
 at_:ClsAt K c C
 glob:mg c=some (.ref C)
 kp:keepIn K (.ref C)=true
 xc:XCls K C
 made:∃(fI:Addr) (fd:FuncData) (ps:List Str) (oI:Obj),XMk K C fI/\K.lookup fI=some oI/\oI.cls=.type "function" /\FnX P w K mg base false 1 fI fd ps (am_6 C f)/\Binds K fd ps []
section
variable{X:Cx}{zd:AE}{σ:Sg}{H:Hp}{s:Shared}{C:Addr}{c f:Str}
def dt_8{e d:Addr}{o0 o1 x:HO}:upd (upd (upd H e o0) d x) e o1=upd (upd H d x) e o1:=by
 funext b
 unfold upd
 by_cases z:b=e
 ·rw[if_pos z,if_pos z]
 ·rw[if_neg z,if_neg z,if_neg z]
def dj_6{u:Value}{Q:AA}{E:AA}(M:XC X.prog X.w X.K X.mg X.base c f C)(hr:RoomC false 2 X.A)(I:Inv X zd σ H s)(r:RelV v u)
  (h:∀a d t s',H a=none->H d=none->d≠a->s.heap.objs.size<=a->Inv X zd σ (upd (upd H d (.xd [(f,v)])) a (XE a ⟨.ref C,some d,.fields #[.ref t,.none,.none,.none,.bool false,.none], #[]⟩)) s'->Q (.ref a) s'):
  wpAny (model X.prog X.w) X.A (call (.ref C) [u]) Q E s:=by
 obtain⟨fI,fd,ps,oI,⟨nm,q,N,bs,bm,sn,sub,ab,col,dd,k0,k1,k2,k3,k5,mN,lc,tl,hn,hi⟩,lI,hI,F,hb⟩:=M.made;have KX:=I.kIn;obtain⟨hh,g,dr,tk,os⟩:=s;refine dp_9 X9 (tl hh KX) (KX _ _ lc) (hn hh KX) hi (KX _ _ lI) hI (λh' e me ze=> ?_) (by show 1<=sizeLine;rw[E5];omega);obtain⟨kk,new,t,et,_,_⟩:=me;have I2:Inv X zd σ (upd H e (XE e ⟨.ref C,none,.fields #[.ref t,.none,.none,.none,.bool false,.none], #[]⟩)) ⟨h',g,dr,tk,os⟩:=I.laid (h':=h') (t':=tk) kk ze (XE.ok et);have he:H e=none:=I.hok.fresh ze;have r2:Vals [.ref e,v] [.ref e,u]:=.cons rfl (.cons r .nil);have sp:am_6 C f [.ref e,v] (upd H e (XE e ⟨.ref C,none,.fields #[.ref t,.none,.none,.none,.bool false,.none], #[]⟩)) (λy H2=>y=.non/\∃d,H d=none/\d≠e/\H2=upd (upd H d (.xd [(f,v)])) e (XE e ⟨.ref C,some d,.fields #[.ref t,.none,.none,.none,.bool false,.none], #[]⟩)) (λ_ _ _=>False):=
  ⟨e,v,_,rfl,Ct,λd hd ne=>⟨rfl,d,by rw[Bm ne]at hd;exact hd,ne,dt_8⟩⟩
 have hl: [Value.ref e,u].length=ps.length:=F.len _ _ _ _ sp;have hb':=hb ⟨h',g,dr,tk,os⟩ [.ref e,u] I2.kIn (by rw[F9];exact hl);rw[F9]at hb';refine R7 (T3 (F.run _ X.stack _ _ ⟨[.ref e,u],[]⟩ [.ref e,u] [.ref e,v] _ _ (hr.make C [u] []) (I2.env0.make C [u] []) hb' r2 sp) λr s' hq=> ?_);cases r with
 |error x=>
  obtain⟨a,C',dx,T,H',_,_,_,_,_,_,_,_,_,_,z⟩:=hq;exact z.elim
 |ok fl=>
  cases fl with
  |ret y=>
   obtain⟨v',H',I3,rv,ev,d,hd,ne,eH⟩:=I2.after hq;subst ev eH;exact⟨rv,h e d t s' he hd ne ze I3⟩
  |next=>exact False.elim hq
  |brk=>exact False.elim hq
  |cont=>exact False.elim hq
def Lk1(X:Cx)(EX:Bt):Prop:=∀(zd:AE) (σ:Sg) (H H':Hp) (s s':Shared) (a C:Addr) (dx:Option Addr) (o:Obj) (us:Array Value),Inv X zd σ H s->Inv X zd σ H' s'->s'.heap.get? a=some o->o.cls=.ref C->o.dict=dx->o.data=.fields us->us[1]? =some .none->us[2]? =some .none->
 H' a=none->s.heap.objs.size<=a->EXE X.K (EX σ) (.ref C) dx H'->X.xe (.ref a) s'
def y_2{cm:Bool}{w:World}{N:List Str}{qual:Str}{scope:Scope}{f:Addr}{cd:Value}{A:Around}{outer:List Env}{s:Shared}{E:XK}:
  Lk1 (El cm P w K mg base N qual scope f cd A outer s H E) (λ_=>EXof K E):=λzd σ H H' s s' a C dx o us I I' he hc hx hd h1 c2 n1 z1 q=>bz_2 I I' he hc hx hd h1 c2 n1 z1 q.of
def w_3(c f:Str)(js:List Nat)(fe:FE):FS:=λ Δ=>match fe (Bg (gsome js Δ)) with
 | .ok w=> .ex ⟨c,[f],[w.d]⟩ (gsome js Δ)
 | .ex x=> .ex x (gsome js Δ)
 | .no=> .no
def z_0{EX:Bt}(js:List Nat){e:Expr}{fe:FE}{np zf pos:Pos}(M:XC X.prog X.w X.K X.mg X.base c f C)(hr:RoomC true 2 X.A)(l1:Lk1 X EX)(he:ED X EX e fe)(hg:Gl X c:=by rfl)(hdb:AG c:=by decide)
  (hs:starEach [e] X.env=(false,eval e X.env)::starEach [] X.env:=by rfl) (hpl:(backTo zf (starEach [] X.env)).any (·.1)=false:=by rfl):
  SD X EX (.Raise (some (.Call (.Name c np) [e] [] zf)) none pos) (w_3 c f js fe):=by
 intro zd s σ H D I q;obtain⟨H0,G0,G,Δ,O,E,q⟩:=q;obtain⟨G',O',sg,E'⟩:=E.gsome js;obtain⟨fI,fd,ps,oI,⟨nm,qn,N,bs,bm,sn,sub,ab,col,dd,k0,k1,k2,k3,k5,mN,lc,tl,hn,hi⟩,lI,hI,F,hb⟩:=M.made;have hB:bm.contains (.type "BaseException")=true:=bb_1 (tl s.heap I.kIn);rw[arm_exec_Raise];have tD0:tD X.K EX fe σ H λv H1=>∃v' w G1,[v]= [v']/\fe (Bg (gsome js Δ))=.ok w/\Step G' H G1 H1/\Has X.K G1 v' w.d:=by
  refine⟨G',Bg (gsome js Δ),E'.st.gh,E'.gsh, ?_⟩;unfold w_3 at q;cases e1:fe (Bg (gsome js Δ)) with
  |ok w=>exact WP.intro λv G1 H1 st r=>⟨v,w,G1,rfl,rfl,st,r⟩
  |ex x=>rw[e1]at q;exact q σ G' H O' E' sg
  |no=>rw[e1]at q;exact q
 have mk:wpAny (model X.prog X.w) X.A (eval (.Call (.Name c np) [e] [] zf) X.env) (λv s1=>∃a t dx,v=.ref a/\s1.heap.get? C=some (excClassObj nm qn C N bs bm true sn sub ab col dd k0 k1 k2 k3 k5 "ValueError.__new__")/\
   s1.heap.get? a=some {cls:=.ref C,dict:=dx,data:=.fields #[.ref t,.none,.none,.none,.bool false,.none]}/\X.xe (.ref a) s1) X.xe s:=by
  refine L8 (x_9 I hg M.glob ?_ hdb);refine T8 (h₀:=X.base) I.ok.mod.kin M.kp (Bk (Gj he u_3 hs zf zd s σ H (λvs H1=>∃v' w G1,vs= [v']/\fe (Bg (gsome js Δ))=.ok w/\Step G' H G1 H1/\Has X.K G1 v' w.d) I tD0) λus s1 ⟨vs,H1,I1,r,v,w,G1,ev,ew,st,hv⟩=>⟨I1.kIn, ?_⟩) hs hpl;subst ev;obtain⟨u,rfl,ru⟩:=r.one;refine dj_6 M hr.loose I1 ru λa d t s2 ha hd ne za I2=> ?_;have ga:=XE.get I2.hok Ct;refine⟨a,t,some d,rfl,I2.kIn _ _ lc,ga, ?_⟩;have I3:Inv X zd σ (upd H1 d (.xd [(f,v)])) s2:=Inv.forget I2 (by rw[Bm ne.symm];exact ha);refine l1 zd σ H1 _ s1 s2 a C (some d) _ _ I1 I3 ga rfl rfl rfl rfl rfl (by rw[Bm ne.symm];exact ha) za ?_;have st2:Step G1 H1 (upd G1 d (.xd [(f,v)])) (upd H1 d (.xd [(f,v)])):=Step.new st.gh hd _;refine⟨⟨c,[f],[w.d]⟩,upd G1 d (.xd [(f,v)]),st2.gh,.with_ M.at_ Ct rfl (.cons (hv.mono st2.gg) .nil), ?_⟩;unfold w_3 at q;rw[ew]at q;exact q σ _ _ O' ((E'.grow st).grow st2) (sg.trans (st.gg.trans st2.gg))
 refine A3 (Q7 (bt_7 hB (hr.hd rfl) (A3 (F1 mk (λv s3 h3=>A3 (Q7 (C6 h3))) λ_ _ x=>x))))
end
section
variable{X:Cx}{zd:AE}{σ:Sg}{H:Hp}{s:Shared}
def ap_2{M:Model}{A:Around}{E:AA}{i:Nat}{n:Str}{Q:Unit->Shared->Prop}(I:Inv X zd σ H s)(hN:X.N.Nodup)(hi:X.N[i]? =some n)(hk:X.env.scope.names.lookup n=some .local)
  (h:∀s',Inv X zd (σ.set i none) H s'->Q .unit s'):wpAny M A (do bindName X.env n .none;unbindBehindTheSuite X.env n pos) Q E s:=by
 obtain⟨m,hn,hl⟩:=id I.loc;have bz:(X.env.scope.kind == .class || (X.env.scope.kind == .module && X.env.locals != X.env.globals))=false:=by rw[I.ok.kind];rfl
 have hiσ:i < σ.length:=by rw[I.len];exact(A5.mp hi).1
 have cne:=I.cne;have tracked:∀{a:Addr} {h':Heap},(∃o,s.heap.get? a=some o/\H a=none)->Heap.SameBut a s.heap h'->HOk X.prog X.w H h':=λ{a h'} ha hs b ob e=>by
  obtain⟨_,_,aq⟩:=ha;refine(I.hok b ob e).stay (λc w' hc q=>(hs.2 c ?_).trans q) (λ_ q=>q) λ_ _ q=>q
  rintro rfl
  rcases hc with rfl|hc
  ·rw[aq]at e;cases e
  ·rw[aq]at hc;cases hc
 refine wpAny_nameGoes_keeps hk hn bz λh' v hn' hs=> ?_;obtain⟨oL,_,_,hoL,_⟩:=id hn;refine h _ ⟨I.ok,I.os,I.bare,⟨λb o e n hb hx=> ?_,λb o e n hb hx=> ?_,I.base.free,λb o e hx=> ?_,I.base.tups,I.base.frzs,I.base.tbls⟩,⟨_,hn',λj y v' e1 e2 e3=> ?_⟩,λy c e=> ?_,I.free,I.freeC,λp hp=> ?_,tracked ⟨oL,hoL,I.free⟩ hs,by simpa using I.len⟩
 ·exact(hs.2 b (C7 (B5 (A7 e) I.ok.above))).trans (I.base.keep b o e n hb hx)
 ·obtain⟨sl,e1⟩:=I.base.slot b o e n hb hx;exact⟨sl,(hs.2 b (C7 (B5 (A7 e) I.ok.above))).trans e1⟩
 ·obtain⟨o',e1⟩:=I.base.there b o e hx;exact⟨o',(hs.2 b (C7 (B5 (A7 e) I.ok.above))).trans e1⟩
 ·by_cases hj:j=i
  ·subst hj;rw[K1 hiσ]at e2;cases e2
  ·rw[B9 (Ne.symm hj)]at e2;obtain⟨u',r',q⟩:=hl j y v' e1 e2 e3;refine⟨u',r', ?_⟩;rcases q with⟨k,e⟩|⟨k,c,e,z⟩
   ·refine .inl ⟨k, ?_⟩;have:y≠n:=λe=>hj (bi_4 hN e1 (e▸hi));simp[this,e]
   ·exact .inr ⟨k,c,e,z.sameBut hs (cne y c e)⟩
 ·obtain⟨w',z⟩:=I.cell y c e;exact⟨w',z.sameBut hs (cne y c e)⟩
 ·obtain⟨e,n,ne,nf,d⟩:=I.pin p hp;exact⟨(hs.2 p.1 ne).trans e,n,ne,nf,d⟩
def Inv.speak{H':Hp}{s':Shared}{a C:Addr}{dx:Option Addr}{us:Array Value}{sl:Array (Option Value)}(I:Inv X zd σ H s)(I':Inv X zd σ H' s')(za:s.heap.objs.size<=a)(e:s'.heap.get? a=some ⟨.ref C,dx,.fields us,sl⟩)(c2:us[2]? =some .none)(hn:H' a=none):Inv X zd σ (upd H' a (.frz ⟨.ref C,dx,.fields us,sl⟩ (XO a C dx))) s':=by
 have B:=I'.base;have ns:∀b o,X.s₀.heap.get? b=some o->b≠a:=λb o q z=>absurd (B5 (A7 q) (C5 I.sz za)) (by rw[z];exact F5 _);have lt:∀b:Addr,b < s.heap.objs.size->b≠a:=λb h z=>absurd (B5 h za) (by rw[z];exact F5 _);have up:∀b u,H' b=some u->upd H' a (.frz ⟨.ref C,dx,.fields us,sl⟩ (XO a C dx)) b=some u:=λb u q=>by rw[Bm (Hx q hn)];exact q
 refine⟨I'.ok,I'.os,I'.bare,⟨B.keep,B.slot,λb o q n x=>by rw[Bm (ns b o q)];exact B.free b o q n x,B.there,λb xs q=>up _ _ (B.tups b xs q),λb o u q=>up _ _ (B.frzs b o u q),λb ps q=>let⟨m,z⟩:=B.tbls b ps q;⟨m,up _ _ z⟩⟩,I'.loc,I'.cell, ?_,λx c q=> ?_,λp hp=> ?_,λb u q=> ?_,I'.len⟩
 ·rw[Bm (lt _ I.lt)];exact I'.free
 ·obtain⟨v,hv⟩:=I.cell x c q;rw[Bm (lt _ hv.lt)];exact I'.freeC x c q
 ·obtain⟨p1,p2,p3⟩:=I'.pin p hp;exact⟨p1,by rw[Bm (lt _ (A7 (I.pin p hp).1))];exact p2,p3⟩
 ·by_cases z:b=a
  ·subst z;rw[Ct]at q;cases q;exact⟨e,XO.ok e c2⟩
  ·rw[Bm z]at q;exact(I'.hok b u q).stay (λ_ _ _ q=>q) (λc q=>up _ _ q) λc xs q=>up _ _ q
end
def tryB(X:Cx)(zd:AE)(W:AA):Cx:={X with pn:=X.pn ++ zd,xe:=W}
structure HX where
 a:Addr
 C:Addr
 dx:Option Addr
 us:Array Value
 sl:Array (Option Value)
 c2:us[2]? =some .none
def HX.ho(e:HX):HO:=.frz ⟨.ref e.C,e.dx,.fields e.us,e.sl⟩ (XO e.a e.C e.dx)
def hand(X:Cx)(e:HX):Cx:={X with A:=X.A.mark (some (.ref e.a)),calm:=false,xe:=λ_ _=>False,H₀:=upd X.H₀ e.a e.ho}
section
variable{X:Cx}{zd ak:AE}{σ:Sg}{H:Hp}{s:Shared}{W:AA}{e:HX}
def ok_tryB:(tryB X zd W).Ok↔X.Ok:=⟨λok=>⟨ok.mod,ok.kind,ok.glob,ok.blt,ok.above,ok.inj,ok.has,ok.cab,ok.hd,ok.frames,ok.stk,ok.exf,ok.bs,ok.bsz,ok.noex,ok.exfs,ok.funs,ok.frf⟩,
 λok=>⟨ok.mod,ok.kind,ok.glob,ok.blt,ok.above,ok.inj,ok.has,ok.cab,ok.hd,ok.frames,ok.stk,ok.exf,ok.bs,ok.bsz,ok.noex,ok.exfs,ok.funs,ok.frf⟩⟩
def Inv.toB(I:Inv X zd σ H s):Inv (tryB X zd W) [] σ H s:=⟨ok_tryB.mpr I.ok,I.os,I.bare,I.base,I.loc,I.cell,I.free,I.freeC,λp hp=>I.pin p (by have hp:p∈(X.pn ++ zd) ++ []:=hp;rwa[F9]at hp),I.hok,I.len⟩
def Inv.ofB(I:Inv (tryB X zd W) ak σ H s):Inv X zd σ H s:=⟨ok_tryB.mp I.ok,I.os,I.bare,I.base,I.loc,I.cell,I.free,I.freeC,λp hp=>I.pin p (K5 _ hp),I.hok,I.len⟩
theorem SP.ofB{D:Ends}{f:Flow}(h:SP (tryB X zd W) ak D f s):SP X zd D f s:=by
 cases f with
 |next=>obtain⟨σ',H',I,q⟩:=h;exact⟨σ',H',Inv.ofB I,q⟩
 |brk=>obtain⟨σ',H',I,q⟩:=h;exact⟨σ',H',Inv.ofB I,q⟩
 |cont=>obtain⟨σ',H',I,q⟩:=h;exact⟨σ',H',Inv.ofB I,q⟩
 |ret u=>obtain⟨v,σ',H',I,r,q⟩:=h;exact⟨v,σ',H',Inv.ofB I,r,q⟩
def Un.hput{fs ex:List Addr}{H0 H':Hp}{h h':Heap}{a:Addr}{o:Obj}{u:HO}(U:Un fs ex H0 H' h h')(z:h.objs.size<=a)(q:H' a=some (.frz o u)):Un fs ex (upd H0 a (.frz o u)) H' h h':=by
 have nb:∀b o,h.get? b=some o->b≠a:=λb o g e=>absurd (A7 g) (by rw[e];exact Nat.not_lt.mpr z);refine⟨λb o g n=>U.keep b o g (by rwa[Bm (nb b o g)]at n),λb o g n=>U.slot b o g (by rwa[Bm (nb b o g)]at n),λb o g n=>U.free b o g (by rwa[Bm (nb b o g)]at n),U.there,λb xs e=> ?_,λb ob v e=> ?_,λb ps e=> ?_⟩
 all_goals
  by_cases hb:b=a
  ·subst hb;rw[Ct]at e;cases e
   try exact q
  ·rw[Bm hb]at e
   first|exact U.tups b _ e|exact U.frzs b _ _ e|exact U.tbls b _ e
def Un.htake{fs ex:List Addr}{H0 H1 H':Hp}{h h1 h':Heap}{a:Addr}{v:HO}(U0:Un fs ex H0 H1 h h1)(n:H1 a=none)(U:Un fs ex (upd H0 a v) H' h h')(z:h.objs.size<=a):Un fs ex H0 H' h h':=by
 have nb:∀b o,h.get? b=some o->b≠a:=λb o g e=>absurd (A7 g) (by rw[e];exact Nat.not_lt.mpr z);refine⟨λb o g q=>U.keep b o g (by rwa[Bm (nb b o g)]),λb o g q=>U.slot b o g (by rwa[Bm (nb b o g)]),λb o g q=>U.free b o g (by rwa[Bm (nb b o g)]),U.there,λb xs e=> ?_,λb ob v e=> ?_,λb ps e=> ?_⟩
 ·by_cases hb:b=a
  ·subst hb;have:=U0.tups b xs e;rw[n]at this;cases this
  ·exact U.tups b xs (by rwa[Bm hb])
 ·by_cases hb:b=a
  ·subst hb;have:=U0.frzs b ob v e;rw[n]at this;cases this
  ·exact U.frzs b ob v (by rwa[Bm hb])
 ·by_cases hb:b=a
  ·subst hb;obtain⟨m,q⟩:=U0.tbls b ps e;rw[n]at q;cases q
  ·exact U.tbls b ps (by rwa[Bm hb])
def Inv.toH(I:Inv X zd σ H s)(z:X.s₀.heap.objs.size<=e.a)(q:H e.a=some e.ho):Inv (hand X e) zd σ H s:=by
 have nb:∀b o,X.s₀.heap.get? b=some o->b≠e.a:=λb o g y=>absurd (A7 g) (by rw[y];exact Nat.not_lt.mpr z);refine⟨⟨I.ok.mod,I.ok.kind,I.ok.glob,I.ok.blt,I.ok.above,I.ok.inj,I.ok.has,I.ok.cab,λz=>absurd z A6,I.ok.frames,I.ok.stk,I.ok.exf,λb o g=> ?_,I.ok.bsz,I.ok.noex,I.ok.exfs,I.ok.funs,λb hb=> ?_⟩,I.os,I.bare,Un.hput I.base z q,I.loc,I.cell,I.free,I.freeC,I.pin,I.hok,I.len⟩
 ·obtain⟨g1,g2⟩:=I.ok.bs b o g;exact⟨g1,(Bm (nb b o g1)).trans g2⟩
 ·obtain⟨_,u,hu,_⟩:=I.ok.funs.mem hb;exact(Bm (nb b u hu)).trans (I.ok.frf b hb)
def Inv.ofH{p0:AE}{σ0:Sg}{H0:Hp}{s0:Shared}(J:Inv X p0 σ0 H0 s0)(n:H0 e.a=none)(z:X.s₀.heap.objs.size<=e.a)(I:Inv (hand X e) zd σ H s):Inv X zd σ H s:=⟨J.ok,I.os,I.bare,Un.htake J.base n I.base z,I.loc,I.cell,I.free,I.freeC,I.pin,I.hok,I.len⟩
end
def ek_1(i:Nat):Fl->Fl
 | .nx Δ=> .nx (Δ.set i .no)
 | .bk Δ=> .bk (Δ.set i .no)
 | .ct Δ=> .ct (Δ.set i .no)
 | .rt w=> .rt w
 |_=> .no
def Catches(K:Frag)(C2:Addr)(tb:List (Str×Bool)):Prop:=∀c b,tb.lookup c=some b->∀C,ClsAt K c C->exmOne K (.ref C) (.ref C2)=some b
def Ev.drop{H0:HB}{G0 G H:Hp}{σ:Sg}{Δ:SE}{O:OS}(E:Ev K H0 G0 G H σ Δ O)(i:Nat):Ev K H0 G0 G H (σ.set i none) (Δ.set i .no) O:=by
 refine⟨E.st,by rw[F2,F2];exact E.len,λj d e=> ?_,λj z d e zo=> ?_,E.out,E.dj,λj d e=> ?_,λj d e=> ?_⟩
 ·rcases Hi e with⟨rfl,q⟩|⟨n,q⟩
  ·cases q
  ·rw[B9 n];exact E.sh j d q
 ·rcases Hi e with⟨rfl,q⟩|⟨n,q⟩
  ·subst q;cases zo
  ·rw[B9 n];exact E.ow j z d q zo
 ·rcases Hi e with⟨rfl,q⟩|⟨n,q⟩
  ·cases q
  ·rw[B9 n];exact E.lk j d q
 ·rcases Hi e with⟨rfl,q⟩|⟨n,q⟩
  ·cases q
  ·rw[B9 n];exact E.lt j d q
section
variable{X:Cx}{EX:Bt}{i:Nat}{tb:List (Str×Bool)}{g h:FS}{c n:Str}{C2:Addr}{body ag:List Stmt}{b₀:Stmt}{np hp pos:Pos}
def Has.exc{G:Hp}{a C:Addr}{dx:Option Addr}{o:Obj}{x:Xn}(hn:G a=none)(e:ExcAt K G (.ref C) dx x):Has K (upd G a (.frz o (XO a C dx))) (.ref a) (.exn x.c x.ns x.vs):=by
 cases e with
 |bare hc=>exact .exn0 hc Ct
 |with_ hc hd hl r=>exact .exn1 hc Ct (by rw[Bm (Hx hd hn)];exact hd) hl (r.mono (p_6 hn _))
def dt_9{H0:HB}{G0 G1:Hp}{D:Ends}{r:Fl}(q:Fin K EX H0 G0 G1 D (ek_1 i r)):Fin K Di H0 G0 G1 {nx:=λ σ H=>D.nx (σ.set i none) H,rt:=D.rt,bk:=λ σ H=>D.bk (σ.set i none) H,ct:=λ σ H=>D.ct (σ.set i none) H} r:=by
 cases r with
 |nx Δ=>exact λ σ G H O E sg=>q _ G H O (E.drop i) sg
 |bk Δ=>exact λ σ G H O E sg=>q _ G H O (E.drop i) sg
 |ct Δ=>exact λ σ G H O E sg=>q _ G H O (E.drop i) sg
 |rt w=>exact q
 |ex x Δ=>exact q.elim
 |no=>exact q
end
structure XGet(K:Frag)(C:Addr)(f:Str):Prop where
 ga:findIn K (.ref C) "__getattribute__" =some (some (.builtin "BaseException.__getattribute__"))
 gt:findIn K (.ref C) "__getattr__" =some none
 be:mroIn K C (.type "BaseException")=some true
 hd:hasDictIn K C=true
 no:findIn K (.ref C) f=some none
section
variable{prog:Program}{w:World}{A:Around}{E:AA}{s:Shared}{K:Frag}{x C dx:Addr}{f:Str}
def du_0{expr:Bool}{Q:AA}{ox:Obj}{mA:AB}{v:Value}(X:K.In s.heap)(hx:s.heap.get? x=some ox)(hc:ox.cls=.ref C)(hdx:ox.dict=some dx)(hnc:notCls ox=true)(hn:s.heap.Ns1 dx mA)(g:XGet K C f)
  (hv:mA f=some v) (hh:handedIn v=true) (h:Q v {s with toks:=s.toks + 1}):wpAny (model prog w) A (getAttr (.ref x) f expr) Q E s:=by
 obtain⟨od,ho,hl⟩:=bs_7 hn;have I:InstAt s.heap x ox C (some od):=⟨hx,hc,hnc,by rw[hdx];exact ho⟩;obtain⟨hp,gg,d,t,os⟩:=s;have L0:=I.type (M:=model prog w);have L1:=S7 (M:=model prog w) X g.ga;have L2:=S7 (M:=model prog w) X g.gt;have LF:=looks_find (M:=model prog w) X I (findObj_own g.hd g.no rfl (by rw[hl,hv]));have sub:Looks (model prog w) hp (isInstance (.ref x) (.type "BaseException")) true:=L0.andThen (ZB1 X g.be);have SL:=PySem.F.attr_ValueError.ga;have hx0:(expr && onTheHeap (Value.builtin "BaseException.__getattribute__"))=false:=by cases expr <;> rfl
 unfold getAttr getAttrBy;refine A3 (wpAny_mkText (K9 (A3 (L0.at (A3 (L1.at ?_))))));show wpAny _ _ (getAttrByItsOwn _ _ _ _ _ _) _ _ _;unfold getAttrByItsOwn;refine A3 (L2.at (A3 (Z1 ?_)));refine K9 ?_;unfold callGetattribute;rw[hx0,if_neg A6];unfold boundAndCalled;rw[SL.bind];refine A3 (C6 (R7 (S6 SL.plain PySem.F.entry_bexc_ga (@ZB8 (model prog w) _ _ ⟨hp,gg,d,t + 1,os⟩ "BaseException.__getattribute__" "BaseException" "__getattribute__" (.ref x) [.str f t] [] _ nofun nofun sub (PySem.F.args_bexc_ga _ _) ?_))));refine A3 (C6 (A3 (C6 (A3 (L0.at (A3 (LF.at ?_)))))));refine C6 ?_;show wpAny _ _ (handedOut v) _ _ _;rw[handedOut_of hh];exact C6 h
structure XInst(K:Frag)(C:Addr):Prop where
 ga:findIn K (.ref C) "__getattribute__" =some (some (.builtin "BaseException.__getattribute__"))
 gt:findIn K (.ref C) "__getattr__" =some none
 be:mroIn K C (.type "BaseException")=some true
 hd:hasDictIn K C=true
 cl:findIn K (.ref C) "__class__" =some (some (.builtin "object.__class__"))
 gs:specialIn K (.builtin "object.__class__") "__get__" =some (some (.builtin "getset_descriptor.__get__"))
 tk:takesIn K (.builtin "object.__class__")=some true
 ob:mroIn K C (.type "object")=some true
def dj_7{Q:Option Value->Shared->Prop}{ox:Obj}{od:Option Obj}(X:K.In s.heap)(I:InstAt s.heap x ox C od)(g:XInst K C)(h:Q (some (.ref C)) {s with toks:=s.toks + 1}):wpAny (model prog w) A (getAttr? (.ref x) "__class__") Q E s:=by
 have hf:findObj K C od "__class__" =some (.bind (.builtin "getset_descriptor.__get__") (.builtin "object.__class__")):=by
  obtain⟨cd,hc,_⟩:=Z4 g.hd;unfold findObj;rw[hc,N6,g.cl,N6];simp[g.gs,g.tk]
 obtain⟨hp,gg,d,t,os⟩:=s;have L0:=I.type (M:=model prog w);have L1:=S7 (M:=model prog w) X g.ga;have L2:=S7 (M:=model prog w) X g.gt;have LF:=looks_find (M:=model prog w) X I hf;have sub:Looks (model prog w) hp (isInstance (.ref x) (.type "BaseException")) true:=L0.andThen (ZB1 X g.be);have SL:=PySem.F.attr_ValueError.ga;unfold getAttr? getAttrBy? getAttrBy;refine A3 (wpAny_mkText (A3 (Z1 (K9 (A3 (L0.at (A3 (L1.at ?_))))))));show wpAny _ _ (getAttrByItsOwn _ _ _ _ _ _) _ _ _;unfold getAttrByItsOwn;refine A3 (L2.at (A3 (Z1 ?_)));refine K9 ?_;unfold callGetattribute;rw[if_neg (by simp)];unfold boundAndCalled;rw[SL.bind];refine A3 (C6 (R7 (S6 SL.plain PySem.F.entry_bexc_ga (@ZB8 (model prog w) _ _ ⟨hp,gg,d,t + 1,os⟩ "BaseException.__getattribute__" "BaseException" "__getattribute__" (.ref x) [.str "__class__" t] [] _ nofun nofun sub (PySem.F.args_bexc_ga _ _) ?_))));refine A3 (C6 (A3 (C6 (A3 (L0.at (A3 (LF.at ?_)))))));show wpAny _ _ (Builtin.ObjectAttr.bindTo (.builtin "getset_descriptor.__get__") (.builtin "object.__class__") (.ref x) (.ref C)) _ _ _;show wpAny _ _ (holding [.builtin "object.__class__"] (call (.builtin "getset_descriptor.__get__") [.builtin "object.__class__",.ref x,.ref C]) >>=ret) _ _ _;refine A3 (K9 (R7 (class_get (s:=⟨hp,gg,d,t + 1,os⟩) (ox:=ox) (od:=od) X I g.ob ?_)));refine C6 ?_;show wpAny _ _ (handedOut (.ref C)) _ _ _;exact handed_on rfl (C6 h)
def ck_9{ox:Obj}{od:Option Obj}(g:XInst K C):KitX K (.ref x) (.ref C) (λh=>InstAt h x ox C od) where
 ty:=λ_ _ _ I=>I.type
 it:=λ_ _ X _=>by
  obtain⟨cdD,hcD,_⟩:=Z4 g.hd;unfold clsIn at hcD
  split at hcD
  ·rename_i c' d' cd' sl' ho;intro A' Q' E' s' k q;unfold isType loadHead;exact A3 (ZB3 (k _ _ (X _ _ ho)) (C6 q))
  ·cases hcD
 ne:=λh tp dd its n sl X htp=>by
  obtain⟨cdD,hcD,_⟩:=Z4 g.hd;refine Bool.eq_false_iff.mpr λq=> ?_;have e:C=tp:=Value.ref.inj (M3.mp q);subst e;unfold clsIn at hcD
  split at hcD
  ·rename_i c' d' cd' sl' ho;have z:=(X _ _ ho).symm.trans htp;cases z
  ·cases hcD
 ca:=λX I k=>dj_7 X I g k
end
theorem cl_0{G:Hp}{f:Str}{d:D}:∀{ns:List Str} {us:List V} {vs:List D},HasL K G us vs->(ns.zip vs).lookup f=some d->∃v,(ns.zip us).lookup f=some v/\Has K G v d
 | [],_,_,_,e=>by simp at e
 |n::ns,_,_,.nil,e=>by simp at e
 |n::ns,_,_,.cons h r,e=>by
  rw[X8,E7]at e⊢;cases z:(f ==n) with
  |true=>rw[z]at e;cases e;exact⟨_,rfl,h⟩
  |false=>rw[z]at e;exact cl_0 r e
def Gs(cs:List Str)(f:Str)(fo:FE):FE:=λ δ=>(fo δ).bind λw=>match w.d with
 | .exn c ns vs=>if cs.contains c=true then(match(ns.zip vs).lookup f with|some d=> .ok (.sh d)|none=> .no) else .no
 |_=> .no
def XGets(K:Frag)(cs:List Str)(f:Str):Prop:=∀c∈cs,∀C,ClsAt K c C->XGet K C f
section
variable{X:Cx}{EX:Bt}{o:Expr}{fo:FE}{f:Str}{cs:List Str}{pos:Pos}
def cc_1(g:XGets X.K cs f)(he:ED X EX o fo)(hb:attributeBase o f X.env (eval o X.env)=eval o X.env:=by rfl):ED X EX (.Attribute o f pos) (Gs cs f fo):=by
 intro zd s σ H Q I q;obtain⟨G,δ,g0,s0,q⟩:=q;refine cz_4 hb (Bk (he zd s σ H (λv H1=>∃G1 w,Step G H G1 H1/\Has X.K G1 v w.d/\fo δ=.ok w) I ⟨G,δ,g0,s0, ?_⟩) λu s1 ⟨v,H1,I1,rv,G1,w,st,hv,ew⟩=> ?_)
 ·unfold Gs at q;cases e:fo δ with
  |ok w=>exact WP.intro λv G1 H1 st r=>⟨G1,w,st,r,rfl⟩
  |ex x=>rw[e]at q;exact q
  |no=>rw[e]at q;exact q
 ·have q2:Out X.K (EX σ) G H (match w.d with
   | .exn c ns vs=>if cs.contains c=true then(match(ns.zip vs).lookup f with|some d=> .ok (.sh d)|none=> .no) else .no
   |_=> .no) Q:=by
   unfold Gs at q;rw[ew]at q;exact q
  clear q;revert hv q2;cases w.d with
  |exn c ns vs=>
   intro hv q2;have q2:Out X.K (EX σ) G H (if cs.contains c=true then(match(ns.zip vs).lookup f with|some d=> .ok (.sh d)|none=> .no) else .no) Q:=q2
   split at q2
   ·rename_i hc;cases el:(ns.zip vs).lookup f with
    |none=>rw[el]at q2;exact q2.elim
    |some d=>
     rw[el]at q2;cases hv with
     |exn0 _ _=>cases el
     |exn1 hc1 h1 hd1 hl1 r1=>
      rename_i a C dd ob us;obtain rfl:u=Value.ref a:=rv;obtain⟨y,ey,hy⟩:=cl_0 r1 el;obtain⟨_,⟨us',sl,eo,_⟩,_⟩:=I1.hok a _ (st.gh _ _ h1);obtain⟨mA,hn,hr⟩:=I1.hok dd _ (st.gh _ _ hd1);have hrf:=hr f;rw[ey]at hrf;cases em:mA f with
      |none=>rw[em]at hrf;exact hrf.elim
      |some z=>
       rw[em]at hrf;have rz:RelV y z:=hrf;exact du_0 I1.kIn eo rfl rfl rfl hn (g c (V9.mp hc) C hc1) em (bs_8 rz) ⟨y,H1,I1.tok _,rz,WP.use (WP.mono st q2) st.gh hy⟩
   ·exact q2.elim
  |_=>intro _ q2;exact False.elim q2
end
def Ff(tb:List (Str×Bool))(fo:FE):FE:=λ δ=>(fo δ).bind λw=>match w.d with
 | .exn c _ _=>(match tb.lookup c with|some b=> .ok (.sh (.bl b))|none=> .no)
 |_=> .no
def IsOne(K:Frag)(v:Value)(tb:List (Str×Bool)):Prop:=∀c b,tb.lookup c=some b->∀C,ClsAt K c C->XInst K C/\kitOne K (.ref C) v=some b
def IsAny(K:Frag)(Cs:List Addr)(tb:List (Str×Bool)):Prop:=∀c b,tb.lookup c=some b->∀C,ClsAt K c C->XInst K C/\kitAny K (.ref C) (Cs.map Value.ref)=some b
theorem bv_5:∀{Cs:List Addr} {its:List Value},Vals (Cs.map V.ref) its->its=Cs.map Value.ref
 | [],_,r=>by cases r;rfl
 |C::Cs,_,.cons h1 h2=>by rw[bv_5 h2];cases h1;rfl
section
variable{X:Cx}{EX:Bt}{zd:AE}{σ:Sg}{G H:Hp}{s:Shared}
def db_7{a:Addr}{c:Str}{ns:List Str}{vs:List D}(I:Inv X zd σ H s)(g:Same G H)(h:Has X.K G (.ref a) (.exn c ns vs)):∃C ox od,ClsAt X.K c C/\InstAt s.heap a ox C od:=by
 cases h with
 |exn0 hc h1=>
  obtain⟨_,⟨us',sl,eo,_⟩,_⟩:=I.hok a _ (g _ _ h1);exact⟨_,_,none,hc,eo,rfl,rfl,True.intro⟩
 |exn1 hc h1 hd1 hl1 r1=>
  obtain⟨_,⟨us',sl,eo,_⟩,_⟩:=I.hok a _ (g _ _ h1);obtain⟨mA,⟨od,es,ep,e,_⟩,hr⟩:=I.hok _ _ (g _ _ hd1);exact⟨_,_,some od,hc,eo,rfl,rfl,e⟩
def cl_1{v2:V}{u2:Value}(r2:∀u,RelV v2 u->u=u2){tb:List (Str×Bool)}(k:IsOne X.K u2 tb):Ei X (.builtin "isinstance") (λxs H Q=>∃G x c ns vs b,xs= [x,v2]/\Same G H/\Has X.K G x (.exn c ns vs)/\tb.lookup c=some b/\Q (.bl b) H):=by
 intro zd s σ H xs us Q I rv h;obtain⟨G,x,c,ns,vs,b,rfl,g,r,e,q⟩:=h;obtain⟨u,u2',rfl,r1,rr⟩:=rv.two;obtain rfl:=r2 _ rr;have fin:∀tk,EP X zd σ Q (.bool b) {s with toks:=tk}:=λtk=>⟨.bl b,H,I.tok _,rfl,q⟩;obtain⟨a,rfl⟩:∃a,x=.ref a:=by cases r <;> exact⟨_,rfl⟩
 obtain rfl:u=Value.ref a:=r1;obtain⟨C,ox,od,hc,io⟩:=db_7 I g r;obtain⟨xi,ko⟩:=k c b e C hc;exact kia_one (ck_9 xi) I.kIn io ko (λz=>nomatch z) fin
def cu_9{Cs:List Addr}{tb:List (Str×Bool)}(k:IsAny X.K Cs tb):Ei X (.builtin "isinstance") (λxs H Q=>∃G x p c ns vs b,xs= [x,.ref p]/\Same G H/\Has X.K G x (.exn c ns vs)/\SqT X.K H p (Cs.map V.ref)/\tb.lookup c=some b/\Q (.bl b) H):=by
 intro zd s σ H xs us Q I rv h;obtain⟨G,x,p,c,ns,vs,b,rfl,g,r,ht,e,q⟩:=h;obtain⟨u,u2',rfl,r1,rr⟩:=rv.two;obtain rfl:u2'=Value.ref p:=rr;have fin:∀tk,EP X zd σ Q (.bool b) {s with toks:=tk}:=λtk=>⟨.bl b,H,I.tok _,rfl,q⟩;obtain⟨a,rfl⟩:∃a,x=.ref a:=by cases r <;> exact⟨_,rfl⟩
 obtain rfl:u=Value.ref a:=r1;obtain⟨C,ox,od,hc,io⟩:=db_7 I g r;obtain⟨xi,ko⟩:=k c b e C hc;obtain⟨its,rv',⟨o,e1,c1,n,d1⟩,_⟩:=I.tuple ht;have ei:its=Cs.map Value.ref:=bv_5 rv';subst ei;obtain⟨oc,odi,oda,osl⟩:=o;simp only at c1 d1;subst c1 d1;exact kia_tup (ck_9 xi) I.kIn io e1 ko (λz=>nomatch z) fin
variable{a:Expr}{fo:FE}{tb:List (Str×Bool)}{pp pos:Pos}
def bk_7{δ:DE}{Q:VK}{P:VK}(g0:Same G H)(s0:HasS K G σ δ)(o:Out K (EX σ) G H (Ff tb fo δ) Q)
  (i:∀v G' H' c ns vs b,Step G H G' H'->Has K G' v (.exn c ns vs)->tb.lookup c=some b->WP K G' H' (.sh (.bl b)) Q->P v H'):tD K EX fo σ H P:=by
 refine tD.seq g0 s0 o λw v G1 H1 _ st1 r1 o1=> ?_;revert r1 o1;cases w.d with
 |exn c ns vs=>
  intro r1 o1;have o1:Out K (EX σ) G1 H1 (match tb.lookup c with|some b=> .ok (.sh (.bl b))|none=> .no) Q:=o1;cases e:tb.lookup c with
  |none=>rw[e]at o1;exact o1.elim
  |some b=>rw[e]at o1;exact i v G1 H1 c ns vs b st1 r1 e o1
 |_=>intro _ o1;exact False.elim o1
def bk_8{cn:Str}{C2:Addr}{p3:Pos}(k:IsOne X.K (.ref C2) tb)(ha:ED X EX a fo)(hm:X.mg "isinstance" =none)(hmC:X.mg cn=some (.ref C2))(hg:Gl X "isinstance" :=by rfl)(hgC:Gl X cn:=by rfl)(hdC:AG cn:=by decide)
  (he:starEach [a,.Name cn p3] X.env=(false,eval a X.env)::starEach [.Name cn p3] X.env:=by rfl) (hpl:(backTo pos (starEach [.Name cn p3] X.env)).any (·.1)=false:=by rfl)
  (hs:starEach [.Name cn p3] X.env=(false,eval (.Name cn p3) X.env)::starEach [] X.env:=by rfl):ED X EX (.Call (.Name "isinstance" pp) [a,.Name cn p3] [] pos) (Ff tb fo):=
 PE.imp (af_3 (cl_1 (v2:=.ref C2) (λ_ r=>r) k) hg hm T6 (Gj ha (Gj (av_0 (v:=.ref C2) hgC hmC rfl hdC) u_3 hs) he) ⋯ ⋯ he hpl) λ σ H Q ⟨G,δ,g0,s0,o⟩=>
  bk_7 g0 s0 o λv G' H' c ns vs b st r e q=>⟨G',v,c,ns,vs,b,rfl,st.gh,r,e,WP.use q st.gh (.bl b)⟩
def er_5{Tn:Str}{T:String}{p3:Pos}(k:IsOne X.K (.type T) tb)(ha:ED X EX a fo)(hm:X.mg "isinstance" =none)(hmT:X.mg Tn=none)(hvT:bootBuiltins Tn=some (.type T))(hg:Gl X "isinstance" :=by rfl)(hgT:Gl X Tn:=by rfl)
  (hn:Tn≠ "__name__" :=by decide) (hdT:AG Tn:=by decide)
  (he:starEach [a,.Name Tn p3] X.env=(false,eval a X.env)::starEach [.Name Tn p3] X.env:=by rfl) (hpl:(backTo pos (starEach [.Name Tn p3] X.env)).any (·.1)=false:=by rfl)
  (hs:starEach [.Name Tn p3] X.env=(false,eval (.Name Tn p3) X.env)::starEach [] X.env:=by rfl):ED X EX (.Call (.Name "isinstance" pp) [a,.Name Tn p3] [] pos) (Ff tb fo):=
 PE.imp (af_3 (cl_1 (v2:=.ty T) (λ_ r=>r) k) hg hm T6 (Gj ha (Gj (cy_8 (v:=.ty T) hgT hmT hvT rfl hn hdT) u_3 hs) he) ⋯ ⋯ he hpl) λ σ H Q ⟨G,δ,g0,s0,o⟩=>
  bk_7 g0 s0 o λv G' H' c ns vs b st r e q=>⟨G',v,c,ns,vs,b,rfl,st.gh,r,e,WP.use q st.gh (.bl b)⟩
def db_8(Cs:List Addr):TA:=λ_ H Q=>Q (Cs.map V.ref) H
def db_9:PA X [] (db_8 []):=u_3
def ab_2{cn:Str}{C2:Addr}{p3:Pos}{es:List Expr}{Cs:List Addr}(hmC:X.mg cn=some (.ref C2))(hr:PA X es (db_8 Cs))(hgC:Gl X cn:=by rfl)(hdC:AG cn:=by decide)
  (hs:starEach (.Name cn p3::es) X.env=(false,eval (.Name cn p3) X.env)::starEach es X.env:=by rfl):PA X (.Name cn p3::es) (db_8 (C2::Cs)):=Gj (av_0 (v:=.ref C2) hgC hmC rfl hdC) hr hs
def cl_2{Cs:List Addr}{es:List Expr}{x1}{p3:Pos}(k:IsAny X.K Cs tb)(ha:ED X EX a fo)(hm:X.mg "isinstance" =none)(hes:PA X es (db_8 Cs))(hz:Nat.ble Cs.length 64=true:=by rfl)(hg:Gl X "isinstance" :=by rfl)
  (he:starEach [a,.Tuple es x1 p3] X.env=(false,eval a X.env)::starEach [.Tuple es x1 p3] X.env:=by rfl) (hpl:(backTo pos (starEach [.Tuple es x1 p3] X.env)).any (·.1)=false:=by rfl)
  (hs:starEach [.Tuple es x1 p3] X.env=(false,eval (.Tuple es x1 p3) X.env)::starEach [] X.env:=by rfl):ED X EX (.Call (.Name "isinstance" pp) [a,.Tuple es x1 p3] [] pos) (Ff tb fo):=
 PE.imp (af_3 (cu_9 k) hg hm T6 (Gj ha (Gj (cr_9 hes) u_3 hs) he) ⋯ ⋯ he hpl) λ σ H Q ⟨G,δ,g0,s0,o⟩=>
  bk_7 g0 s0 o λv G' H' c ns vs b st r e q=>by
   show(Cs.map V.ref).length<=sizeLine/\∀p,H' p=none->_;refine⟨by have:=Nat.le_of_ble_eq_true hz;rw[A0,E5];omega,λp hp=> ?_⟩;have st2:Step G' H' (upd G' p (.tup (Cs.map V.ref))) (upd H' p (.tup (Cs.map V.ref))):=Step.new st.gh hp _;exact⟨_,v,p,c,ns,vs,b,rfl,st2.gh,r.mono st2.gg,SqT.of Ct,e,WP.use (WP.mono st2 q) st2.gh (.bl b)⟩
end
def bf_7:bootBuiltins "ValueError" =some (.type "ValueError"):=by decide +kernel
theorem RoomC.units{c:Bool}{k:Nat}{A:Around}(r:RoomC c k A):A.units + 64 < cLine:=by have:=r.un;omega
section
variable{X:Cx}{c:Bool}{k:Nat}{zd:AE}{W:AA}{e:HX}
def cl_3(h:RoomC c k (Cx.A X)):RoomC c k (Cx.A (tryB X zd W)):=h
def af_7(h:RoomC c k (Cx.A X)):RoomC false k (Cx.A (hand X e)):=h.mark _
def du_1(h:Cx.calm X=true):Cx.calm (Cx.nox X)=true:=h
def Gh{cm:Bool}{w:World}{N:List Str}{qual:Str}{scope:Scope}{f:Addr}{cd:Value}{A:Around}{outer:List Env}{s:Shared}{E:XK}:
  PassesOwn (model P w) (Cx.A (El cm P w K mg base N qual scope f cd A outer s H E)) (Cx.env (El cm P w K mg base N qual scope f cd A outer s H E)) (Cx.xe (El cm P w K mg base N qual scope f cd A outer s H E)):=
 λe s' h=>wpAny_leaving_again (SameStack.refl _) h
def Catches.one{C2:Addr}{c:Str}{C:Addr}{b:Bool}(a:ClsAt K c C)(h:exmOne K (.ref C) (.ref C2)=some b){tb:List (Str×Bool)}(r:Catches K C2 tb):Catches K C2 ((c,b)::tb):=λc' b' e C' a'=>by
 rw[E7]at e;cases z:(c' ==c) with
 |true=>
  rw[z]at e;cases e;have:c'=c:=eq_of_beq z;subst this;unfold ClsAt at a a';rw[a]at a';cases a';exact h
 |false=>rw[z]at e;exact r c' b' e C' a'
def Catches.nil{C2:Addr}:Catches K C2 []:=λ_ _ e=>by cases e
def IsOne.nil{v:Value}:IsOne K v []:=λ_ _ e=>by cases e
def IsOne.one{v:Value}{c:Str}{C:Addr}{b:Bool}(a:ClsAt K c C)(x:XInst K C)(h:kitOne K (.ref C) v=some b){tb:List (Str×Bool)}(r:IsOne K v tb):IsOne K v ((c,b)::tb):=λc' b' e C' a'=>by
 rw[E7]at e;cases z:(c' ==c) with
 |true=>
  rw[z]at e;cases e;have:c'=c:=eq_of_beq z;subst this;unfold ClsAt at a a';rw[a]at a';cases a';exact⟨x,h⟩
 |false=>rw[z]at e;exact r c' b' e C' a'
def IsAny.nil{v:List Addr}:IsAny K v []:=λ_ _ e=>by cases e
def IsAny.one{v:List Addr}{c:Str}{C:Addr}{b:Bool}(a:ClsAt K c C)(x:XInst K C)(h:kitAny K (.ref C) (v.map Value.ref)=some b){tb:List (Str×Bool)}(r:IsAny K v tb):IsAny K v ((c,b)::tb):=λc' b' e C' a'=>by
 rw[E7]at e;cases z:(c' ==c) with
 |true=>
  rw[z]at e;cases e;have:c'=c:=eq_of_beq z;subst this;unfold ClsAt at a a';rw[a]at a';cases a';exact⟨x,h⟩
 |false=>rw[z]at e;exact r c' b' e C' a'
def XGets.nil{f:Str}:XGets K [] f:=λ_ e=>by cases e
def XGets.one{f c:Str}{C:Addr}(a:ClsAt K c C)(x:XGet K C f){cs:List Str}(r:XGets K cs f):XGets K (c::cs) f:=λc' e C' a'=>by
 rcases B3.mp e with rfl|e
 ·unfold ClsAt at a a';rw[a]at a';cases a';exact x
 ·exact r c' e C' a'
end
structure Hd where
 i:Option Nat
 tb:List (Str×Bool)
 h:FS
def hdGo(d:Hd)(x:Xn)(Δ:SE):Fl:=match d.i with
 |some i=>ek_1 i (d.h (Δ.set i (.sh (.exn x.c x.ns x.vs))))
 |none=>(match d.h Δ with
  | .ex _ _=> .no
  |r=>r)
def tryH:List Hd->Xn->SE->Fl
 | [],_,_=> .no
 |d::r,x,Δ=>match d.tb.lookup x.c with
  |some true=>hdGo d x Δ
  |some false=>tryH r x Δ
  |none=> .no
def Gc(g:FS)(hs:List Hd):FS:=λ Δ=>match g Δ with
 | .ex x Δ1=>tryH hs x Δ1
 |r=>r
inductive HOk3(X:Cx):List ExceptHandler->List Hd->Prop where
 |nil:HOk3 X [] []
 |as_ {c n:Str} {C2:Addr} {b₀:Stmt} {ag:List Stmt} {np hp:Pos} {i:Nat} {tb:List (Str×Bool)} {h:FS} {hs:List ExceptHandler} {ds:List Hd} (hc:X.mg c=some (.ref C2)) (ct:Catches X.K C2 tb) (hh:∀e,BD (hand X e) Di (b₀::ag) h) (r:HOk3 X hs ds)
   (hi:X.N[i]? =some n:=by rfl) (hk:X.env.scope.names.lookup n=some .local:=by rfl) (hg:Gl X c:=by rfl) (hdb:AG c:=by decide):
   HOk3 X (.ExceptHandler (some (.Name c np)) (some n) (b₀::ag) hp::hs) (⟨some i,tb,h⟩::ds)
 |bare {c:Str} {C2:Addr} {b₀:Stmt} {ag:List Stmt} {np hp:Pos} {tb:List (Str×Bool)} {h:FS} {hs:List ExceptHandler} {ds:List Hd} (hc:X.mg c=some (.ref C2)) (ct:Catches X.K C2 tb) (hh:∀e,BD (hand X e) Di (b₀::ag) h) (r:HOk3 X hs ds)
   (hg:Gl X c:=by rfl) (hdb:AG c:=by decide):
   HOk3 X (.ExceptHandler (some (.Name c np)) none (b₀::ag) hp::hs) (⟨none,tb,h⟩::ds)
def EXh(K:Frag)(EX:Bt)(D:Ends)(ds:List Hd):Bt:=λ σ=>⟨λx G H=>∃H0 G0 Δ O,Ev K H0 G0 G H σ Δ O/\Fin K EX H0 G0 G D (tryH ds x Δ),
 λ_ _ _ _ _ s ⟨H0,G0,Δ,O,E,f⟩=>⟨H0,G0,Δ,O,E.grow s,Fin.mono s.gg f⟩⟩
def ef_4{EX:Bt}{H0:HB}{G0 G1:Hp}{D:Ends}{r:Fl}(q:Fin K EX H0 G0 G1 D (match r with| .ex _ _=> .no|r=>r)):Fin K Di H0 G0 G1 {nx:=D.nx,rt:=D.rt,bk:=D.bk,ct:=D.ct} r:=by
 cases r with
 |nx Δ=>exact q
 |bk Δ=>exact q
 |ct Δ=>exact q
 |rt w=>exact q
 |ex x Δ=>exact q.elim
 |no=>exact q
section
variable{X:Cx}{EX:Bt}{g:FS}{body:List Stmt}{pos:Pos}
def dj_9(hN:X.N.Nodup){zd:AE}{D:Ends}{a C T2:Addr}{dx:Option Addr}{σ1 σ0:Sg}{H1 H2:Hp}{s1 s2:Shared}{h2:Heap}{x:Xn}{H0':HB}{G2 G0':Hp}{Δ1:SE}{O1:OS}{e0:HX}{h9:Heap}(ha:e0.a=a)(hC:e0.C=C)(hx:e0.dx=dx)(zz:X.s₀.heap.objs.size<=e0.a)
  (J1:Inv X zd σ0 H1 s1) (J3:Inv X zd σ1 H2 {s2 with heap:=h9}) (J4:Inv X zd σ1 (upd H2 a e0.ho) {s2 with heap:=h2}) (st4:Step G2 H2 (upd G2 a e0.ho) (upd H2 a e0.ho))
  (n1:H2 a=none) (sg2:Same G2 H2) (ea:ExcAt X.K G2 (.ref C) dx x) (LT:Looks (model X.prog X.w) h2 (typeOf (.ref a)) (.ref C)) (hcC:ClsAt X.K x.c C)
  (E1:Ev X.K H0' G0' G2 H2 σ1 Δ1 O1)
  (flt:∀{A:Around} {E:AA} {Q:Unit->Shared->Prop},(∀h3,Inv X zd σ1 (upd H2 a e0.ho) {s2 with heap:=h3}->Q .unit {s2 with heap:=h3})->wpAny (model X.prog X.w) A (setFlight (.ref a) none) Q E {s2 with heap:=h2}):
  ∀{hs:List ExceptHandler} {ds:List Hd},HOk3 X hs ds->Fin X.K EX H0' G0' G2 D (tryH ds x Δ1)->wpAny (model X.prog X.w) X.A (handleBy (.ref a) X.env hs) (SP X zd D) X.xe {s2 with heap:=h2}:=by
 subst ha hC hx;intro hs ds ho
 induction ho with
 |nil=>intro q;exact False.elim q
 |as_ hc ct hh r hi hk hg hdb ih=>
  rename_i c n C2 b₀ ag np hp i tb h hs ds;intro q;refine wpAny_handleBy_cons (codeAny_handlers_test ?_) (by intro z;cases z);refine x_9 (X:=hand X e0) (Inv.toH J4 zz Ct) hg hc ?_ hdb;unfold tryH at q;cases e2:tb.lookup x.c with
  |none=>simp only[e2]at q;exact q.elim
  |some b=>
   have em:=ct _ _ e2 _ hcC;refine ZB9 (s:={s2 with heap:=h2}) (exm_one J4.kIn LT em) ?_;cases b with
   |false=>simp only[e2]at q;exact ih q
   |true=>
    simp only[e2,hdGo]at q;show codeAny _ _ _ _ _;refine codeAny_handlers_suite_as (flt λh3 J5=> ?_);refine bi_5 (X:=hand X e0) (v:=.ref e0.a) (Inv.toH J5 zz Ct) hN hi (.inl hk) rfl (λs6 I6=> ?_) (.inr hk);have E6:=(E1.grow st4).put (i:=i) (Has.exc (sg2.free n1) ea);refine F1 (hh e0 zd s6 _ _ _ I6 ⟨H0',G0',_,_,O1,E6,dt_9 (Fin.mono st4.gg q)⟩) (λf s7 h7=> ?_) λ_ _ z=>False.elim z;show wpAny _ X.A (do bindName X.env n .none;unbindBehindTheSuite X.env n hp) (λ_ s₃=>SP X zd D f s₃) _ s7;cases f with
    |next=>
     obtain⟨σ7,H7,I7,q7⟩:=h7;exact ap_2 (Inv.ofH J3 n1 zz I7) hN hi hk λs8 I8=>⟨_,H7,I8,q7⟩
    |brk=>
     obtain⟨σ7,H7,I7,q7⟩:=h7;exact ap_2 (Inv.ofH J3 n1 zz I7) hN hi hk λs8 I8=>⟨_,H7,I8,q7⟩
    |cont=>
     obtain⟨σ7,H7,I7,q7⟩:=h7;exact ap_2 (Inv.ofH J3 n1 zz I7) hN hi hk λs8 I8=>⟨_,H7,I8,q7⟩
    |ret u=>
     obtain⟨v,σ7,H7,I7,r7,q7⟩:=h7;exact ap_2 (Inv.ofH J3 n1 zz I7) hN hi hk λs8 I8=>⟨v,_,H7,I8,r7,q7⟩
 |bare hc ct hh r hg hdb ih=>
  rename_i c C2 b₀ ag np hp tb h hs ds;intro q;refine wpAny_handleBy_cons (codeAny_handlers_test ?_) (by intro z;cases z);refine x_9 (X:=hand X e0) (Inv.toH J4 zz Ct) hg hc ?_ hdb;unfold tryH at q;cases e2:tb.lookup x.c with
  |none=>simp only[e2]at q;exact q.elim
  |some b=>
   have em:=ct _ _ e2 _ hcC;refine ZB9 (s:={s2 with heap:=h2}) (exm_one J4.kIn LT em) ?_;cases b with
   |false=>simp only[e2]at q;exact ih q
   |true=>
    simp only[e2,hdGo]at q;show codeAny _ _ _ _ _;refine codeAny_handlers_suite (flt λh3 J5=> ?_);have E6:=E1.grow st4;refine F1 (hh e0 zd {s2 with heap:=h3} _ _ _ (Inv.toH J5 zz Ct) ⟨H0',G0',_,_,O1,E6,ef_4 (Fin.mono st4.gg q)⟩) (λf s7 h7=> ?_) λ_ _ z=>False.elim z;cases f with
    |next=>
     obtain⟨σ7,H7,I7,q7⟩:=h7;exact⟨_,H7,Inv.ofH J3 n1 zz I7,q7⟩
    |brk=>
     obtain⟨σ7,H7,I7,q7⟩:=h7;exact⟨_,H7,Inv.ofH J3 n1 zz I7,q7⟩
    |cont=>
     obtain⟨σ7,H7,I7,q7⟩:=h7;exact⟨_,H7,Inv.ofH J3 n1 zz I7,q7⟩
    |ret u=>
     obtain⟨v,σ7,H7,I7,r7,q7⟩:=h7;exact⟨v,_,H7,Inv.ofH J3 n1 zz I7,r7,q7⟩
def dc_0{hd0:ExceptHandler}{hs0:List ExceptHandler}{ds:List Hd}(hN:X.N.Nodup)(hfr:X.env.frame=some X.env.locals)(hst:X.stack=X.env::X.outer)(hb:∀zd W EXB,Lk (tryB X zd W) EXB->BD (tryB X zd W) EXB body g)(ho:HOk3 X (hd0::hs0) ds):
  SD X EX (.Try body (hd0::hs0) [] [] pos) (Gc g ds):=by
 intro zd s σ H D I q;obtain⟨H0,G0,G,Δ,O,E,q⟩:=q;refine wpAny_Try_except ?_;have lk:Lk (tryB X zd λe s₁=>wpAny (model X.prog X.w) X.A (noteFrame e X.env) (λ_ s₂=>wpAny (model X.prog X.w) X.A (setFlight e none) (λ_ s₃=>wpAny (model X.prog X.w) X.A (handleBy e X.env (hd0::hs0)) (SP X zd D) X.xe s₃) X.xe s₂) X.xe s₁) (EXh X.K EX D ds):=by
  intro ak σ1 H1 s1 e s2 I1 cx;obtain⟨a,C,dx,T,H2,rfl,I2,tr,n1,n2,z1,z2,x,G2,sg2,ea,H0',G0',Δ1,O1,E1,f1⟩:=Inv.raised I1 cx;show wpAny _ X.A (noteFrame (.ref a) X.env) _ _ s2;have J1:=Inv.ofB I1;have J2:=Inv.ofB I2;refine bt_6 (outer:=X.outer) (by rw[<-hst];exact J2.ok.frames) (by rw[<-hst];exact J2.stack) hfr tr λh1 T2 z3 k1 t1=> ?_;refine ac_7 t1 λh2 k2 t2=> ?_;have zT2:H2 T2=none:=J2.hok.fresh z3;have J3:Inv X zd σ1 H2 {s2 with heap:=h2}:=by
   refine Inv.settle (ch:=[a,T] ++ [T2]) J1 J2 (λb hb=> ?_) ?_
   ·have:b=a\/b=T\/b=T2:=by simpa using hb
    rcases this with rfl|rfl|rfl
    ·exact⟨z1,n1⟩
    ·exact⟨z2,n2⟩
    ·exact⟨C5 z1 (C5 (S8 (A7 tr.ob.choose_spec.choose_spec.1)) z3),zT2⟩
   ·rw[hst];exact k1.trans (KeepX.of_same k2)
  obtain⟨⟨oa,ua,ga,gc,gd,gf,g1,g2⟩,ne,tbk⟩:=id t2;have goa:h2.get? a=some ⟨.ref C,dx,.fields ua,oa.slots⟩:=by
   obtain⟨c1,d1,e1,s1⟩:=oa;simp only at gc gd gf;subst gc gd gf;exact ga
  let e0:HX:=⟨a,C,dx,ua,oa.slots,g2⟩
  have zz:X.s₀.heap.objs.size<=e0.a:=C5 J1.sz z1;have J4:Inv X zd σ1 (upd H2 a e0.ho) {s2 with heap:=h2}:=Inv.speak J1 J3 z1 goa g2 n1;have st4:Step G2 H2 (upd G2 a e0.ho) (upd H2 a e0.ho):=Step.new sg2 n1 _;have LT:Looks (model X.prog X.w) h2 (typeOf (.ref a)) (.ref C):=gc▸(Looks.ld ga).andThen .now;obtain⟨hcC⟩:Nonempty (ClsAt X.K x.c C):=by cases ea with|bare hc=>exact⟨hc⟩|with_ hc _ _ _=>exact⟨hc⟩
  refine dj_9 (e0:=e0) (T2:=T2) hN rfl rfl rfl zz J1 J3 J4 st4 n1 sg2 ea LT hcC E1 (λ{A E Q} hq=> ?_) ho f1;refine ac_7 t2 λh3 k3 t3=>hq h3 ?_;refine Inv.settle (ch:=[T2]) (s':={s2 with heap:=h2}) J1 J4 (λb hb=> ?_) (KeepX.of_same k3);have:b=T2:=by simpa using hb
  subst this;exact⟨C5 z1 (C5 (S8 (A7 tr.ob.choose_spec.choose_spec.1)) z3),by rw[Bm ne];exact zT2⟩
 refine F1 (hb zd _ _ lk [] s σ H D (Inv.toB I) ⟨H0,G0,G,Δ,O,E, ?_⟩) (λf s1 hs=> ?_) λ_ _ z=>z
 ·unfold Gc at q;cases e1:g Δ with
  |ex x Δ1=>
   rw[e1]at q;exact λ σ1 G1 H1 O1 E1 sg=>⟨H0,G0,Δ1,O1,E1,Fin.mono sg q⟩
  |nx Δ1=>rw[e1]at q;exact q
  |bk Δ1=>rw[e1]at q;exact q
  |ct Δ1=>rw[e1]at q;exact q
  |rt w=>rw[e1]at q;exact q
  |no=>rw[e1]at q;exact q
 ·have hs':=SP.ofB hs;cases f with
  |next=>exact T5 hs'
  |brk=>exact hs'
  |cont=>exact hs'
  |ret u=>exact hs'
end
section
variable{prog:Program}{w:World}{A:Around}{E:AA}{h:Heap}{g:Array GenState}{d:Drawn}{t:Nat}{os:OsState}
variable{nm q:Str}{C N:Addr}{bs bm bmB:List Value}{bc:Bool}{sn:List Str}{sub:List Value}{ab:Bool}{col:Option Bool}{dd:Option Addr}{k0 k1 k2 k3 k5:Option Value}{B newId ah:String}
def cv_0(FB:ExcBaseFacts B newId ah bmB)(T:OwnTail h bmB bm){mN:AB}{Q:PySem.Fin->Shared->Prop}
  (hC:h.get? C=some (excClassObj nm q C N bs bm bc sn sub ab col dd k0 k1 k2 k3 k5 newId)) (hn:h.Ns N mN) (hi:mN "__init__" =none)
  (z:∀h' e,Heap.MadeExcOf h h' e (.ref C) []->h.objs.size<=e->Q (.done (.ret (.ref e))) ⟨h',g,d,t,os⟩):
  wpAny (model prog w) A (Builtin.«type.__call__» ⟨[.ref C],[]⟩) Q E ⟨h,g,d,t,os⟩:=by
 wp_walk using M4 hC,wpAny_madeBy_exc hC
 refine Y1 (U2 _ FB.quiet) (wpAny_check_new_subT FB T hC ?_);refine codeAny_exc_new_subT FB T hC ?_ (by show 0<=sizeLine;exact L9 _);show wpAny _ _ _ _ _ _;generalize e1:({cls:=.type "tuple",data:=.seq ([]:List Value).toArray}:Obj)=o1;generalize e2:({cls:=.ref C,data:=.fields #[.ref h.objs.size,.none,.none,.none,.bool false,.none]}:Obj)=o2;have up:∀b o,h.get? b=some o->((h.push o1).push o2).get? b=some o:=λb o e=>A4 _ (A4 _ e);have ge:((h.push o1).push o2).get? (h.objs.size + 1)=some o2:=by
  have:=C1 (h.push o1) (o:=o2) (by rw[<-e2];rfl)
  rwa[L4]at this
 have hC1:=up _ _ hC;have hn1:((h.push o1).push o2).Ns N mN:=hn.keeps up;have T1:=T.keeps up;have cl:o2.cls=.ref C:=by rw[<-e2]
 have hcC:List.contains (Value.ref C::bm) (.ref C)=true:=V9.mpr (.head _);unfold isInstance
 repeat (first|(with_reducible refine M4 ge ?_;rw[cl])|(with_reducible refine X1 hC1 ?_;rw[hcC])|wp_step)
 show wpAny _ _ (typeLookup (.ref C) _) _ _ _;refine wpAny_typeLookup_tail hC1 hn1 T1 FB.mroIs FB.init.lookup ?_;rw[hi];refine K9 (A3 (wpAny_of_eq (FB.init.bind _) ?_));refine A3 (R7 (S6 FB.init.plain FB.initEntry (wpAny_check_init_subT FB T1 hC1 ge cl ?_)));subst e1 e2
 wp_walk
 refine z _ (h.objs.size + 1) ⟨λb o hb=> ?_,N8 (U6 _),h.objs.size + 2, ?_,N8 (), ?_⟩ (U6 _)
 ·rw[F4 _ _ (Ne.symm (C7 (Y7 (A7 hb))))];exact A4 _ (up b o hb)
 ·rw[N2 _ (A4 _ ge) rfl,L4,L4];rfl
 ·rw[F4 _ _ (C7 (P7 (h.objs.size + 1)))];exact Heap.get?_push_at (by rw[L4,L4]) rfl
def dk_0(FB:ExcBaseFacts B newId ah bmB)(T:OwnTail h bmB bm){mN:AB}{Q:AA}
  (hC:h.get? C=some (excClassObj nm q C N bs bm bc sn sub ab col dd k0 k1 k2 k3 k5 newId)) (hn:h.Ns N mN) (hi:mN "__init__" =none)
  (z:∀h' e,Heap.MadeExcOf h h' e (.ref C) []->h.objs.size<=e->Q (.ref e) ⟨h',g,d,t,os⟩):
  wpAny (model prog w) A (call (.ref C) []) Q E ⟨h,g,d,t,os⟩:=by
 have f1:=tc_lookup;have f2:=tc_bind (.ref C);have Du:Shared.TypeIs ⟨h,g,d,t,os⟩ (.ref C) "type" :=⟨_,hC,rfl⟩;refine R7 (codeAny_of_tree (?_:wpAny _ _ (callAny (.ref C) _) _ _ _))
 wp_walk using M4 hC
 refine⟨rfl, ?_⟩;exact Z5 (U2 _ nofun) entry_typeCall (Y2 hC (cv_0 FB T hC hn hi z))
end
def XMk0(K:Frag)(C:Addr):Prop:=∃(nm q:Str) (N:Addr) (bs bm:List Value) (sn:List Str) (sub:List Value) (ab:Bool) (col:Option Bool) (dd:Option Addr) (k0 k1 k2 k3 k5:Option Value) (mN:AB),
 K.lookup C=some (excClassObj nm q C N bs bm true sn sub ab col dd k0 k1 k2 k3 k5 "ValueError.__new__")/\(∀h:Heap,K.In h->OwnTail h bmVE bm)/\(∀h:Heap,K.In h->h.Ns N mN)/\mN "__init__" =none
def ef_6{C N L:Addr}{nm q:Str}{bs:List Value}{sn:List Str}{sub:List Value}{ab:Bool}{col:Option Bool}{dd:Option Addr}{k0 k1 k2 k3 k5:Option Value}{oc c0 oL:Value}{od ddL odL:Option Addr}{es esL:Array DictEntry}{ep epL:Nat}{sl sl0 slL:Array (Option Value)}{cd:ClassData}
  (lc:K.lookup C=some (excClassObj nm q C N bs (.ref L::bmVE) true sn sub ab col dd k0 k1 k2 k3 k5 "ValueError.__new__")) (ln:K.lookup N=some ⟨oc,od,.dict es ep,sl⟩) (kn:t_0 es=true) (hi:nsFind es "__init__" =none)
  (ll:K.lookup L=some ⟨c0,ddL,.cls cd,sl0⟩) (lm:K.lookup cd.ns=some ⟨oL,odL,.dict esL epL,slL⟩) (km:t_0 esL=true) (hL:nsFind esL "__init__" =none):XMk0 K C:=
 ⟨nm,q,N,bs,_,sn,sub,ab,col,dd,k0,k1,k2,k3,k5,nsFind es,lc,λh X=> .own (X _ _ ll) (db_6 lm km X) hL .base,λh X=>db_6 ln kn X,hi⟩
structure XC0(K:Frag)(mg:AB)(c:Str)(C:Addr):Prop where
 at_:ClsAt K c C
 glob:mg c=some (.ref C)
 kp:keepIn K (.ref C)=true
 made:XMk0 K C
def aw_6(c:Str):FS:=λ Δ=> .ex ⟨c,[],[]⟩ Δ
section
variable{X:Cx}{C:Addr}{c:Str}
def bv_6{EX:Bt}{np zf pos:Pos}(M:XC0 X.K X.mg c C)(hr:RoomC true 2 X.A)(l1:Lk1 X EX)(hg:Gl X c:=by rfl)(hdb:AG c:=by decide):
  SD X EX (.Raise (some (.Call (.Name c np) [] [] zf)) none pos) (aw_6 c):=by
 intro zd s σ H D I q;obtain⟨H0,G0,G,Δ,O,E,q⟩:=q;obtain⟨nm,qn,N,bs,bm,sn,sub,ab,col,dd,k0,k1,k2,k3,k5,mN,lc,tl,hn,hi⟩:=M.made;have hB:bm.contains (.type "BaseException")=true:=bb_1 (tl s.heap I.kIn);rw[arm_exec_Raise];have mk:wpAny (model X.prog X.w) X.A (eval (.Call (.Name c np) [] [] zf) X.env) (λv s1=>∃a t dx,v=.ref a/\s1.heap.get? C=some (excClassObj nm qn C N bs bm true sn sub ab col dd k0 k1 k2 k3 k5 "ValueError.__new__")/\
   s1.heap.get? a=some {cls:=.ref C,dict:=dx,data:=.fields #[.ref t,.none,.none,.none,.bool false,.none]}/\X.xe (.ref a) s1) X.xe s:=by
  refine L8 (x_9 I hg M.glob ?_ hdb);refine callWith_K0 I.kIn M.kp ?_;have KX:=I.kIn;obtain⟨hh,gg,dr,tk,os⟩:=s;refine dk_0 X9 (tl hh KX) (KX _ _ lc) (hn hh KX) hi λh' a me za=> ?_;obtain⟨kk,new,t,et,_,_⟩:=me;have I2:Inv X zd σ H ⟨h',gg,dr,tk,os⟩:=I.kept (h':=h') (t':=tk) kk;refine⟨a,t,none,rfl,I2.kIn _ _ lc,et, ?_⟩;exact l1 zd σ H H ⟨hh,gg,dr,tk,os⟩ ⟨h',gg,dr,tk,os⟩ a C none _ _ I I2 et rfl rfl rfl rfl rfl (I.hok.fresh za) za ⟨⟨c,[],[]⟩,G,E.st.gh,.bare M.at_,q σ G H O E (Same.refl _)⟩
 refine A3 (Q7 (bt_7 hB (hr.hd rfl) (A3 (F1 mk (λv s3 h3=>A3 (Q7 (C6 h3))) λ_ _ x=>x))))
end
end L3
namespace L3
open PySem L2
variable{K:Frag}{fd:FuncData}{mg:AB}{P:Program}{vs:List V}{us:List Value}{base:Heap}{H:Hp}{X:Cx}{pos:Pos}{v:V}
abbrev Ai{a b:Prop}(x:a)(y:b):a/\b:=⟨x,y⟩
def An:=Ai @Ag.eq_1 (Ai @Ar.eq_1 (Ai @Af.eq_1 (Ai @Al.eq_1 (Ai @gsome.eq_1 (Ai @give1.eq_1 (Ai @ZA7.{0,0} (Ai @List.foldl_nil.{0,0} (Ai @Am.eq_1 (Ai @Db.eq_1 (Ai @Bq.eq_1 (Ai @Bj.eq_1 (Ai @Ba.eq_1 (Ai @Bg.eq_1 (Ai @Aw.eq_1 (Ai @gall.eq_1 (Ai @cu_3 (Ai @dt_6 (Ai @dt_7 (Ai @cu_4 (Ai @er_2 (Ai @er_3 (Ai @ee_9 (Ai @ef_0 (Ai @ef_1 (Ai @Aj.eq_1 (Ai @Ab.eq_1 (Ai @eC.eq_1 (Ai @Ao.eq_1 (Ai @Ax.eq_1 (Ai @Cr.eq_1 (Ai @Cr.eq_2 (Ai @Cr.eq_3 (Ai @Cr.eq_4 (Ai @Cr.eq_5 (Ai @Cr.eq_6 (Ai @Cr.eq_7 (Ai @Eb.eq_1 (Ai @Eb.eq_2 (Ai @Ah.eq_1 (Ai @At.eq_1 (Ai @R.calm_ok (Ai @R.calm_no (Ai @R.calm_ex (Ai @Em.eq_1 (Ai @Em.eq_2 (Ai @Em.eq_3 (Ai @Em.eq_4 (Ai @Em.eq_5 (Ai @Gs.eq_1 (Ai @Ff.eq_1 (Ai @isND.eq_1 (Ai @isND.eq_2 (Ai @nonB.eq_1 (Ai @nonB.eq_2 (Ai @Ac.eq_1 (Ai @Aa.eq_1 (Ai @eTup.eq_1 (Ai @Au.eq_1 (Ai @eIf.eq_1 (Ai @eAnd.eq_1 (Ai @eOr.eq_1 (Ai @eNot.eq_1 (Ai @tAndF.eq_1 (Ai @Fx.eq_1 (Ai @Cm.eq_1 (Ai @eIs.eq_1 (Ai @cj_4 (Ai @cu_6 (Ai @cj_5 (Ai @cj_6 (Ai @cj_7 (Ai @cj_8 (Ai @ca_8 (Ai @cj_9 (Ai @ca_9 (Ai @cb_0 (Ai @cb_1 (Ai @cb_2 (Ai @ck_0 (Ai @cu_7 (Ai @ck_1 (Ai @ck_2 (Ai @ck_3 (Ai @ck_4 (Ai @cb_3 (Ai @ck_5 (Ai @cb_4 (Ai @cb_5 (Ai @cb_6 (Ai @cb_7 (Ai @bp_9 (Ai @cb_8 (Ai @bq_0 (Ai @bq_1 (Ai @bq_2 (Ai @bq_3 (Ai @Bs.eq_1 (Ai @Dm.eq_1 (Ai @Cu.eq_1 (Ai @intPart.eq_1 (Ai @intPart.eq_2 (Ai @Ia.eq_1 (Ai @eMeth0.eq_1 (Ai @tyD.eq_1 (Ai @tyD.eq_2 (Ai @tyD.eq_3 (Ai @tyD.eq_4 (Ai @Bf.eq_1 (Ai @Dj.eq_1 (Ai @Gv.eq_1 (Ai @Gv.eq_2 (Ai @Gv.eq_3 (Ai @Gv.eq_4 (Ai @R.bind_ok (Ai @R.bind_no (Ai @R.bind_ex (Ai @W.d_sh (Ai @W.d_ow (Ai @A9.{0,0} (Ai @N7.{0,0} (Ai @List.cons_append.{0} (Ai @ZA8.{0} (Ai @F9.{0} (Ai @F3.{0} (Ai @List.replicate_zero.{0} (Ai @D2.{0} (Ai @W6.{0} (Ai @U4.{0} (Ai @U5.{0} (Ai @R4.{0} (Ai @O6.{0} (Ai @if_true.{1} (Ai @S4.{1} (Ai @Bd.eq_1 (Ai @Bd.eq_2 (Ai @Bd.eq_3 (Ai @Bd.eq_4 (Ai @Bd.eq_5 (Ai @N5 (Ai @Bool.not_true (Ai @Y0 (Ai @Bool.true_and (Ai @Bool.false_and (Ai @O9 (Ai @N0 (Ai @M5 (Ai @gC.eq_1 (@gV.eq_1))))))))))))))))))))))))))))))))))))))))))))))))))))))))))))))))))))))))))))))))))))))))))))))))))))))))))))))))))))))))))))))))))))))))))))))))))))
end L3
namespace L3
open PySem PySem.Spec PyProof.Rows L2
variable{K:Frag}{fd:FuncData}{mg:AB}{P:Program}{vs:List V}{us:List Value}{base:Heap}{H:Hp}{X:Cx}{pos:Pos}{v:V}
abbrev HBd(c:Bool)(P:Program)(w:World)(K:Frag)(mg:AB)(base:Heap)(N:List Str)(qual:Str)(st:Stmt)(f:Addr)(k:Nat)(g:FS):Prop:=∀{zq:Value} {A:Around} {outer:List Env} {s:Shared} {H:Hp} {E:XK},(El c P w K mg base N qual (Ce st) f zq A outer s H E).calm=c->RoomC c k (Cx.A (El c P w K mg base N qual (Ce st) f zq A outer s H E))->(Cx.A (El c P w K mg base N qual (Ce st) f zq A outer s H E)).units + 64 < cLine->N.Nodup->Lk (El c P w K mg base N qual (Ce st) f zq A outer s H E) (λ_=>EXof K E)->
   BD (El c P w K mg base N qual (Ce st) f zq A outer s H E) (λ_=>EXof K E) (Fg st) g
def Bo{c:Bool}{w:World}{x qual:Str}{st:Stmt}{f:Addr}{N ps:List Str}{k:Nat}{g:FS}(F:Fun K x qual st f fd)
  (zk:HBd c P w K mg base N qual st f k g) (S:FnScope N ps (Ce st):=by exact⟨rfl,rfl,rfl,by decide +kernel,rfl,by decide +kernel,by decide +kernel⟩):FnX P w K mg base c (k + 1) f fd ps (Bh K ps.length (Ag N.length g)):=
 fn_D F S λzq A outer s H E hr=>zk rfl hr (RoomC.units hr) S.nd bz_7
def ex_7{c:Bool}{w:World}{x qual:Str}{st:Stmt}{f:Addr}{N ps:List Str}{k n:Nat}{g:FS}(F:Fun K x qual st f fd)(hn:ps.length=n + 1)(hle:ps.length<=N.length)
  (zk:HBd c P w K mg base N qual st f k g) (S:FnScope N ps (Ce st):=by exact⟨rfl,rfl,rfl,by decide +kernel,rfl,by decide +kernel,by decide +kernel⟩):FnX P w K mg base c (k + 1) f fd ps (spM K n (ci_7 N.length g)):=
 fn_M F S hn hle λzq A outer s H E hr=>zk rfl hr (RoomC.units hr) S.nd bz_7
def Gu{c:Bool}{w:World}{x qual cn:Str}{st:Stmt}{f C:Addr}{N ps:List Str}{k n:Nat}{g:FS}(F:Fun K x qual st f fd)(hC:ClsAt K cn C)(hn:ps.length=n + 1)(hle:ps.length<=N.length)
  (zk:HBd c P w K mg base N qual st f k g) (S:FnScope N ps (Ce st):=by exact⟨rfl,rfl,rfl,by decide +kernel,rfl,by decide +kernel,by decide +kernel⟩):FnX P w K mg base c (k + 1) f fd ps (spI K C n (AJ N.length cn g)):=
 fn_I F S hC hn hle λzq A outer s H E hr=>zk rfl hr (RoomC.units hr) S.nd bz_7
def FnAt(K:Frag)(x qual:Str)(st:Stmt)(f:Addr):Prop:=∃fd,Fun K x qual st f fd
def FnAt.mk{x qual:Str}{st:Stmt}{f:Addr}{oc kV dc pm cd ct:Value}{od an:Option Addr}{sl:Array (Option Value)}
  (l:K.lookup f=some ⟨oc,od,.func (fnOf x qual (l_1 st) (Fg st) (Ce st) .none kV dc pm an cd ct),sl⟩) (c:codeIn K cd qual=true) (k:keepIn K (.ref f)=true):FnAt K x qual st f:=⟨_,cs_2 l c k⟩
def FnTop(K:Frag)(x:Str)(st:Stmt):Prop:=∃f,nsIn K mainGlobals x=some (some (.ref f))/\FnAt K x x st f
theorem FnTop.mk{x:Str}{st:Stmt}{f:Addr}{oc kV dc pm cd ct:Value}{od an:Option Addr}{sl:Array (Option Value)}(a:nsIn K mainGlobals x=some (some (.ref f)))
  (l:K.lookup f=some ⟨oc,od,.func (fnOf x x (l_1 st) (Fg st) (Ce st) .none kV dc pm an cd ct),sl⟩) (c:codeIn K cd x=true) (k:keepIn K (.ref f)=true):FnTop K x st:=⟨f,a,FnAt.mk l c k⟩
def FnMet(K:Frag)(C:Addr)(x qual:Str)(st:Stmt):Prop:=∃f,findIn K (.ref C) x=some (some (.ref f))/\FnAt K x qual st f/\keepIn K (.ref f)=true/\isFn K (.ref f)=true
theorem FnMet.mk{C:Addr}{x qual:Str}{st:Stmt}{f:Addr}{oc kV dc pm cd ct:Value}{od an:Option Addr}{sl:Array (Option Value)}(a:findIn K (.ref C) x=some (some (.ref f)))
  (l:K.lookup f=some ⟨oc,od,.func (fnOf x qual (l_1 st) (Fg st) (Ce st) .none kV dc pm an cd ct),sl⟩) (c:codeIn K cd qual=true) (k:keepIn K (.ref f)=true) (i:isFn K (.ref f)=true):FnMet K C x qual st:=⟨f,a,FnAt.mk l c k,k,i⟩
def gcM{EX:Bt}{i:Nat}{x:Str}(hN:decide X.N.Nodup=true:=by rfl')(hi:X.N[i]? =some x:=by rfl)(hx:Loc X.env.scope x:=by trivial)
  (hf:X.fn x=true\/X.env.scope.names.lookup x=some .local:=by trivial):GC X EX (.Name x pos) (gC i):=ec_8 (K0 hN) hi hx hf
structure BaseI(K:Frag)(B f:Addr):Prop where
 sp:specialIn K (.ref B) "__getattribute__" =some (some (.builtin "type.__getattribute__"))
 rd:readsIn K B (.type "type")=true
 at_:findCls K (.ref B) (.type "type") "__init__" =some (.val (.ref f))
 kp:keepIn K (.ref f)=true
def MakB(P:Program)(w:World)(K:Frag)(mg:AB)(base:Heap)(cc:Bool)(b c:Str)(k n:Nat)(F:List D->R (List Str×List D)):Prop:=
 ∃B C f fd ps,ClsAt K c C/\mg b=some (.ref B)/\BaseI K B f/\FnX P w K mg base cc k f fd ps (spI K C n F)/\Binds K fd ps []
def at_6(i:Nat)(c:Str)(js:List Nat)(F:List D->R (List Str×List D))(fe:FE):FS:=λ Δ=>match(gsome js Δ)[i]? with
 |some (.lt (.obj c' [] []))=>if c'=c then(match fe (Bg (gsome js Δ)) with
  | .ok w=>(match F [w.d] with
   | .ok p=> .nx ((gsome js Δ).set i (.lt (.obj c p.1 (p.2.map .sh))))
   |_=> .no)
  | .ex x=> .ex x (gsome js Δ)
  | .no=> .no) else .no
 |_=> .no
section
variable{X:Cx}{EX:Bt}{e:Expr}{es:List Expr}{x:Str}{pp zh pos:Pos}{cc:Bool}{k k' n:Nat}{ps:List Str}
def du_3{sp:Sp}{t:TA}{B f:Addr}{pl:Sem Bool}(b:BaseI X.K B f)(hr:RoomC cc k X.A)(lk:Lk X EX)(ok:FnX X.prog X.w X.K X.mg X.base cc k f fd ps sp)(hb:Binds X.K fd ps [])(hm:X.mg x=some (.ref B))(hg:Gl X x)(hdb:AG x)(ha:PA X (e::es) t)
  (hst:starEach (e::es) X.env=(false,eval e X.env)::starEach es X.env) (hpl:(backTo pos (starEach es X.env)).any (·.1)=false)
  (ht:eval (.Call (.Attribute (.Name x pp) "__init__" zh) (e::es) [] pos) X.env=(do
   let ov<-eval (.Name x pp) X.env
   standAt zh.atName
   let(f,first)<-holding [ov] (getMethod ov "__init__" pl)
   callWith pos f first (backTo pos (starEach (e::es) X.env)) (backToKw pos (keywordEach [] X.env)))):
  PE X (.Call (.Attribute (.Name x pp) "__init__" zh) (e::es) [] pos) (λ σ H Q=>t σ H λvs H1=>sp vs H1 Q (EXE X.K (EX σ))):=by
 intro zd s σ H Q I q;refine Y8 (pl:=pl) (x_9 I hg hm ?_ hdb) ht;refine method_cls I.kIn b.sp (cls_value I.kIn b.rd b.at_ rfl ?_);refine T8 (first:=[]) (h₀:=X.base) I.ok.mod.kin b.kp (Bk (ha pos zd _ σ H _ (I.tok _) q) λus s1 ⟨vs,H1,I1,r,q⟩=>⟨I1.kIn, ?_⟩) hst hpl;exact av_9 ok hr hb lk I1 r q
def cl_4{i:Nat}{c y:Str}(js:List Nat){fe:FE}{F:List D->R (List Str×List D)}{p3 bh:Pos}{pl:Sem Bool}(hr:RoomC cc k' X.A)(lk:Lk X EX)(h:MakB X.prog X.w X.K X.mg X.base cc x c k 1 F)(he:ED X EX e fe)(hk:k<=k':=by decide)
  (hN:X.N[i]? =some y:=by rfl) (hv:Vis X.env.scope y:=by trivial) (hd:AG y:=by decide) (hcd:(y ==("__classdict__" :Str))=false:=by decide)
  (hg:Gl X x:=by rfl) (hdb:AG x:=by decide) (hs1:starEach [.Name y p3,e] X.env=(false,eval (.Name y p3) X.env)::starEach [e] X.env:=by rfl) (hs2:starEach [e] X.env=(false,eval e X.env)::starEach [] X.env:=by rfl)
  (hpl:(backTo pos (starEach [e] X.env)).any (·.1)=false:=by rfl) (df:swapsWith (.Call (.Attribute (.Name x pp) "__init__" zh) [.Name y p3,e] [] pos) none bh.line X.env=pure false:=by rfl)
  (ht:eval (.Call (.Attribute (.Name x pp) "__init__" zh) [.Name y p3,e] [] pos) X.env=(do
   let ov<-eval (.Name x pp) X.env
   standAt zh.atName
   let(f,first)<-holding [ov] (getMethod ov "__init__" pl)
   callWith pos f first (backTo pos (starEach [.Name y p3,e] X.env)) (backToKw pos (keywordEach [] X.env))):=by rfl):
  SD X EX (.Expr (.Call (.Attribute (.Name x pp) "__init__" zh) [.Name y p3,e] [] pos) bh) (at_6 i c js F fe):=by
 obtain⟨B,C,f,fd,ps,hC,hm,b,ok,hb⟩:=h;refine PS.imp (ao_9 (du_3 b (hr.mono hk) lk ok hb hm hg hdb (Gj (Gr hN hv hd hcd) (Gj he u_3 hs2) hs1) hs1 hpl ht) df) λD σ H ⟨H0,G0,G,Δ,O,E,q⟩=> ?_;obtain⟨G1,O1,sg,E1⟩:=E.gsome js;unfold at_6 at q;generalize gsome js Δ=Δ1 at q E1
 split at q
 ·rename_i c' e1
  split at q
  ·rename_i hcc;subst hcc;obtain⟨v0,s1,t0⟩:=E1.ow i _ _ e1 rfl;refine⟨v0,s1,G1,Bg Δ1,E1.st.gh,E1.gsh, ?_⟩;cases e2:fe (Bg Δ1) with
   |ex y=>simp only[e2]at q;exact q σ G1 H O1 E1 sg
   |no=>simp only[e2]at q;exact q.elim
   |ok w=>
    simp only[e2]at q;refine WP.intro λv G2 H2 st r=> ?_;have E2:=E1.grow st;obtain⟨v1,s1',t⟩:=E2.ow i _ _ e1 rfl;rw[s1]at s1';cases s1';have s2:=E2.lt i _ e1
    split at q
    ·rename_i p ef;generalize et:(Tn.obj c' [] [])=tt at t;cases t with
     | @obj a C2 dx c2 ns2 us ts2 S S1 hC2 h hl ha sub rl=>
      injection et with et1 et2 et3
      subst et1 et2 et3;have:=hC.same hC2;subst this;have:us= []:=by cases us with|nil=>rfl|cons _ _=>simp at hl
      subst this;have ga:=(E2.out i a ha).1;refine⟨a,dx,[v],λb=>if b=a then none else H2 b,G2,[w.d],rfl,rfl,if_pos rfl,λb o z=> ?_,h,λb o z=> ?_,.cons r .nil, ?_⟩
      ·simp only at z
       split at z
       ·cases z
       ·exact z
      ·simp only;rw[if_neg (Hx z ga)];exact E2.st.gh b o z
      rw[ef];intro G' H' us' dx' ms g' hx zm rr;have nb:∀b,¬O1 i b->b≠a:=λb nb w=>nb (by rw[w];exact ha);refine q σ G' H' _ (E2.step2 (S:=λb=>b=a) (z:=.lt _) rfl (λ_ z=>by cases z) (λ_ _=>s2) ⟨λb o n z=>ms.hh b o (by rw[if_neg (nb b n)];exact z),ms.gh,ms.gg,λb n z1 z2=>ms.nw b z1 (by rw[if_neg (nb b n)];exact z2)⟩ s1 (λb hb=> ?_) ?_) (sg.trans (st.gg.trans ms.gg))
      ·subst hb;exact⟨.inl ha,g',by rw[hx];simp⟩
      ·exact .obj (S1:=λ_=>False) hC hx zm rfl (λ_ z=>z.elim) (OwL.of rr)
     |_=>cases et
    ·exact q.elim
  ·exact q.elim
 ·exact q.elim
end
def FnBase(K:Frag)(B:Addr)(qual:Str)(st:Stmt):Prop:=∃f,BaseI K B f/\FnAt K "__init__" qual st f
theorem FnBase.mk{B:Addr}{qual:Str}{st:Stmt}{f:Addr}{oc kV dc pm cd ct:Value}{od an:Option Addr}{sl:Array (Option Value)}(s:specialIn K (.ref B) "__getattribute__" =some (some (.builtin "type.__getattribute__")))(r:readsIn K B (.type "type")=true)
  (a:findCls K (.ref B) (.type "type") "__init__" =some (.val (.ref f)))
  (l:K.lookup f=some ⟨oc,od,.func (fnOf "__init__" qual (l_1 st) (Fg st) (Ce st) .none kV dc pm an cd ct),sl⟩) (c:codeIn K cd qual=true) (k:keepIn K (.ref f)=true):FnBase K B qual st:=⟨f,⟨s,r,a,k⟩,FnAt.mk l c k⟩
def Ee(tb:List (Str×Bool))(fo:FE):FE:=λ δ=>(fo δ).bind λw=>match w.d with
 | .obj c _ _=>(match tb.lookup c with|some b=> .ok (.sh (.bl b))|none=> .no)
 |_=> .no
structure OInst(K:Frag)(C:Addr):Prop where
 pg:plainGet K C "__class__" =true
 hd:hasDictIn K C=true
 cl:findIn K (.ref C) "__class__" =some (some (.builtin "object.__class__"))
 gs:specialIn K (.builtin "object.__class__") "__get__" =some (some (.builtin "getset_descriptor.__get__"))
 tk:takesIn K (.builtin "object.__class__")=some true
 ob:mroIn K C (.type "object")=some true
def IsOneO(K:Frag)(v:Value)(tb:List (Str×Bool)):Prop:=∀c b,tb.lookup c=some b->∀C,ClsAt K c C->OInst K C/\kitOne K (.ref C) v=some b
def IsOneO.nil{v:Value}:IsOneO K v []:=λ_ _ e=>by cases e
def IsOneO.one{v:Value}{c:Str}{C:Addr}{b:Bool}(a:ClsAt K c C)(x:OInst K C)(h:kitOne K (.ref C) v=some b){tb:List (Str×Bool)}(r:IsOneO K v tb):IsOneO K v ((c,b)::tb):=λc' b' e C' a'=>by
 rw[E7]at e;cases z:(c' ==c) with
 |true=>
  rw[z]at e;cases e;obtain rfl:c'=c:=eq_of_beq z;obtain rfl:=ClsAt.same a a';exact⟨x,h⟩
 |false=>rw[z]at e;exact r c' b' e C' a'
section
variable{X:Cx}{EX:Bt}{zd:AE}{σ:Sg}{G H:Hp}{s:Shared}
def du_4{a:Addr}{c:Str}{ns:List Str}{vs:List D}(I:Inv X zd σ H s)(g:Same G H)(h:Has X.K G (.ref a) (.obj c ns vs)):∃C ox od,ClsAt X.K c C/\InstAt s.heap a ox C (some od):=by
 cases h with
 |obj hc h1 hl r=>
  obtain⟨_,_,_,eo,mA,ns,_⟩:=I.hok a _ (g _ _ h1);obtain⟨od,es,ep,e,_⟩:=ns;exact⟨_,_,od,hc,eo,rfl,rfl,e⟩
def du_5{C2:Addr}{tb:List (Str×Bool)}(k:IsOneO X.K (.ref C2) tb):Ei X (.builtin "isinstance") (λxs H Q=>∃G x c ns vs b,xs= [x,.ref C2]/\Same G H/\Has X.K G x (.obj c ns vs)/\tb.lookup c=some b/\Q (.bl b) H):=by
 intro zd s σ H xs us Q I rv h;obtain⟨G,x,c,ns,vs,b,rfl,g,r,e,q⟩:=h;obtain⟨u,u2',rfl,r1,rr⟩:=rv.two;obtain rfl:u2'=Value.ref C2:=rr;have fin:∀tk,EP X zd σ Q (.bool b) {s with toks:=tk}:=λtk=>⟨.bl b,H,I.tok _,rfl,q⟩;obtain⟨a,rfl⟩:∃a,x=.ref a:=by cases r <;> exact⟨_,rfl⟩
 obtain rfl:u=Value.ref a:=r1;obtain⟨C,ox,od,hc,io⟩:=du_4 I g r;obtain⟨xi,ko⟩:=k c b e C hc;exact kia_one (kitx_own xi.pg xi.hd xi.cl xi.gs xi.tk xi.ob) I.kIn io ko (λz=>nomatch z) fin
variable{a:Expr}{fo:FE}{tb:List (Str×Bool)}{pp pos:Pos}
def cc_2{cn:Str}{C2:Addr}{p3:Pos}(k:IsOneO X.K (.ref C2) tb)(ha:ED X EX a fo)(hm:X.mg "isinstance" =none)(hmC:X.mg cn=some (.ref C2))(hg:Gl X "isinstance" :=by rfl)(hgC:Gl X cn:=by rfl)(hdC:AG cn:=by decide)
  (he:starEach [a,.Name cn p3] X.env=(false,eval a X.env)::starEach [.Name cn p3] X.env:=by rfl) (hpl:(backTo pos (starEach [.Name cn p3] X.env)).any (·.1)=false:=by rfl)
  (hs:starEach [.Name cn p3] X.env=(false,eval (.Name cn p3) X.env)::starEach [] X.env:=by rfl):ED X EX (.Call (.Name "isinstance" pp) [a,.Name cn p3] [] pos) (Ee tb fo):=
 PE.imp (af_3 (du_5 k) hg hm T6 (Gj ha (Gj (av_0 (v:=.ref C2) hgC hmC rfl hdC) u_3 hs) he) ⋯ ⋯ he hpl) λ σ H Q ⟨G,δ,g0,s0,o⟩=>by
  refine tD.seq g0 s0 o λw v G1 H1 _ st1 r1 o1=> ?_;revert r1 o1;cases w.d with
  |obj c ns vs=>
   intro r1 o1;have o1:Out X.K (EX σ) G1 H1 (match tb.lookup c with|some b=> .ok (.sh (.bl b))|none=> .no) Q:=o1;cases e:tb.lookup c with
   |none=>rw[e]at o1;exact o1.elim
   |some b=>rw[e]at o1;exact⟨G1,v,c,ns,vs,b,rfl,st1.gh,r1,e,WP.use o1 st1.gh (.bl b)⟩
  |_=>intro _ o1;exact False.elim o1
end
section
variable{P:Program}{w:World}{K:Frag}{mg:AB}{base:Heap}{cc:Bool}{k n:Nat}{ps:List Str}{st:Stmt}{Fn:AF}
def Cg{m q c:Str}{C:Addr}(xa:ClsAt K c C)(cl:Cls K C)(W:FnMet K C m q st)(ok:∀{f:Addr} {fd:FuncData},Fun K m q st f fd->FnX P w K mg base cc k f fd ps (Bh K (n + 1) Fn)/\Binds K fd ps []):MethD P w K mg base cc k n m c Fn:=by
 obtain⟨f,a,⟨fd,F⟩,kp,i⟩:=W;exact⟨⟨C,f,fd,ps,xa,cl,⟨a,i,kp⟩,(ok F).1,(ok F).2⟩⟩
def Ch{x:Str}{h:Heap}(X:K.In h)(G:h.Ns mainGlobals mg)(W:FnTop K x st)(ok:∀{f:Addr} {fd:FuncData},Fun K x x st f fd->FnX P w K mg base cc k f fd ps (Bh K ps.length Fn)/\Binds K fd ps []):FnD P w K mg base cc x k ps Fn:=by
 obtain⟨f,a,fd,F⟩:=W;exact ep_1 F (mg_of X G a) (ok F).2 (ok F).1
end
section
variable{P:Program}{w:World}{K:Frag}{mg:AB}{base:Heap}{cc:Bool}{j k n:Nat}{ps:List Str}{st:Stmt}{Fn:AF}{C:Addr}{m c q f:Str}
def XB(K:Frag)(C:Addr)(q f:Str)(st:Stmt):Prop:=keepIn K (.ref C)=true/\XCls K C/\findIn K (.ref C) f=some none/\∃(fI:Addr) (fd:FuncData) (o:Obj),XMk K C fI/\K.lookup fI=some o/\o.cls=.type "function" /\Fun K "__init__" q st fI fd
def XB.mk{fI N L:Addr}{nm qn:Str}{bs sub:List Value}{sn:List Str}{ab:Bool}{col:Option Bool}{dd od ddL odL odI an:Option Addr}{k0 k1 k2 k3 k5:Option Value}{oc c0 oL kV dc pm cd ct:Value}{es esL:Array DictEntry}{ep epL:Nat}{sl sl0 slL slI:Array (Option Value)}{cdL:ClassData}
  (lc:K.lookup C=some (excClassObj nm qn C N bs (.ref L::bmVE) true sn sub ab col dd k0 k1 k2 k3 k5 "ValueError.__new__")) (ln:K.lookup N=some ⟨oc,od,.dict es ep,sl⟩) (_:findIn K (.ref C) "__init__" =some (some (.ref fI))) (kn:t_0 es=true) (hi:nsFind es "__init__" =some (.ref fI))
  (ll:K.lookup L=some ⟨c0,ddL,.cls cdL,sl0⟩) (lm:K.lookup cdL.ns=some ⟨oL,odL,.dict esL epL,slL⟩) (km:t_0 esL=true) (hL:nsFind esL "__init__" =none) (sa:findIn K (.ref C) "__setattr__" =some (some (.builtin "object.__setattr__"))) (nf:findIn K (.ref C) f=some none) (kp:keepIn K (.ref C)=true)
  (l:K.lookup fI=some ⟨.type "function",odI,.func (fnOf "__init__" q (l_1 st) (Fg st) (Ce st) .none kV dc pm an cd ct),slI⟩) (cI:codeIn K cd q=true) (kI:keepIn K (.ref fI)=true):XB K C q f st:=
 ⟨kp,ef_3 lc sa,nf,fI,_,_,er_4 lc ln kn hi ll lm km hL,l,rfl,cs_2 l cI kI⟩
def dc_1(xa:ClsAt K c C)(gx:mg c=some (.ref C))(b:XB K C q f st)(ok:∀{fI:Addr} {fd:FuncData},Fun K "__init__" q st fI fd->XCls K C->findIn K (.ref C) f=some none->FnX P w K mg base false 1 fI fd ps (am_6 C f)/\Binds K fd ps []):XC P w K mg base c f C:=by
 obtain⟨kp,xc,nf,fI,fd,o,mk,l,e,F⟩:=b;exact⟨xa,gx,kp,xc,fI,fd,ps,o,mk,l,e,(ok F xc nf).1,(ok F xc nf).2⟩
def XB0{N L:Addr}{nm qn:Str}{bs sub:List Value}{sn:List Str}{ab:Bool}{col:Option Bool}{dd od ddL odL:Option Addr}{k0 k1 k2 k3 k5:Option Value}{oc c0 oL:Value}{es esL:Array DictEntry}{ep epL:Nat}{sl sl0 slL:Array (Option Value)}{cdL:ClassData}
  (lc:K.lookup C=some (excClassObj nm qn C N bs (.ref L::bmVE) true sn sub ab col dd k0 k1 k2 k3 k5 "ValueError.__new__")) (ln:K.lookup N=some ⟨oc,od,.dict es ep,sl⟩) (kn:t_0 es=true) (hi:nsFind es "__init__" =none)
  (ll:K.lookup L=some ⟨c0,ddL,.cls cdL,sl0⟩) (lm:K.lookup cdL.ns=some ⟨oL,odL,.dict esL epL,slL⟩) (km:t_0 esL=true) (hL:nsFind esL "__init__" =none) (kp:keepIn K (.ref C)=true):keepIn K (.ref C)=true/\XMk0 K C:=⟨kp,ef_6 lc ln kn hi ll lm km hL⟩
def XB9(K:Frag)(C:Addr):Prop:=keepIn K (.ref C)=true/\XMk0 K C
def du_6(xa:ClsAt K c C)(gx:mg c=some (.ref C))(b:XB9 K C):XC0 K mg c C:=⟨xa,gx,b.1,b.2⟩
def OInst.mm(pg:plainGet K C Str.empty=true)(hd:hasDictIn K C=true)(cl:findIn K (.ref C) "__class__" =some (some (.builtin "object.__class__")))(gs:specialIn K (.builtin "object.__class__") "__get__" =some (some (.builtin "getset_descriptor.__get__")))(tk:takesIn K (.builtin "object.__class__")=some true)(ob:mroIn K C (.type "object")=some true):OInst K C:=⟨pg,hd,cl,gs,tk,ob⟩
def KO(K:Frag)(a b:Addr)(v:Bool):Prop:=kitOne K (.ref a) (.ref b)=some v
def KO.mk{a b:Addr}{v:Bool}(h:kitOne K (.ref a) (.ref b)=some v):KO K a b v:=h
def NoAttr.mk(h:findIn K (.ref C) f=some none):NoAttr K C f:=h
def Cd{tb:List (Str×(AF))}(d:MethD P w K mg base cc j n m c Fn)(r:MethT P w K mg base cc k n m tb)(hj:j<=k:=by decide):MethT P w K mg base cc k n m ((c,Fn)::tb):=.one d hj r
def mtn:MethT P w K mg base cc k n m []:=.nil
def aw_7{Fi:List D->R (List Str×List D)}(xa:ClsAt K c C)(gx:mg c=some (.ref C))(ms:makesIn K C=true)(kc:keepIn K (.ref C)=true)(W:FnMet K C "__init__" q st)(ok:∀{f:Addr} {fd:FuncData},Fun K "__init__" q st f fd->FnX P w K mg base cc k f fd ps (spI K C n Fi)/\Binds K fd ps []):Fz P w K mg base cc c k n Fi:=by
 obtain⟨f,a,⟨fd,F⟩,kp,i⟩:=W;exact⟨C,f,fd,ps,xa,gx,⟨ms,a,i,kc⟩,(ok F).1,(ok F).2⟩
end
section
variable{X:Cx}{EX:Bt}{e tg:Expr}{f:FE}
def PIZ.imp{B:Cx->Prop}{t t':TI}(h:PIZ X B tg e t)(i:∀σ H Q,t' σ H Q->t σ H Q):PIZ X B tg e t':=λzd s σ H Q I q=>h zd s σ H Q I (i σ H Q q)
def BX.pin{A:Around}{zd:AE}{σ:Sg}{s:Shared}(b:BX X)(eA:A.handled=X.A.handled)(I:Inv X zd σ H s):
  ∃ps:AE,(∀h:Heap,(∀p∈ps,h.get? p.1=some p.2)->HdOk A h)/\(∀p∈ps,s.heap.get? p.1=some p.2)/\A.handled≠some (.ref s.heap.objs.size):=by
 rcases b with b|⟨x,o,u,us,e,h,d,c⟩
 ·exact⟨[],λh _=> .inl (eA.trans b),λp hp=>(by cases hp),by rw[eA,b];intro z;cases z⟩
 ·have g:=(I.hok x _ (I.base.frzs x o u h)).1;refine⟨[(x,o)],λh k=> .inr ⟨x,o,us,eA.trans e,k (x,o) (F7.mpr rfl),d,c⟩,λp hp=>by rw[F7.mp hp];exact g,λz=> ?_⟩;rw[eA,e]at z;injection z with z
  injection z with z
  exact absurd (A7 g) (by rw[z];exact F5 _)
def du_7{elt iter:Expr}{ifs:List Expr}{scope:Scope}{N':List Str}{fi:FI}{fg:Ic}{p:FT}{f:FE}{m:Nat}(bx:BX X)(hi:PIZ X.nox BX tg iter (tI X.K Di fi))(hk:scope.kind=.function)(hb:Hm scope.names X.env.scope.names X.N N'=true)
  (hm:N'.length=X.N.length + m)
  (hin:∀C s0 H0 fp pn,GC (Ej X.nox scope (Dg X.env.cells scope.names []) N' C s0 H0 fp pn) Di tg fg/\CTs (Ej X.nox scope (Dg X.env.cells scope.names []) N' C s0 H0 fp pn) Di ifs p/\ED (Ej X.nox scope (Dg X.env.cells scope.names []) N' C s0 H0 fp pn) Di elt f)
  (hs:∀x,foldedSetIterable iter X.env x=pure x:=by intro _;rfl):ED X EX (.ListComp elt [⟨tg,iter,ifs,0⟩] scope pos) (Bx m fi fg p f):=
 PE.imp (PE.nox (bu_5 (X:=X.nox) (λ_ _ z=>z) (B:=BX) (λ_ _ _ _ _ _ _ I=>BX.on (X:=X.nox) bx I rfl rfl) hi hk hb hm hin hs)) λ σ H Q ⟨G,δ,g0,h0,o⟩=>by
  refine⟨G,δ,g0,h0, ?_⟩;cases e:Bx m fi fg p f δ with
  |ok w=>rw[e]at o;exact o
  |ex x=>exact(bj_9 e).elim
  |no=>rw[e]at o;exact o
def aw_8{e:HX}:BX (hand X e):=.inr ⟨e.a,_,_,e.us,rfl,Ct,rfl,e.c2⟩
end
def HdF(A:Around)(H:Hp):Prop:=A.handled=none\/∃(x:Addr) (o:Obj) (u:HO) (us:Array Value),A.handled=some (.ref x)/\H x=some (.frz o u)/\o.data=.fields us/\us[2]? =some .none
def BX.F{zd:AE}{σ:Sg}{s:Shared}(b:BX X)(I:Inv X zd σ H s):HdF X.A H:=by
 rcases b with b|⟨x,o,u,us,e,h,d⟩
 ·exact .inl b
 ·exact .inr ⟨x,o,u,us,e,I.base.frzs x o u h,d⟩
def ex_8{w:World}{N:List Str}{qual:Str}{scope:Scope}{f:Addr}{cd:Value}{A:Around}{outer:List Env}{s:Shared}{E:XK}(h:HdF A H):BX (El false P w K mg base N qual scope f cd A outer s H E):=h
structure FnB(P:Program)(w:World)(K:Frag)(mg:AB)(base:Heap)(k:Nat)(f:Addr)(fd:FuncData)(ps:List Str)(sp:Sp):Prop where
 len:∀vs H Q E,sp vs H Q E->vs.length=ps.length
 run:∀(A:Around) (outer:List Env) (s:Shared) (H:Hp) (args:Args) (us:List Value) (vs:List V) (Q:VK) (E:XK),RoomC false k A->HdF A H->Env0 P w K mg base A outer s H->BindsTo s fd args (ps.zip us)->Vals vs us->sp vs H Q E->
  codeAny (model P w) A (.call (.ref f) args) (CR (CXr P w) outer P w H s Q E) s
def FnX.b{w:World}{k:Nat}{f:Addr}{ps:List Str}{sp:Sp}(F:FnX P w K mg base false k f fd ps sp):FnB P w K mg base k f fd ps sp:=⟨F.len,λA outer s H args us vs Q E hr _=>F.run A outer s H args us vs Q E hr⟩
def FnDB(P:Program)(w:World)(K:Frag)(mg:AB)(base:Heap)(x:Str)(k:Nat)(ps:List Str)(F:AF):Prop:=
 ∃f fd,FnB P w K mg base k f fd ps (Bh K ps.length F)/\mg x=some (.ref f)/\keepIn K (.ref f)=true/\Binds K fd ps []
def er_8{w:World}{k:Nat}{f:Addr}{name qual:Str}{params:Arguments}{body:List Stmt}{scope:Scope}{dV kV doc pm zq ct oc:Value}{an od:Option Addr}
  {osl:Array (Option Value)} {N ps:List Str} {sp:Sp} (lk:K.lookup f=some ⟨oc,od,.func (fnOf name qual params body scope dV kV doc pm an zq ct),osl⟩) (hcd:codeIn K zq qual=true) (S:FnScope N ps scope)
  (len:∀vs H Q E,sp vs H Q E->vs.length=ps.length)
  (zk:∀(A:Around) (outer:List Env) (s:Shared) (H:Hp) (vs:List V) (Q:VK) (E:XK),HdF A H->RoomC false k (A.deeper (envOfC qual scope s.heap.objs.size f zq))->sp vs H Q E->
   ∃t,PSs (El false P w K mg base N qual scope f zq A outer s H E) body t/\t {nx:=λ_ H'=>Q .non H',rt:=Q} (Fy N vs) H):
  FnB P w K mg base (k + 1) f (fnOf name qual params body scope dV kV doc pm an zq ct) ps sp:=by
 refine⟨len,λA outer s H args us vs Q E hr hz e0 hb r hsp=> ?_⟩;have hl:=len _ _ _ _ hsp;have KX:K.In s.heap:=e0.mod.kin.keeps λb o e=>(e0.bs b o e).1;have lim:s.heap.NoLimit:=e0.mod.nolimit.keeps λb o e=>(e0.bs b o e).1;have aw:∀y∈ps.zip us,scope.names.lookup y.1=some .local\/(scope.names.lookup y.1=some .cell/\((cellsFrom (s.heap.objs.size + 1) scope.names []).lookup y.1).isSome=true):=λ⟨n,v⟩ hy=>by
  rcases S.par n (W5 hy).1 with q|q
  ·exact .inl q
  ·exact .inr ⟨q,X3 _ _ _ (.inl q)⟩
 have dp:A.depth < recursionLimit:=by have:=hr.dp;omega
 refine codeAny_call_function dp (KX _ _ lk) rfl S.co S.gen rfl (codeRec_of KX hcd) (hb _ _ _ _ ?_);refine X6 S.kind aw λenv he s1 x=> ?_;subst he;refine⟨lim.keeps x.toInCall.keep,codeAny_func ?_⟩;obtain⟨t,ht,hq⟩:=zk A outer s H vs Q E hz (hr.deeper _) hsp;have I:Inv (El false P w K mg base N qual scope f zq A outer s H E) [] (Fy N vs) H s1:=bj_7 S hr.hd e0 hl r x;refine F1 (ht [] s1 (Fy N vs) H _ I hq) (λfl s' hs=> ?_) λe s' hs=>hs;have fin:∀{σ':Sg} {H':Hp} {v:V} {u:Value},Inv (El false P w K mg base N qual scope f zq A outer s H E) [] σ' H' s'->RelV v u->Q v H'->CE outer P w H s Q u s':=
  λ{σ' H' v u} J rv q=>⟨v,H',J.os,J.bare,J.base,J.hok,rv,q⟩
 cases fl with
 |ret u=>
  obtain⟨v,σ',H',J,rv,q⟩:=hs;exact fin J rv q
 |next=>
  obtain⟨σ',H',J,q⟩:=hs;exact fin (v:=V.non) (u:=Value.none) J rfl q
 |brk=>
  obtain⟨_,_,_,q⟩:=hs;exact False.elim q
 |cont=>
  obtain⟨_,_,_,q⟩:=hs;exact False.elim q
def Fun.okB{w:World}{x qual:Str}{st:Stmt}{f:Addr}{N ps:List Str}{k:Nat}{sp:Sp}(F:Fun K x qual st f fd)(S:FnScope N ps (Ce st))(len:∀vs H Q E,sp vs H Q E->vs.length=ps.length)
  (zk:∀(zq:Value) (A:Around) (outer:List Env) (s:Shared) (H:Hp) (vs:List V) (Q:VK) (E:XK),HdF A H->RoomC false k (A.deeper (envOfC qual (Ce st) s.heap.objs.size f zq))->sp vs H Q E->
   ∃t,PSs (El false P w K mg base N qual (Ce st) f zq A outer s H E) (Fg st) t/\t {nx:=λ_ H'=>Q .non H',rt:=Q} (Fy N vs) H):FnB P w K mg base (k + 1) f fd ps sp:=by
 obtain⟨oc,od,kV,doc,pm,an,zq,ct,osl,rfl,lk,hcd⟩:=F.ex;exact er_8 lk hcd S len λA outer s H vs Q E hz hr hsp=>zk zq A outer s H vs Q E hz hr hsp
section
variable{X:Cx}{EX:Bt}{e:Expr}{es:List Expr}{fa:FA}{x:Str}{pp pos:Pos}{k k':Nat}{ps:List Str}{F:AF}
def ef_7{zd:AE}{σ:Sg}{s:Shared}{Q:VK}{f:Addr}{sp:Sp}(F:FnB X.prog X.w X.K X.mg X.base k f fd ps sp)(bx:BX X)(hr:RoomC false k X.A)(hb:Binds X.K fd ps [])(lk:Lk X EX)
  (I:Inv X zd σ H s) (r:Vals vs us) (h:sp vs H Q (EXE X.K (EX σ))):wpAny (model X.prog X.w) X.A (call (.ref f) us) (EP X zd σ Q) X.xe s:=by
 have hl:us.length=ps.length:=by rw[<-r.length];exact F.len _ _ _ _ h
 have hb':=hb s us I.kIn (by rw[F9];exact hl);rw[F9]at hb';refine R7 (T3 (F.run X.A X.stack s H ⟨us,[]⟩ us vs Q _ hr (bx.F I) I.env0 hb' r h) λr s' hq=> ?_);cases r with
 |error e=>exact lk zd σ H s e s' I hq
 |ok fl=>
  cases fl with
  |ret u=>exact I.after hq
  |next=>exact False.elim hq
  |brk=>exact False.elim hq
  |cont=>exact False.elim hq
def am_8(bx:BX X)(hr:RoomC false k' X.A)(lk:Lk X EX)(h:FnDB X.prog X.w X.K X.mg X.base x k ps F)(ha:AD X EX (e::es) fa)(hk:k<=k':=by decide)(hg:Gl X x:=by rfl)(hdb:AG x:=by decide)
  (he:starEach (e::es) X.env=(false,eval e X.env)::starEach es X.env:=by rfl) (hpl:(backTo pos (starEach es X.env)).any (·.1)=false:=by rfl):
  ED X EX (.Call (.Name x pp) (e::es) [] pos) (At ps.length F fa):=by
 obtain⟨f,fd,ok,hm,kp,hb⟩:=h;intro zd s σ H Q I q;obtain⟨G,δ,g0,s0,o⟩:=q;refine L8 (x_9 I hg hm ?_ hdb);have ta:tDa X.K EX fa σ H λvs H1=>Bh X.K ps.length F vs H1 Q (EXE X.K (EX σ)):=by
  refine tDa.seq g0 s0 o λds vs G' H' _ st r o'=> ?_
  split at o'
  ·rename_i hl;refine⟨by rw[r.length];exact hl,G',ds,st.gh,r, ?_⟩;cases q:F ds with
   |ok w=>rw[q]at o';exact o'
   |ex x=>rw[q]at o';exact EXof.in o'
   |no=>rw[q]at o';exact o'.elim
  ·exact o'.elim
 refine T8 (h₀:=X.base) I.ok.mod.kin kp (Bk (ha pos zd s σ H _ I ta) λus s1 ⟨vs,H1,I1,r,q⟩=>⟨I1.kIn, ?_⟩) he hpl;exact ef_7 ok bx (hr.mono hk) hb lk I1 r q
end
def cl_5{w:World}{tg:Expr}(it:Addr)(lo:Int)(n:Nat):TurnZ P w K tg (Itr lo n) [it] it (λi h=>IsRangeIter h it (lo + (i:Nat) * 1) ((n:Int) - (i:Nat)) 1) BX where
 obj:=(ah_3 (P:=P) (w:=w) (K:=K) (tg:=tg) it lo n).obj
 keep:=(ah_3 (P:=P) (w:=w) (K:=K) (tg:=tg) it lo n).keep
 item:=by
  intro X hP hw hK i zd s σ H E _ I hf st hg;subst hP hw hK;obtain⟨f0,f1,f2,f3,f4,f5⟩:=hf it (by simp);have hg':i < n:=hg;refine wpAny_pyNext_range_item st () λh' gj sb=> ?_;have st':IsRangeIter h' it (lo + ((i + 1:Nat):Int) * 1) ((n:Int) - ((i + 1:Nat):Int)) 1:=by
   have e1:lo + ((i + 1:Nat):Int) * 1=lo + (i:Int) * 1 + 1:=by omega
   have e2:(n:Int) - ((i + 1:Nat):Int)=(n:Int) - (i:Int) - 1:=by omega
   rw[e1,e2];exact gj
  have I1:Inv X zd σ H {s with heap:=h',toks:=s.toks + 1}:=I.turned (t':=s.toks + 1) (λb o hb e=>(sb.2 b hb).trans e) f0 f1 f3 f4 f5;refine⟨_,rfl,bs_5 (s:={s with heap:=h',toks:=s.toks + 1}) (n:= "range_iterator") st' rfl rfl ⋯ ⟨.int (lo + i),H,I1,⟨s.toks, ?_⟩,⟨rfl,rfl⟩,st',λb hb=>(hf b hb).1⟩⟩;rw[Int.mul_one]
 done:=by
  intro X hP hw hK i zd s σ H E b I hf st hg;subst hP hw hK;obtain⟨f0,f1,f2,f3,f4,f5⟩:=hf it (by simp);exact bz_1 (b.ok I) st (by have:n<=i:=hg;omega) λh' eb=>⟨rfl,I.turned (t':=s.toks) (λb o hb e=>eb b o hb e) f0 f1 f3 f4 f5⟩
 self:=(ah_3 (P:=P) (w:=w) (K:=K) (tg:=tg) it lo n).self
section
variable{X:Cx}{EX:Bt}{tg a:Expr}{fa:FA}{p pos:Pos}
def dk_1{zd:AE}{σ:Sg}{s:Shared}{R:It->Hp->Prop}{E:AA}{lo hi:Int}{t u v:Tok}{tk:Nat}(I:Inv X zd σ H s)(h1: -(2 ^ 62)<=lo)(h2:lo < 2 ^ 62)(h3: -(2 ^ 62)<=hi)(h4:hi < 2 ^ 62)
  (q:R (Itr lo (hi - lo).toNat) H):wpAny (model X.prog X.w) X.A (pyIter (.ref s.heap.objs.size)) (λitv s2=>∃(it:Addr) (fp:List Addr) (tn:Nat->Heap->Prop) (J:It) (H':Hp),itv=.ref it/\Inv X zd σ H' s2/\TurnZ X.prog X.w X.K tg J fp it tn BX/\tn 0 s2.heap/\(∀b∈fp,Dn X zd H' b)/\R J H') E {s with heap:=s.heap.push {cls:=.type "range",data:=.fields #[.int lo t,.int hi u,.int 1 v]},toks:=tk}:=by
 refine wpAny_pyIter_range (IsRange.new ..) (small_one h1 h2 h3 h4) ?_;have I1:Inv X zd σ H {s with heap:=s.heap.push {cls:=.type "range",data:=.fields #[.int lo t,.int hi u,.int 1 v]},toks:=tk}:=I.kept λb o e=>A4 _ e;refine⟨(s.heap.push {cls:=.type "range",data:=.fields #[.int lo t,.int hi u,.int 1 v]}).objs.size,[(s.heap.push {cls:=.type "range",data:=.fields #[.int lo t,.int hi u,.int 1 v]}).objs.size],_,_,H,rfl,
  I1.kept (t':=tk) λb o e=>A4 _ e,cl_5 _ lo (hi - lo).toNat, ?_,λb hb=> ?_,q⟩
 ·have e1:lo + ((0:Nat):Int) * 1=lo:=by simp
  have e2:(((hi - lo).toNat:Nat):Int) - ((0:Nat):Int)=Builtin.Range.rangeSize lo hi 1:=by rw[ZB7];split <;> omega
  show IsRangeIter _ _ (lo + ((0:Nat):Int) * 1) ((((hi - lo).toNat:Nat):Int) - ((0:Nat):Int)) 1;rw[e1,e2];exact C1 _ rfl
 ·have e:b=(s.heap.push {cls:=.type "range",data:=.fields #[.int lo t,.int hi u,.int 1 v]}).objs.size:=by simpa using hb
  subst e;exact I1.fpOk (B0 _) (I1.hok.fresh (B0 _))
def cv_1{a:Expr}{ta:TA}{p pos:Pos}(hg:Gl X "range")(hm:X.mg "range" =none)(ha:PA X [a] ta)(hs:starEach [a] X.env= [(false,eval a X.env)]:=by rfl):PIZ X BX tg (.Call (.Name "range" p) [a] [] pos) (ej_2 ta):=by
 intro zd s σ H R I h;refine Call_ (ah_2 I hg hm boot_range (J6 (Bk (ha pos zd s σ H _ I h) λus s1 ⟨vs,H1,I1,r1,q1⟩=> ?_) hs rfl));obtain⟨j,e,q1,q2,q⟩:=q1;subst e;cases r1 with
 |cons r rr=>
  cases rr;obtain⟨t,rfl⟩:=r;exact ZC0 (dk_1 I1 () () q1 q2 (by simpa using q))
def cv_2(hm:X.mg "range" =none)(ha:AD X EX [a] fa)(hg:Gl X "range" :=by rfl)(hs:starEach [a] X.env= [(false,eval a X.env)]:=by rfl):PIZ X BX tg (.Call (.Name "range" p) [a] [] pos) (tI X.K EX (Bf Dd fa)):=
 PIZ.imp (cv_1 hg hm ha hs) λ σ H Q ⟨G,δ,g0,s0,o⟩=>tDa.seqI g0 s0 o λds vs G' H' st r o'=>by
  cases r with
  |nil=>exact False.elim o'
  |cons h t=>
   cases t with
   |cons _ _=>cases h <;> exact False.elim o'
   |nil=>
    cases h with
    |int j=>
     by_cases hc:j.natAbs < 4611686018427387904
     ·rw[show Dd [.int j]=.ok (De 0 j.toNat) from if_pos hc]at o';exact⟨j,rfl,by omega,by omega,o' _ G' H' (Step.refl st.gh) (bu_3 0 j.toNat)⟩
     ·rw[show Dd [.int j]=.no from if_neg hc]at o';exact o'.elim
    |_=>exact False.elim o'
end
def fn_B{w:World}{x qual:Str}{st:Stmt}{f:Addr}{N ps:List Str}{k:Nat}{g:FS}(F:Fun K x qual st f fd)(S:FnScope N ps (Ce st))
  (zk:∀(zq:Value) (A:Around) (outer:List Env) (s:Shared) (H:Hp) (E:XK),HdF A H->RoomC false k (A.deeper (envOfC qual (Ce st) s.heap.objs.size f zq))->
   BD (El false P w K mg base N qual (Ce st) f zq A outer s H E) (λ_=>EXof K E) (Fg st) g):FnB P w K mg base (k + 1) f fd ps (Bh K ps.length (Ag N.length g)):=by
 refine Fun.okB F S (λvs H Q E h=>h.1) λzq A outer s H vs Q E hz hr h=>⟨_,zk zq A outer s H E hz hr, ?_⟩;obtain⟨hl,G,ds,g0,r,o⟩:=h;refine⟨⟨H,λ_=>0⟩,G,G,_,_,ch_3 g0 r, ?_⟩;unfold Ag at o;cases e:g (Ar N.length ds) with
 |nx Δ=>rw[e]at o;exact λ σ G' H' O E' _=>(WP.mono (w:=.sh .non) (Q:=Q) E'.st o).use E'.st.gh .non
 |rt w=>rw[e]at o;exact o
 |ex x Δ=>rw[e]at o;exact λ σ G' H' O E' _=>(EXof K E).mono _ _ _ _ _ E'.st o
 |bk Δ=>rw[e]at o;exact o.elim
 |ct Δ=>rw[e]at o;exact o.elim
 |no=>rw[e]at o;exact o
def ex_9{w:World}{x qual:Str}{st:Stmt}{f:Addr}{N ps:List Str}{k:Nat}{g:FS}(F:Fun K x qual st f fd)
  (zk:∀{zq:Value} {A:Around} {outer:List Env} {s:Shared} {Hb:Hp} {E:XK},BX (El false P w K mg base N qual (Ce st) f zq A outer s Hb E)->RoomC false k (Cx.A (El false P w K mg base N qual (Ce st) f zq A outer s Hb E))->(Cx.A (El false P w K mg base N qual (Ce st) f zq A outer s Hb E)).units + 64 < cLine->N.Nodup->Lk (El false P w K mg base N qual (Ce st) f zq A outer s Hb E) (λ_=>EXof K E)->
   BD (El false P w K mg base N qual (Ce st) f zq A outer s Hb E) (λ_=>EXof K E) (Fg st) g)
  (S:FnScope N ps (Ce st):=by exact⟨rfl,rfl,rfl,by decide +kernel,rfl,by decide +kernel,by decide +kernel⟩):FnB P w K mg base (k + 1) f fd ps (Bh K ps.length (Ag N.length g)):=
 fn_B F S λzq A outer s H E hz hr=>zk (ex_8 hz) hr (RoomC.units hr) S.nd bz_7
def ef_8{w:World}{k:Nat}{ps:List Str}{st:Stmt}{Fn:AF}{x:Str}{h:Heap}(X:K.In h)(G:h.Ns mainGlobals mg)(W:FnTop K x st)(ok:∀{f:Addr} {fd:FuncData},Fun K x x st f fd->FnB P w K mg base k f fd ps (Bh K ps.length Fn)/\Binds K fd ps []):FnDB P w K mg base x k ps Fn:=by
 obtain⟨f,a,fd,F⟩:=W;exact⟨f,fd,(ok F).1,mg_of X G a,F.kp,(ok F).2⟩
def flsD:D->Bool
 | .lst ds=>ds.all Bd
 |_=>false
def inQ(d:D):D->R W
 | .lst ds=>if(ds.all λy=>flsD y && eqC y d)=true then .ok (.sh (.bl (!ds.any λy=>Fj y d))) else .no
 |_=> .no
def du_9{zd:AE}{σ:Sg}{s:Shared}(I:Inv X zd σ H s){G:Hp}(g:Same G H){v v':V}{d d':D}{u:Value}(h:Has X.K G v d)(h':Has X.K G v' d')(r:RelV v u)(r':RelV v' u)(f:flsD d=true)(f':flsD d'=true):d'=d:=by
 cases h with
 |lst q l=>
  cases h' with
  |lst q' l'=>
   cases r;cases r';have:=I.list_inj (g.seq q) (g.seq q');subst this;rw[HasL.flat_same l l' f]
  |_=>cases f'
 |_=>cases f
open Classical in
def dk_2(hu:X.A.units + 64 < cLine):Gn X (compareOp .NotIn) inQ:=by
 intro zd s σ H x y v u Q I rx ry q;obtain⟨EX,G,a,b,g,ra,rb,o⟩:=q;cases rb with
 |lst h r=>
  rename_i ds;have o':Out X.K EX G H (if(ds.all λy=>flsD y && eqC y a)=true then .ok (.sh (.bl (!ds.any λy=>Fj y a))) else .no) Q:=o
  split at o'
  ·rename_i hc;have hc:=E9.mp hc;cases ry;obtain⟨its,rv,pl,hz⟩:=I.list (g.seq h);have el:∀(i:Nat) (w:Value),its[i]? =some w->∃d v0,ds[i]? =some d/\Has X.K G v0 d/\RelV v0 w/\flsD d=true/\eqC d a=true:=λi w e=>by
    have hi:=(A5.mp e).1;have l1:=rv.length;have l2:=r.length;obtain⟨d,hd⟩:∃d,ds[i]? =some d:=⟨_,B2 ()⟩;obtain⟨v0,e1,h0⟩:=r.get hd;obtain⟨w0,e2,r0⟩:=rv.get e1;rw[e]at e2;cases e2;have:=hc d (B1 hd);rw[C4]at this;exact⟨d,v0,hd,h0,r0,this.1,this.2⟩
   have same:∀(i j:Nat) (w:Value) (d d':D),its[i]? =some w->its[j]? =some w->ds[i]? =some d->ds[j]? =some d'->d'=d:=λi j w d d' e e' q q'=>by
    obtain⟨d1,v1,a1,a2,a3,a4,_⟩:=el i w e;obtain⟨d2,v2,b1,b2,b3,b4,_⟩:=el j w e';rw[q]at a1;cases a1;rw[q']at b1;cases b1;exact du_9 I g a2 b2 a3 b3 a4 b4
   let e:Value->Bool:=λw=>decide (∃(i:Nat) (d:D),its[i]? =some w/\ds[i]? =some d/\Fj d a=true)
   have ee:∀(j:Nat) (w:Value) (d:D),its[j]? =some w->ds[j]? =some d->e w=Fj d a:=λj w d q1 q2=>by
    rw[O7,decide_eq_true_iff];exact⟨λ⟨i,d',z1,z2,z3⟩=>by rw[same i j w d' d z1 q1 z2 q2];exact z3,λz=>⟨j,d,q1,q2,z⟩⟩
   refine SeqAt.notIn_listAt e pl.isList (λw hw=> ?_) ⟨.bl _,H,I,rfl, ?_⟩
   ·obtain⟨j,hj,rfl⟩:=W2.mp (show w∈its by simpa using hw);obtain⟨d,v0,q1,q2,q3,_,q5⟩:=el j _ (B2 hj);rw[ee j _ d (B2 hj) q1];unfold eqC at q5;rw[C4,C4]at q5;obtain⟨⟨h1,h2⟩,h3⟩:=q5;have h3:=K0 h3;obtain⟨as,za⟩:=Has.reads rfl I g h1 q2 q3;obtain⟨bs,zb⟩:=Has.reads rfl I g h2 ra rx;refine SeqAt.eqAt_reads _ _ _ _ _ _ as bs za zb h1 h2 ?_;show X.A.units + 1 + min (Dx d).depth (Dx a).depth < cLine;have:=ZA9 (Dx d).depth (Dx a).depth;omega
   ·have ea:its.toArray.any e=ds.any λy=>Fj y a:=by
     rw[O7,R1,Array.any_eq_true'];constructor
     ·rintro ⟨w,hw,hew⟩
      obtain⟨j,hj,rfl⟩:=W2.mp (show w∈its by simpa using hw);obtain⟨d,v0,q1,_⟩:=el j _ (B2 hj);exact⟨d,B1 q1,by rw[<-ee j _ d (B2 hj) q1];exact hew⟩
     ·rintro ⟨d,hd,hev⟩
      obtain⟨j,hj,rfl⟩:=W2.mp hd;have l1:=rv.length;have l2:=r.length;have hj':j < its.length:=by omega
      refine⟨its[j],by simp, ?_⟩;rw[ee j _ _ (B2 hj') (B2 hj)];exact hev
    rw[ea];exact Dr o' g (.bl _)
  ·exact o'.elim
 |_=>exact False.elim o
end L3
local macro_rules|`(#v[])=>`(L3.Ac)|`(#v[$n:num])=>`(L3.Aa (L3.Ab $n) L3.Ac)|`(#v[$x])=>`(L3.Aa $x L3.Ac)|`(#v[$n:num,$xs,*])=>`(L3.Aa (L3.Ab $n) #v[$xs,*])|`(#v[$x,$xs,*])=>`(L3.Aa $x #v[$xs,*])
namespace My
open PySem L2 L3
def bv_7:FS:=
  (Af (Bq [0,1] (Ao (Aj ltD (Ab 1) (Ah Cf #v[0])))
   (Am [0,1] (Aj Bu (Ab 0) (Ab 1)))
   Ba)
  (Am [] (eC (.int 0))))
def n_9:List D->R W:=Ag 2 bv_7
def bv_8:FS:=
  (Af (Al 2 [0,1] (Aj Er (Aj Ec (Aj Cc (Ab 0) (eC (.int 1))) (Aj Cc (eC (.int 48271)) (Aj Ec (eC (.int 118)) (Ab 1)))) (eC (.int 2147483629))))
  (Am [1,2] (Aj Er (Aj Cc (Aj Cc (Aj Ec (Aj Do (Ab 2) (eC (.int 977))) (eC (.int 16807))) (Aj Ec (Ab 2) (Aj Cc (Aj Ec (Ab 1) (Ab 1)) (eC (.int 7))))) (Ab 1)) (eC (.int 2147483587)))))
def o_0:List D->R W:=Ag 3 bv_8
def bk_9:FS:=
  (Am [0,1] (At 2 o_0 #v[Aj Er (At 2 n_9 #v[0,1]) (eC (.int 2147483647)),Aj Cc (Ab 1) (eC (.int 101))]))
def p_3:List D->R W:=Ag 2 bk_9
def bc_9:FS:=
  (Am [0] (Aj Cc (Aj Ec (Aj Cc (Aj Ec (At 2 o_0 #v[0,eC (.int 1)]) (eC (.int 2147483587))) (At 2 o_0 #v[0,eC (.int 2)])) (eC (.int 2147483587))) (At 2 o_0 #v[0,eC (.int 3)])))
def r_5:List D->R W:=Ag 1 bc_9
def ad_9:FE:=
  (At 2 n_9 #v[0,Aj Cc (Ab 1) (Ab 5)])
def ae_0:FE:=
  (At 1 r_5 #v[At 2 o_0 #v[At 2 p_3 #v[0,Aj Cc (Ab 1) (Aj Er (Ab 5) (Ah Ez #v[eC (.int 1),3]))],5]])
def am_9:FS:=
  (Af (Al 3 [0,1] (Ah Ez #v[eC (.int 0),Aj Es (Ah Cf #v[0]) (Ab 1)]))
  (Af (Bq [0] (Ao (Aj By (Aj Er (At 2 n_9 #v[0,eC (.int 0)]) (eC (.int 2))) (eC (.int 0))))
   (Am [0,1,2,3] (Bx 1 (Bf Dd #v[Ah minD #v[2,3]]) (gC 5) (λ_=> .ok true) ad_9))
   Ba)
  (Af (Al 4 [0,2,3] (Ah minD #v[2,Ah Ez #v[3,Aj Cc (eC (.int 1)) (Aj Er (At 2 p_3 #v[0,eC (.int 0)]) (Ab 2))]]))
  (Am [0,1,3,4] (Bx 1 (Bf Dd #v[4]) (gC 5) (λ_=> .ok true) ae_0)))))
def v_2:List D->R W:=Ag 5 am_9
def an_0:FS:=
  (Af (Al 2 [2,5] (Aj Do (Ab 2) (Aj Bu (Au #v[eC (.int 12),eC (.int 39)]) (Ah Fa #v[Aj gtD (Ab 5) (eC (.int 0))]))))
  (Al 3 [1,2,3] (Aj Cc (Ab 3) (Aj Bu (Ab 1) (Aj Er (Ab 2) (eC (.int 39)))))))
def ap_3:FS:=
  (Af (Al 1 [] (eC (.str "abcdefghijklmnopqrstuvwxyz0123456789-_ ")))
  (Af (Al 2 [0] (Aj Do (Ab 0) (eC (.int 3))))
  (Af (Bq [0] (Ao (Aj By (Aj Er (Ab 0) (eC (.int 3))) (eC (.int 0))))
   (Am [2] (Aj Er (Ab 2) (Aj powD (eC (.int 10)) (eC (.int 18)))))
   Ba)
  (Af (Bq [0] (Ao (Aj By (Aj Er (Ab 0) (eC (.int 3))) (eC (.int 2))))
   (Am [2] (Aj Er (Ab 2) (eC (.int 50))))
   Ba)
  (Af (Al 3 [] (eC (.str "")))
  (Af (Al 4 [2] (Aj Er (Ab 2) (eC (.int 12))))
  (Af (Cb [4] (Bf Dd #v[4]) (gV 5) an_0)
  (Db 3))))))))
def v_3:List D->R W:=Ag 6 ap_3
def aa_4:FS:=
  (Af (Al 5 [4] (At 1 v_3 #v[4]))
  (Bq [3,5] (Ao (Aj (inD true) (Ab 5) (Ab 3)))
   (sApp 3 (Ab 5))
   Ba))
def at_8:FS:=
  (Af (Al 3 [] (Au Ac))
  (Af (Cb [0,1,2] (Dj (At 3 v_2 #v[0,1,2])) (gV 4) aa_4)
  (Af (Bq [3] (Ao (Aj By (Ab 3) (Au Ac)))
   (Al 3 [0] (Au #v[At 1 v_3 #v[Aj Do (At 2 n_9 #v[0,eC (.int 0)]) (eC (.int 2))]]))
   Ba)
  (Db 3))))
def x_5:List D->R W:=Ag 6 at_8
def w_4:FT:=
  (Ao (Aj (inD true) (Ab 2) (Ab 1)))
def ai_1:FS:=
  (Af (Bq [0] (Ax (eIs "int" (Ab 0)))
   (Am [0] (Ha leD ltD (eC (.int 0)) (Ab 0) (Aj powD (eC (.int 10)) (eC (.int 18)))))
   Ba)
  (Af (Al 1 [] (eC (.str "abcdefghijklmnopqrstuvwxyz0123456789-_ ")))
  (Am [0,1] (eAnd (Aj ltD (Ah Cf #v[0]) (eC (.int 12))) (Aj By (Bx 1 (Dj (Ab 0)) (gC 2) w_4 (Ab 2)) (Au Ac))))))
def k_2:List D->R W:=Ag 2 ai_1
def v_4:FT:=
  (Cm (Ax (At 1 k_2 #v[4])))
def z_1:FT:=
  (Ao (Aj (inD false) (Ab 4) (Bs (Ab 0) Dm (Cu (Ab 3)))))
def aa_7:FS:=
  (Af (Bq [0] (Fx (Ao (Aj ltD (Ah Cf #v[0]) (eC (.int 1)))) (Ao (Aj gtD (Ah Cf #v[0]) (eC (.int 200)))))
   (Am [] (Au #v[eC (.str "none"),eC (.int 0)]))
   Ba)
  (Af (Al 1 [0] (Bx 2 (Ep (Ab 0)) (gC2 3 4) v_4 (Ab 3)))
  (Af (Bq [1] (Ao (Aj Fc (Ab 1) (Au Ac)))
   (Am [1] (Au #v[eC (.str "key"),Aj Bu (Ab 1) (eC (.int 0))]))
   Ba)
  (Af (Al 2 [0] (Bx 2 (Ep (Ab 0)) (gC2 3 4) z_1 (Ab 3)))
  (Af (Bq [2] (Ao (Aj Fc (Ab 2) (Au Ac)))
   (Am [2] (Au #v[eC (.str "twice"),Aj Bu (Ab 2) (eC (.int 0))]))
   Ba)
  (Am [] (Au #v[eC (.str "good"),eC (.int 0)])))))))
def o_1:List D->R W:=Ag 3 aa_7
def an_1:FS:=
  (Af (Bq [1] (Ao (Aj ltD (Ab 1) (eC (.int 3))))
   (Am [0] (Aj Cc (Aj Cc (Ab 0) (Aj Do (Ab 0) (eC (.int 8)))) (eC (.int 1))))
   Ba)
  (Am [0] (Aj Cc (Aj Do (Aj Ec (eC (.int 41)) (Ab 0)) (eC (.int 100))) (eC (.int 2)))))
def j_0:List D->R W:=Ag 2 an_1
def j_7:FE:=
  (Aj (inD false) (Ab 1) (eC (.str "abcdefghijklmnopqrstuvwxyz0123456789-_ ")))
def y_3:FS:=
  (Am [0] (eAnd (Aj leD (Ah Cf #v[0]) (eC (.int 11))) (Ah allD #v[(Bx 1 (Dj (Ab 0)) (gC 1) (λ_=> .ok true) j_7)])))
def k_5:List D->R W:=Ag 1 y_3
def af_8:FS:=
  (Af (Bq [0] (Ax (eIs "bool" (Ab 0)))
   (Am [] (eC (.bl false)))
   Ba)
  (Af (Bq [0] (Ax (eIs "int" (Ab 0)))
   (Am [0] (Ha leD leD (eC (.int 0)) (Ab 0) (eC (.int 999999999999999999))))
   Ba)
  (Am [0] (eAnd (eIs "str" (Ab 0)) (At 1 k_5 #v[0])))))
def r_6:List D->R W:=Ag 1 af_8
def j_4:FS:=
  (Bq [2] (Cm (Ax (At 1 r_6 #v[2])))
   (w_3 "NoKey" "at" [1] (Ab 1))
   Ba)
def z_9:FS:=
  (Cb [0] (Ep (Ab 0)) (Gb 1 2) j_4)
def i_2:List D->R W:=Ag 3 z_9
def j_8:FS:=
  (Af (Bq [1,3] (Ao (Aj (inK false) (Ab 3) (Ab 1)))
   (w_3 "Twice" "at" [2] (Ab 2))
   Ba)
  (aw_3 1 [] (Ab 3) (eC (.bl true))))
def ae_1:FS:=
  (Af (Al 1 [] Ht)
  (Cb [0] (Ep (Ab 0)) (Gb 2 3) j_8))
def m_7:List D->R W:=Ag 4 ae_1
def v_5:FS:=
  (Af (Bq [0] (Fx (Ao (Aj By (Ah Cf #v[0]) (eC (.int 0)))) (Ao (Aj gtD (Ah Cf #v[0]) (eC (.int 200)))))
   (aw_6 "NoKeys")
   Ba)
  (Af (Bj [0] (At 1 i_2 #v[0]))
  (Af (Bj [0] (At 1 m_7 #v[0]))
  (Am [0] (Ah Cf #v[0])))))
def Hg:List D->R W:=Ag 1 v_5
def bb_2:FS:=
  (Al 1 [1,2] (Aj Cc (Aj Cc (Aj Ec (eC (.int 40)) (Ab 1)) (Ia "str" ch_7 (eC (.str "abcdefghijklmnopqrstuvwxyz0123456789-_ ")) #v[2])) (eC (.int 1))))
def dc_2:FS:=
  (Af (Al 1 [] (eC (.int 0)))
  (Af (Cb [0] (Dj (Ab 0)) (gV 2) bb_2)
  (Db 1)))
def aw_9:List D->R W:=Ag 3 dc_2
def bh_7:FS:=
  (Af (Bq [0] (Cm (Ax (At 1 r_6 #v[0])))
   (w_3 "NoKey" "at" [] (eC (.int 0)))
   Ba)
  (Af (Bq [0] (Ax (eIs "str" (Ab 0)))
   (Am [0] (Aj Cc (Aj Ec (eC (.int 2)) (At 1 aw_9 #v[0])) (eC (.int 1))))
   Ba)
  (Am [0] (Aj Ec (eC (.int 2)) (Ab 0)))))
def aa_5:List D->R W:=Ag 1 bh_7
def dc_3:FS:=
  (Af (Bq [2] (Ao (Aj By (Ab 2) (eC (.int 0))))
   (Am [] (eC (.int 0)))
   Ba)
  (Af (Al 3 [1] (Aj Cc (eC (.int 1)) (Aj Er (Aj Cc (Aj Ec (eC (.int 1103515245)) (Ab 1)) (eC (.int 12345))) (Aj Es (eC (.int 2305843009213693951)) (eC (.int 1))))))
  (Af (Al 4 [1] (Aj Er (Aj Cc (Aj Ec (Aj Ec (eC (.int 69069)) (Ab 1)) (Ab 1)) (Aj Ec (eC (.int 7)) (Ab 1))) (eC (.int 2305843009213693951))))
  (Af (Al 5 [0,3,4] (Aj Er (Aj Cc (Aj Ec (Ab 3) (Ab 0)) (Ab 4)) (eC (.int 2305843009213693951))))
  (Am [2,5] (Aj Er (Aj Cc (Ab 5) (Aj Do (Ab 5) (eC (.int 2147483648)))) (Ab 2)))))))
def ap_4:List D->R W:=Ag 6 dc_3
def y_4:FE:=
  (Aj Cc (Aj Ec (Ab 5) (Ab 3)) (At 3 ap_4 #v[4,Aj Cc (Aj Ec (eC (.int 4)) (Ab 1)) (Ab 5),3]))
def an_2:FS:=
  (Af (Al 4 [0] (At 1 aa_5 #v[0]))
  (Am [1,2,3,4] (Ah dr_0 #v[(Bx 1 (Bf Dd #v[2]) (gC 5) (λ_=> .ok true) y_4)])))
def e_5:List D->R W:=Ag 5 an_2
def ai_2:FE:=
  (At 4 e_5 #v[4,1,2,3])
def at_9:FS:=
  (Af (Al 3 [0,2] (At 2 j_0 #v[At 1 Hg #v[0],2]))
  (Am [0,1,2,3] (Bx 1 (Dj (Ab 0)) (gC 4) (λ_=> .ok true) ai_2)))
def l_0:List D->R W:=Ag 4 at_9
def p_7:FS:=
  (Af (Bq [1,4] (Ao (Aj (inK true) (Ab 4) (Ab 1)))
   (bv_1 1 (Ab 4))
   Ba)
  (bv_0 1 (Ab 4) (Ab 2) (eC (.bl true))))
def p_8:FS:=
  (Cb [3] (Dj (Ab 3)) (gV 4) p_7)
def ae_2:FS:=
  (Af (Al 1 [] Ht)
  (Af (Cb [0] (Ep (Ab 0)) (Gb 2 3) p_8)
  (Db 1)))
def t_1:List D->R W:=Ag 5 ae_2
def ae_3:FS:=
  (db_3 2 (Ab 3) (Ab 0))
def bd_0:FS:=
  (Cb [1] (Dj (Ab 1)) (gV 3) ae_3)
def r_7:List D->Tn->Option Tn:=ci_7 4 bd_0
def ai_3:FT:=
  (Ao (Aj gtD (Ah Cf #v[3]) (eC (.int 0))))
def x_6:FS:=
  (Af (ci_5 7 3)
  (Bq [2,7] (Ao (Aj By (Ah lenK #v[Aj Fb (Ab 2) (Ab 7)]) (eC (.int 1))))
   (Af (Al 8 [2,7] (Ah minK #v[Aj Fb (Ab 2) (Ab 7)]))
  (Af (sApp 4 (eTup #v[8,7]))
  (Af (aw_3 5 [] (Ab 8) (eC (.bl true)))
  (Af (bk_5 2 r_7 (Ab 8) (Aj Bu (Ab 0) (Ab 8)))
  (sExt 3 (Aj Bu (Ab 0) (Ab 8)))))))
   Ba))
def p_4:FT:=
  (Ao (Aj (inK true) (Ab 9) (Ab 5)))
def cl_6:FS:=
  (Af (Al 2 [0] (At 1 t_1 #v[0]))
  (Af (ci_6 3 (Ah db_5 #v[2]))
  (Af (Al 4 [] (Au Ac))
  (Af (Al 5 [] Ht)
  (Af (Hu [3] ai_3 x_6 3000)
  (Af (Al 6 [0,5] (Bx 1 (Bf Dd #v[Ah Cf #v[0]]) (gC 9) p_4 (Ab 9)))
  (dt_0 4 6)))))))
def ax_0:List D->R W:=Ag 9 cl_6
def cv_3:FS:=
  (Af (Al 3 [0,1,2] (At 3 l_0 #v[0,1,2]))
  (Am [0,2,3] (At 2 ax_0 #v[3,Aj Ec (Ab 2) (At 2 j_0 #v[Ah Cf #v[0],2])])))
def u_6:List D->R W:=Ag 4 cv_3
def bl_0:FS:=
  (Af (Al 3 [0,1,2] (Aj Bu (At 3 u_6 #v[0,1,2]) (eC (.int 1))))
  (Am [3] (Aj By (Ah Cf #v[3]) (eC (.int 0)))))
def f_4:List D->R W:=Ag 4 bl_0
def q_4:FS:=
  (Bq [0,1,3] (Ax (At 3 f_4 #v[0,3,1]))
   (Db 3)
   Ba)
def ad_2:FS:=
  (Af (Bj [0] (At 1 Hg #v[0]))
  (Af (Cb [2] (Bf Dd #v[2]) (gV 3) q_4)
  (aw_6 "NoTry")))
def Ga:List D->R W:=Ag 4 ad_2
def m_2:FS:=
  (aw_3 3 [5] (Ab 4) (Ab 5))
def w_5:FE:=
  (Aj Fb (Ab 3) (Ab 6))
def aj_6:FS:=
  (Af (Al 3 [] Ht)
  (Af (Cb [0,1,2] (Dj (Aj Bu (At 3 u_6 #v[0,1,2]) (eC (.int 0)))) (Gb 4 5) m_2)
  (Am [0,3] (Bx 1 (Bf Dd #v[Ah Cf #v[0]]) (gC 6) (λ_=> .ok true) w_5))))
def p_9:List D->R W:=Ag 6 aj_6
def au_0:FS:=
  (Am [0,1] (eAnd (eNot (eIs "bool" (Ab 0))) (Ha leD ltD (eC (.int 0)) (Ab 0) (Ab 1))))
def m_8:List D->R W:=Ag 2 au_0
def bd_1:FS:=
  (Am [0,1] (eIf (Ao (Aj By (Ab 1) (eC (.int 0)))) (eC (.int 0)) (Aj Er (Ab 0) (Ab 1))))
def v_6:List D->R W:=Ag 2 bd_1
def ab_3:FE:=
  (Aj Bu (Ab 0) (Ab 4))
def ab_4:FT:=
  (Ax (At 2 m_8 #v[4,Ah Cf #v[0]]))
def cl_7:FS:=
  (Af (Al 3 [0,1] (Bx 1 (Dj (Ab 1)) (gC 4) ab_4 ab_3))
  (Am [2,3] (At 2 v_6 #v[Ah sumD #v[3],2])))
def ab_5:List D->R W:=Ag 4 cl_7
def au_1:FS:=
  (Af (Al 8 [0,3,4,5,6] (Aj Es (Aj Bu (Ab 3) (Ab 6)) (At 3 ab_5 #v[5,Aj Bu (Ab 0) (Ab 6),4])))
  (Bq [1,7] (Ax (At 2 m_8 #v[7,1]))
   (db_0 5 [4,8] (Ab 7) (At 2 v_6 #v[8,4]))
   Ba))
def cl_8:FS:=
  (Af (Al 5 [1] (eRep #v[eC (.int 0)] (Ab 1)))
  (Af (Cb [2] (iRev (Ab 2)) (Gb 6 7) au_1)
  (Db 5)))
def an_3:List D->R W:=Ag 9 cl_8
def bb_3:FS:=
  (Af (Dq 0 ["Table"] "by_salt" [1] (Ab 1))
  (Af (Dq 0 ["Table"] "kind" [2] (Ab 2))
  (Af (Dq 0 ["Table"] "part" [3] (Ab 3))
  (Af (Dq 0 ["Table"] "modulus" [4] (Ab 4))
  (Dq 0 ["Table"] "listed" [5] (Ab 5))))))
def ad_3:List D->R (List Str×List D):=AJ 6 "Table" bb_3
def bd_2:FS:=
  (Af (Al 5 [0,2] (At 2 j_0 #v[Ah Cf #v[0],2]))
  (Af (Al 6 [0,1,2] (At 3 l_0 #v[0,1,2]))
  (Af (Al 7 [0,1,2] (Aj Bu (At 3 u_6 #v[0,1,2]) (eC (.int 0))))
  (Am [1,2,3,4,5,6,7] (Fp "Table" 5 ad_3 #v[1,2,5,3,At 5 an_3 #v[6,Aj Ec (Ab 2) (Ab 5),7,4,3]])))))
def i_3:List D->R W:=Ag 8 bd_2
def r_2:FE:=
  (eIf (Ao (Aj (inD false) (Ab 2) (Ab 0))) (eC (.str "1")) (eC (.str "0")))
def aj_7:FS:=
  (Am [0,1] (Ia "str" aw_0 (eC (.str "")) #v[(Bx 1 (Bf Dd #v[1]) (gC 2) (λ_=> .ok true) r_2)]))
def l_8:List D->R W:=Ag 2 aj_7
abbrev La:List Str:=["Kept","Marked","Peeled","Ordered","PeeledAgain","OrderedAgain","KeptAgain","MarkedAgain"]
def af_9:FS:=
  (Dq 0 La "how_many" [1] (Ab 1))
def f_3:List D->R (List Str×List D):=AJ 2 "Peeled" af_9
def k_0:FE:=
  (Aj Do (Ab 7) (Ab 5))
abbrev Ll:List Str:=["Peeled","PeeledAgain"]
def ad_4:FS:=
  (Af (Al 4 [1,2,3] (At 3 Ga #v[1,2,3]))
  (Af (at_6 0 "Peeled" [1] f_3 (Ah Cf #v[1]))
  (Af (Al 5 [1,2] (At 2 j_0 #v[Ah Cf #v[1],2]))
  (Af (Al 6 [1,2,4] (At 3 p_9 #v[1,4,2]))
  (Af (Dq 0 La "own_table" [1,2,4,5,6] (At 5 i_3 #v[1,4,2,2,(Bx 1 (Dj (Ab 6)) (gC 7) (λ_=> .ok true) k_0)]))
  (Dq 0 Ll "used_row" [2,5,6] (At 2 l_8 #v[6,Aj Ec (Ab 2) (Ab 5)])))))))
def z_2:List D->R (List Str×List D):=AJ 7 "Peeled" ad_4
def ae_4:FS:=
  (Dq 0 La "how_many" [1] (Ab 1))
def g_6:List D->R (List Str×List D):=AJ 2 "Ordered" ae_4
def au_2:FS:=
  (Af (Al 4 [1,2,3] (At 3 Ga #v[1,2,3]))
  (Af (at_6 0 "Ordered" [1] g_6 (Ah Cf #v[1]))
  (Dq 0 La "own_table" [1,2,4] (At 5 i_3 #v[1,4,2,Ah Cf #v[1],eRng Dd #v[Ah Cf #v[1]]]))))
def x_7:List D->R (List Str×List D):=AJ 5 "Ordered" au_2
def au_3:FS:=
  (Al 1 [1] (Aj Ec (Ab 1) (eC (.int 2))))
def cl_9:FS:=
  (Af (Al 1 [] (eC (.int 1)))
  (Af (Cb [0] (Bf Dd #v[0]) (gV 2) au_3)
  (Db 1)))
def q_0:List D->R W:=Ag 3 cl_9
def q_1:FS:=
  (Bq [1,2,3,4] (Fx (Ao (Aj geD (Ab 3) (Ab 1))) (Cm (Ax (At 2 m_8 #v[4,2]))))
   (w_3 "NoValue" "at" [3] (Ab 3))
   Ba)
def ar_1:FS:=
  (Af (Cb [0] (Ep (Ab 0)) (Gb 3 4) q_1)
  (Bq [0,1] (Ao (Aj ltD (Ah Cf #v[0]) (Ab 1)))
   (w_3 "NoValue" "at" [0] (Ah Cf #v[0]))
   Ba))
def t_2:List D->R W:=Ag 5 ar_1
abbrev Lb:List Str:=["Kept","Marked","KeptAgain","MarkedAgain"]
def aj_8:FS:=
  (Af (Al 6 [3] (At 1 q_0 #v[3]))
  (Af (Dq 0 La "how_many" [1] (At 1 Hg #v[1]))
  (Af (Bj [1,2,6] (At 3 t_2 #v[2,Ah Cf #v[1],6]))
  (Af (Al 7 [1,4,5] (At 3 Ga #v[1,4,5]))
  (Af (Dq 0 Lb "width" [3] (Ab 3))
  (Dq 0 La "own_table" [1,2,4,6,7] (At 5 i_3 #v[1,7,4,6,2])))))))
def Hw:List D->R (List Str×List D):=AJ 8 "Kept" aj_8
def cv_4:FS:=
  (Am [0,1] (At 3 ap_4 #v[At 1 aa_5 #v[0],eC (.int 3),At 1 q_0 #v[1]]))
def Hr:List D->R W:=Ag 2 cv_4
def n_3:FE:=
  (At 2 Hr #v[6,2])
def ax_1:FS:=
  (Af (Al 5 [1,3,4] (At 3 Ga #v[1,3,4]))
  (Af (Dq 0 La "how_many" [1] (Ah Cf #v[1]))
  (Af (Dq 0 Lb "width" [2] (Ab 2))
  (Dq 0 La "own_table" [1,2,3,5] (At 5 i_3 #v[1,5,3,At 1 q_0 #v[2],(Bx 1 (Dj (Ab 1)) (gC 6) (λ_=> .ok true) n_3)])))))
def ab_6:List D->R (List Str×List D):=AJ 6 "Marked" ax_1
def cv_5:FS:=
  (Af (Bq [3] (Ao (Aj By (Ab 3) (eC (.int 0))))
   (Bj [0,1] (At 3 l_0 #v[0,eC (.int 0),1]))
   (Bq [3] (Ao (Aj By (Ab 3) (eC (.int 1))))
   (Bj [0,1] (At 3 u_6 #v[0,eC (.int 0),1]))
   (Bq [3] (Ao (Aj By (Ab 3) (eC (.int 2))))
   (Bj [0,1,2] (At 3 Ga #v[0,1,2]))
   (Bq [3] (Ao (Aj By (Ab 3) (eC (.int 3))))
   (Am [0,1,2] (Fp "Peeled" 3 z_2 #v[0,1,2]))
   (Bq [3] (Ao (Aj By (Ab 3) (eC (.int 4))))
   (Am [0,1,2] (Fp "Ordered" 3 x_7 #v[0,1,2]))
   (Bq [3] (Ao (Aj By (Ab 3) (eC (.int 5))))
   (Am [0,1,2] (Fp "Kept" 5 Hw #v[0,eRep #v[eC (.int 1)] (Ah Cf #v[0]),eC (.int 3),1,2]))
   (Bq [3] (Ao (Aj By (Ab 3) (eC (.int 6))))
   (Am [0,1,2] (Fp "Marked" 4 ab_6 #v[0,eC (.int 8),1,2]))
   Ba)))))))
  (Am [] (eC .non)))
def f_0:List D->R W:=Ag 4 cv_5
def bf_8:FE:=
  (Aj By (Ab 3) (Ab 1))
abbrev L97:List (Str×Bool):=[("NoBits",false),("NoKey",true),("NoKeys",false),("NoTry",false),("NoValue",false),("Twice",false)]
abbrev L98:List (Str×Bool):=[("NoBits",false),("NoKey",false),("NoKeys",true),("NoTry",false),("NoValue",false),("Twice",false)]
abbrev J10:List (Str×Bool):=[("NoBits",false),("NoKey",false),("NoKeys",false),("NoTry",true),("NoValue",false),("Twice",false)]
abbrev J11:List (Str×Bool):=[("NoBits",false),("NoKey",false),("NoKeys",false),("NoTry",false),("NoValue",false),("Twice",true)]
abbrev J13:List (Str×Bool):=[("NoBits",true),("NoKey",true),("NoKeys",true),("NoTry",true),("NoValue",true),("Twice",true)]
abbrev J18:List (Str×Bool):=[("NoBits",true),("NoKey",false),("NoKeys",false),("NoTry",false),("NoValue",false),("Twice",false)]
abbrev J19:List (Str×Bool):=[("NoBits",false),("NoKey",false),("NoKeys",false),("NoTry",false),("NoValue",true),("Twice",false)]
def bq_4:FS:=
  (Af (Bq [0] (Fx (Cm (Ax (Ff J13 (Ab 0)))) (Cm (Ax (Ff J13 (Ab 0)))))
   (Am [] (eC (.bl true)))
   Ba)
  (Af (Al 2 [0] (Au #v[Ff L97 (Ab 0),Ff L98 (Ab 0),Ff J10 (Ab 0),Ff J11 (Ab 0)]))
  (Af (Bq [1,2] (Ao (Aj Fc (Ab 2) (Bx 1 (Bf Dd #v[eC (.int 4)]) (gC 3) (λ_=> .ok true) bf_8)))
   (Am [] (eC (.bl true)))
   Ba)
  (Af (Bq [0] (Ax (Ff J18 (Ab 0)))
   (Am [] (eC (.bl true)))
   Ba)
  (Am [0] (Ff J19 (Ab 0)))))))
def m_9:List D->R W:=Ag 3 bq_4
def q_5:FS:=
  (Bj [1,2,3,4] (At 4 f_0 #v[4,1,2,3]))
abbrev Lf:List Str:=["NoBits","NoKey","NoValue","Twice"]
def ar_2:FS:=
  (Af (Al 5 [7] (Au #v[eC (.str "key"),Gs Lf "at" (Ab 7)]))
  (Al 6 [7] (At 2 m_9 #v[7,eC (.int 0)])))
def ar_3:FS:=
  (Af (Al 5 [] (Au #v[eC (.str "none"),eC (.int 0)]))
  (Al 6 [7] (At 2 m_9 #v[7,eC (.int 1)])))
def ar_4:FS:=
  (Af (Al 5 [] (Au #v[eC (.str "try"),eC (.int 0)]))
  (Al 6 [7] (At 2 m_9 #v[7,eC (.int 2)])))
def ar_5:FS:=
  (Af (Al 5 [7] (Au #v[eC (.str "twice"),Gs Lf "at" (Ab 7)]))
  (Al 6 [7] (At 2 m_9 #v[7,eC (.int 3)])))
def bd_3:FS:=
  (Af (Al 4 [0] (Ah at_2 #v[0]))
  (Af (Al 5 [] (Au #v[eC (.str "good"),eC (.int 0)]))
  (Af (Al 6 [] (eC (.bl false)))
  (Af (Gc q_5 [⟨some 7, L97,ar_2⟩,⟨some 7, L98,ar_3⟩,⟨some 7, J10,ar_4⟩,⟨some 7, J11,ar_5⟩])
  (Af (Bq [0,4,5,6] (Fx (Ax (Ab 6)) (Fx (Ao (Aj Fc (Ab 4) (Ab 0))) (Ax (eIs "bool" (Aj Bu (Ab 5) (eC (.int 1)))))))
   (Am [] (eC .non))
   Ba)
  (Db 5))))))
def He:List D->R W:=Ag 8 bd_3
def y_5:FS:=
  (Bq [0,1,2,3,4,5] (Ao (Aj Fc (At 4 He #v[0,1,2,5]) (Aj Bu (Au #v[3,4]) (Ah Fa #v[Aj gtD (Ab 5) (eC (.int 1))]))))
   (Am [] (eC (.bl false)))
   Ba)
def an_4:FS:=
  (Af (Al 3 [0] (At 1 o_1 #v[0]))
  (Af (Al 4 [3] (Ab 3))
  (Af (Bq [3] (Ao (Aj By (Ab 3) (Au #v[eC (.str "good"),eC (.int 0)])))
   (Af (Al 4 [0,1,2] (At 4 He #v[0,1,2,eC (.int 2)]))
  (Bq [4] (Ao (Aj inQ (Ab 4) (Au #v[Au #v[eC (.str "good"),eC (.int 0)],Au #v[eC (.str "try"),eC (.int 0)]])))
   (Am [] (eC (.bl false)))
   Ba))
   Ba)
  (Af (Cb [] (Bf Dd #v[eC (.int 7)]) (gV 5) y_5)
  (Am [] (eC (.bl true)))))))
def m_3:List D->R W:=Ag 6 an_4
def bq_5:FS:=
  (Am [0,1] (Ia "str" ca_0 (Bs (Ab 0) Dm (Cu (Ah Ez #v[1,eC (.int 0)]))) #v[eC (.str "1")]))
def ae_7:List D->R W:=Ag 2 bq_5
def ab_7:FS:=
  (Am [0,1] (At 4 e_5 #v[1,Bz ["Table"] "by_salt" (Ab 0),Bz ["Table"] "kind" (Ab 0),Bz ["Table"] "part" (Ab 0)]))
def d_4:List D->R W:=Ag 2 ab_7
def aj_9:FS:=
  (Am [0,1] (Bp "places" 1 [("Table",d_4)] (Bz La "own_table" (Ab 0)) #v[1]))
def b_3:List D->R W:=Ag 2 aj_9
def bq_6:FS:=
  (Am [0,1] (At 3 ab_5 #v[Bz ["Table"] "listed" (Ab 0),Bp "places" 1 [("Table",d_4)] (Ab 0) #v[1],Bz ["Table"] "modulus" (Ab 0)]))
def h_8:List D->R W:=Ag 2 bq_6
abbrev J26:List (Str×(AF)):=[("Peeled",b_3),("PeeledAgain",b_3)]
def ab_8:FS:=
  (Af (Al 2 [0,1] (Aj Bu (Bp "places" 1 J26 (Ab 0) #v[1]) (Bp "total" 1 [("Table",h_8)] (Bz La "own_table" (Ab 0)) #v[1])))
  (Am [0,2] (At 2 ae_7 #v[Bz Ll "used_row" (Ab 0),2])))
def d_1:List D->R W:=Ag 3 ab_8
def aq_2:FS:=
  (Am [0,1] (Bp "total" 1 [("Table",h_8)] (Bz La "own_table" (Ab 0)) #v[1]))
def c_5:List D->R W:=Ag 2 aq_2
abbrev J20:List (Str×(AF)):=[("Peeled",d_1),("Ordered",c_5),("PeeledAgain",d_1),("OrderedAgain",c_5)]
def bq_7:FS:=
  (Am [0,1] (Ah minD #v[Bp "number_of" 1 J20 (Ab 0) #v[1],Aj Es (Bz La "how_many" (Ab 0)) (eC (.int 1))]))
def b_4:List D->R W:=Ag 2 bq_7
abbrev J17:List (Str×(AF)):=[("Peeled",b_4),("Ordered",b_4),("PeeledAgain",b_4),("OrderedAgain",b_4)]
def bb_4:FE:=
  (Bp "room" 1 J17 (Ab 0) #v[2])
def an_5:FS:=
  (Af (Bj [1] (At 1 i_2 #v[1]))
  (Am [0,1] (Bx 1 (Dj (Ab 1)) (gC 2) (λ_=> .ok true) bb_4)))
def b_7:List D->R W:=Ag 2 an_5
def ag_0:FS:=
  (Am [0,1] (Bp "places" 1 [("Table",d_4)] (Bz La "own_table" (Ab 0)) #v[1]))
def d_0:List D->R W:=Ag 2 ag_0
def ar_6:FS:=
  (Am [0,1] (Bp "places" 1 [("Table",d_4)] (Bz La "own_table" (Ab 0)) #v[1]))
def e_3:List D->R W:=Ag 2 ar_6
def ak_0:FS:=
  (Am [0,1] (Bp "places" 1 [("Table",d_4)] (Bz La "own_table" (Ab 0)) #v[1]))
def d_7:List D->R W:=Ag 2 ak_0
def cc_3:FS:=
  (Am [0,1] (Bp "total" 1 [("Table",h_8)] (Bz La "own_table" (Ab 0)) #v[1]))
def h_1:List D->R W:=Ag 2 cc_3
def bl_1:FS:=
  (Am [0,1] (Aj By (Bp "total" 1 [("Table",h_8)] (Bz La "own_table" (Ab 0)) #v[1]) (At 2 Hr #v[1,Bz Lb "width" (Ab 0)])))
def e_7:List D->R W:=Ag 2 bl_1
abbrev J14:List (Str×(AF)):=[("Peeled",b_3),("Ordered",d_0),("Kept",e_3),("Marked",d_7),("PeeledAgain",b_3),("OrderedAgain",d_0),("KeptAgain",e_3),("MarkedAgain",d_7)]
abbrev J21:List (Str×(AF)):=[("Peeled",b_7),("Ordered",b_7),("PeeledAgain",b_7),("OrderedAgain",b_7)]
abbrev J27:List (Str×(AF)):=[("Marked",e_7),("MarkedAgain",e_7)]
abbrev J29:List (Str×(AF)):=[("Kept",h_1),("KeptAgain",h_1)]
def cv_6:FS:=
  (Bq [2] (Ao (Aj By (Ab 2) (eC (.str "mark"))))
   (Bj [1] (At 2 Hr #v[1,eC (.int 8)]))
   (Bq [2] (Ao (Aj By (Ab 2) (eC (.str "places_of"))))
   (Bj [1] (At 4 e_5 #v[1,eC (.int 0),eC (.int 2),eC (.int 5)]))
   (Bq [2] (Ao (Aj By (Ab 2) (eC (.str "room"))))
   (Bj [0,1] (Bp "room" 1 J17 (Ab 0) #v[1]))
   (Bq [2] (Ao (Aj By (Ab 2) (eC (.str "rooms"))))
   (Bj [0,1] (Bp "rooms" 1 J21 (Ab 0) #v[Au #v[eC (.int 3),eC (.str "b"),1,Aj Es (eC (.int 0)) (eC (.int 1))]]))
   (Bq [2] (Ao (Aj By (Ab 2) (eC (.str "places"))))
   (Bj [0,1] (Bp "places" 1 J14 (Ab 0) #v[1]))
   (Bq [2] (Ao (Aj By (Ab 2) (eC (.str "value"))))
   (Bj [0,1] (Bp "value" 1 J29 (Ab 0) #v[1]))
   (Bj [0,1] (Bp "knows" 1 J27 (Ab 0) #v[1]))))))))
def i_8:List D->R W:=Ag 3 cv_6
def ai_4:FS:=
  (Bj [0,1,2] (At 3 i_8 #v[0,1,2]))
def ax_2:FS:=
  (Al 3 [4] (Au #v[Gs Lf "at" (Ab 4),At 2 m_9 #v[4,eC (.int 0)]]))
def bl_2:FS:=
  (Af (Al 3 [] (eC .non))
  (Af (Gc ai_4 [⟨some 4, L97,ax_2⟩])
  (Am [2,3] (eAnd (Aj By (Ab 3) (Au #v[Aj Bu (Au #v[eC (.int 0),eC (.int 2)]) (Ah Fa #v[Aj By (Ab 2) (eC (.str "rooms"))]),eC (.bl false)])) (eNot (eIs "bool" (Aj Bu (Ab 3) (eC (.int 0)))))))))
def g_4:List D->R W:=Ag 5 bl_2
def ar_7:FS:=
  (Af (Bq [1] (Ao (Aj ltD (Ab 1) (eC (.int 1))))
   (Am [0] (Aj By (Ab 0) (eC (.int 0))))
   Ba)
  (Am [0,1] (Aj By (Aj Er (Ab 0) (Ab 1)) (eC (.int 0)))))
def t_3:List D->R W:=Ag 2 ar_7
def ae_8:FS:=
  (Bq [3] (tAndF (Ao (Aj Fc (Ab 3) (eC (.str "0")))) (Ao (Aj Fc (Ab 3) (eC (.str "1")))))
   (w_3 "NoBits" "at" [2] (Ab 2))
   Ba)
def bd_4:FS:=
  (Af (Cb [0] (Ep (Ab 0)) (Gb 2 3) ae_8)
  (Bq [0,1] (Cm (Ax (At 2 t_3 #v[Ah Cf #v[0],1])))
   (w_3 "NoBits" "at" [0] (Ah Cf #v[0]))
   Ba))
def z_3:List D->R W:=Ag 4 bd_4
def aa_0:FS:=
  (Al 1 [1,2] (Aj Cc (Aj Ec (eC (.int 2)) (Ab 1)) (eIf (Ao (Aj By (Ab 2) (eC (.str "1")))) (eC (.int 1)) (eC (.int 0)))))
def ar_8:FS:=
  (Af (Al 1 [] (eC (.int 0)))
  (Af (Cb [0] (Dj (Ab 0)) (gV 2) aa_0)
  (Db 1)))
def t_4:List D->R W:=Ag 3 ar_8
def t_5:FT:=
  (Ao (Aj ltD (Ab 3) (Ah Cf #v[0])))
def y_6:FS:=
  (Af (sApp 2 (At 1 t_4 #v[Bs (Ab 0) (Cu (Ab 3)) (Cu (Aj Cc (Ab 3) (Ab 1)))]))
  (Al 3 [1,3] (Aj Cc (Ab 3) (Ab 1))))
def bd_5:FS:=
  (Af (Bj [0,1] (At 2 z_3 #v[0,1]))
  (Af (Al 2 [] (Au Ac))
  (Af (Al 3 [] (eC (.int 0)))
  (Af (Hu [0,3] t_5 y_6 3000)
  (Db 2)))))
def z_4:List D->R W:=Ag 4 bd_5
def ak_1:FS:=
  (Am [0,1,2] (eIf (Ao (Aj gtD (Ab 1) (eC (.int 0)))) (At 2 z_4 #v[0,1]) (eRep #v[eC (.int 0)] (Ab 2))))
def q_2:List D->R W:=Ag 3 ak_1
def ai_5:FS:=
  (Af (Dq 0 La "how_many" [1] (Ab 1))
  (Af (Dq 0 La "own_table" [2] (Ab 2))
  (Dq 0 Ll "used_row" [3] (Ab 3))))
def t_6:List D->R (List Str×List D):=AJ 4 "PeeledAgain" ai_5
def ag_1:FS:=
  (Af (Dq 0 La "how_many" [1] (Ab 1))
  (Dq 0 La "own_table" [2] (Ab 2)))
def r_8:List D->R (List Str×List D):=AJ 3 "OrderedAgain" ag_1
def an_6:FS:=
  (Af (Dq 0 La "how_many" [1] (Ab 1))
  (Af (Dq 0 La "own_table" [2] (Ab 2))
  (Dq 0 Lb "width" [3] (Ab 3))))
def z_5:List D->R (List Str×List D):=AJ 4 "KeptAgain" an_6
def ai_6:FS:=
  (Af (Dq 0 La "how_many" [1] (Ab 1))
  (Af (Dq 0 La "own_table" [2] (Ab 2))
  (Dq 0 Lb "width" [3] (Ab 3))))
def t_7:List D->R (List Str×List D):=AJ 4 "MarkedAgain" ai_6
def ab_9:FS:=
  (Af (Al 7 [1,3] (At 2 j_0 #v[3,1]))
  (Af (Al 8 [1,4,5,7] (At 3 q_2 #v[5,4,Aj Ec (Ab 1) (Ab 7)]))
  (Af (Bq [0] (Ao (Aj By (Ab 0) (eC (.str "peeled"))))
   (Am [1,2,3,6,7,8] (Fp "PeeledAgain" 3 t_6 #v[3,Fp "Table" 5 ad_3 #v[2,1,7,1,8],6]))
   Ba)
  (Af (Bq [0] (Ao (Aj By (Ab 0) (eC (.str "ordered"))))
   (Am [1,2,3,7,8] (Fp "OrderedAgain" 2 r_8 #v[3,Fp "Table" 5 ad_3 #v[2,1,7,3,8]]))
   Ba)
  (Af (Al 9 [1,2,4,7,8] (Fp "Table" 5 ad_3 #v[2,1,7,At 1 q_0 #v[4],8]))
  (Af (Bq [0] (Ao (Aj By (Ab 0) (eC (.str "kept"))))
   (Am [3,4,9] (Fp "KeptAgain" 3 z_5 #v[3,9,4]))
   Ba)
  (Am [3,4,9] (Fp "MarkedAgain" 3 t_7 #v[3,9,4]))))))))
def r_9:List D->R W:=Ag 10 ab_9
def ax_3:FS:=
  (Am [0] (At 7 r_9 #v[Aj Bu (Ab 0) (eC (.int 0)),Aj Bu (Ab 0) (eC (.int 1)),Aj Bu (Ab 0) (eC (.int 2)),Aj Bu (Ab 0) (eC (.int 3)),Aj Bu (Ab 0) (eC (.int 4)),Aj Bu (Ab 0) (eC (.int 5)),Aj Bu (Ab 0) (eC (.int 6))]))
def h_9:List D->R W:=Ag 1 ax_3
def u_7:FS:=
  (Af (Al 2 [2,3] (Aj Cc (Ah da_5 #v[Aj Er (Ab 3) (eC (.int 2))]) (Ab 2)))
  (Al 3 [3] (Aj Do (Ab 3) (eC (.int 2)))))
def ag_2:FS:=
  (Af (Al 2 [] (eC (.str "")))
  (Af (Al 3 [0] (Ab 0))
  (Af (Cb [1] (Bf Dd #v[1]) (gV 4) u_7)
  (Db 2))))
def o_2:List D->R W:=Ag 5 ag_2
def an_7:FS:=
  (Bq [2,4] (Cm (Ax (At 2 m_8 #v[4,2])))
   (w_3 "NoBits" "at" [3] (Ab 3))
   Ba)
def ad_5:FE:=
  (At 2 o_2 #v[5,1])
def bv_9:FS:=
  (Af (Al 2 [1] (At 1 q_0 #v[1]))
  (Af (Cb [0] (Ep (Ab 0)) (Gb 3 4) an_7)
  (Am [0,1] (Ia "str" aw_0 (eC (.str "")) #v[(Bx 1 (Dj (Ab 0)) (gC 5) (λ_=> .ok true) ad_5)]))))
def ag_3:List D->R W:=Ag 5 bv_9
def bq_8:FS:=
  (Am [0] (Ah at_2 #v[Bz ["Table"] "listed" (Ab 0)]))
def k_6:List D->R W:=Ag 1 bq_8
def bl_3:FS:=
  (Am [0] (Bp "table" 0 [("Table",k_6)] (Bz La "own_table" (Ab 0)) Ac))
def f_5:List D->R W:=Ag 1 bl_3
def bf_9:FS:=
  (Am [0] (Bp "table" 0 [("Table",k_6)] (Bz La "own_table" (Ab 0)) Ac))
def e_8:List D->R W:=Ag 1 bf_9
def cc_4:FS:=
  (Am [0] (Bp "table" 0 [("Table",k_6)] (Bz La "own_table" (Ab 0)) Ac))
def i_0:List D->R W:=Ag 1 cc_4
def bl_4:FS:=
  (Am [0] (Bp "table" 0 [("Table",k_6)] (Bz La "own_table" (Ab 0)) Ac))
def f_6:List D->R W:=Ag 1 bl_4
def bq_9:FS:=
  (Am [0] (Bz La "how_many" (Ab 0)))
def b_6:List D->R W:=Ag 1 bq_9
def cm_0:FS:=
  (Am [0] (Bz La "how_many" (Ab 0)))
def h_4:List D->R W:=Ag 1 cm_0
def br_0:FS:=
  (Am [0] (Bz La "how_many" (Ab 0)))
def e_9:List D->R W:=Ag 1 br_0
def cc_5:FS:=
  (Am [0] (Bz ["Table"] "by_salt" (Ab 0)))
def m_4:List D->R W:=Ag 1 cc_5
def br_1:FS:=
  (Am [0] (Bp "salt" 0 [("Table",m_4)] (Bz La "own_table" (Ab 0)) Ac))
def g_7:List D->R W:=Ag 1 br_1
def bl_5:FS:=
  (Am [0] (Bp "salt" 0 [("Table",m_4)] (Bz La "own_table" (Ab 0)) Ac))
def f_7:List D->R W:=Ag 1 bl_5
def cm_1:FS:=
  (Am [0] (Bp "salt" 0 [("Table",m_4)] (Bz La "own_table" (Ab 0)) Ac))
def j_1:List D->R W:=Ag 1 cm_1
def br_2:FS:=
  (Am [0] (Bp "salt" 0 [("Table",m_4)] (Bz La "own_table" (Ab 0)) Ac))
def g_8:List D->R W:=Ag 1 br_2
abbrev J12:List (Str×(AF)):=[("Peeled",b_6),("Ordered",b_6),("Kept",h_4),("Marked",e_9),("PeeledAgain",b_6),("OrderedAgain",b_6),("KeptAgain",h_4),("MarkedAgain",e_9)]
abbrev J15:List (Str×(AF)):=[("Peeled",f_5),("Ordered",e_8),("Kept",i_0),("Marked",f_6),("PeeledAgain",f_5),("OrderedAgain",e_8),("KeptAgain",i_0),("MarkedAgain",f_6)]
abbrev J16:List (Str×(AF)):=[("Peeled",g_7),("Ordered",f_7),("Kept",j_1),("Marked",g_8),("PeeledAgain",g_7),("OrderedAgain",f_7),("KeptAgain",j_1),("MarkedAgain",g_8)]
def bw_0:FS:=
  (Af (Al 4 [1,2] (At 2 ag_3 #v[Bp "table" 0 J15 (Ab 1) Ac,2]))
  (Am [0,1,2,3,4] (eTup #v[0,Bz ["Table"] "kind" (Bz La "own_table" (Ab 1)),Bp "salt" 0 J16 (Ab 1) Ac,Bp "many" 0 J12 (Ab 1) Ac,2,4,3])))
def l_9:List D->R W:=Ag 5 bw_0
def cm_2:FS:=
  (Am [0] (Ah Ez #v[eMeth0 "int" dr_7 (Aj Es (Ab 0) (eC (.int 1))),eC (.int 1)]))
def o_7:List D->R W:=Ag 1 cm_2
def br_3:FS:=
  (Am [0] (Bz Ll "used_row" (Ab 0)))
def g_9:List D->R W:=Ag 1 br_3
abbrev J22:List (Str×Bool):=[("Peeled",true),("Ordered",false),("Kept",false),("Marked",false)]
abbrev J23:List (Str×Bool):=[("Peeled",false),("Ordered",true),("Kept",false),("Marked",false)]
abbrev J24:List (Str×Bool):=[("Peeled",false),("Ordered",false),("Kept",true),("Marked",false)]
abbrev J25:List (Str×Bool):=[("Peeled",false),("Ordered",false),("Kept",false),("Marked",true)]
abbrev J28:List (Str×(AF)):=[("Peeled",g_9),("PeeledAgain",g_9)]
def w_6:FS:=
  (Af (Bq [0] (Ax (Ee J22 (Ab 0)))
   (Am [0] (At 4 l_9 #v[eC (.str "peeled"),0,At 1 o_7 #v[Bz ["Table"] "kind" (Bz La "own_table" (Ab 0))],Bp "used" 0 J28 (Ab 0) Ac]))
   Ba)
  (Af (Bq [0] (Ax (Ee J23 (Ab 0)))
   (Am [0] (At 4 l_9 #v[eC (.str "ordered"),0,At 1 o_7 #v[Bp "many" 0 J12 (Ab 0) Ac],eC (.str "")]))
   Ba)
  (Af (Bq [0] (Ax (Ee J24 (Ab 0)))
   (Am [0] (At 4 l_9 #v[eC (.str "kept"),0,Bz Lb "width" (Ab 0),eC (.str "")]))
   Ba)
  (Af (Bq [0] (Ax (Ee J25 (Ab 0)))
   (Am [0] (At 4 l_9 #v[eC (.str "marked"),0,Bz Lb "width" (Ab 0),eC (.str "")]))
   Ba)
  (Am [] (eC .non))))))
def g_2:List D->R W:=Ag 1 w_6
def s_3:FS:=
  (Bq [2,6,7] (Cm (Ax (At 3 g_4 #v[6,2,7])))
   (Am [] (eC (.bl false)))
   Ba)
def s_4:FS:=
  (Cb [4] (Dj (Ab 4)) (gV 7) s_3)
def k_7:FS:=
  (Af (Al 4 [3] (Aj Bu (Au #v[Au #v[eC (.str "room"),eC (.str "rooms"),eC (.str "places")],Au #v[eC (.str "value"),eC (.str "places")],Au #v[eC (.str "knows"),eC (.str "places")]]) (Ah Ez #v[eC (.int 0),Aj Es (Ab 3) (eC (.int 4))])))
  (Af (Al 5 [0,1,3] (At 4 f_0 #v[Ah at_2 #v[0],1,eC (.int 8),3]))
  (Cb [5] (Dj (Au #v[5,At 1 h_9 #v[At 1 g_2 #v[5]]])) (gV 6) s_4)))
def an_8:FS:=
  (Af (Bq [2] (Fx (Cm (Ax (At 3 g_4 #v[eC .non,2,eC (.str "mark")]))) (Cm (Ax (At 3 g_4 #v[eC .non,2,eC (.str "places_of")]))))
   (Am [] (eC (.bl false)))
   Ba)
  (Af (Bq [0,1] (Ao (Aj Fc (At 4 He #v[0,1,eC (.int 8),eC (.int 2)]) (Au #v[eC (.str "good"),eC (.int 0)])))
   (Am [] (eC (.bl true)))
   Ba)
  (Af (Cb [] (Dj (Au #v[eC (.int 3),eC (.int 4),eC (.int 5),eC (.int 6)])) (gV 3) k_7)
  (Am [] (eC (.bl true))))))
def s_0:List D->R W:=Ag 8 an_8
def cc_6:FS:=
  (Bq [3,4,11] (Cm (Ax (At 3 m_3 #v[11,3,4])))
   (Am [] (eC (.bl false)))
   Ba)
def dc_4:FS:=
  (Al 1 [0] (At 3 x_5 #v[0,eC (.int 2),eC (.int 20)]))
def dc_5:FS:=
  (Al 2 [0] (At 2 n_9 #v[0,eC (.int 1)]))
def dc_6:FS:=
  (Al 3 [2] (Aj Cc (eC (.int 2)) (Aj Er (Ab 2) (eC (.int 2)))))
def dc_7:FS:=
  (Al 4 [2] (Aj Cc (eC (.int 1)) (Aj Er (Aj Do (Ab 2) (eC (.int 2))) (eC (.int 8)))))
def dc_8:FS:=
  (Al 5 [2] (Aj Bu (Au #v[Aj Es (eC (.int 0)) (eC (.int 1)),Aj powD (eC (.int 10)) (eC (.int 18)),eC (.str "A"),eC (.str "twelve signs"),eC (.str "a+b"),Aj Es (eC (.int 0)) (Aj powD (eC (.int 10)) (eC (.int 20))),eC (.str "a\n")]) (Aj Er (Aj Do (Ab 2) (eC (.int 16))) (eC (.int 7)))))
def dc_9:FS:=
  (Al 6 [1,2] (Aj Er (Aj Do (Ab 2) (eC (.int 128))) (Aj Cc (Ah Cf #v[1]) (eC (.int 1)))))
def dd_0:FS:=
  (Al 7 [2] (eRng Dd #v[Aj Cc (eC (.int 201)) (Aj Er (Aj Do (Ab 2) (eC (.int 4096))) (eC (.int 7)))]))
def dd_1:FS:=
  (Al 8 [1,2] (Aj Bu (Ab 1) (Aj Er (Aj Do (Ab 2) (eC (.int 32768))) (Ah Cf #v[1]))))
def dd_2:FS:=
  (Al 9 [1,5,6] (Aj Cc (Aj Cc (Bs (Ab 1) Dm (Cu (Ab 6))) (Au #v[5])) (Bs (Ab 1) (Cu (Ab 6)) Dm)))
def cm_3:FS:=
  (Al 10 [5,7,9] (Au #v[Au Ac,7,Aj Cc (Aj Cc (Bs (Ab 7) Dm (Cu (eC (.int 100)))) (Au #v[5])) (Bs (Ab 7) (Cu (eC (.int 100))) Dm),9]))
def bl_6:FS:=
  (Cb [1,5,6,8,9,10] (Dj (Aj Cc (Ab 10) (Au #v[Aj Cc (Ab 9) (Au #v[5,8]),Aj Cc (Aj Cc (Bs (Ab 1) Dm (Cu (Ab 6))) (Au #v[8])) (Bs (Ab 1) (Cu (Ab 6)) Dm),1]))) (gV 11) cc_6)
def cm_4:FS:=
  (Am [1,3,5] (eAnd (At 3 s_0 #v[1,3,5]) (At 3 s_0 #v[Au #v[eC (.str "a"),eC (.int 0),eC (.str "b c")],Aj Es (eC (.int 5)) (Ab 3),5])))
def ek_2:FS:=
  (Af dc_4
  (Af dc_5
  (Af dc_6
  (Af dc_7
  (Af dc_8
  (Af dc_9
  (Af dd_0
  (Af dd_1
  (Af dd_2
  (Af cm_3
  (Af bl_6
  cm_4)))))))))))
def ek_3:List D->R W:=Ag 12 ek_2
end My
namespace L3
open PySem L2
def Fw:Nat->D->Bool
 |_,.non=>true
 |_,.bl _=>true
 |_,.int _=>true
 |_,.str x=>x.cps.all (· < 0x110000)
 |n + 1,.lst ds=>ds.all (Fw n)
 |n + 1,.tup ds=>ds.all (Fw n)
 |_,_=>false
def dv_0:∀(n:Nat) (d:D),Fw n d=true->(Dx d).canLay0=true/\(Dx d).depth<=n/\(Dx d).eqv (Dx d)=true:=by
 intro n
 induction n with
 |zero=>
  intro d h;cases d with
  |non=>exact⟨rfl,B0 _,rfl⟩
  |bl b=>exact⟨rfl,B0 _,by cases b <;> rfl⟩
  |int i=>exact⟨rfl,B0 _,by show(i ==i)=true;simp⟩
  |str x=>exact⟨h,B0 _,by show(x ==x)=true;simp⟩
  |_=>cases h
 |succ n ih=>
  have all:∀ds:List D,ds.all (Fw n)=true->PyData.canLayAll0 (Gy ds)=true/\PyData.depthAll (Gy ds)<=n/\PyData.eqvAll (Gy ds) (Gy ds)=true:=by
   intro ds
   induction ds with
   |nil=>intro _;exact⟨rfl,L9 _,rfl⟩
   |cons d ds ih2=>
    intro h;rw[Q8,C4]at h;obtain⟨a1,a2,a3⟩:=ih d h.1;obtain⟨b1,b2,b3⟩:=ih2 h.2;refine⟨?_, ?_, ?_⟩
    ·show(PyData.canLay0 (Dx d) && PyData.canLayAll0 (Gy ds))=true;rw[a1,b1];rfl
    ·show max (PyData.depth (Dx d)) (PyData.depthAll (Gy ds))<=n;exact Nat.max_le.mpr ⟨a2,b2⟩
    ·show(PyData.eqv (Dx d) (Dx d) && PyData.eqvAll (Gy ds) (Gy ds))=true;rw[a3,b3];rfl
  intro d h;cases d with
  |non=>exact⟨rfl,L9 _,rfl⟩
  |bl b=>exact⟨rfl,L9 _,by cases b <;> rfl⟩
  |int i=>exact⟨rfl,L9 _,by show(i ==i)=true;simp⟩
  |str x=>exact⟨h,L9 _,by show(x ==x)=true;simp⟩
  |lst ds=>
   obtain⟨b1,b2,b3⟩:=all ds h;exact⟨b1,Nat.succ_le_succ b2,b3⟩
  |tup ds=>
   obtain⟨b1,b2,b3⟩:=all ds h;exact⟨b1,Nat.succ_le_succ b2,b3⟩
  |_=>cases h
def cm_5{n:Nat}{d:D}(h:Fw n d=true)(hn:n<=60):eqC d d=true/\Fj d d=true:=by
 obtain⟨a1,a2,a3⟩:=dv_0 n d h;refine⟨?_,a3⟩;unfold eqC;rw[a1,D9 (C5 a2 hn)];rfl
def cm_6{d:D}(n:Nat)(h:Fw n d=true)(hn:n<=60:=by decide):By d d=.ok (.sh (.bl true)):=by
 obtain⟨h1,h2⟩:=cm_5 h hn;unfold By
 split
 ·simp
 ·rw[if_pos h1,h2]
def ax_4{d:D}(n:Nat)(h:Fw n d=true)(hn:n<=60:=by decide):Fc d d=.ok (.sh (.bl false)):=by
 obtain⟨h1,h2⟩:=cm_5 h hn;unfold Fc
 split
 ·simp
 ·rw[if_pos h1,h2];rfl
theorem bw_1{α:Type}(f:α->Int):∀l:List α,bu_8 (l.map λa=>D.int (f a))=some (l.map f)
 | []=>rfl
 |a::l=>by
  show(bu_8 (l.map λa=>D.int (f a))).map (f a:: ·)=_;rw[bw_1 f l];rfl
def er_9{α:Type}(f:α->Int)(l:List α):sumD [.lst (l.map λa=>D.int (f a))]=.ok (.sh (.int (l.map f).sum)):=by
 unfold sumD;simp only[bw_1]
def ek_4{n i:Nat}(h:i < n):ixN n (i:Int)=some i:=by
 unfold ixN;rw[if_pos (),if_pos ()];simp
def Fd{α:Type}{xs:List α}{i:Nat}{x:α}(h:xs[i]? =some x):atI xs (i:Int)=some x:=by
 unfold atI;rw[ek_4 (A5.mp h).1];exact h
end L3
namespace My
open PySem L2 L3
def cv_7{α:Type}(l:List α)(a:Nat)(h:a<=l.length):Ek l none (some (a:Int))=l.take a:=by
 unfold Ek;have e1:HT.sIx l.length 0 none=0:=rfl;have e2:HT.sIx l.length l.length (some (a:Int))=a:=by
  show(if(a:Int) < 0 then((a:Int) + (l.length:Int)).toNat else min (a:Int).toNat l.length)=a;rw[if_neg ()];omega
 rw[e1,e2,V3,Nat.sub_zero]
def cm_7{α:Type}(l:List α)(a:Nat)(h:a<=l.length):Ek l (some (a:Int)) none=l.drop a:=by
 unfold Ek;have e1:HT.sIx l.length l.length none=l.length:=rfl;have e2:HT.sIx l.length 0 (some (a:Int))=a:=by
  show(if(a:Int) < 0 then((a:Int) + (l.length:Int)).toNat else min (a:Int).toNat l.length)=a;rw[if_neg ()];omega
 rw[e1,e2,V4 (by rw[S9];omega)]
def mixZ(c k:Int):Int:=((c + 1) * (48271 + 118 * k) % 2147483629 / 977 * 16807 + (c + 1) * (48271 + 118 * k) % 2147483629 * (k * k + 7) + k) % 2147483587
def bl_7(c k:Int)(h1: -1000<=k)(h2:k<=1000):o_0 [.int c,.int k]=.ok (.sh (.int (mixZ c k))):=by
 have hk: -18446744073709551616 < k * k + 7/\k * k + 7 < 18446744073709551616:=by
  have:k * k<=1000 * 1000:=by
   rcases Int.le_total 0 k with h|h
   ·exact Q1 h2 h2 h ⋯
   ·have:(-k) * (-k)<=1000 * 1000:=Q1 () () () ⋯
    rwa[Int.neg_mul_neg]at this
  have:0<=k * k:=by
   rcases Int.le_total 0 k with h|h
   ·exact R5 h h
   ·have:=R5 (a:= -k) (b:= -k) () ()
    rwa[Int.neg_mul_neg]at this
  omega
 have m1:Fk 118 k=true:=p_1 ⋯ ⋯;have m2:Fk (c + 1) (48271 + 118 * k)=true:=ba_8 () ();have m3:∀z:Int,Fk z 16807=true:=λz=>ba_8 ⋯ ⋯;have m4:Fk k k=true:=p_1 () ();have m5:∀z:Int,Fk z (k * k + 7)=true:=λz=>ba_8 hk.1 hk.2
 simp![o_0,bv_8,An,Gf m1,Gf m2,Gf (m3 _),Gf m4,Gf (m5 _),p_2,w_2 (show(0:Int) < 977 by decide) ⋯,Gz (show(0:Int) < 2147483629 by decide),Gz (show(0:Int) < 2147483587 by decide)]
 rfl
def bb_5(ns:List Int)(k:Int)(h:0<=k):n_9 [.lst (ns.map .int),.int k]=.ok (.sh (.int (ns.getD k.toNat 0))):=by
 simp![n_9,bv_7,An,Fs,En,A0]
 by_cases hk:k < (ns.length:Int)
 ·have e:atI (ns.map D.int) k=some (.int (ns.getD k.toNat 0)):=by
   apply cu_2 h;rw[A8];have:k.toNat < ns.length:=by omega
   simp[List.getD,this]
  simp![hk,N0,if_true,Gd e,An]
 ·simp![hk,M5,An]
  have:ns.length<=k.toNat:=by omega
  simp[List.getD,this]
def dd_3(ns:List Int)(k:Int)(h:0<=k)(h2:k<=500):∃z,p_3 [.lst (ns.map .int),.int k]=.ok (.sh (.int z)):=by
 refine⟨mixZ (ns.getD k.toNat 0 % 2147483647) (k + 101), ?_⟩
 simp![p_3,bk_9,An,bb_5 ns k h,Gz (show(0:Int) < 2147483647 by decide),p_2,bl_7 _ (k + 101) () ()]
def dv_1(c:Int):∃z,r_5 [.int c]=.ok (.sh (.int z)):=by
 have m:∀z:Int,Fk z 2147483587=true:=λz=>ba_8 ⋯ ⋯;refine⟨(mixZ c 1 * 2147483587 + mixZ c 2) * 2147483587 + mixZ c 3, ?_⟩
 simp![r_5,bc_9,An,bl_7 c 1 ⋯ ⋯,bl_7 c 2 ⋯ ⋯,bl_7 c 3 ⋯ ⋯,Gf (m _),p_2]
def dv_2(ns:List Int)(s m:Int)(hn:ns.length<=63)(h0:0<=s)(h1:s<=60)(h2:1<=m)(h3:m<=200):
  ∃cs:List Int,(cs.length:Int)<=m/\v_2 [.lst (ns.map .int),.int s,.int m]=.ok (.ow (.lst (cs.map .int))):=by
 obtain⟨z0,hz0⟩:=dd_3 ns 0 ⋯ ⋯
 by_cases hp:ns.getD (0:Int).toNat 0 % 2=0
 ·obtain⟨cs,hl,hc⟩:=ej_9 (fg:=gC 5) (p:=λ_=> .ok true) (f:=At 2 n_9 #v[0,Aj Cc (Ab 1) (Ab 5)])
   (δ:=[some (.lst (ns.map .int)),some (.int s),some (.int m),some (.int (max 0 ((ns.length:Int) - s))),none,none]) (min m (max 0 ((ns.length:Int) - s))).toNat 0 (λk hk=>
    ⟨[some (.lst (ns.map .int)),some (.int s),some (.int m),some (.int (max 0 ((ns.length:Int) - s))),none,some (.int (0 + (k:Int)))],_,rfl,rfl,by
     simp![An,p_2,bb_5 ns (s + (0 + (k:Int))) ()]
     rfl⟩)
  refine⟨cs,by rw[hl];omega, ?_⟩;have e1:=j_9 (m:=1) (fi:=Bf Dd #v[Ah minD #v[2,3]]) (fg:=gC 5) (p:=λ_=> .ok true) (f:=At 2 n_9 #v[0,Aj Cc (Ab 1) (Ab 5)])
   (δ:=[some (.lst (ns.map .int)),some (.int s),some (.int m),some (.int (max 0 ((ns.length:Int) - s))),none]) (ds:=De 0 (min m (max 0 ((ns.length:Int) - s))).toNat) (rs:=cs.map .int) (by
    simp![An,dt_5,s_2 (show -4611686018427387903<=min m (max 0 ((ns.length:Int) - s)) by omega) ()]) (by rw[q_3];omega) hc
  simp![v_2,am_9,ad_9,ae_0,An,Fs,A0,at_5,ca_6,bb_5 ns 0 ⋯,Gz (show(0:Int) < 2 by decide),l_3,hp,e1]
 ·have hmm:=λk:Int=>L6 k (show m≠0 by omega);have hml:=λk:Int=>K2 k (show 0 < m by omega);have cg:∀k:Nat,∃z,p_3 [.lst (ns.map .int),.int (s + (0 + (k:Int)) % max 1 (max 0 ((ns.length:Int) - s)))]=.ok (.sh (.int z)):=λk=>by
   have b1:=L6 (0 + (k:Int)) (show max 1 (max 0 ((ns.length:Int) - s))≠0 by omega);have b2:=K2 (0 + (k:Int)) (show 0 < max 1 (max 0 ((ns.length:Int) - s)) by omega);exact dd_3 ns _ () ()
  have b0:=hmm z0;have b1:=hml z0;obtain⟨cs,hl,hc⟩:=ej_9 (fg:=gC 5) (p:=λ_=> .ok true) (f:=At 1 r_5 #v[At 2 o_0 #v[At 2 p_3 #v[0,Aj Cc (Ab 1) (Aj Er (Ab 5) (Ah Ez #v[eC (.int 1),3]))],5]])
   (δ:=[some (.lst (ns.map .int)),some (.int s),some (.int m),some (.int (max 0 ((ns.length:Int) - s))),some (.int (min m (max (max 0 ((ns.length:Int) - s)) (1 + z0 % m)))),none]) (min m (max (max 0 ((ns.length:Int) - s)) (1 + z0 % m))).toNat 0 (λk hk=>by
    obtain⟨zc,hzc⟩:=cg k;obtain⟨zg,hzg⟩:=dv_1 (mixZ zc (0 + (k:Int)));refine⟨[some (.lst (ns.map .int)),some (.int s),some (.int m),some (.int (max 0 ((ns.length:Int) - s))),some (.int (min m (max (max 0 ((ns.length:Int) - s)) (1 + z0 % m)))),some (.int (0 + (k:Int)))],zg,rfl,rfl, ?_⟩
    simp![An,p_2,ca_6,Gz (show 0 < max 1 (max 0 ((ns.length:Int) - s)) by omega),hzc,bl_7 zc (0 + (k:Int)) () (),hzg])
  refine⟨cs,by rw[hl];omega, ?_⟩;have e1:=j_9 (m:=1) (fi:=Bf Dd #v[4]) (fg:=gC 5) (p:=λ_=> .ok true) (f:=At 1 r_5 #v[At 2 o_0 #v[At 2 p_3 #v[0,Aj Cc (Ab 1) (Aj Er (Ab 5) (Ah Ez #v[eC (.int 1),3]))],5]])
   (δ:=[some (.lst (ns.map .int)),some (.int s),some (.int m),some (.int (max 0 ((ns.length:Int) - s))),some (.int (min m (max (max 0 ((ns.length:Int) - s)) (1 + z0 % m))))]) (ds:=De 0 (min m (max (max 0 ((ns.length:Int) - s)) (1 + z0 % m))).toNat) (rs:=cs.map .int) (by
    simp![An,s_2 (show -4611686018427387903<=min m (max (max 0 ((ns.length:Int) - s)) (1 + z0 % m)) by omega) ()]) (by rw[q_3];omega) hc
  simp![v_2,am_9,ad_9,ae_0,An,Fs,A0,at_5,ca_6,dt_5,p_2,bb_5 ns 0 ⋯,Gz (show(0:Int) < 2 by decide),Gz (show(0:Int) < m by omega),l_3,hp,hz0,e1]
def Bn{g h:FS}{Δ Δ':SE}(e:g Δ=.nx Δ'):Af g h Δ=h Δ':=by unfold Af;rw[e]
def wr:Nat->Int->List Nat->List Nat
 |0,_,zp=>zp
 |j + 1,r,zp=>wr j (r / 2) ((48 + (r % 2).toNat)::zp)
def rd(bs:List Nat)(a:Int):Int:=bs.foldl (λa c=>2 * a + (if c=49 then 1 else 0)) a
def bit(c:Nat):Prop:=c=48\/c=49
theorem au_4:∀(w:Nat) (n:Int) (zp:List Nat),(wr w n zp).length=w + zp.length
 |0,_,zp=>by simp[wr]
 |w + 1,n,zp=>by rw[wr,au_4 w];simp;omega
theorem dv_3:∀(w:Nat) (n:Int) (zp:List Nat),(∀c∈zp,bit c)->∀c∈wr w n zp,bit c
 |0,_,zp,h=>h
 |w + 1,n,zp,h=>dv_3 w (n / 2) _ λc hc=>by
  rcases B3.mp hc with rfl|hc
  ·have:n % 2=0\/n % 2=1:=by omega
   rcases this with e|e <;> rw[e]
   ·exact .inl rfl
   ·exact .inr rfl
  ·exact h c hc
def es_0(a b:List Nat)(z:Int):rd (a ++ b) z=rd b (rd a z):=by unfold rd;rw[V5]
theorem ek_5:∀(w:Nat) (n:Int) (zp:List Nat) (a:Int),rd (wr w n zp) a=rd zp (a * 2 ^ w + n % 2 ^ w)
 |0,n,zp,a=>by
  show rd zp a=rd zp (a * 1 + n % 1);rw[Int.mul_one,Int.emod_one,Int.add_zero]
 |w + 1,n,zp,a=>by
  rw[wr,ek_5 w];show rd zp (2 * (a * 2 ^ w + n / 2 % 2 ^ w) + (if 48 + (n % 2).toNat=49 then 1 else 0))=_;have e:(if 48 + (n % 2).toNat=49 then(1:Int) else 0)=n % 2:=by split <;> omega
  have p:n % 2 ^ (w + 1)=2 * (n / 2 % 2 ^ w) + n % 2:=by
   have pos:(0:Int) < 2 ^ w:=ZB5 ⋯;have e1:(2:Int) ^ (w + 1)=2 * 2 ^ w:=by rw[ZC3];omega
   rw[e1];have h1:=Int.mul_ediv_add_emod n 2;have h2:=Int.mul_ediv_add_emod (n / 2) (2 ^ w);have h3:=L6 (n / 2) (show(2:Int) ^ w≠0 by omega);have h4:=K2 (n / 2) pos;have key:n=(2 * (n / 2 % 2 ^ w) + n % 2) + (2 * 2 ^ w) * (n / 2 / 2 ^ w):=by
    have:(2 * 2 ^ w:Int) * (n / 2 / 2 ^ w)=2 * (2 ^ w * (n / 2 / 2 ^ w)):=by rw[Int.mul_assoc]
    omega
   have h5:(2 * (n / 2 % 2 ^ w) + n % 2) % (2 * 2 ^ w)=2 * (n / 2 % 2 ^ w) + n % 2:=Int.emod_eq_of_lt () ()
   conv=>lhs;rw[key]
   rw[Int.add_mul_emod_self_left,h5]
  have q:a * 2 ^ (w + 1)=2 * (a * 2 ^ w):=by rw[ZC3,<-Int.mul_assoc,Int.mul_comm]
  rw[e,p,q]
  congr 1
  omega
def es_1(w:Nat)(n:Int)(h0:0<=n)(h1:n < 2 ^ w):rd (wr w n []) 0=n:=by
 rw[ek_5,Int.zero_mul,P6,Int.emod_eq_of_lt h0 h1];rfl
def Bi(l:List Nat):Str:=⟨l.toArray⟩
def o_4(l:List Nat):(Bi l).cps.toList=l:=by simp[Bi]
def s_5(l:List Nat):(Bi l).length=l.length:=by rw[bh_3,o_4]
def dd_4(a b:List Nat):Bi a ++ Bi b=Bi (a ++ b):=ca_4 (by rw[ee_5,o_4,o_4,o_4])
def sgL:List Nat:=[97,98,99,100,101,102,103,104,105,106,107,108,109,110,111,112,113,114,115,116,117,118,119,120,121,122,48,49,50,51,52,53,54,55,56,57,45,95,32]
def ef_9:(Str.ofString "abcdefghijklmnopqrstuvwxyz0123456789-_ ").cps.toList=sgL:=by decide +kernel
def isKey(d:D):Prop:=(∃n:Int,d=.int n/\0<=n/\n<=999999999999999999)\/(∃l:List Nat,d=.str (Bi l)/\l.length<=11/\∀c∈l,c∈sgL)
def isKey.flat{d:D}(h:isKey d):Bd d=true:=by
 rcases h with⟨n,rfl,_⟩|⟨l,rfl,_⟩ <;> rfl
def ey_0(r:Int):∃c∈sgL,Bu (.str "abcdefghijklmnopqrstuvwxyz0123456789-_ ") (.int (r % 39))=.ok (.sh (.str (Bi [c]))):=by
 have h0:=L6 r (show(39:Int)≠0 by decide);have h1:=K2 r (show(0:Int) < 39 by decide);have hl:(r % 39).toNat < sgL.length:=by show(r % 39).toNat < 39;omega
 refine⟨sgL[(r % 39).toNat],List.getElem_mem hl,ee_8 nofun ?_⟩;rw[ef_9];exact cu_2 h0 (B2 hl)
def dv_4(z:Int):∃d,isKey d/\v_3 [.int z]=.ok (.sh d):=by
 have d3:=w_2 (i:=z) (show(0:Int) < 3 by decide) ⋯;have m3:=Gz (i:=z) (show(0:Int) < 3 by decide);have p18:=ca_5 (aw_5 (i:=10) (j:=18) ⋯ ⋯ ⋯ ⋯);have e18:(10:Int) ^ (18:Int).toNat=1000000000000000000:=by decide
 rw[e18]at p18;have:z % 3=0\/z % 3=2\/z % 3=1:=by omega
 rcases this with h|h|h
 ·refine⟨.int (z / 3 % 1000000000000000000),.inl ⟨_,rfl,by omega,by omega⟩, ?_⟩
  simp![v_3,ap_3,An,d3,m3,l_3,h,p18,Gz (show(0:Int) < 1000000000000000000 by decide)]
 ·refine⟨.int (z / 3 % 50),.inl ⟨_,rfl,by omega,by omega⟩, ?_⟩;have n0:¬(2:Int)=0:=by decide
  simp![v_3,ap_3,An,d3,m3,l_3,h,n0,Gz (show(0:Int) < 50 by decide)]
 ·have n0:¬(1:Int)=0:=by decide
  have n2:¬(1:Int)=2:=by decide
  have b0:=L6 (z / 3) (show(12:Int)≠0 by decide);have b1:=K2 (z / 3) (show(0:Int) < 12 by decide);obtain⟨Δ',e,l,r,a5,rfl,hl,hc⟩:=ba_9 (gV 5) an_0 (λk Δ=>∃(l:List Nat) (r:Int) (a5:Sl),Δ= [.sh (.int z),.sh (.str "abcdefghijklmnopqrstuvwxyz0123456789-_ "),.sh (.int r),.sh (.str (Bi l)),.sh (.int (z / 3 % 12)),a5]/\l.length=k/\∀c∈l,c∈sgL)
   (n:=(z / 3 % 12).toNat) (lo:=0) (Δ:=[.sh (.int z),.sh (.str "abcdefghijklmnopqrstuvwxyz0123456789-_ "),.sh (.int (z / 3)),.sh (.str ""),.sh (.int (z / 3 % 12)),.no]) ⟨[],z / 3,.no,rfl,rfl,λc hc=>absurd hc (by simp)⟩ (λk Δ hk hI=>by
   obtain⟨l,r,a5,rfl,hl,hc⟩:=hI;obtain⟨q,q0,q1,eq⟩:∃q:Int,0 < q/\q < 100/\Aj Bu (Au #v[eC (.int 12),eC (.int 39)]) (Ah Fa #v[Aj gtD (Ab 5) (eC (.int 0))]) [some (.int z),some (.str "abcdefghijklmnopqrstuvwxyz0123456789-_ "),some (.int r),some (.str (Bi l)),some (.int (z / 3 % 12)),some (.int (0 + (k:Int)))]=.ok (.sh (.int q)):=by
    by_cases hk0:(0:Int) < 0 + (k:Int)
    ·refine⟨39,by decide,by decide, ?_⟩
     simp![An,Gg,hk0,Fa]
     rfl
    ·refine⟨12,by decide,by decide, ?_⟩
     simp![An,Gg,hk0,Fa]
     rfl
   obtain⟨c,hcs,ec⟩:=ey_0 (r / q);have zm:(Bi l).length + (Bi [c]).length<=16777216:=by rw[s_5,s_5];simp;omega
   refine⟨_,rfl,[.sh (.int z),.sh (.str "abcdefghijklmnopqrstuvwxyz0123456789-_ "),.sh (.int (r / q)),.sh (.str (Bi (l ++ [c]))),.sh (.int (z / 3 % 12)),.sh (.int (0 + (k:Int)))],.inl ?_,_,_,_,rfl,by simp[hl], ?_⟩
   ·simp only[an_0];rw[Bn (Δ':=[.sh (.int z),.sh (.str "abcdefghijklmnopqrstuvwxyz0123456789-_ "),.sh (.int (r / q)),.sh (.str (Bi l)),.sh (.int (z / 3 % 12)),.sh (.int (0 + (k:Int)))])]
    ·simp![An,Gz (show(0:Int) < 39 by decide),ec,dt_4 zm,dd_4]
    ·have:=eq;unfold Al;simp only[Bg,A9,N7,cu_3,U5,U4,gV]at this⊢;have e9:Aj Do (Ab 2) (Aj Bu (Au #v[eC (.int 12),eC (.int 39)]) (Ah Fa #v[Aj gtD (Ab 5) (eC (.int 0))])) [some (.int z),some (.str "abcdefghijklmnopqrstuvwxyz0123456789-_ "),some (.int r),some (.str (Bi l)),some (.int (z / 3 % 12)),some (.int (0 + (k:Int)))]=.ok (.sh (.int (r / q))):=by
      show((Ab 2 _).bind λa=>(Aj Bu _ _ _).bind λb=>Do a.d b.d)=_;rw[this]
      simp![An,w_2 q0 (show q < 1361129467683753853853498429727072845824 by omega)]
     rw[e9]
   ·intro d hd;rcases F6.mp hd with hd|hd
    ·exact hc d hd
    ·have:d=c:=by simpa using hd
     rw[this];exact hcs)
  refine⟨.str (Bi l),.inr ⟨l,rfl,by omega,hc⟩, ?_⟩
  simp![v_3,ap_3,An,d3,m3,l_3,h,n0,n2,Gz (show(0:Int) < 12 by decide),Cb,s_2 (show -4611686018427387903<=z / 3 % 12 by omega) (),e]
def dd_5{a b:D}(ha:isKey a)(hb:isKey b):eqF a b=true↔a=b:=by
 rcases ha with⟨n,rfl,_⟩|⟨l,rfl,_⟩ <;> rcases hb with⟨m,rfl,_⟩|⟨k,rfl,_⟩
 ·show(n ==m)=true↔_;rw[M3];exact⟨λh=>by rw[h],λh=>by injection h⟩
 ·show false=true↔_;exact⟨λh=>(by cases h),λh=>(by cases h)⟩
 ·show false=true↔_;exact⟨λh=>(by cases h),λh=>(by cases h)⟩
 ·show(Bi l ==Bi k)=true↔_;rw[M3];exact⟨λh=>by rw[h],λh=>by injection h⟩
def dd_6{d:D}{ks:List D}(hd:isKey d)(hk:∀k∈ks,isKey k):Dl d ks=true↔d∈ks:=by
 unfold Dl;rw[R1];constructor
 ·rintro ⟨y,hy,h⟩
  rw[<-(dd_5 (hk y hy) hd).mp h];exact hy
 ·intro h;exact⟨d,h,(dd_5 hd hd).mpr rfl⟩
def cm_8{ks:List D}(hk:∀k∈ks,isKey k):ks.all Bd=true:=E9.mpr λk h=>(hk k h).flat
def dv_5{d:D}{ks:List D}(hd:isKey d)(hk:∀k∈ks,isKey k):inD true d (.lst ks)=.ok (.sh (.bl (!Dl d ks))):=by
 have h:(Bd d && ks.all Bd)=true:=by rw[hd.flat,cm_8 hk];rfl
 rcases hd with⟨n,rfl,_⟩|⟨l,rfl,_⟩
 ·exact if_pos h
 ·exact if_pos h
def eg_0{d:D}(h:isKey d):PyData.canLay0 (Dx d)=true/\PyData.depth (Dx d)=0:=by
 rcases h with⟨n,rfl,_⟩|⟨l,rfl,_,hc⟩
 ·exact⟨rfl,rfl⟩
 ·refine⟨?_,rfl⟩;show(Bi l).cps.all (· < 0x110000)=true;rw[<-Array.all_toList,o_4,E9];intro c h;have:c∈sgL:=hc c h;have:∀c∈sgL,c < 0x110000:=by decide
  exact D9 (this c (hc c h))
theorem ax_5:∀{ks:List D},(∀k∈ks,isKey k)->PyData.canLayAll0 (Gy ks)=true/\PyData.depthAll (Gy ks)=0
 | [],_=>⟨rfl,rfl⟩
 |k::ks,h=>by
  obtain⟨a1,a2⟩:=eg_0 (h k F0);obtain⟨b1,b2⟩:=ax_5 λx hx=>h x (C9 _ hx);refine⟨?_, ?_⟩
  ·show(PyData.canLay0 (Dx k) && PyData.canLayAll0 (Gy ks))=true;rw[a1,b1];rfl
  ·show max (PyData.depth (Dx k)) (PyData.depthAll (Gy ks))=0;rw[a2,b2];rfl
def cm_9{ks js:List D}(hk:∀k∈ks,isKey k)(hj:∀k∈js,isKey k):eqC (.lst ks) (.lst js)=true:=by
 unfold eqC;rw[C4,C4];refine⟨⟨(ax_5 hk).1,(ax_5 hj).1⟩,D9 ?_⟩;show PyData.depthAll (Gy ks) + 1<=60;rw[(ax_5 hk).2];decide
def eg_1{a b:D}(ha:isKey a)(hb:isKey b):PyData.eqv (Dx a) (Dx b)=true↔a=b:=by
 rcases ha with⟨n,rfl,_⟩|⟨l,rfl,_⟩ <;> rcases hb with⟨m,rfl,_⟩|⟨k,rfl,_⟩
 ·show(n ==m)=true↔_;rw[M3];exact⟨λh=>by rw[h],λh=>by injection h⟩
 ·show false=true↔_;exact⟨λh=>(by cases h),λh=>(by cases h)⟩
 ·show false=true↔_;exact⟨λh=>(by cases h),λh=>(by cases h)⟩
 ·show(Bi l ==Bi k)=true↔_;rw[M3];exact⟨λh=>by rw[h],λh=>by injection h⟩
theorem cn_0:∀{ks js:List D},(∀k∈ks,isKey k)->(∀k∈js,isKey k)->(PyData.eqvAll (Gy ks) (Gy js)=true↔ks=js)
 | [],[],_,_=>⟨λ_=>rfl,λ_=>rfl⟩
 | [],_::_,_,_=>⟨λh=>(by cases h),λh=>(by cases h)⟩
 |_::_,[],_,_=>⟨λh=>(by cases h),λh=>(by cases h)⟩
 |k::ks,j::js,hk,hj=>by
  show(PyData.eqv (Dx k) (Dx j) && PyData.eqvAll (Gy ks) (Gy js))=true↔_;rw[C4,eg_1 (hk k F0) (hj j F0),cn_0 (λx hx=>hk x (C9 _ hx)) (λx hx=>hj x (C9 _ hx))];exact⟨λ⟨a,b⟩=>by rw[a,b],λh=>by injection h with a b;exact⟨a,b⟩⟩
def eg_2(a b:List D):By (.lst a) (.lst b)=if eqC (.lst a) (.lst b)=true then .ok (.sh (.bl (Fj (.lst a) (.lst b)))) else .no:=rfl
def eg_3(a b:List D):Fc (.lst a) (.lst b)=if eqC (.lst a) (.lst b)=true then .ok (.sh (.bl (!Fj (.lst a) (.lst b)))) else .no:=rfl
def cn_1{ks js:List D}(hk:∀k∈ks,isKey k)(hj:∀k∈js,isKey k):∃b:Bool,(b=true↔ks=js)/\By (.lst ks) (.lst js)=.ok (.sh (.bl b))/\Fc (.lst ks) (.lst js)=.ok (.sh (.bl (!b))):=by
 refine⟨Fj (.lst ks) (.lst js),cn_0 hk hj, ?_, ?_⟩
 ·rw[eg_2,if_pos (cm_9 hk hj)]
 ·rw[eg_3,if_pos (cm_9 hk hj)]
def eg_4(ns:List Int)(s m:Int)(hn:ns.length<=63)(h0:0<=s)(h1:s<=60)(h2:1<=m)(h3:m<=200):
  ∃ks:List D,ks≠ []/\(ks.length:Int)<=m/\(∀k∈ks,isKey k)/\ks.Nodup/\x_5 [.lst (ns.map .int),.int s,.int m]=.ok (.ow (.lst ks)):=by
 obtain⟨cs,hc,ec⟩:=dv_2 ns s m hn h0 h1 h2 h3;obtain⟨Δ',e,ks,a4,a5,rfl,hl,hk,hd⟩:=g_1 (gV 4) aa_4 (λk Δ=>∃(ks:List D) (a4 a5:Sl),Δ= [.sh (.lst (ns.map .int)),.sh (.int s),.sh (.int m),.ow (.lst ks),a4,a5]/\ks.length<=k/\(∀k∈ks,isKey k)/\ks.Nodup)
  (ds:=cs.map .int) (Δ:=[.sh (.lst (ns.map .int)),.sh (.int s),.sh (.int m),.ow (.lst []),.no,.no]) ⟨[],.no,.no,rfl,B0 _,λk hk=>absurd hk (by simp),List.nodup_nil⟩ (λk d Δ hk hI=>by
  obtain⟨ks,a4,a5,rfl,hl,hks,hd⟩:=hI;rw[A8]at hk;cases q:cs[k]? with
  |none=>rw[q]at hk;cases hk
  |some c=>
   rw[q]at hk;cases hk;have hkl:k < cs.length:=(A5.mp q).1;obtain⟨d,hdk,ed⟩:=dv_4 c;have hl2:ks.length < 16777216:=by omega
   have hni:=dv_5 hdk hks;cases hm:Dl d ks with
   |true=>
    refine⟨_,rfl,[.sh (.lst (ns.map .int)),.sh (.int s),.sh (.int m),.ow (.lst ks),.sh (.int c),.sh d],.inl ?_,ks,_,_,rfl,by omega,hks,hd⟩;rw[hm]at hni
    simp![aa_4,An,ed,hni]
   |false=>
    refine⟨_,rfl,[.sh (.lst (ns.map .int)),.sh (.int s),.sh (.int m),.ow (.lst (ks ++ [d])),.sh (.int c),.sh d],.inl ?_,ks ++ [d],_,_,rfl,by simp;omega, ?_, ?_⟩
    ·rw[hm]at hni
     simp![aa_4,An,ed,hni,sApp,hl2]
    ·intro x hx;rcases F6.mp hx with hx|hx
     ·exact hks x hx
     ·have:x=d:=by simpa using hx
      rw[this];exact hdk
    ·rw[V6];refine⟨hd,by simp,λa ha b hb=> ?_⟩;have:b=d:=by simpa using hb
     subst this
     rintro rfl
     rw[(dd_6 hdk hks).mpr ha]at hm;cases hm)
 rw[A0]at hl;obtain⟨b,hb,eb,_⟩:=cn_1 hk (js:=[]) (λk hk=>absurd hk (by simp))
 by_cases hz:ks= []
 ·obtain⟨d,hdk,ed⟩:=dv_4 (ns.getD (0:Int).toNat 0 / 2);refine⟨[d],by simp,by simp;omega,λx hx=> ?_,by simp, ?_⟩
  ·have:x=d:=by simpa using hx
   rw[this];exact hdk
  ·have:b=true:=hb.mpr hz;subst this
   simp![x_5,at_8,An,Cb,ec,e,eb,bb_5 ns 0 ⋯,w_2 (show(0:Int) < 2 by decide) ⋯,ed]
 ·refine⟨ks,hz,by omega,hk,hd, ?_⟩;have:b=false:=by
   cases b with
   |true=>exact absurd (hb.mp rfl) hz
   |false=>rfl
  subst this
  simp![x_5,at_8,An,Cb,ec,e,eb]
def sgI(c:Nat):Nat:=sgL.idxOf c
def dv_6:∀c∈sgL,Builtin.Str.occurrences "abcdefghijklmnopqrstuvwxyz0123456789-_ " ⟨#[c]⟩ 0 (Str.length "abcdefghijklmnopqrstuvwxyz0123456789-_ ") 1= [sgI c]:=by decide +kernel
def au_5(l:List Nat):Int:=l.foldl (λa c=>40 * a + (sgI c:Int) + 1) 0
def cn_2(l:List Nat)(k c:Nat)(h:l[k]? =some c):au_5 (l.take (k + 1))=40 * au_5 (l.take k) + (sgI c:Int) + 1:=by
 unfold au_5;rw[K4,h,V5];rfl
def u_8:D->Int
 | .int n=>2 * n
 | .str x=>2 * au_5 x.cps.toList + 1
 |_=>0
def dv_7:∀c∈sgL,Txt.find "abcdefghijklmnopqrstuvwxyz0123456789-_ " ⟨#[c]⟩=((sgI c:Nat):Int):=by decide +kernel
def eg_5{c:Nat}(h:c∈sgL):ch_7 (.str "abcdefghijklmnopqrstuvwxyz0123456789-_ ") [.str ⟨#[c]⟩]=.ok (.sh (.int (sgI c:Int))):=by
 show R.ok (W.sh (D.int (Txt.find "abcdefghijklmnopqrstuvwxyz0123456789-_ " ⟨#[c]⟩)))=_;rw[dv_7 c h]
def ey_1{c:Nat}(h:c∈sgL):inD false (.str ⟨#[c]⟩) (.str "abcdefghijklmnopqrstuvwxyz0123456789-_ ")=.ok (.sh (.bl true)):=by
 show R.ok (W.sh (D.bl (!(Builtin.Str.occurrences "abcdefghijklmnopqrstuvwxyz0123456789-_ " ⟨#[c]⟩ 0 (Str.length "abcdefghijklmnopqrstuvwxyz0123456789-_ ") 1).isEmpty)))=_;rw[dv_6 c h];rfl
def w_7(l:List Nat):Hl (Bi l)=l.map λc=> .str ⟨#[c]⟩:=by unfold Hl;rw[o_4]
def dv_8(l:List Nat)(hl:l.length<=11)(hc:∀c∈l,c∈sgL):aw_9 [.str (Bi l)]=.ok (.sh (.int (au_5 l))):=by
 obtain⟨Δ',e,a2,rfl⟩:=g_1 (gV 2) bb_2 (λk Δ=>∃a2,Δ= [.sh (.str (Bi l)),.sh (.int (au_5 (l.take k))),a2]) (ds:=Hl (Bi l)) (Δ:=[.sh (.str (Bi l)),.sh (.int 0),.no]) ⟨.no,rfl⟩ (λk d Δ hk hI=>by
  obtain⟨a2,rfl⟩:=hI;rw[w_7,A8]at hk;cases q:l[k]? with
  |none=>rw[q]at hk;cases hk
  |some c=>
   rw[q]at hk;cases hk;refine⟨_,rfl,[.sh (.str (Bi l)),.sh (.int (au_5 (l.take (k + 1)))),.sh (.str ⟨#[c]⟩)],.inl ?_,_,rfl⟩;rw[cn_2 l k c q]
   simp![bb_2,An,Gf (p_1 (show(-18446744073709551616:Int) < 40 by decide) ⋯),P8,eg_5 (hc c (B1 q)),p_2])
 rw[w_7,A0,K6]at e
 simp![aw_9,dc_2,An,Cb,w_7,e]
def bb_6{d:D}(h:isKey d):r_6 [d]=.ok (.sh (.bl true)):=by
 rcases h with⟨n,rfl,h0,h1⟩|⟨l,rfl,hl,hc⟩
 ·simp![r_6,af_8,An,Ha,aw_4,h0,h1]
 ·have hx:(Bi l).length<=16777216:=by rw[s_5];omega
  have ec:=y_9 (fg:=gC 1) (f:=j_7) (δ:=[some (.str (Bi l)),none]) (λ_=> .bl true) (Hl (Bi l)) (λd hd=>by
   rw[w_7]at hd;obtain⟨c,hcl,rfl⟩:=D0.mp hd;exact⟨_,.sh (.bl true),rfl,by simp![j_7,An,ey_1 (hc c hcl)],rfl⟩)
  have ec':=j_9 (m:=1) (fi:=Dj (Ab 0)) (fg:=gC 1) (p:=λ_=> .ok true) (f:=j_7) (δ:=[some (.str (Bi l))]) (by simp![An]) (by rw[w_7,A0];omega) ec;have ha:allD [.lst ((Hl (Bi l)).map λ_=>D.bl true)]=.ok (.sh (.bl true)):=by
   have hb:∀l:List D,am_4 (l.map λ_=>D.bl true)=some (l.map λ_=>true):=by
    intro l
    induction l with
    |nil=>rfl
    |cons a l ih=>show(am_4 (l.map λ_=>D.bl true)).map (true:: ·)=_;rw[ih];rfl
   unfold allD;simp only[hb]
   congr 3
   rw[E9];intro b hb';obtain⟨_,_,rfl⟩:=D0.mp hb';rfl
  have fq:((Bi l).length:Int)<=11:=by rw[s_5];omega
  have et:k_5 [.str (Bi l)]=.ok (.sh (.bl true)):=by
   simp![k_5,y_3,An,ab_1 hx,aw_4,fq,ec',ha]
  simp![r_6,af_8,An,et]
def cn_3{d:D}(h:isKey d):aa_5 [d]=.ok (.sh (.int (u_8 d))):=by
 have hk:=bb_6 h;have m2:=λj:Int=>Gf (p_1 (j:=j) (show(-18446744073709551616:Int) < 2 by decide) ⋯);rcases h with⟨n,rfl,h0,h1⟩|⟨l,rfl,hl,hc⟩
 ·simp![aa_5,bh_7,An,hk,m2,u_8]
 ·simp![aa_5,bh_7,An,hk,dv_8 l hl hc,m2,p_2,u_8,o_4]
def ai_7(n s z:Int):Int:=
 (((1 + (1103515245 * s + 12345) % (2305843009213693951 - 1)) * n + (69069 * s * s + 7 * s) % 2305843009213693951) % 2305843009213693951 + ((1 + (1103515245 * s + 12345) % (2305843009213693951 - 1)) * n + (69069 * s * s + 7 * s) % 2305843009213693951) % 2305843009213693951 / 2147483648) % z
def cn_4(n s z:Int)(h1: -18446744073709551616 < s)(h2:s < 18446744073709551616)(hz:0 < z):ap_4 [.int n,.int s,.int z]=.ok (.sh (.int (ai_7 n s z)))/\True:=by
 have n0:¬z=0:=by omega
 have f0:=L6 (1103515245 * s + 12345) (show(2305843009213693951 - 1:Int)≠0 by decide);have f1:=K2 (1103515245 * s + 12345) (show(0:Int) < 2305843009213693951 - 1 by decide);have a1:=Gf (p_1 (i:=1103515245) (j:=s) ⋯ ⋯);have a2:=Gf (p_1 (i:=69069) (j:=s) ⋯ ⋯);have a3:=Gf (ba_8 (i:=69069 * s) (j:=s) h1 h2);have a4:=Gf (p_1 (i:=7) (j:=s) ⋯ ⋯);have a5:=Gf (p_1 (i:=1 + (1103515245 * s + 12345) % (2305843009213693951 - 1)) (j:=n) () ());have c1:=λi:Int=>Gz (i:=i) (show(0:Int) < 2305843009213693951 - 1 by decide);have c2:=λi:Int=>Gz (i:=i) (show(0:Int) < 2305843009213693951 by decide);have c3:=λi:Int=>Gz (i:=i) hz;have c4:=λi:Int=>w_2 (i:=i) (show(0:Int) < 2147483648 by decide) ⋯;refine⟨?_, ?_⟩
 ·simp![ap_4,dc_3,An,l_3,n0,at_5,p_2,a1,a2,a3,a4,c1,c2,a5,c4,c3]
  rfl
 ·trivial
end My
namespace L3
open PySem L2
def outF:Fl->Bool
 | .ex _ _=>true
 | .rt _=>true
 | .no=>true
 |_=>false
def bl_8(fg:FG)(g:FS)(I:Nat->SE->Prop){ds:List D}{Δ:SE}{n:Nat}{r:Fl}{d:D}(h0:I 0 Δ)(hd:ds[n]? =some d)
  (step:∀k d Δ,k < n->ds[k]? =some d->I k Δ->∃Δ1,fg d Δ=.ok Δ1/\∃Δ2,(g Δ1=.nx Δ2\/g Δ1=.ct Δ2)/\I (k + 1) Δ2)
  (last:∀Δ,I n Δ->∃Δ1,fg d Δ=.ok Δ1/\g Δ1=r) (hr:outF r=true):Gk fg g ds Δ=r:=by
 have all:∀(m k:Nat) (Δ:SE),k + m=n->I k Δ->Gk fg g (ds.drop k) Δ=r:=by
  intro m
  induction m with
  |zero=>
   intro k Δ e h;have:k=n:=by omega
   subst this;have hl:k < ds.length:=(A5.mp hd).1;obtain⟨x,d1,d2⟩:=am_0 hl;rw[hd]at d1;cases d1;obtain⟨Δ1,e1,e2⟩:=last Δ h;rw[d2];show(match fg d Δ with
    | .ok Δ1=>(match g Δ1 with
     | .nx Δ2=>Gk fg g (ds.drop (k + 1)) Δ2
     | .ct Δ2=>Gk fg g (ds.drop (k + 1)) Δ2
     | .bk Δ2=> .nx Δ2
     |r=>r)
    | .ex _=> .no
    | .no=> .no)=_
   rw[e1];simp only[e2];cases r with
   |nx _=>cases hr
   |ct _=>cases hr
   |bk _=>cases hr
   |_=>rfl
  |succ m ih=>
   intro k Δ e h;have hl:n < ds.length:=(A5.mp hd).1;obtain⟨x,d1,d2⟩:=am_0 (l:=ds) (i:=k) ();obtain⟨Δ1,e1,Δ2,e2,h2⟩:=step k x Δ () d1 h;have e3:=ih (k + 1) Δ2 () h2;rw[d2];show(match fg x Δ with
    | .ok Δ1=>(match g Δ1 with
     | .nx Δ2=>Gk fg g (ds.drop (k + 1)) Δ2
     | .ct Δ2=>Gk fg g (ds.drop (k + 1)) Δ2
     | .bk Δ2=> .nx Δ2
     |r=>r)
    | .ex _=> .no
    | .no=> .no)=_
   rw[e1];rcases e2 with e2|e2
   ·simp only[e2];exact e3
   ·simp only[e2];exact e3
 have:=all n 0 Δ () h0
 rwa[V3]at this
theorem ax_6:∀{ds:List D} {k i:Nat} {d:D},ds[i]? =some d->(Cl k ds)[i]? =some (.tup [.int ((k + i:Nat):Int),d])
 | [],_,_,_,h=>by simp at h
 |x::ds,k,0,d,h=>by simp at h;subst h;rfl
 |x::ds,k,i + 1,d,h=>by
  have:=ax_6 (ds:=ds) (k:=k + 1) (i:=i) (d:=d) (by simpa using h);show(Cl (k + 1) ds)[i]? =_;rw[this,show k + 1 + i=k + (i + 1) by omega]
end L3
namespace My
open PySem L2 L3
def Hj(d:D):Prop:=(∃n:Int,d=.int n/\(n < 0\/999999999999999999 < n))\/(∃l:List Nat,d=.str (Bi l)/\l.length<=100/\(11 < l.length\/∃c∈l,∃b,inD false (.str ⟨#[c]⟩) (.str "abcdefghijklmnopqrstuvwxyz0123456789-_ ")=.ok (.sh (.bl b))/\b=false))
def inB(c:Nat):Bool:= !(Builtin.Str.occurrences "abcdefghijklmnopqrstuvwxyz0123456789-_ " ⟨#[c]⟩ 0 (Str.length "abcdefghijklmnopqrstuvwxyz0123456789-_ ") 1).isEmpty
def in_B(c:Nat):inD false (.str ⟨#[c]⟩) (.str "abcdefghijklmnopqrstuvwxyz0123456789-_ ")=.ok (.sh (.bl (inB c))):=rfl
theorem bl_9:∀l:List Nat,am_4 (l.map λc=>D.bl (inB c))=some (l.map inB)
 | []=>rfl
 |a::l=>by
  show(am_4 (l.map λc=>D.bl (inB c))).map (inB a:: ·)=_;rw[bl_9 l];rfl
def bw_2{d:D}(h:Hj d):r_6 [d]=.ok (.sh (.bl false)):=by
 rcases h with⟨n,rfl,h⟩|⟨l,rfl,hl,h⟩
 ·by_cases h0:0<=n
  ·have h1:¬n<=999999999999999999:=by omega
   simp![r_6,af_8,An,Ha,aw_4,h0,h1]
  ·simp![r_6,af_8,An,Ha,aw_4,h0]
 ·have hx:(Bi l).length<=16777216:=by rw[s_5];omega
  have et:k_5 [.str (Bi l)]=.ok (.sh (.bl false)):=by
   by_cases h11:((Bi l).length:Int)<=11
   ·have hin:∃c∈l,inB c=false:=by
     rcases h with h|⟨c,hc,b,e,hb⟩
     ·rw[s_5]at h11;omega
     ·refine⟨c,hc, ?_⟩;rw[in_B]at e;subst hb;injection e with e
      injection e with e
      injection e
    have ec:=y_9 (fg:=gC 1) (f:=j_7) (δ:=[some (.str (Bi l)),none]) (λd=>match d with| .str x=> .bl (inB (x.cps.toList.headD 0))|d=>d) (Hl (Bi l)) (λd hd=>by
     rw[w_7]at hd;obtain⟨c,hcl,rfl⟩:=D0.mp hd;exact⟨_,.sh (.bl (inB c)),rfl,by simp![j_7,An,in_B c],rfl⟩)
    have ec':=j_9 (m:=1) (fi:=Dj (Ab 0)) (fg:=gC 1) (p:=λ_=> .ok true) (f:=j_7) (δ:=[some (.str (Bi l))]) (by simp![An]) (by rw[w_7,A0];omega) ec;have em:(Hl (Bi l)).map (λd=>match d with| .str x=>D.bl (inB (x.cps.toList.headD 0))|d=>d)=l.map λc=>D.bl (inB c):=by
     rw[w_7,D4];rfl
    rw[em]at ec';have ha:allD [.lst (l.map λc=>D.bl (inB c))]=.ok (.sh (.bl false)):=by
     unfold allD;simp only[bl_9]
     congr 3
     obtain⟨c,hc,e⟩:=hin;cases q:(l.map inB).all id with
     |false=>rfl
     |true=>
      have:=E9.mp q (inB c) (D0.mpr ⟨c,hc,rfl⟩);rw[e]at this;cases this
    simp![k_5,y_3,An,ab_1 hx,aw_4,h11,ec',ha]
   ·simp![k_5,y_3,An,ab_1 hx,aw_4,h11]
  simp![r_6,af_8,An,et]
def kOf:D->Av
 | .int i=> .inl i
 | .str x=> .inr x
 |_=> .inl 0
def cn_5{d:D}(h:isKey d):Dw d=some (kOf d):=by
 rcases h with⟨n,rfl,_⟩|⟨l,rfl,_⟩ <;> rfl
def dd_7{a b:D}(ha:isKey a)(hb:isKey b)(e:kOf a=kOf b):a=b:=by
 rcases ha with⟨n,rfl,_⟩|⟨l,rfl,_⟩ <;> rcases hb with⟨m,rfl,_⟩|⟨k,rfl,_⟩
 ·injection e with e;rw[e]
 ·cases e
 ·cases e
 ·injection e with e;rw[e]
def Fv(n:Nat):Xn:=⟨"NoKey",["at"],[.int (n:Int)]⟩
def cc_7(n:Nat):Xn:=⟨"Twice",["at"],[.int (n:Int)]⟩
def dd_8{ks:List D}(hk:∀k∈ks,isKey k):i_2 [.lst ks]=.ok (.sh .non):=by
 obtain⟨Δ',e,a1,a2,rfl⟩:=g_1 (Gb 1 2) j_4 (λk Δ=>∃a1 a2,Δ= [.sh (.lst ks),a1,a2]) (ds:=Cl 0 ks) (Δ:=[.sh (.lst ks),.no,.no]) ⟨_,_,rfl⟩ (λk d Δ hd hI=>by
  obtain⟨a1,a2,rfl⟩:=hI;obtain⟨d',e1,rfl⟩:=n_7 hd;refine⟨_,rfl,_,.inl ?_,.sh (.int ((0 + k:Nat):Int)),.sh d',rfl⟩
  simp![j_4,An,bb_6 (hk d' (B1 e1))])
 simp![i_2,z_9,An,Cb,Ep,am_3,e]
def cn_6{l:List D}{d:D}{r:List D}(hk:∀k∈l,isKey k)(hd:Hj d):i_2 [.lst (l ++ d::r)]=.ex (Fv l.length):=by
 have e:=bl_8 (Gb 1 2) j_4 (λk Δ=>∃a1 a2,Δ= [.sh (.lst (l ++ d::r)),a1,a2]) (ds:=Cl 0 (l ++ d::r)) (Δ:=[.sh (.lst (l ++ d::r)),.no,.no]) (n:=l.length) (r:=.ex (Fv l.length) [.sh (.lst (l ++ d::r)),.sh (.int (l.length:Int)),.sh d])
  (d:=.tup [.int ((0 + l.length:Nat):Int),d]) ⟨_,_,rfl⟩ (ax_6 (by simp)) (λk d' Δ hkl hd' hI=>by
   obtain⟨a1,a2,rfl⟩:=hI;obtain⟨x,e1,rfl⟩:=n_7 hd';rw[B7 hkl]at e1;refine⟨_,rfl,_,.inl ?_,.sh (.int ((0 + k:Nat):Int)),.sh x,rfl⟩
   simp![j_4,An,bb_6 (hk x (B1 e1))]) (λ Δ hI=>by
   obtain⟨a1,a2,rfl⟩:=hI;refine⟨_,rfl, ?_⟩
   simp![j_4,An,bw_2 hd,w_3,Fv]) rfl
 simp![i_2,z_9,An,Cb,Ep,am_3,e]
def Ea(ks:List D):List (Av×D):=ks.map λd=>(kOf d,.bl true)
def cn_7{ks:List D}{d:D}(hk:∀k∈ks,isKey k)(hd:isKey d):Eo (Ea ks) (kOf d)=true↔d∈ks:=by
 unfold Eo Ed Ea;rw[O0,List.find?_isSome];constructor
 ·rintro ⟨p,hp,e⟩
  obtain⟨x,hx,rfl⟩:=D0.mp hp;have:kOf x=kOf d:=by simpa using e
  rw[<-dd_7 (hk x hx) hd this];exact hx
 ·intro h;exact⟨(kOf d,.bl true),D0.mpr ⟨d,h,rfl⟩,by simp⟩
def dw_0{ks:List D}{d:D}(hk:∀k∈ks,isKey k)(hd:isKey d)(n:d∉ks):Eh (Ea ks) (kOf d) (.bl true)=Ea (ks ++ [d]):=by
 unfold Eh;have h:((Ea ks).any λkv=>decide (kv.1=kOf d))=false:=by
  cases q:(Ea ks).any λkv=>decide (kv.1=kOf d) with
  |false=>rfl
  |true=>
   exfalso;obtain⟨p,hp,e⟩:=R1.mp q;obtain⟨x,hx,rfl⟩:=D0.mp hp;have:kOf x=kOf d:=by simpa using e
   have:=dd_7 (hk x hx) hd this;subst this;exact n hx
 rw[h];unfold Ea;rw[D1];rfl
def bd_6{ks:List D}{l:List D}{d:D}{k:Nat}(hl:∀x∈l,isKey x)(hd:isKey d)(n:d∉l)(hn:l.length < 16777216):
  j_8 [.sh (.lst ks),.ow (.dic (Ea l)),.sh (.int (k:Int)),.sh d]=.nx [.sh (.lst ks),.ow (.dic (Ea (l ++ [d]))),.sh (.int (k:Int)),.sh d]:=by
 have h:Eo (Ea l) (kOf d)=false:=by
  cases q:Eo (Ea l) (kOf d) with
  |false=>rfl
  |true=>exact absurd ((cn_7 hl hd).mp q) n
 have hs:(Ea l).length < 16777216:=by unfold Ea;rw[A0];exact hn
 simp![j_8,An,inK,cn_5 hd,h,aw_3,hs,dw_0 hl hd n]
def dk_4{ks:List D}(hk:∀k∈ks,isKey k)(nd:ks.Nodup)(hl:ks.length < 16777216):m_7 [.lst ks]=.ok (.sh .non):=by
 obtain⟨Δ',e,a2,a3,rfl⟩:=g_1 (Gb 2 3) j_8 (λk Δ=>∃a2 a3,Δ= [.sh (.lst ks),.ow (.dic (Ea (ks.take k))),a2,a3]) (ds:=Cl 0 ks) (Δ:=[.sh (.lst ks),.ow (.dic []),.no,.no]) ⟨_,_,rfl⟩ (λk d Δ hd hI=>by
  obtain⟨a2,a3,rfl⟩:=hI;obtain⟨d',e1,rfl⟩:=n_7 hd;have hlt:k < ks.length:=(A5.mp e1).1;have nin:d'∉ks.take k:=λhm=>by
   obtain⟨j,hj,e⟩:=M8 hm;rw[G6]at hj;rw[List.getElem_take]at e;have:=N1.mp nd j k () hlt ();rw[e]at this;rw[B2 hlt]at e1;injection e1 with e1
   exact this e1.symm
  refine⟨_,rfl,_,.inl (bd_6 (k:=0 + k) (λx hx=>hk x (Q6 hx)) (hk d' (B1 e1)) nin (by rw[G6];omega)),.sh (.int ((0 + k:Nat):Int)),.sh d', ?_⟩;rw[K4,e1];rfl)
 have e':Gk (Gb 2 3) j_8 (Cl 0 ks) [.sh (.lst ks),.ow (.dic []),.no,.no]=_:=e
 simp![m_7,ae_1,An,Ht,Cb,Ep,am_3,e']
def cv_8{l:List D}{d:D}(hk:∀k∈l,isKey k)(nd:l.Nodup)(hl:l.length < 16777216)(hd:d∈l)(r:List D):m_7 [.lst (l ++ d::r)]=.ex (cc_7 l.length):=by
 have hdk:=hk d hd;have e:=bl_8 (Gb 2 3) j_8 (λk Δ=>∃a2 a3,Δ= [.sh (.lst (l ++ d::r)),.ow (.dic (Ea (l.take k))),a2,a3]) (ds:=Cl 0 (l ++ d::r)) (Δ:=[.sh (.lst (l ++ d::r)),.ow (.dic []),.no,.no]) (n:=l.length)
  (r:=.ex (cc_7 l.length) [.sh (.lst (l ++ d::r)),.ow (.dic (Ea l)),.sh (.int (l.length:Int)),.sh d]) (d:=.tup [.int ((0 + l.length:Nat):Int),d]) ⟨_,_,rfl⟩ (ax_6 (by simp)) (λk d' Δ hkl hd' hI=>by
   obtain⟨a2,a3,rfl⟩:=hI;obtain⟨x,e1,rfl⟩:=n_7 hd';rw[B7 hkl]at e1;have nin:x∉l.take k:=λhm=>by
    obtain⟨j,hj,e⟩:=M8 hm;rw[G6]at hj;rw[List.getElem_take]at e;have:=N1.mp nd j k () hkl ();rw[e]at this;rw[B2 hkl]at e1;injection e1 with e1
    exact this e1.symm
   refine⟨_,rfl,_,.inl (bd_6 (k:=0 + k) (λy hy=>hk y (Q6 hy)) (hk x (B1 e1)) nin (by rw[G6];omega)),.sh (.int ((0 + k:Nat):Int)),.sh x, ?_⟩;rw[K4,e1];rfl) (λ Δ hI=>by
   obtain⟨a2,a3,rfl⟩:=hI;refine⟨_,rfl, ?_⟩;rw[K6]
   simp![j_8,An,inK,cn_5 hdk,(cn_7 hk hdk).mpr hd,w_3,cc_7]) rfl
 simp![m_7,ae_1,An,Ht,Cb,Ep,am_3,e]
def bh_8{ks:List D}(hk:∀k∈ks,isKey k)(nd:ks.Nodup)(h1:1<=ks.length)(h2:ks.length<=200):Hg [.lst ks]=.ok (.sh (.int (ks.length:Int))):=by
 have c1:¬(ks.length:Int)=0:=by omega
 have c2:¬(200:Int) < (ks.length:Int):=by omega
 simp![Hg,v_5,An,Fs,l_3,c1,Gg,c2,dd_8 hk,dk_4 hk nd ()]
def eg_6{l:List D}{d:D}{r:List D}(hk:∀k∈l,isKey k)(hd:Hj d)(h2:l.length + r.length < 200):Hg [.lst (l ++ d::r)]=.ex (Fv l.length):=by
 have zm:((l ++ d::r).length:Int)=(l.length:Int) + (r.length:Int) + 1:=by simp;omega
 have c1:¬((l ++ d::r).length:Int)=0:=by omega
 have c2:¬(200:Int) < ((l ++ d::r).length:Int):=by omega
 simp![Hg,v_5,An,Fs,l_3,c1,Gg,c2,cn_6 hk hd,exG]
def Br(n ii:Int):Int:=if ii < 3 then n + n / 8 + 1 else 41 * n / 100 + 2
def u_0(n ii:Int)(h0:0<=n)(h1:n<=1000)(hk:ii=2\/ii=3):j_0 [.int n,.int ii]=.ok (.sh (.int (Br n ii)))/\True/\0 < Br n ii/\Br n ii<=2000:=by
 have m41:Fk 41 n=true:=p_1 ⋯ ⋯;rcases hk with rfl|rfl
 ·refine⟨?_,trivial, ?_, ?_⟩
  ·simp![j_0,an_1,An,En,show(2:Int) < 3 by decide,w_2 (show(0:Int) < 8 by decide) ⋯,p_2,Br]
  ·unfold Br;rw[if_pos ⋯];omega
  ·unfold Br;rw[if_pos ⋯];omega
 ·refine⟨?_,trivial, ?_, ?_⟩
  ·simp![j_0,an_1,An,En,show¬(3:Int) < 3 by decide,w_2 (show(0:Int) < 100 by decide) ⋯,p_2,Gf m41,Br]
  ·unfold Br;rw[if_neg ⋯];omega
  ·unfold Br;rw[if_neg ⋯];omega
def Gw(d:D)(salt ij:Int)(j:Int):Int:=j * ij + ai_7 (u_8 d) (4 * salt + j) ij
def ap_5(d:D)(salt ii ij:Int):List D:=(List.range ii.toNat).map λ(k:Nat)=>D.int (Gw d salt ij (0 + (k:Int)))
def dk_5{d:D}(h:isKey d)(salt ii ij:Int)(s0:0<=salt)(s1:salt<=1000000000000)(hk:ii=2\/ii=3)(p0:0 < ij)(p1:ij<=2000):
  e_5 [d,.int salt,.int ii,.int ij]=.ok (.sh (.tup (ap_5 d salt ii ij)))/\True:=by
 have hr:=s_2 (j:=ii) () ();have hl:(De 0 ii.toNat).length<=16777216:=by rw[q_3];omega
 have dg:∀k:Nat,k < ii.toNat->Fk (0 + (k:Int)) ij=true/\Fk 4 salt=true:=λk hk=>⟨p_1 () (),p_1 ⋯ ⋯⟩;refine⟨?_,trivial⟩
 ·have ec:=dj_3 (fg:=gC 5) (p:=λ_=> .ok true) (f:=y_4) (δ:=[some d,some (.int salt),some (.int ii),some (.int ij),some (.int (u_8 d)),none]) (F:=λi=> .int (Gw d salt ij i)) ii.toNat 0 (λk hk'=>by
   obtain⟨m1,m2⟩:=dg k hk';refine⟨[some d,some (.int salt),some (.int ii),some (.int ij),some (.int (u_8 d)),some (.int (0 + (k:Int)))],.sh (.int (Gw d salt ij (0 + (k:Int)))),rfl,rfl, ?_,rfl⟩
   simp![y_4,An,Gf m1,Gf m2,p_2,(cn_4 (u_8 d) (4 * salt + (0 + (k:Int))) ij () () p0).1,Gw])
  have ec':=j_9 (m:=1) (fi:=Bf Dd #v[2]) (fg:=gC 5) (p:=λ_=> .ok true) (f:=y_4) (δ:=[some d,some (.int salt),some (.int ii),some (.int ij),some (.int (u_8 d))]) (by simp![An,hr]) hl ec
  simp![e_5,an_2,An,cn_3 h,ec',dr_0]
  rfl
def cv_9(ks:List D)(salt ii:Int):List D:=ks.map λd=> .tup (ap_5 d salt ii (Br (ks.length:Int) ii))
def bm_0{ks:List D}(hk:∀k∈ks,isKey k)(nd:ks.Nodup)(h1:1<=ks.length)(h2:ks.length<=200)(salt ii:Int)(s0:0<=salt)(s1:salt<=1000000000000)(hkd:ii=2\/ii=3):
  l_0 [.lst ks,.int salt,.int ii]=.ok (.ow (.lst (cv_9 ks salt ii))):=by
 obtain⟨p1,p2,p3,p4⟩:=u_0 (ks.length:Int) ii () () hkd
 ·have ec:=j_9 (m:=1) (fi:=Dj (Ab 0)) (fg:=gC 4) (p:=λ_=> .ok true) (f:=ai_2) (δ:=[some (.lst ks),some (.int salt),some (.int ii),some (.int (Br (ks.length:Int) ii))]) (ds:=ks) (by simp![An]) ()
   (y_9 (λd=> .tup (ap_5 d salt ii (Br (ks.length:Int) ii))) ks λd hd=>⟨_,.sh (.tup (ap_5 d salt ii (Br (ks.length:Int) ii))),rfl,by
    simp![ai_2,An,(dk_5 (hk d hd) salt ii (Br (ks.length:Int) ii) s0 s1 hkd p3 p4).1],rfl⟩)
  simp![l_0,at_9,An,bh_8 hk nd h1 h2,p1,ec]
  rfl
def cn_8{ks:List D}{x:Xn}(hx:Hg [.lst ks]=.ex x)(salt ii:Int):l_0 [.lst ks,.int salt,.int ii]=.ex x:=by
 simp![l_0,at_9,An,hx]
def kp(p:Nat):Av:=.inl (p:Int)
def kp_inj{a b:Nat}:kp a=kp b↔a=b:=by
 unfold kp;constructor
 ·intro h;injection h with h;exact Int.ofNat.inj h
 ·intro h;rw[h]
def inner(ns:List Nat):List (Av×D):=ns.map λn=>(kp n,.bl true)
abbrev Dh:=List (Nat×List Nat)
def inT(ns:List Nat):Tn:=Tn.of (.dic (inner ns))
def Cn(st:Dh):List (Av×Tn):=st.map λx=>(kp x.1,inT x.2)
def Cj:Dh->Nat->Option (List Nat)
 | [],_=>none
 |(q,ns)::r,p=>if q=p then some ns else Cj r p
def rpS:Dh->Nat->List Nat->Dh
 | [],_,_=> []
 |(q,ns)::r,p,ms=>if q=p then(q,ms)::r else(q,ns)::rpS r p ms
theorem an_9:∀(st:Dh) (p:Nat),Ed (Cn st) (kp p)=(Cj st p).map inT
 | [],_=>rfl
 |(q,ns)::r,p=>by
  have ih:=an_9 r p;unfold Ed at ih⊢;show(((kp q,inT ns)::Cn r).find? λkv=>decide (kv.1=kp p)).map (·.2)=_;unfold Cj
  by_cases h:q=p
  ·rw[if_pos h,P4 (by simpa[kp_inj] using h)];rfl
  ·rw[if_neg h,P5 (by simpa[kp_inj] using h)];exact ih
theorem ax_7(ms:List Nat):∀(st:Dh) (p:Nat),Fe (Cn st) (kp p) (inT ms)=Cn (rpS st p ms)
 | [],_=>rfl
 |(q,ns)::r,p=>by
  show Fe ((kp q,inT ns)::Cn r) (kp p) (inT ms)=_;unfold Fe rpS
  by_cases h:q=p
  ·rw[if_pos h,if_pos (kp_inj.mpr h)];rfl
  ·rw[if_neg h,if_neg (λz=>h (kp_inj.mp z)),ax_7 ms r p];rfl
def eg_7(a b:Dh):Cn (a ++ b)=Cn a ++ Cn b:=by unfold Cn;rw[D1]
def eg_8(a:Dh):(Cn a).length=a.length:=by unfold Cn;rw[A0]
def ey_2(ns:List Nat):(inT ns).d=.dic (inner ns):=Tn.of_d _
theorem cw_0:∀st:Dh,Tn.ks (Cn st)=st.map λx=>(kp x.1,.dic (inner x.2))
 | []=>rfl
 |(q,ns)::r=>by
  show(kp q,(inT ns).d)::Tn.ks (Cn r)=_;rw[cw_0 r,ey_2];rfl
theorem cc_8:∀(st:Dh) (p:Nat),Ed (Tn.ks (Cn st)) (kp p)=(Cj st p).map λns=> .dic (inner ns)
 | [],_=>rfl
 |(q,ns)::r,p=>by
  have ih:=cc_8 r p;rw[cw_0]at ih⊢;unfold Ed at ih⊢;rw[A9];unfold Cj
  by_cases h:q=p
  ·rw[if_pos h,P4 (by simpa[kp_inj] using h)];rfl
  ·rw[if_neg h,P5 (by simpa[kp_inj] using h)];exact ih
def dd_9(st:Dh)(p:Nat):Eo (Tn.ks (Cn st)) (kp p)=(Cj st p).isSome:=by
 unfold Eo;rw[cc_8,O0]
def bb_7(ns:List Nat):(inner ns).length=ns.length:=by unfold inner;rw[A0]
theorem bm_1:∀(ns:List Nat) (n:Nat),Eo (inner ns) (kp n)=decide (n∈ns)
 | [],_=>by simp[inner,Eo,Ed]
 |m::ns,n=>by
  have ih:=bm_1 ns n;unfold Eo Ed at ih⊢;show((((kp m,D.bl true)::inner ns).find? λkv=>decide (kv.1=kp n)).map (·.2)).isSome=_
  by_cases h:m=n
  ·rw[P4 (by simpa[kp_inj] using h)];simp[h]
  ·rw[P5 (by simpa[kp_inj] using h),ih];simp[Ne.symm h]
def dk_6(ns:List Nat)(n:Nat):((inner ns).any λkv=>decide (kv.1=kp n))=decide (n∈ns):=by
 induction ns with
 |nil=>rfl
 |cons m ns ih=>
  show(decide (kp m=kp n) || (inner ns).any λkv=>decide (kv.1=kp n))=_;rw[ih]
  by_cases h:m=n
  ·simp[h]
  ·simp[h,kp_inj,Ne.symm h]
def bw_3(ns:List Nat)(n:Nat):Eh (inner ns) (kp n) (.bl true)=inner (if n∈ns then ns else ns ++ [n]):=by
 unfold Eh;rw[dk_6]
 by_cases h:n∈ns
 ·rw[if_pos (D9 h),if_pos h];unfold inner;rw[D4];apply F8;intro m _;show(if kp m=kp n then(kp m,D.bl true) else(kp m,D.bl true))=_
  split <;> rfl
 ·rw[if_neg (by simpa using h),if_neg h];unfold inner;rw[D1];rfl
def cw_1(ns:List Nat)(n:Nat):Gq (inner ns) (kp n)=inner (ns.filter λm=>decide (m≠n)):=by
 unfold Gq inner;rw[List.filter_map]
 congr 1
 apply List.filter_congr;intro m _;show decide (kp m≠kp n)=_
 by_cases h:m=n
 ·simp[h]
 ·simp[h,kp_inj]
theorem de_0:∀(st:Dh) (p q:Nat) (ms:List Nat),Cj (rpS st p ms) q=if q=p then(Cj st p).map (λ_=>ms) else Cj st q
 | [],p,q,ms=>by simp[rpS,Cj]
 |(r,ns)::st,p,q,ms=>by
  unfold rpS
  by_cases h:r=p
  ·rw[if_pos h];unfold Cj
   by_cases h2:q=p
   ·rw[if_pos (),if_pos h2,if_pos h];rfl
   ·rw[if_neg (),if_neg h2,if_neg ()]
  ·rw[if_neg h];unfold Cj
   by_cases h2:r=q
   ·rw[if_pos h2,if_neg (),if_pos h2]
   ·rw[if_neg h2,de_0 st p q ms,if_neg h,if_neg h2]
theorem cc_9:∀(st:Dh) (p:Nat) (ms:List Nat),(rpS st p ms).map (·.1)=st.map (·.1)
 | [],_,_=>rfl
 |(r,ns)::st,p,ms=>by
  unfold rpS
  split
  ·rfl
  ·rw[A9,A9,cc_9 st p ms]
theorem cd_0:∀(a:Dh) (p q:Nat) (ms:List Nat),Cj (a ++ [(p,ms)]) q=match Cj a q with|some ns=>some ns|none=>if p=q then some ms else none
 | [],p,q,ms=>rfl
 |(r,ns)::a,p,q,ms=>by
  show Cj ((r,ns)::(a ++ [(p,ms)])) q=_;unfold Cj
  by_cases h:r=q
  ·rw[if_pos h,if_pos h]
  ·rw[if_neg h,if_neg h,cd_0 a p q ms]
theorem dw_1:∀(a:Dh) (p:Nat) (ms ls:List Nat),Cj a p=none->rpS (a ++ [(p,ms)]) p ls=a ++ [(p,ls)]
 | [],p,ms,ls,_=>by show rpS [(p,ms)] p ls=_;unfold rpS;rw[if_pos rfl];rfl
 |(r,ns)::a,p,ms,ls,h=>by
  unfold Cj at h
  split at h
  ·cases h
  ·rename_i hn;show rpS ((r,ns)::(a ++ [(p,ms)])) p ls=_;unfold rpS;rw[if_neg hn,dw_1 a p ms ls h];rfl
theorem lk_mem:∀{st:Dh} {p:Nat},p∈st.map (·.1)↔(Cj st p).isSome=true
 | [],p=>by simp[Cj]
 |(r,ns)::st,p=>by
  unfold Cj
  by_cases h:r=p
  ·simp[h]
  ·rw[if_neg h,A9,B3,lk_mem (st:=st)];constructor
   ·rintro (z|z)
    ·exact absurd z.symm h
    ·exact z
   ·exact λz=> .inr z
structure Rep(st:Dh)(R:Nat->Nat->Prop):Prop where
 at_:∀p ns,Cj st p=some ns->ns.Nodup/\∀n,n∈ns↔R n p
 all:∀n p,R n p->(Cj st p).isSome=true
def addS(st:Dh)(p n:Nat):Dh:=match Cj st p with
 |some ns=>rpS st p (if n∈ns then ns else ns ++ [n])
 |none=>st ++ [(p,[n])]
def Rep.add{st:Dh}{R:Nat->Nat->Prop}(h:Rep st R)(p n:Nat):Rep (addS st p n) (λn' p'=>R n' p'\/(n'=n/\p'=p)):=by
 unfold addS;cases e:Cj st p with
 |some ns=>
  obtain⟨h1,h2⟩:=h.at_ p ns e;refine⟨λq ms eq=> ?_,λn' p' z=> ?_⟩
  ·simp only[de_0,e,L5]at eq
   by_cases hq:q=p
   ·rw[if_pos hq]at eq;cases eq;subst hq
    by_cases hn:n∈ns
    ·rw[if_pos hn];refine⟨h1,λm=>⟨λz=> .inl ((h2 m).mp z),λz=> ?_⟩⟩;rcases z with z|⟨rfl,_⟩
     ·exact(h2 m).mpr z
     ·exact hn
    ·rw[if_neg hn];refine⟨V6.mpr ⟨h1,by simp,λa ha b hb=> ?_⟩,λm=> ?_⟩
     ·have:b=n:=by simpa using hb
      rintro rfl
      exact hn (this▸ha)
     ·rw[F6,h2 m,F7];constructor
      ·rintro (z|z)
       ·exact .inl z
       ·exact .inr ⟨z,rfl⟩
      ·rintro (z|⟨z,_⟩)
       ·exact .inl z
       ·exact .inr z
   ·rw[if_neg hq]at eq;obtain⟨k1,k2⟩:=h.at_ q ms eq;refine⟨k1,λm=>⟨λz=> .inl ((k2 m).mp z),λz=> ?_⟩⟩;rcases z with z|⟨_,z⟩
    ·exact(k2 m).mpr z
    ·exact absurd z hq
  ·simp only[de_0,e,L5]
   by_cases hq:p'=p
   ·rw[if_pos hq];rfl
   ·rw[if_neg hq];rcases z with z|⟨_,z⟩
    ·exact h.all n' p' z
    ·exact absurd z hq
 |none=>
  refine⟨λq ms eq=> ?_,λn' p' z=> ?_⟩
  ·simp only[cd_0]at eq;cases e2:Cj st q with
   |some ns=>
    rw[e2]at eq;cases eq;obtain⟨k1,k2⟩:=h.at_ q _ e2;refine⟨k1,λm=>⟨λz=> .inl ((k2 m).mp z),λz=> ?_⟩⟩;rcases z with z|⟨_,z⟩
    ·exact(k2 m).mpr z
    ·subst z;rw[e]at e2;cases e2
   |none=>
    rw[e2]at eq
    by_cases hq:p=q
    ·simp only[hq,if_true]at eq;cases eq;subst hq;refine⟨by simp,λm=> ?_⟩;rw[F7];constructor
     ·exact λz=> .inr ⟨z,rfl⟩
     ·rintro (z|⟨z,_⟩)
      ·have:=h.all m p z;rw[e]at this;cases this
      ·exact z
    ·simp only[hq,S4]at eq;cases eq
  ·simp only[cd_0];rcases z with z|⟨_,z⟩
   ·have:=h.all n' p' z;cases e2:Cj st p' with
    |some ns=>rfl
    |none=>rw[e2]at this;cases this
   ·subst z;rw[e];simp
def eg_9(st:Dh)(p n:Nat):(addS st p n).length<=st.length + 1:=by
 unfold addS
 split
 ·have:=Q5 List.length (cc_9 st p (if n∈(by assumption:List Nat) then(by assumption:List Nat) else(by assumption:List Nat) ++ [n]));rw[A0,A0]at this;omega
 ·simp
def Hf(st:Dh)(n:Nat)(ps:List Nat):Dh:=ps.foldl (λst p=>rpS st p (((Cj st p).getD []).filter λm=>decide (m≠n))) st
theorem ap_6(n:Nat):∀(ps:List Nat) (st:Dh),(Hf st n ps).map (·.1)=st.map (·.1)
 | [],_=>rfl
 |p::ps,st=>by
  show(Hf (rpS st p _) n ps).map (·.1)=_;rw[ap_6 n ps,cc_9]
theorem bh_9(n:Nat):∀(ps:List Nat) (st:Dh) (q:Nat),Cj (Hf st n ps) q=if q∈ps then(Cj st q).map (λns=>ns.filter λm=>decide (m≠n)) else Cj st q
 | [],st,q=>by simp[Hf]
 |p::ps,st,q=>by
  show Cj (Hf (rpS st p _) n ps) q=_;rw[bh_9 n ps,de_0]
  by_cases h:q=p
  ·subst h;rw[if_pos rfl,if_pos (F0 ..)];cases e:Cj st q with
   |none=>simp
   |some ns=>
    simp only[L5,R6]
    split
    ·rw[List.filter_filter];simp
    ·rfl
  ·rw[if_neg h]
   by_cases h2:q∈ps
   ·rw[if_pos h2,if_pos (C9 _ h2)]
   ·rw[if_neg h2,if_neg (by simp[h,h2])]
def Rep.away{st:Dh}{R:Nat->Nat->Prop}(h:Rep st R)(n:Nat)(ps:List Nat)(hp:∀p,R n p->p∈ps):Rep (Hf st n ps) (λn' p'=>R n' p'/\n'≠n):=by
 refine⟨λq ms e=> ?_,λn' p' ⟨z,_⟩=> ?_⟩
 ·rw[bh_9]at e
  by_cases hq:q∈ps
  ·rw[if_pos hq]at e;obtain⟨ns,e1,rfl⟩:=D3.mp e;obtain⟨k1,k2⟩:=h.at_ q ns e1;refine⟨k1.filter _,λm=> ?_⟩;rw[W4,k2 m];simp
  ·rw[if_neg hq]at e;obtain⟨k1,k2⟩:=h.at_ q ms e;refine⟨k1,λm=>⟨λz=>⟨(k2 m).mp z, ?_⟩,λz=>(k2 m).mpr z.1⟩⟩
   rintro rfl
   exact hq (hp q ((k2 m).mp z))
 ·rw[bh_9];have:=h.all n' p' z
  split
  ·rw[O0];exact this
  ·exact this
def zi(ps:List Nat):List D:=ps.map λp=>D.int ((p:Nat):Int)
def eT(ps:List Nat):D:=.tup (zi ps)
def eL(E:List (List Nat)):List D:=E.map eT
def Hc(l:List Nat):(zi l).length=l.length:=by unfold zi;rw[A0]
def dw_2{l:List Nat}{i:Nat}{d:D}(h:(zi l)[i]? =some d):∃p,l[i]? =some p/\d=.int (p:Int):=by
 unfold zi at h;rw[A8]at h;obtain⟨p,e1,e2⟩:=D3.mp h;exact⟨p,e1,e2.symm⟩
def es_2{E:List (List Nat)}{i:Nat}{d:D}(h:(eL E)[i]? =some d):∃ps,E[i]? =some ps/\d=eT ps:=by
 unfold eL at h;rw[A8]at h;obtain⟨p,e1,e2⟩:=D3.mp h;exact⟨p,e1,e2.symm⟩
def ek_6{E:List (List Nat)}{i:Nat}{ps:List Nat}(h:E[i]? =some ps):(eL E)[i]? =some (eT ps):=by
 unfold eL;rw[A8,h];rfl
def stSl(st:Dh)(a:Sl):Prop:=a=.tr (.dic (Cn st))\/(st= []/\a=.ow (.dic []))
theorem stSl.any{st:Dh}{a:Sl}(h:stSl st a):Sl.any a=some (.dic (Tn.ks (Cn st))):=by
 rcases h with rfl|⟨rfl,rfl⟩ <;> rfl
theorem stSl.tree{st:Dh}{a:Sl}(h:stSl st a):Sl.tree a=some (.dic (Cn st),false):=by
 rcases h with rfl|⟨rfl,rfl⟩ <;> rfl
def dk_7{st:Dh}{a1:Sl}(h:stSl st a1)(a0:Sl)(n p:Nat)(a3:Sl)(hl:st.length < 1000)(hi:∀q ns,Cj st q=some ns->ns.length < 1000):
  p_7 [a0,a1,.sh (.int (n:Int)),a3,.sh (.int (p:Int))]=.nx [a0,.tr (.dic (Cn (addS st p n))),.sh (.int (n:Int)),a3,.sh (.int (p:Int))]:=by
 have hk:∀k:Nat,Dw (.int (k:Int))=some (kp k):=λ_=>rfl;unfold addS;cases e:Cj st p with
 |some ns=>
  have e1:inK true (.int (p:Int)) (.dic (Tn.ks (Cn st)))=.ok (.sh (.bl false)):=by
   simp only[inK,hk,dd_9,e];rfl
  have e2:Ed (Cn st) (kp p)=some (.dic ((inner ns).map λp=>(p.1,Tn.sh p.2))):=by rw[an_9,e];rfl
  have e3:=ct_7 (inner ns);have e4:(inner ns).length < 16777216:=by rw[bb_7];have:=hi p ns e;omega
  have e5:Fe (Cn st) (kp p) (Tn.of (.dic (inner (if n∈ns then ns else ns ++ [n]))))=Cn (rpS st p (if n∈ns then ns else ns ++ [n])):=ax_7 _ st p
  simp![p_7,An,h.any,e1,bv_0,N6,h.tree,hk,e2,e3,e4,bw_3,e5,Sl.mk]
 |none=>
  have e1:inK true (.int (p:Int)) (.dic (Tn.ks (Cn st)))=.ok (.sh (.bl true)):=by
   simp only[inK,hk,dd_9,e];rfl
  have e0:(Ed (Cn st) (kp p)).isSome=false:=by rw[an_9,e];rfl
  have el:(Cn st).length < 16777216:=by rw[eg_8];omega
  have ea:Cn st ++ [(kp p,Tn.dic [])]=Cn (st ++ [(p,[])]):=by rw[eg_7];rfl
  have e2:Ed (Cn (st ++ [(p,[])])) (kp p)=some (.dic []):=by
   rw[an_9,cd_0,e];simp only[if_true];rfl
  have e5:Fe (Cn (st ++ [(p,[])])) (kp p) (Tn.of (.dic (inner [n])))=Cn (st ++ [(p,[n])]):=by
   have:=ax_7 [n] (st ++ [(p,[])]) p;rw[dw_1 st p [] [n] e]at this;exact this
  have e6:unS []=some []:=rfl;have e7:Eh ([]:List (Av×D)) (kp n) (.bl true)=inner [n]:=rfl;have e8:(0:Nat) < 16777216:=by decide
  have t1:bv_1 1 (Ab 4) [a0,a1,.sh (.int (n:Int)),a3,.sh (.int (p:Int))]=.nx [a0,.tr (.dic (Cn (st ++ [(p,[])]))),.sh (.int (n:Int)),a3,.sh (.int (p:Int))]:=by
   simp![bv_1,An,N6,h.tree,hk,e0,el,ea,Sl.mk]
  have t2:bv_0 1 (Ab 4) (Ab 2) (eC (.bl true)) [a0,.tr (.dic (Cn (st ++ [(p,[])]))),.sh (.int (n:Int)),a3,.sh (.int (p:Int))]=.nx [a0,.tr (.dic (Cn (st ++ [(p,[n])]))),.sh (.int (n:Int)),a3,.sh (.int (p:Int))]:=by
   simp![bv_0,An,N6,Sl.tree,hk,e2,e6,e7,e8,e5,Sl.mk]
  have t0:Bq [1,4] (Ao (Aj (inK true) (Ab 4) (Ab 1))) (bv_1 1 (Ab 4)) Ba [a0,a1,.sh (.int (n:Int)),a3,.sh (.int (p:Int))]=.nx [a0,.tr (.dic (Cn (st ++ [(p,[])]))),.sh (.int (n:Int)),a3,.sh (.int (p:Int))]:=by
   rw[<-t1];simp only[Bq,Aw,A9,N7,cu_4,h.any,Ao,Aj,Ab,O6,R4,R.bind_ok,W.d_sh,e1,Eb,if_true]
  unfold p_7;rw[Bn t0,t2]
def few{l:List Nat}{n:Nat}(h:l.Nodup)(hb:∀x∈l,x < n):l.length<=n:=by
 have:=List.Nodup.length_le_of_subset (l₂:=List.range n) h λx hx=>J9.mpr (hb x hx)
 rwa[J0]at this
def tot(E:List (List Nat)):Nat:=(E.map List.length).sum
def dw_3{E:List (List Nat)}{k:Nat}{ps:List Nat}(h:E[k]? =some ps):tot (E.take (k + 1))=tot (E.take k) + ps.length:=by
 unfold tot;rw[K4,h,D1,List.sum_append];simp
theorem bd_7:∀(l:List Nat) (k:Nat),(l.take k).sum<=l.sum
 | [],k=>by simp
 |a::l,0=>by simp
 |a::l,k + 1=>by
  have:=bd_7 l k;simp only[List.take_succ_cons,T4];omega
def es_3(E:List (List Nat))(k:Nat):tot (E.take k)<=tot E:=by
 unfold tot;rw[List.map_take];exact bd_7 _ k
def RE(E:List (List Nat))(n p:Nat):Prop:=∃e,E[n]? =some e/\p∈e
def Rep.imp{st:Dh}{R R':Nat->Nat->Prop}(h:Rep st R)(i:∀n p,R n p↔R' n p):Rep st R':=
 ⟨λp ns e=>⟨(h.at_ p ns e).1,λn=>((h.at_ p ns e).2 n).trans (i n p)⟩,λn p z=>h.all n p ((i n p).mpr z)⟩
def Rep.small{st:Dh}{R:Nat->Nat->Prop}(h:Rep st R){N:Nat}(hb:∀n p,R n p->n < N){q:Nat}{ns:List Nat}(e:Cj st q=some ns):ns.length<=N:=by
 obtain⟨h1,h2⟩:=h.at_ q ns e;exact few h1 λx hx=>hb x q ((h2 x).mp hx)
def cw_3{st:Dh}{a1:Sl}(h:stSl st a1)(a0:Sl)(n:Nat)(ps:List Nat)(a4:Sl){R:Nat->Nat->Prop}(hR:Rep st R){N:Nat}(hb:∀m p,R m p->m < N)(hn:n < N)(hN:N<=900)(hl:st.length + ps.length<=900):
  ∃st' a1' a4',Rep st' (λm p=>R m p\/(m=n/\p∈ps))/\stSl st' a1'/\st'.length<=st.length + ps.length/\p_8 [a0,a1,.sh (.int (n:Int)),.sh (eT ps),a4]=.nx [a0,a1',.sh (.int (n:Int)),.sh (eT ps),a4']:=by
 obtain⟨Δ',e,st',a1',a4',r',s',l',rfl⟩:=g_1 (gV 4) p_7 (λk Δ=>∃st' a1' a4',Rep st' (λm p=>R m p\/(m=n/\p∈ps.take k))/\stSl st' a1'/\st'.length<=st.length + k/\Δ= [a0,a1',.sh (.int (n:Int)),.sh (eT ps),a4']) (ds:=zi ps) (Δ:=[a0,a1,.sh (.int (n:Int)),.sh (eT ps),a4])
  ⟨st,a1,a4,hR.imp λm p=>by simp,h,by omega,rfl⟩ (λk d Δ hd hI=>by
   obtain⟨st',a1',a4',r',s',l',rfl⟩:=hI;obtain⟨p,hp,rfl⟩:=dw_2 hd;have hk:k < ps.length:=(A5.mp hp).1;have bd:∀m q,(R m q\/(m=n/\q∈ps.take k))->m < N:=λm q z=>by
    rcases z with z|⟨z,_⟩
    ·exact hb m q z
    ·omega
   refine⟨_,rfl,_,.inl (dk_7 s' a0 n p (.sh (eT ps)) () λq ns e=> ?_),addS st' p n,_,_,(r'.add p n).imp λm q=> ?_,.inl rfl, ?_,rfl⟩
   ·have:=r'.small bd e;omega
   ·rw[K4,hp];simp only[Option.toList_some,F6,F7];constructor
    ·rintro ((z|⟨z1,z2⟩)|⟨z1,z2⟩)
     ·exact .inl z
     ·exact .inr ⟨z1,.inl z2⟩
     ·exact .inr ⟨z1,.inr z2⟩
    ·rintro (z|⟨z1,z2|z2⟩)
     ·exact .inl (.inl z)
     ·exact .inl (.inr ⟨z1,z2⟩)
     ·exact .inr ⟨z1,z2⟩
   ·have:=eg_9 st' p n;omega)
 rw[Hc,K6]at r';rw[Hc]at l';refine⟨st',a1',a4',r',s',l', ?_⟩;have hi:∀δ:List (Option D),Dj (Ab 3) (some (D.non)::none::none::some (eT ps)::δ)=.ok (zi ps):=λ_=>rfl;simp only[p_8,Cb];have e1:Dj (Ab 3) (Bg [a0,a1,.sh (.int (n:Int)),.sh (eT ps),a4])=.ok (zi ps):=rfl;rw[e1];exact e
def dk_8(E:List (List Nat))(hE:E.length<=900)(hT:tot E<=900):∃st a1,Rep st (RE E)/\stSl st a1/\st.length<=tot E/\∃w,t_1 [.lst (eL E)]=.ok w/\((a1=.tr (.dic (Cn st))/\w=.tr (.dic (Cn st)))\/(st= []/\a1=.ow (.dic [])/\w=.ow (.dic []))):=by
 obtain⟨Δ',e,st,a1,a2,a3,a4,r,s,l,rfl⟩:=g_1 (Gb 2 3) p_8 (λk Δ=>∃st a1 a2 a3 a4,Rep st (λn p=>RE E n p/\n < k)/\stSl st a1/\st.length<=tot (E.take k)/\Δ= [.sh (.lst (eL E)),a1,a2,a3,a4]) (ds:=Cl 0 (eL E)) (Δ:=[.sh (.lst (eL E)),.ow (.dic []),.no,.no,.no])
  ⟨[],_,_,_,_,⟨λp ns e=>(by cases e),λn p z=>()⟩,.inr ⟨rfl,rfl⟩,L9 _,rfl⟩ (λk d Δ hd hI=>by
   obtain⟨st,a1,a2,a3,a4,r,s,l,rfl⟩:=hI;obtain⟨d',e1,rfl⟩:=n_7 hd;obtain⟨ps,e2,rfl⟩:=es_2 e1;have hk:k < E.length:=(A5.mp e2).1;have t1:=dw_3 e2;have t2:=es_3 E (k + 1);rw[O9];obtain⟨st',a1',a4',r',s',l',e3⟩:=cw_3 s (.sh (.lst (eL E))) k ps a4 r (N:=E.length) (λm p z=>by omega) hk hE ();refine⟨_,rfl,_,.inl e3,st',a1',_,_,a4',r'.imp λm p=> ?_,s',by omega,rfl⟩;constructor
   ·rintro (⟨z1,z2⟩|⟨rfl,z⟩)
    ·exact⟨z1,by omega⟩
    ·exact⟨⟨ps,e2,z⟩,by omega⟩
   ·rintro ⟨⟨e,z1,z2⟩,z3⟩
    by_cases h:m=k
    ·subst h;rw[e2]at z1;cases z1;exact .inr ⟨rfl,z2⟩
    ·exact .inl ⟨⟨e,z1,z2⟩,by omega⟩)
 have hle:(Cl 0 (eL E)).length=E.length:=by
  have:∀(l:List D) (k:Nat),(Cl k l).length=l.length:=λl=>by
   induction l with
   |nil=>intro k;rfl
   |cons d l ih=>intro k;show(Cl (k + 1) l).length + 1=l.length + 1;rw[ih]
  rw[this];unfold eL;rw[A0]
 rw[hle]at r l;rw[K6]at l;refine⟨st,a1,r.imp λn p=>⟨λz=>z.1,λz=>⟨z, ?_⟩⟩,s,l, ?_⟩
 ·obtain⟨e,z1,_⟩:=z;exact(A5.mp z1).1
 ·have e1:Ep (Ab 0) (Bg [.sh (.lst (eL E)),.ow (.dic []),.no,.no,.no])=.ok (Cl 0 (eL E)):=rfl;have t1:Cb [0] (Ep (Ab 0)) (Gb 2 3) p_8 [.sh (.lst (eL E)),.ow (.dic []),.no,.no,.no]=.nx [.sh (.lst (eL E)),a1,a2,a3,a4]:=by
   simp only[Cb];rw[e1];exact e
  have t0:Al 1 [] Ht (Ar 5 [.lst (eL E)])=.nx [.sh (.lst (eL E)),.ow (.dic []),.no,.no,.no]:=rfl;rcases s with rfl|⟨rfl,rfl⟩
  ·refine⟨_,r_1 ?_,.inl ⟨rfl,rfl⟩⟩;unfold ae_2;rw[Bn t0,Bn t1];rfl
  ·refine⟨_,r_1 ?_,.inr ⟨rfl,rfl,rfl⟩⟩;unfold ae_2;rw[Bn t0,Bn t1];rfl
def dk_9(st:Dh)(n:Nat){ps:List Nat}{k p:Nat}(h:ps[k]? =some p):Hf st n (ps.take (k + 1))=rpS (Hf st n (ps.take k)) p (((Cj (Hf st n (ps.take k)) p).getD []).filter λm=>decide (m≠n)):=by
 unfold Hf;rw[K4,h,V5];rfl
def eh_0(st:Dh)(n:Nat)(ps:List Nat)(hp:∀p∈ps,(Cj st p).isSome=true):r_7 [.int (n:Int),eT ps] (.dic (Cn st))=some (.dic (Cn (Hf st n ps))):=by
 obtain⟨Δ',e,a3,rfl⟩:=g_1 (gV 3) ae_3 (λk Δ=>∃a3,Δ= [.sh (.int (n:Int)),.sh (eT ps),.lt (.dic (Cn (Hf st n (ps.take k)))),a3]) (ds:=zi ps) (Δ:=[.sh (.int (n:Int)),.sh (eT ps),.lt (.dic (Cn st)),.no])
  ⟨_,rfl⟩ (λk d Δ hd hI=>by
   obtain⟨a3,rfl⟩:=hI;obtain⟨p,hk,rfl⟩:=dw_2 hd;have hs:(Cj (Hf st n (ps.take k)) p).isSome=true:=by
    rw[<-lk_mem,ap_6,lk_mem];exact hp p (B1 hk)
   cases e1:Cj (Hf st n (ps.take k)) p with
   |none=>rw[e1]at hs;cases hs
   |some ns=>
    have kk:∀k:Nat,Dw (.int (k:Int))=some (kp k):=λ_=>rfl;have e2:Ed (Cn (Hf st n (ps.take k))) (kp p)=some (.dic ((inner ns).map λp=>(p.1,Tn.sh p.2))):=by rw[an_9,e1];rfl
    have e3:=ct_7 (inner ns);have e5:=ax_7 (ns.filter λm=>decide (m≠n)) (Hf st n (ps.take k)) p;unfold inT at e5;refine⟨_,rfl,[.sh (.int (n:Int)),.sh (eT ps),.lt (.dic (Cn (Hf st n (ps.take (k + 1))))),.sh (.int (p:Int))],.inl ?_,_,rfl⟩;rw[dk_9 st n hk,e1,R6]
    simp![ae_3,db_3,An,N6,Sl.tree,eQ_0,kk,e2,e3,cw_1,e5,Sl.mk])
 rw[Hc,K6]at e;unfold r_7 ci_7;have e1:bd_0 (ca_3 4 [.int (n:Int),eT ps] (.dic (Cn st)))=.nx [.sh (.int (n:Int)),.sh (eT ps),.lt (.dic (Cn (Hf st n ps))),a3]:=e;rw[e1];rfl
def Cv(ord:List (Nat×Nat)):List D:=ord.map λx=> .tup [.int (x.1:Int),.int (x.2:Int)]
abbrev Qd(E:List (List Nat))(a1 s2:Sl)(w:List Nat)(ord:List (Nat×Nat))(a6:Sl)(p:Nat)(x0:Sl):SE:=[.sh (.lst (eL E)),a1,s2,.ow (.lst (zi w)),.ow (.lst (Cv ord)),.ow (.dic (inner (ord.map (·.1)))),a6,.sh (.int (p:Int)),x0]
def Eu(E:List (List Nat))(T:List Nat):Nat:=(((List.range E.length).filter λn=>decide (n∉T)).map λn=>(E.getD n []).length).sum
structure Peel(E:List (List Nat))(st:Dh)(ord:List (Nat×Nat)):Prop where
 rep:Rep st (λn p=>RE E n p/\n∉ord.map (·.1))
 nd:(ord.map (·.1)).Nodup
 ok:∀x∈ord,RE E x.1 x.2
 alone:∀x∈ord,∀m,m∉ord.map (·.1)->¬RE E m x.2
 pw:ord.Pairwise λx y=>¬RE E y.1 x.2
 keys:∀n p,RE E n p->(Cj st p).isSome=true
def RE.lt{E:List (List Nat)}{n p:Nat}(h:RE E n p):n < E.length:=by
 obtain⟨e,h1,_⟩:=h;exact(A5.mp h1).1
def Peel.next{E:List (List Nat)}{st:Dh}{ord:List (Nat×Nat)}(h:Peel E st ord){p n:Nat}{ps:List Nat}(hl:Cj st p=some [n])(he:E[n]? =some ps):Peel E (Hf st n ps) (ord ++ [(n,p)])/\n∉ord.map (·.1):=by
 obtain⟨_,h2⟩:=h.rep.at_ p [n] hl;have hn:=(h2 n).mp (by simp);have only:∀m,RE E m p->m∉ord.map (·.1)->m=n:=λm z1 z2=>by
  have:=(h2 m).mpr ⟨z1,z2⟩;simpa using this
 refine⟨⟨?_, ?_, ?_, ?_, ?_, ?_⟩,hn.2⟩
 ·refine(h.rep.away n ps λq z=> ?_).imp λm q=> ?_
  ·obtain⟨⟨e,z1,z2⟩,_⟩:=z;rw[he]at z1;cases z1;exact z2
  ·simp only[D1,A9,N7,F6,F7];constructor
   ·rintro ⟨⟨z1,z2⟩,z3⟩
    exact⟨z1,λz=>z.elim z2 z3⟩
   ·rintro ⟨z1,z2⟩
    exact⟨⟨z1,λz=>z2 (.inl z)⟩,λz=>z2 (.inr z)⟩
 ·rw[D1];refine V6.mpr ⟨h.nd,by simp,λa ha b hb=> ?_⟩;have:b=n:=by simpa using hb
  rintro rfl
  exact hn.2 (this▸ha)
 ·intro x hx;rcases F6.mp hx with hx|hx
  ·exact h.ok x hx
  ·have:x=(n,p):=by simpa using hx
   rw[this];exact hn.1
 ·intro x hx m hm;have hm':m∉ord.map (·.1):=λz=>hm (by rw[D1];exact K5 _ z);rcases F6.mp hx with hx|hx
  ·exact h.alone x hx m hm'
  ·have:x=(n,p):=by simpa using hx
   subst this;intro z;have:=only m z hm';exact hm (by rw[this];simp)
 ·refine List.pairwise_append.mpr ⟨h.pw,by simp,λx hx y hy=> ?_⟩;have:y=(n,p):=by simpa using hy
  subst this;exact h.alone x hx n hn.2
 ·intro m q z;rw[<-lk_mem,ap_6,lk_mem];exact h.keys m q z
theorem ak_2{f:Nat->Nat}{n:Nat}:∀{l:List Nat} {P Q:Nat->Bool},l.Nodup->n∈l->P n=true->Q n=false->(∀m,m≠n->Q m=P m)->((l.filter P).map f).sum=((l.filter Q).map f).sum + f n
 | [],_,_,_,h,_,_,_=>by cases h
 |a::l,P,Q,nd,h,h1,h2,h3=>by
  rw[O8]at nd
  by_cases ha:a=n
  ·subst ha;have:l.filter P=l.filter Q:=List.filter_congr λm hm=>(h3 m λz=>nd.1 (z▸hm)).symm;rw[O5 h1,O4 (by rw[h2];decide),this,A9,T4];omega
  ·have hm:n∈l:=by
    rcases B3.mp h with z|z
    ·exact absurd z.symm ha
    ·exact z
   have ih:=ak_2 (f:=f) nd.2 hm h1 h2 h3;have e:=h3 a ha;cases hp:P a with
   |true=>
    rw[O5 hp,O5 (by rw[e];exact hp),A9,T4,A9,T4,ih];omega
   |false=>rw[O4 (by rw[hp];decide),O4 (by rw[e,hp];decide),ih]
def dl_0{E:List (List Nat)}{T:List Nat}{n:Nat}{ps:List Nat}(he:E[n]? =some ps)(hn:n∉T):Eu E T=Eu E (T ++ [n]) + ps.length:=by
 have hlt:n < E.length:=(A5.mp he).1;unfold Eu;rw[ak_2 (f:=λn=>(E.getD n []).length) (n:=n) (Q:=λm=>decide (m∉T ++ [n])) List.nodup_range (J9.mpr hlt) (by simpa using hn) (by simp) λm hm=>by simp[hm]];simp only[D7,he,R6]
def eh_1(E:List (List Nat)):Eu E []=tot E:=by
 unfold Eu tot;have:(List.range E.length).filter (λn=>decide (n∉([]:List Nat)))=List.range E.length:=by
  rw[X2];simp
 rw[this]
 congr 1
 apply List.ext_getElem
 ·simp
 ·intro i h1 h2;simp only[Z8,List.getElem_range];have hi:i < E.length:=by simpa using h2
  rw[D7,B2 hi,R6]
theorem dw_4:∀{l:List Nat} {x:Nat},x∈l->x<=l.sum
 |a::l,x,h=>by
  rw[T4];rcases B3.mp h with z|z
  ·omega
  ·have:=dw_4 z;omega
def turn{E:List (List Nat)}{st:Dh}{ord:List (Nat×Nat)}(h:Peel E st ord)(hE:E.length<=900)(a1 a6 a7 a8:Sl){s2:Sl}(hs:stSl st s2){w:List Nat}{p:Nat}(hp:(Cj st p).isSome=true)(hW:w.length + tot E<=100000)(ho:ord.length<=900):
  ∃st' aj w' s2' a8',Peel E st' aj/\stSl st' s2'/\(∀q∈w',q∈w\/∃m,RE E m q)/\aj.length<=ord.length + 1/\w'.length + Eu E (aj.map (·.1))=w.length + Eu E (ord.map (·.1))/\st'.map (·.1)=st.map (·.1)/\((∀q m,Cj st q=some [m]->q∈w ++ [p])->∀q m,Cj st' q=some [m]->q∈w')/\
   x_6 [.sh (.lst (eL E)),a1,s2,.ow (.lst (zi (w ++ [p]))),.ow (.lst (Cv ord)),.ow (.dic (inner (ord.map (·.1)))),a6,a7,a8]=.nx [.sh (.lst (eL E)),a1,s2',.ow (.lst (zi w')),.ow (.lst (Cv aj)),.ow (.dic (inner (aj.map (·.1)))),a6,.sh (.int (p:Int)),a8']:=by
 have kk:∀k:Nat,Dw (.int (k:Int))=some (kp k):=λ_=>rfl;have z1:(zi (w ++ [p]))[(zi (w ++ [p])).length - 1]? =some (.int (p:Int)):=by
  rw[Hc];unfold zi;rw[A8,B6];simp
 have z2:(zi (w ++ [p])).dropLast=zi w:=by unfold zi;rw[D1];simp
 have t1:ci_5 7 3 [.sh (.lst (eL E)),a1,s2,.ow (.lst (zi (w ++ [p]))),.ow (.lst (Cv ord)),.ow (.dic (inner (ord.map (·.1)))),a6,a7,a8]=.nx (Qd E a1 s2 w ord a6 p a8):=by
  simp only[ci_5,O6,R4,z1,z2,U5,U4]
 cases e:Cj st p with
 |none=>rw[e]at hp;cases hp
 |some ns=>
  have g1:Fb (.dic (Tn.ks (Cn st))) (.int (p:Int))=.ok (.sh (.dic (inner ns))):=by
   simp only[Fb,kk,cc_8,e,L5]
  have g2:lenK [.dic (inner ns)]=.ok (.sh (.int (ns.length:Int))):=by simp only[lenK,bb_7]
  have an:=hs.any
  by_cases hl:(ns.length:Int)=1
  ·obtain⟨n,rfl⟩:=List.length_eq_one_iff.mp (show ns.length=1 by omega);obtain⟨⟨ps,he,hpp⟩,_⟩:=((h.rep.at_ p [n] e).2 n).mp (by simp);obtain⟨h',hn⟩:=h.next e he;have m1:minK [.dic (inner [n])]=.ok (.sh (.int (n:Int))):=rfl;have hT:=eh_0 st n ps λq hq=>h.keys n q ⟨ps,he,hq⟩;have hI:Bu (.lst (eL E)) (.int (n:Int))=.ok (.sh (eT ps)):=Gd (Fd (ek_6 he));have hput:Eh (inner (ord.map (·.1))) (kp n) (.bl true)=inner ((ord ++ [(n,p)]).map (·.1)):=by
    rw[bw_3,if_neg hn,D1];rfl
   have hlo:(Cv ord).length < 16777216:=by unfold Cv;rw[A0];omega
   have hli:(inner (ord.map (·.1))).length < 16777216:=by rw[bb_7,A0];omega
   have hps:ps.length<=tot E:=by
    unfold tot;have hm:ps.length∈E.map List.length:=D0.mpr ⟨ps,B1 he,rfl⟩;exact dw_4 hm
   have hlw:(zi w).length + (zi ps).length<=16777216:=by rw[Hc,Hc];omega
   refine⟨Hf st n ps,ord ++ [(n,p)],w ++ ps,.tr (.dic (Cn (Hf st n ps))),.sh (.int (n:Int)),h',.inl rfl,λq hq=> ?_,by simp, ?_,ap_6 n ps st,λhc q m eq=> ?_, ?_⟩
   ·rcases F6.mp hq with z|z
    ·exact .inl z
    ·exact .inr ⟨n,ps,he,z⟩
   ·rw[B6,dl_0 he hn,D1];show w.length + ps.length + Eu E (ord.map (·.1) ++ [n])=_;omega
   ·rw[bh_9]at eq
    by_cases hq:q∈ps
    ·exact D5 _ hq
    ·rw[if_neg hq]at eq;rcases F6.mp (hc q m eq) with z|z
     ·exact K5 _ z
     ·have:q=p:=by simpa using z
      subst this;exact absurd hpp hq
   ·unfold x_6;rw[Bn t1];have hz:zi w ++ zi ps=zi (w ++ ps):=by unfold zi;rw[D1]
    have ho2:Cv ord ++ [.tup [.int (n:Int),.int (p:Int)]]=Cv (ord ++ [(n,p)]):=by unfold Cv;rw[D1];rfl
    have ht:=hs.tree;have u1:Al 8 [2,7] (Ah minK #v[Aj Fb (Ab 2) (Ab 7)]) (Qd E a1 s2 w ord a6 p a8)=.nx (Qd E a1 s2 w ord a6 p (.sh (.int (n:Int)))):=by
     have v1:Ah minK #v[Aj Fb (Ab 2) (Ab 7)] (Bg (Qd E a1 s2 w ord a6 p a8))=.no:=by
      rcases hs with rfl|⟨_,rfl⟩ <;> rfl
     have v2:Ah minK #v[Aj Fb (Ab 2) (Ab 7)] (Aw (Qd E a1 s2 w ord a6 p a8))=.ok (.sh (.int (n:Int))):=by
      simp![An,an,g1,m1]
     unfold Al;rw[v1,v2];rfl
    have u5:bk_5 2 r_7 (Ab 8) (Aj Bu (Ab 0) (Ab 8)) [.sh (.lst (eL E)),a1,s2,.ow (.lst (zi w)),.ow (.lst (Cv (ord ++ [(n,p)]))),.ow (.dic (inner ((ord ++ [(n,p)]).map (·.1)))),a6,.sh (.int (p:Int)),.sh (.int (n:Int))]=.nx [.sh (.lst (eL E)),a1,.tr (.dic (Cn (Hf st n ps))),.ow (.lst (zi w)),.ow (.lst (Cv (ord ++ [(n,p)]))),.ow (.dic (inner ((ord ++ [(n,p)]).map (·.1)))),a6,.sh (.int (p:Int)),.sh (.int (n:Int))]:=by
     simp![bk_5,An,N6,ht,hI,hT,Sl.mk]
    have test:Ao (Aj By (Ah lenK #v[Aj Fb (Ab 2) (Ab 7)]) (eC (.int 1))) (Aw (Qd E a1 s2 w ord a6 p a8))=.ok true:=by
     have g3:lenK [.dic (inner [n])]=.ok (.sh (.int 1)):=rfl
     simp![An,an,g1,g3,l_3]
    unfold Bq;rw[test];show Af _ _ _=_;rw[Bn u1];have u2:∀g:FS,Af (sApp 4 (eTup #v[8,7])) g (Qd E a1 s2 w ord a6 p (.sh (.int (n:Int))))=g [.sh (.lst (eL E)),a1,s2,.ow (.lst (zi w)),.ow (.lst (Cv (ord ++ [(n,p)]))),.ow (.dic (inner (ord.map (·.1)))),a6,.sh (.int (p:Int)),.sh (.int (n:Int))]:=λg=>Bn (by simp![sApp,An,hlo,ho2]);have u3:∀g:FS,Af (aw_3 5 [] (Ab 8) (eC (.bl true))) g [.sh (.lst (eL E)),a1,s2,.ow (.lst (zi w)),.ow (.lst (Cv (ord ++ [(n,p)]))),.ow (.dic (inner (ord.map (·.1)))),a6,.sh (.int (p:Int)),.sh (.int (n:Int))]=g [.sh (.lst (eL E)),a1,s2,.ow (.lst (zi w)),.ow (.lst (Cv (ord ++ [(n,p)]))),.ow (.dic (inner ((ord ++ [(n,p)]).map (·.1)))),a6,.sh (.int (p:Int)),.sh (.int (n:Int))]:=λg=>Bn (by simp![aw_3,An,kk,hli,hput]);rw[u2,u3,Bn u5]
    simp![sExt,An,hI,eT,hlw,hz]
  ·refine⟨st,ord,w,s2,a8,h,hs,λq hq=> .inl hq,by omega,rfl,rfl,λhc q m eq=> ?_, ?_⟩
   ·rcases F6.mp (hc q m eq) with z|z
    ·exact z
    ·have:q=p:=by simpa using z
     subst this;rw[e]at eq;cases eq;exact absurd rfl hl
   unfold x_6;rw[Bn t1];have test:Ao (Aj By (Ah lenK #v[Aj Fb (Ab 2) (Ab 7)]) (eC (.int 1))) (Aw (Qd E a1 s2 w ord a6 p a8))=.ok false:=by
    simp![An,an,g1,g2,l_3,hl]
   unfold Bq;rw[test];rfl
abbrev Qe(E:List (List Nat))(im:Int)(s2':Sl)(ord:List (Nat×Nat))(x0 x1 x2 x3:Sl):SE:=[.sh (.lst (eL E)),.sh (.int im),s2',.ow (.lst []),.ow (.lst (Cv ord)),x0,x1,x2,x3]
def dl_1(E:List (List Nat))(hE:E.length<=900)(hT:tot E<=900)(a1 a6:Sl):∀(k:Nat) (st:Dh) (ord:List (Nat×Nat)) (w:List Nat) (s2 a7 a8:Sl) (fuel:Nat),Peel E st ord->stSl st s2->(∀q∈w,(Cj st q).isSome=true)->w.length + Eu E (ord.map (·.1))=k->k < fuel->k<=1800->(∀q m,Cj st q=some [m]->q∈w)->
  ∃st' aj s2' a7' a8',Peel E st' aj/\stSl st' s2'/\(∀q m,Cj st' q≠some [m])/\
   Hu [3] ai_3 x_6 fuel [.sh (.lst (eL E)),a1,s2,.ow (.lst (zi w)),.ow (.lst (Cv ord)),.ow (.dic (inner (ord.map (·.1)))),a6,a7,a8]=.nx [.sh (.lst (eL E)),a1,s2',.ow (.lst []),.ow (.lst (Cv aj)),.ow (.dic (inner (aj.map (·.1)))),a6,a7',a8']:=by
 intro k
 induction k with
 |zero=>
  intro st ord w s2 a7 a8 fuel h hs hw hk hf _ hc;have hw0:w= []:=N9 ();subst hw0;obtain⟨f,rfl⟩:∃f,fuel=f + 1:=⟨fuel - 1,by omega⟩;refine⟨st,ord,s2,a7,a8,h,hs,λq m eq=> ?_,bb_0 ?_⟩
  ·have:=hc q m eq;simp at this
  ·rcases hs with rfl|⟨_,rfl⟩ <;> rfl
 |succ k ih=>
  intro st ord w s2 a7 a8 fuel h hs hw hk hf hb hc;obtain⟨f,rfl⟩:∃f,fuel=f + 1:=⟨fuel - 1,by omega⟩;rcases List.eq_nil_or_concat w with rfl|⟨w0,p,rfl⟩
  ·refine⟨st,ord,s2,a7,a8,h,hs,λq m eq=> ?_,bb_0 ?_⟩
   ·have:=hc q m eq;simp at this
   ·rcases hs with rfl|⟨_,rfl⟩ <;> rfl
  ·have ho:ord.length<=900:=by
    have:=few h.nd (n:=E.length) λx hx=>by
     obtain⟨y,hy,rfl⟩:=D0.mp hx;exact(h.ok y hy).lt
    rw[A0]at this;omega
   rw[List.concat_eq_append]at *
   obtain⟨st',aj,w',s2',a8',h',hs',hw',_,hm',hk',hc',e⟩:=turn h hE a1 a6 a7 a8 hs (w:=w0) (p:=p) (hw p (by simp)) (by rw[B6]at hk;simp at hk;omega) ho;have cq:∀q,(Cj st q).isSome=true->(Cj st' q).isSome=true:=λq z=>by
    rw[<-lk_mem,hk',lk_mem];exact z
   obtain⟨st2,ft,s3,a7',gi,h2,hs2,hc2,e2⟩:=ih st' aj w' s2' (.sh (.int (p:Int))) a8' f h' hs' (λq hq=>by
    rcases hw' q hq with z|⟨m,z⟩
    ·exact cq q (hw q (by simp[z]))
    ·exact h'.keys m q z) (by rw[hm'];rw[B6]at hk;simp at hk;omega) () () (hc' hc)
   refine⟨st2,ft,s3,a7',gi,h2,hs2,hc2, ?_⟩;rw[cj_1 (Δ':=[.sh (.lst (eL E)),a1,s2',.ow (.lst (zi w')),.ow (.lst (Cv aj)),.ow (.dic (inner (aj.map (·.1)))),a6,.sh (.int (p:Int)),a8']) ?_ e]
   ·exact e2
   ·have hz:(0:Int) < ((zi (w0 ++ [p])).length:Int):=by rw[Hc,B6];simp
    simp![ai_3,An,cu_4,Fs,Gg,hz]
def Fm(E:List (List Nat))(ord:List (Nat×Nat)):List Nat:=(List.range E.length).filter λn=>decide (n∉ord.map (·.1))
def bw_4(n:Nat):De 0 n=zi (List.range n):=by
 unfold De zi;apply F8;intro k _;rw[P6]
def dl_2(E:List (List Nat))(im:Int)(hE:E.length<=900)(hT:tot E<=900):∃(st:Dh) (ord:List (Nat×Nat)),Peel E st ord/\(∀q m,Cj st q≠some [m])/\
  ax_0 [.lst (eL E),.int im]=.ok (.tr (.tup [Tn.of (.lst (Cv ord)),Tn.of (.lst (zi (Fm E ord)))])):=by
 obtain⟨st,s2,r,hs,hl,w,ew,hw⟩:=dk_8 E hE hT;have P0:Peel E st []:=⟨r.imp λn p=>by simp,by simp,λx h=>by simp at h,λx h=>by simp at h,by simp,λn p z=>r.all n p z⟩;have bt:(Tn.ks (Cn st)).map (λp=>kD p.1)=zi (st.map (·.1)):=by
  rw[cw_0,D4];unfold zi;rw[D4];rfl
 obtain⟨st',ord,s2',a7,a8,h',hs',hc',e⟩:=dl_1 E hE hT (.sh (.int im)) .no (st.length + tot E) st [] (st.map (·.1)) s2 .no .no 3000 P0 hs (λq hq=>lk_mem.mp hq) (by rw[A0,N7,eh_1]) () () (λq m eq=>lk_mem.mpr (by rw[eq];rfl));refine⟨st',ord,h',hc', ?_⟩;have t1:Al 2 [0] (At 1 t_1 #v[0]) (Ar 9 [.lst (eL E),.int im])=.nx [.sh (.lst (eL E)),.sh (.int im),s2,.no,.no,.no,.no,.no,.no]:=by
  rcases hw with⟨rfl,rfl⟩|⟨_,rfl,rfl⟩
  ·simp![An,ew]
  ·simp![An,ew]
 have t2:ci_6 3 (Ah db_5 #v[2]) [.sh (.lst (eL E)),.sh (.int im),s2,.no,.no,.no,.no,.no,.no]=.nx [.sh (.lst (eL E)),.sh (.int im),s2,.ow (.lst (zi (st.map (·.1)))),.no,.no,.no,.no,.no]:=by
  have hf:(zi (st.map (·.1))).all Bd=true:=by
   unfold zi;rw[List.all_map,E9];intro x _;rfl
  simp![ci_6,An,hs.any,db_5,bt,hf]
 have ef:∀b2 b3 b4 b7 b8:Option D,Bx 1 (Bf Dd #v[Ah Cf #v[0]]) (gC 9) p_4 (Ab 9) [some (.lst (eL E)),some (.int im),b2,b3,b4,some (.dic (inner (ord.map (·.1)))),none,b7,b8]=.ok (.ow (.lst (zi (Fm E ord)))):=λb2 b3 b4 b7 b8=>by
  have hr:Bf Dd #v[Ah Cf #v[0]] [some (.lst (eL E)),some (.int im),b2,b3,b4,some (.dic (inner (ord.map (·.1)))),none,b7,b8]=.ok (zi (List.range E.length)):=by
   have zm:(eL E).length=E.length:=by unfold eL;rw[A0]
   simp![An,Fs,zm,s_2 (show -4611686018427387903<=(E.length:Int) by omega) (),K8,bw_4]
  refine j_9 (m:=1) hr (by rw[Hc,J0];omega) ?_;have hc:=x_4 (fg:=gC 9) (p:=p_4) (f:=Ab 9) (δ:=[some (.lst (eL E)),some (.int im),b2,b3,b4,some (.dic (inner (ord.map (·.1)))),none,b7,b8,none]) (λd=>match d with| .int i=>decide (i.toNat∉ord.map (·.1))|_=>false) (λd=>d) (zi (List.range E.length)) (λd hd=>by
   obtain⟨n,hn,rfl⟩:=D0.mp hd;refine⟨[some (.lst (eL E)),some (.int im),b2,b3,b4,some (.dic (inner (ord.map (·.1)))),none,b7,b8,some (.int (n:Int))],rfl, ?_,λ_=>⟨.sh (.int (n:Int)),rfl,rfl⟩⟩;have hk:Dw (.int (n:Int))=some (kp n):=rfl
   simp![p_4,An,inK,hk,bm_1,K8]
   by_cases h:n∈ord.map (·.1)
   ·simp only[h,N0,Bool.not_true,not_true,M5]
   ·simp only[h,M5,Y0,not_false_eq_true,N0])
  rw[List.map_id']at hc;show Gm _ _ _ _ _=_;refine hc.trans ?_;unfold zi Fm;rw[List.filter_map]
  congr 1
 obtain⟨a5,t6⟩:∃a5,Al 6 [0,5] (Bx 1 (Bf Dd #v[Ah Cf #v[0]]) (gC 9) p_4 (Ab 9)) (Qe E im s2' ord (.ow (.dic (inner (ord.map (·.1))))) .no a7 a8)=.nx (Qe E im s2' ord a5 (.ow (.lst (zi (Fm E ord)))) a7 a8):=by
  cases hn:E.length with
  |zero=>
   have e0:E= []:=N9 hn;subst e0;refine⟨.ow (.dic (inner (ord.map (·.1)))), ?_⟩;have v1:Bx 1 (Bf Dd #v[Ah Cf #v[0]]) (gC 9) p_4 (Ab 9) (Bg [.sh (.lst (eL [])),.sh (.int im),s2',.ow (.lst []),.ow (.lst (Cv ord)),.ow (.dic (inner (ord.map (·.1)))),.no,a7,a8])=.ok (.ow (.lst [])):=rfl;unfold Al;rw[v1];rfl
  |succ n=>
   refine⟨.sh (.dic (inner (ord.map (·.1)))), ?_⟩;have v1:Bx 1 (Bf Dd #v[Ah Cf #v[0]]) (gC 9) p_4 (Ab 9) (Bg (Qe E im s2' ord (.ow (.dic (inner (ord.map (·.1))))) .no a7 a8))=.no:=by
    have hr:Bf Dd #v[Ah Cf #v[0]] (Bg (Qe E im s2' ord (.ow (.dic (inner (ord.map (·.1))))) .no a7 a8))=.ok (zi (List.range (n + 1))):=by
     have zm:(eL E).length=n + 1:=by unfold eL;rw[A0,hn]
     simp![An,Fs,zm,s_2 (show -4611686018427387903<=((n + 1:Nat):Int) by omega) (),K8,bw_4]
    have hz:zi (List.range (n + 1))=.int 0::zi ((List.range n).map Nat.succ):=by rw[List.range_succ_eq_map];rfl
    unfold Bx;rw[hr,R.bind_ok,if_pos (by rw[Hc,J0];omega),hz];rfl
   have v2:=ef (Sl.any s2') (some (.lst [])) (some (.lst (Cv ord))) (Sl.any a7) (Sl.any a8);have v3:=ef (Sl.pub s2') none none (Sl.pub a7) (Sl.pub a8);unfold Al;rw[v1];have v2':Bx 1 (Bf Dd #v[Ah Cf #v[0]]) (gC 9) p_4 (Ab 9) (Aw (Qe E im s2' ord (.ow (.dic (inner (ord.map (·.1))))) .no a7 a8))=.ok (.ow (.lst (zi (Fm E ord)))):=v2;have g1:gsome [0,5] (Qe E im s2' ord (.ow (.dic (inner (ord.map (·.1))))) .no a7 a8)=(Qe E im s2' ord (.sh (.dic (inner (ord.map (·.1))))) .no a7 a8):=rfl;have v3':Bx 1 (Bf Dd #v[Ah Cf #v[0]]) (gC 9) p_4 (Ab 9) (Bg (Qe E im s2' ord (.sh (.dic (inner (ord.map (·.1))))) .no a7 a8))=.ok (.ow (.lst (zi (Fm E ord)))):=v3;simp only[v2',W.d_ow,Bd,N5,S4,g1,v3',Em,U5,U4]
 refine r_1 ?_;unfold cl_6;rw[Bn t1,Bn t2];have t3:Al 4 [] (Au Ac) [.sh (.lst (eL E)),.sh (.int im),s2,.ow (.lst (zi (st.map (·.1)))),.no,.no,.no,.no,.no]=.nx [.sh (.lst (eL E)),.sh (.int im),s2,.ow (.lst (zi (st.map (·.1)))),.ow (.lst []),.no,.no,.no,.no]:=rfl;have t4:Al 5 [] Ht [.sh (.lst (eL E)),.sh (.int im),s2,.ow (.lst (zi (st.map (·.1)))),.ow (.lst []),.no,.no,.no,.no]=.nx [.sh (.lst (eL E)),.sh (.int im),s2,.ow (.lst (zi (st.map (·.1)))),.ow (.lst []),.ow (.dic []),.no,.no,.no]:=rfl;rw[Bn t3,Bn t4];have e':Hu [3] ai_3 x_6 3000 [.sh (.lst (eL E)),.sh (.int im),s2,.ow (.lst (zi (st.map (·.1)))),.ow (.lst []),.ow (.dic []),.no,.no,.no]=_:=e;rw[Bn e',Bn t6];rfl
def bd_8(p n:Nat):m_8 [.int (p:Int),.int (n:Int)]=.ok (.sh (.bl (decide (p < n)))):=by
 simp![m_8,au_0,An,Ha,aw_4,En,show(0:Int)<=(p:Int) by omega]
 rw[show decide ((p:Int) < (n:Int))=decide (p < n) by simp]
def ax_8(z m:Int)(h:0 < m):v_6 [.int z,.int m]=.ok (.sh (.int (z % m))):=by
 simp![v_6,bd_1,An,l_3,show¬m=0 by omega,Gz h]
def at0(ts:List Int)(p:Nat):Int:=ts.getD p 0
def cn_9(ts:List Int)(ps:List Nat):Int:=(ps.map (at0 ts)).sum
def es_4{ts:List Int}{p:Nat}(h:p < ts.length):atI (ts.map D.int) (p:Int)=some (.int (at0 ts p)):=by
 refine Fd ?_;rw[A8];simp[at0,List.getD,h]
def eh_2(ts:List Int)(a1 a2 a3:Option D)(ps:List Nat)(h:∀p∈ps,p < ts.length):
  Gm (gC 4) ab_4 ab_3 [some (.lst (ts.map .int)),a1,a2,a3,none] (zi ps)=.ok ((ps.map λp=>D.int (at0 ts p))):=by
 have:=x_4 (fg:=gC 4) (p:=ab_4) (f:=ab_3) (δ:=[some (.lst (ts.map .int)),a1,a2,a3,none]) (λ_=>true) (λd=>match d with| .int i=> .int (at0 ts i.toNat)|d=>d) (zi ps) λd hd=>by
  obtain⟨p,hp,rfl⟩:=D0.mp hd;have hl:=h p hp;refine⟨[some (.lst (ts.map .int)),a1,a2,a3,some (.int (p:Int))],rfl, ?_,λ_=>⟨.sh (.int (at0 ts p)), ?_,by simp⟩⟩
  ·simp![ab_4,An,Fs,A0,bd_8,hl]
  ·simp![ab_3,An,Gd (es_4 hl)]
 rw[this,X2.mpr λ_ _=>rfl]
 congr 1
 unfold zi;rw[D4];refine F8 λp _=> ?_;simp
def dl_3(ts:List Int)(ps:List Nat)(m:Int)(hm:0 < m)(h:∀p∈ps,p < ts.length)(hl:ps.length<=1000):ab_5 [.lst (ts.map .int),.tup (zi ps),.int m]=.ok (.sh (.int (cn_9 ts ps % m))):=by
 have ec:=j_9 (m:=1) (fi:=Dj (Ab 1)) (fg:=gC 4) (p:=ab_4) (f:=ab_3) (δ:=[some (.lst (ts.map .int)),some (.tup (zi ps)),some (.int m),none]) (ds:=zi ps) (by simp![An]) (by unfold zi;rw[A0];omega) (eh_2 ts _ _ _ ps h)
 simp![ab_5,cl_7,An,ec,er_9,ax_8 _ m hm]
 rfl
def eh_3(l:List Int)(i p:Nat)(v:Int):at0 (l.set i v) p=if p=i/\i < l.length then v else at0 l p:=by
 unfold at0;rw[D7,List.getElem?_set]
 by_cases h:i=p
 ·subst h
  by_cases h2:i < l.length
  ·simp[h2]
  ·simp[h2,List.getD]
 ·have:¬p=i:=λz=>h z.symm;simp[h,this]
def Ho(E:List (List Nat))(w:List Int)(m:Int)(ts:List Int)(x:Nat×Nat):List Int:=ts.set x.2 ((w.getD x.1 0 - cn_9 ts (E.getD x.1 []) % m) % m)
def Fq(E:List (List Nat))(w:List Int)(m:Int)(im:Nat)(L:List (Nat×Nat)):List Int:=L.foldl (Ho E w m) (List.replicate im 0)
def bw_5(E:List (List Nat))(w:List Int)(m:Int)(im:Nat)(L:List (Nat×Nat)):(Fq E w m im L).length=im:=by
 unfold Fq;have:∀(L:List (Nat×Nat)) (ts:List Int),(L.foldl (Ho E w m) ts).length=ts.length:=λL=>by
  induction L with
  |nil=>intro ts;rfl
  |cons x L ih=>intro ts;show(L.foldl (Ho E w m) (Ho E w m ts x)).length=_;rw[ih];unfold Ho;rw[F2]
 rw[this,K3]
def cw_5(E:List (List Nat))(w:List Int)(m:Int)(im:Nat)(L:List (Nat×Nat))(x:Nat×Nat):Fq E w m im (L ++ [x])=Ho E w m (Fq E w m im L) x:=by
 unfold Fq;rw[V5];rfl
def co_0{ord:List (Nat×Nat)}{i:Nat}{d:D}(h:(Cv ord)[i]? =some d):∃x,ord[i]? =some x/\d=.tup [.int (x.1:Int),.int (x.2:Int)]:=by
 unfold Cv at h;rw[A8]at h;obtain⟨x,e1,e2⟩:=D3.mp h;exact⟨x,e1,e2.symm⟩
def cw_6(E:List (List Nat))(w:List Int)(m:Int)(im:Nat)(ord:List (Nat×Nat))(hm:0 < m)(hz:im<=100000)(ho:∀x∈ord,∃ps,E[x.1]? =some ps/\(∀p∈ps,p < im)/\ps.length<=1000/\x.2 < im/\x.1 < w.length):
  an_3 [.lst (eL E),.int (im:Int),.lst (Cv ord),.lst (w.map .int),.int m]=.ok (.ow (.lst ((Fq E w m im ord.reverse).map .int))):=by
 have di:(Cv ord).reverse=Cv ord.reverse:=by unfold Cv;rw[List.map_reverse]
 obtain⟨Δ',e,a6,a7,a8,rfl⟩:=g_1 (Gb 6 7) au_1 (λk Δ=>∃a6 a7 a8,Δ= [.sh (.lst (eL E)),.sh (.int (im:Int)),.sh (.lst (Cv ord)),.sh (.lst (w.map .int)),.sh (.int m),.ow (.lst ((Fq E w m im (ord.reverse.take k)).map .int)),a6,a7,a8]) (ds:=(Cv ord).reverse)
  (Δ:=[.sh (.lst (eL E)),.sh (.int (im:Int)),.sh (.lst (Cv ord)),.sh (.lst (w.map .int)),.sh (.int m),.ow (.lst ((Fq E w m im []).map .int)),.no,.no,.no]) ⟨_,_,_,rfl⟩ (λk d Δ hk hI=>by
   obtain⟨a6,a7,a8,rfl⟩:=hI;rw[di]at hk;obtain⟨⟨n,p⟩,hx,rfl⟩:=co_0 hk;obtain⟨ps,he,hp1,hp2,hp3,hw⟩:=ho (n,p) (List.mem_reverse.mp (B1 hx));simp only at he hp3 hw;have hl:=bw_5 E w m im (ord.reverse.take k);have hs:=dl_3 (Fq E w m im (ord.reverse.take k)) ps m hm (λq hq=>by rw[hl];exact hp1 q hq) hp2;have hxn:=ek_4 (n:=((Fq E w m im (ord.reverse.take k)).map D.int).length) (i:=p) (by rw[A0,hl];exact hp3);have hI:Bu (.lst (eL E)) (.int (n:Int))=.ok (.sh (eT ps)):=Gd (Fd (ek_6 he));have hW:Bu (.lst (w.map .int)) (.int (n:Int))=.ok (.sh (.int (w.getD n 0))):=Gd (Fd (by rw[A8,B2 hw,D7,B2 hw];rfl));have hs':ab_5 [.lst ((Fq E w m im (ord.reverse.take k)).map .int),eT ps,.int m]=.ok (.sh (.int (cn_9 (Fq E w m im (ord.reverse.take k)) ps % m))):=hs;refine⟨_,rfl,[.sh (.lst (eL E)),.sh (.int (im:Int)),.sh (.lst (Cv ord)),.sh (.lst (w.map .int)),.sh (.int m),.ow (.lst ((Fq E w m im (ord.reverse.take (k + 1))).map .int)),.sh (.int (n:Int)),.sh (.int (p:Int)),.sh (.int (w.getD n 0 - cn_9 (Fq E w m im (ord.reverse.take k)) ps % m))],.inl ?_,_,_,_,rfl⟩;have hsn:Fq E w m im (ord.reverse.take (k + 1))=(Fq E w m im (ord.reverse.take k)).set p ((w.getD n 0 - cn_9 (Fq E w m im (ord.reverse.take k)) ps % m) % m):=by
    rw[K4,hx];show Fq E w m im (ord.reverse.take k ++ [(n,p)])=_;rw[cw_5];unfold Ho;simp only[D7,he,R6]
   rw[hsn]
   simp![au_1,An,Gb,hI,hW,hs',at_5,bd_8,hp3,db_0,ax_8 _ m hm,hxn]
   rw[List.map_set])
 have e0:(List.replicate (im:Int).toNat [D.int 0]).flatten=(Fq E w m im []).map .int:=by
  unfold Fq;rw[List.foldl_nil,List.map_replicate,K8];generalize im=n
  induction n with
  |zero=>rfl
  |succ n ih=>rw[F3,I0,ih,F3];rfl
 have hr:repD [D.int 0] (.int (im:Int))=.ok (.ow (.lst ((Fq E w m im []).map .int))):=by
  unfold repD;simp only[D2,W6];rw[if_pos ⟨by omega,by omega⟩,e0]
 have hle:(Cv ord).reverse.length=ord.reverse.length:=by rw[di];unfold Cv;rw[A0]
 rw[hle,K6]at e;have er:iRev (Ab 2) (Bg [.sh (.lst (eL E)),.sh (.int (im:Int)),.sh (.lst (Cv ord)),.sh (.lst (w.map .int)),.sh (.int m),.ow (.lst ((Fq E w m im []).map .int)),.no,.no,.no])=.ok (Cv ord).reverse:=by
  simp![iRev,ej_8,An]
 simp only[Bg,A9,N7,cu_3,dt_6,dt_7]at er
 simp![an_3,cl_8,An,eRep,hr,Cb,er,e]
def dw_5(E:List (List Nat))(w:List Int){m:Int}(hm:0 < m)(im:Nat)(L:List (Nat×Nat))(p:Nat):0<=at0 (Fq E w m im L) p/\at0 (Fq E w m im L) p < m:=by
 unfold Fq;have:∀(L:List (Nat×Nat)) (ts:List Int),(∀p,0<=at0 ts p/\at0 ts p < m)->∀p,0<=at0 (L.foldl (Ho E w m) ts) p/\at0 (L.foldl (Ho E w m) ts) p < m:=λL=>by
  induction L with
  |nil=>intro ts h p;exact h p
  |cons x L ih=>
   intro ts h p;refine ih _ (λq=> ?_) p;unfold Ho;rw[eh_3]
   split
   ·exact⟨L6 _ (),K2 _ hm⟩
   ·exact h q
 refine this L _ (λq=> ?_) p;unfold at0;rw[D7,E8]
 split
 ·exact⟨Int.le_refl _,hm⟩
 ·exact⟨Int.le_refl _,hm⟩
def dl_4(n s z:Int)(hz:0 < z):0<=ai_7 n s z/\ai_7 n s z < z:=⟨L6 _ (),K2 _ hz⟩
def ad_6(d:D)(salt ii ij:Int):List Nat:=(List.range ii.toNat).map λ(k:Nat)=>(Gw d salt ij (k:Int)).toNat
def bw_6(d:D)(salt ij:Int)(hp:0 < ij)(j:Int)(hj:0<=j):0<=Gw d salt ij j/\j * ij<=Gw d salt ij j/\Gw d salt ij j < (j + 1) * ij:=by
 obtain⟨h0,h1⟩:=dl_4 (u_8 d) (4 * salt + j) ij hp;have e:(j + 1) * ij=j * ij + ij:=by rw[Int.add_mul,Int.one_mul]
 have h2:0<=j * ij:=R5 hj ();unfold Gw;omega
def cw_7(d:D)(salt ii ij:Int)(hp:0 < ij):ap_5 d salt ii ij=zi (ad_6 d salt ii ij):=by
 unfold ap_5 zi ad_6;rw[D4];apply F8;intro k _;show D.int (Gw d salt ij (0 + (k:Int)))=.int (((Gw d salt ij (k:Int)).toNat:Nat):Int);rw[P6,Int.toNat_of_nonneg (bw_6 d salt ij hp k ()).1]
def bm_2(d:D)(salt ii ij:Int)(hp:0 < ij)(hk:0<=ii):∀p∈ad_6 d salt ii ij,p < (ii * ij).toNat:=by
 intro p h;obtain⟨k,hk',rfl⟩:=D0.mp h;have hk':=J9.mp hk';obtain⟨a0,a1,a2⟩:=bw_6 d salt ij hp k ();have:((k:Int) + 1) * ij<=ii * ij:=Int.mul_le_mul_of_nonneg_right () ();omega
def bd_9(d:D)(salt ii ij:Int):(ad_6 d salt ii ij).length=ii.toNat:=by unfold ad_6;simp
def Gi(ks:List D)(salt ii:Int):List (List Nat):=ks.map λd=>ad_6 d salt ii (Br (ks.length:Int) ii)
def bw_7(ks:List D)(salt ii:Int)(hp:0 < Br (ks.length:Int) ii):cv_9 ks salt ii=eL (Gi ks salt ii):=by
 unfold cv_9 eL Gi;rw[D4];apply F8;intro d _;show D.tup _=D.tup _;rw[cw_7 d salt ii _ hp]
theorem bw_8{α:Type}(c:Nat):∀(l:List α) (f:α->Nat),(∀a∈l,f a=c)->(l.map f).sum=l.length * c
 | [],f,_=>by simp
 |a::l,f,h=>by
  rw[A9,T4,bw_8 c l f λb hb=>h b (C9 _ hb),h a (by simp),D2,Nat.add_mul,Nat.one_mul,Nat.add_comm]
def cw_8(ks:List D)(salt ii:Int):tot (Gi ks salt ii)=ks.length * ii.toNat:=by
 unfold tot Gi;rw[D4];exact bw_8 ii.toNat ks _ λd _=>bd_9 d salt ii _
def cw_9(a b:D):(W.tr (.tup [Tn.of a,Tn.of b])).d=.tup [a,b]:=by
 show D.tup [(Tn.of a).d,(Tn.of b).d]=_;rw[Tn.of_d,Tn.of_d]
structure Ks(ks:List D)(salt ii:Int):Prop where
 k:∀k∈ks,isKey k
 nd:ks.Nodup
 h1:1<=ks.length
 h2:ks.length<=200
 s0:0<=salt
 s1:salt<=1000000000000
 kd:ii=2\/ii=3
def de_1{ks:List D}{salt ii:Int}(h:Ks ks salt ii):∃st ord,Peel (Gi ks salt ii) st ord/\(∀q m,Cj st q≠some [m])/\
  u_6 [.lst ks,.int salt,.int ii]=.ok (.tr (.tup [Tn.of (.lst (Cv ord)),Tn.of (.lst (zi (Fm (Gi ks salt ii) ord)))])):=by
 obtain⟨p1,_,p3,p4⟩:=u_0 (ks.length:Int) ii (by have:=h.h1;omega) (by have:=h.h2;omega) h.kd;have h2:=h.h2;have ia:=cw_8 ks salt ii;have hk3:ii.toNat<=3:=by have:=h.kd;omega
 have hle:ks.length * ii.toNat<=200 * 3:=ZB6 h2 hk3;obtain⟨st,ord,hP,hC,e⟩:=dl_2 (Gi ks salt ii) (ii * Br (ks.length:Int) ii) (by unfold Gi;rw[A0];omega) ();refine⟨st,ord,hP,hC, ?_⟩;have ee:=bm_0 h.k h.nd h.h1 h.h2 salt ii h.s0 h.s1 h.kd;rw[bw_7 ks salt ii p3]at ee;have mm:Ec (.int ii) (.int (Br (ks.length:Int) ii))=.ok (.sh (.int (ii * Br (ks.length:Int) ii))):=Gf (p_1 (by have:=h.kd;omega) (by have:=h.kd;omega))
 simp![u_6,cv_3,An,ee,Fs,p1,mm,e]
def ap_7{ks:List D}{salt ii:Int}(h:Ks ks salt ii):∃b:Bool,f_4 [.lst ks,.int salt,.int ii]=.ok (.sh (.bl b))/\(b=true->∃ord:List (Nat×Nat),(∀n,n < ks.length->n∈ord.map (·.1))/\(∃st,Peel (Gi ks salt ii) st ord)/\
  u_6 [.lst ks,.int salt,.int ii]=.ok (.tr (.tup [Tn.of (.lst (Cv ord)),Tn.of (.lst [])]))):=by
 obtain⟨st,ord,hP,hC,e⟩:=de_1 h;have hx:Bu (.tup [.lst (Cv ord),.lst (zi (Fm (Gi ks salt ii) ord))]) (.int 1)=.ok (.sh (.lst (zi (Fm (Gi ks salt ii) ord)))):=ca_7 (Fd (i:=1) rfl);refine⟨decide (((zi (Fm (Gi ks salt ii) ord)).length:Int)=0), ?_,λhb=> ?_⟩
 ·simp![f_4,bl_0,An,e,cw_9,hx,Fs,l_3]
 ·have hb:=K0 hb;have hz:Fm (Gi ks salt ii) ord= []:=by
   apply N9;rw[Hc]at hb;omega
  refine⟨ord,λn hn=> ?_,⟨st,hP⟩,by rw[e,hz];rfl⟩
  by_cases hm:n∈ord.map (·.1)
  ·exact hm
  ·exfalso;have:n∈Fm (Gi ks salt ii) ord:=by
    unfold Fm;rw[W4];exact⟨J9.mpr (by unfold Gi;rw[A0];exact hn),D9 hm⟩
   rw[hz]at this;simp at this
theorem ek_7{P:Nat->Prop}:∀n,(∃k,k < n/\P k)->∃k,k < n/\P k/\∀j,j < k->¬P j
 |0,⟨k,h,_⟩=>by omega
 |n + 1,⟨k,hk,hp⟩=>by
  by_cases h:∃j,j < n/\P j
  ·obtain⟨j,h1,h2,h3⟩:=ek_7 n h;exact⟨j,by omega,h2,h3⟩
  ·exact⟨k,hk,hp,λj hj z=>h ⟨j,by omega,z⟩⟩
def cx_0:Xn:=⟨"NoTry",[],[]⟩
def dw_6{ks:List D}{ii:Int}(h:Ks ks 0 ii)(ik:Int)(m0:0<=ik)(m1:ik<=1000):(Ga [.lst ks,.int ii,.int ik]=.ex cx_0/\∀j:Nat,(j:Int) < ik->f_4 [.lst ks,.int (j:Int),.int ii]=.ok (.sh (.bl false)))\/
  ∃s:Nat,(s:Int) < ik/\Ga [.lst ks,.int ii,.int ik]=.ok (.sh (.int (s:Int)))/\f_4 [.lst ks,.int (s:Int),.int ii]=.ok (.sh (.bl true))/\∀j:Nat,j < s->f_4 [.lst ks,.int (j:Int),.int ii]=.ok (.sh (.bl false)):=by
 have hS:∀s:Nat,s<=1000->Ks ks (s:Int) ii:=λs hs=>⟨h.k,h.nd,h.h1,h.h2,by omega,by omega,h.kd⟩;have hr:Bf Dd #v[2] (Bg [.sh (.lst ks),.sh (.int ii),.sh (.int ik),.no])=.ok (De 0 ik.toNat):=by
  simp![An,s_2 (show -4611686018427387903<=ik by omega) ()]
 have t0:Bj [0] (At 1 Hg #v[0]) (Ar 4 [.lst ks,.int ii,.int ik])=.nx [.sh (.lst ks),.sh (.int ii),.sh (.int ik),.no]:=by
  simp![An,bh_8 h.k h.nd h.h1 h.h2]
 have body:∀(k:Nat) (a3:Sl),k<=1000->∀b:Bool,f_4 [.lst ks,.int (k:Int),.int ii]=.ok (.sh (.bl b))->q_4 [.sh (.lst ks),.sh (.int ii),.sh (.int ik),.sh (.int (k:Int))]=if b then .rt (.sh (.int (k:Int))) else .nx [.sh (.lst ks),.sh (.int ii),.sh (.int ik),.sh (.int (k:Int))]:=λk a3 _ b e=>by
  cases b <;> simp![q_4,An,e]
 by_cases hx:∃k,k < ik.toNat/\f_4 [.lst ks,.int ((k:Nat):Int),.int ii]=.ok (.sh (.bl true))
 ·obtain⟨s,s1,s2,s3⟩:=ek_7 _ hx;right;refine⟨s,by omega, ?_,s2,λj hj=> ?_⟩
  rotate_left
  ·obtain⟨b,eb,_⟩:=ap_7 (hS j ());cases b with
   |false=>exact eb
   |true=>exact absurd eb (s3 j hj)
  have e:=bl_8 (gV 3) q_4 (λk Δ=>∃a3,Δ= [.sh (.lst ks),.sh (.int ii),.sh (.int ik),a3]) (ds:=De 0 ik.toNat) (Δ:=[.sh (.lst ks),.sh (.int ii),.sh (.int ik),.no]) (n:=s) (r:=.rt (.sh (.int (s:Int)))) (d:=.int (0 + (s:Int))) ⟨_,rfl⟩ (by
    unfold De;rw[A8,M7 s1];rfl) (λk d Δ hk hd hI=>by
    obtain⟨a3,rfl⟩:=hI;obtain⟨_,rfl⟩:=ba_2 hd;obtain⟨b,eb,_⟩:=ap_7 (hS k ());have hb:b=false:=by
     cases b with
     |false=>rfl
     |true=>exact absurd eb (s3 k hk)
    subst hb;rw[P6];refine⟨_,rfl,_,.inl ((body k a3 () false eb)),_,rfl⟩) (λ Δ hI=>by
    obtain⟨a3,rfl⟩:=hI;rw[P6];exact⟨_,rfl,body s a3 () true s2⟩) rfl
  refine r_1 ?_;unfold ad_2;rw[Bn t0];unfold Af Cb;rw[hr];simp only[e]
 ·left;refine⟨?_,λj hj=> ?_⟩
  rotate_left
  ·obtain⟨b,eb,_⟩:=ap_7 (hS j ());cases b with
   |false=>exact eb
   |true=>exact absurd ⟨j,by omega,eb⟩ hx
  obtain⟨Δ',e,a3,rfl⟩:=g_1 (gV 3) q_4 (λk Δ=>∃a3,Δ= [.sh (.lst ks),.sh (.int ii),.sh (.int ik),a3]) (ds:=De 0 ik.toNat) (Δ:=[.sh (.lst ks),.sh (.int ii),.sh (.int ik),.no]) ⟨_,rfl⟩ (λk d Δ hd hI=>by
   obtain⟨a3,rfl⟩:=hI;obtain⟨hk,rfl⟩:=ba_2 hd;obtain⟨b,eb,_⟩:=ap_7 (hS k ());have hb:b=false:=by
    cases b with
    |false=>rfl
    |true=>exact absurd ⟨k,hk,eb⟩ hx
   subst hb;rw[P6];exact⟨_,rfl,_,.inl (body k a3 () false eb),_,rfl⟩)
  unfold Ga Ag ad_2;rw[Bn t0];have t1:Cb [2] (Bf Dd #v[2]) (gV 3) q_4 [.sh (.lst ks),.sh (.int ii),.sh (.int ik),.no]=.nx [.sh (.lst ks),.sh (.int ii),.sh (.int ik),a3]:=by
   unfold Cb;rw[hr];exact e
  rw[Bn t1];rfl
def q_6(w:Nat)(h:w<=1000):q_0 [.int (w:Int)]=.ok (.sh (.int (2 ^ w))):=by
 obtain⟨Δ',e,a2,rfl⟩:=ba_9 (gV 2) au_3 (λk Δ=>∃a2,Δ= [.sh (.int (w:Int)),.sh (.int (2 ^ k)),a2]) (n:=w) (lo:=0) (Δ:=[.sh (.int (w:Int)),.sh (.int 1),.no]) ⟨.no,rfl⟩ (λk Δ hk hI=>by
  obtain⟨a2,rfl⟩:=hI;refine⟨_,rfl,[.sh (.int (w:Int)),.sh (.int (2 ^ (k + 1))),.sh (.int (0 + (k:Int)))],.inl ?_,_,rfl⟩
  simp![au_3,An,Gf (ba_8 (show(-18446744073709551616:Int) < 2 by decide) ⋯)]
  rw[ZC3])
 have hw:((w:Int)).toNat=w:=by omega
 simp![q_0,cl_9,An,Cb,s_2 (show(-4611686018427387903:Int)<=w by omega) (),hw,e]
def eh_4(r:Int):da_5 [.int (r % 2)]=.ok (.sh (.str (Bi [48 + (r % 2).toNat]))):=by
 have:r % 2=0\/r % 2=1:=by omega
 rcases this with h|h <;> rw[h] <;> rfl
def ey_3(n:Int)(w k:Nat)(r:Int)(zp:List Nat)(hk:k < w)(h:wr (w - k) r zp=wr w n []):wr (w - (k + 1)) (r / 2) ((48 + (r % 2).toNat)::zp)=wr w n []:=by
 rw[<-h,show w - k=(w - (k + 1)) + 1 by omega];rfl
def ax_9(n:Int)(w:Nat)(h:w<=1000):o_2 [.int n,.int (w:Int)]=.ok (.sh (.str (Bi (wr w n [])))):=by
 obtain⟨Δ',e,r,zp,a4,rfl,hw,hl⟩:=ba_9 (gV 4) u_7 (λk Δ=>∃(r:Int) (zp:List Nat) (a4:Sl),Δ= [.sh (.int n),.sh (.int (w:Int)),.sh (.str (Bi zp)),.sh (.int r),a4]/\wr (w - k) r zp=wr w n []/\zp.length=k) (n:=w) (lo:=0)
  (Δ:=[.sh (.int n),.sh (.int (w:Int)),.sh (.str ""),.sh (.int n),.no]) ⟨n,[],.no,rfl,rfl,rfl⟩ (λk Δ hk hI=>by
  obtain⟨r,zp,a4,rfl,hw,hl⟩:=hI;refine⟨_,rfl,[.sh (.int n),.sh (.int (w:Int)),.sh (.str (Bi ((48 + (r % 2).toNat)::zp))),.sh (.int (r / 2)),.sh (.int (0 + (k:Int)))],.inl ?_,r / 2,_,_,rfl,ey_3 n w k r zp hk hw,by simp[hl]⟩;have hc:(Bi [48 + (r % 2).toNat]).length + (Bi zp).length<=16777216:=by rw[s_5,s_5];simp;omega
  simp![u_7,An,Gz (show(0:Int) < 2 by decide),eh_4,dt_4 hc,dd_4,w_2 (show(0:Int) < 2 by decide) ⋯])
 have ew:((w:Int)).toNat=w:=by omega
 have e2:zp=wr w n []:=by rw[<-hw,Nat.sub_self];rfl
 simp![o_2,ag_2,An,Cb,s_2 (show(-4611686018427387903:Int)<=w by omega) (),ew,e,e2]
def bm_3(x:Str)(hx:x.length<=100000):t_4 [.str x]=.ok (.sh (.int (rd x.cps.toList 0))):=by
 obtain⟨Δ',e,a2,rfl⟩:=g_1 (gV 2) aa_0 (λk Δ=>∃a2,Δ= [.sh (.str x),.sh (.int (rd (x.cps.toList.take k) 0)),a2]) (ds:=Hl x) (Δ:=[.sh (.str x),.sh (.int 0),.no]) ⟨.no,rfl⟩ (λk d Δ hk hI=>by
  obtain⟨a2,rfl⟩:=hI;unfold Hl at hk;rw[A8]at hk;cases q:x.cps.toList[k]? with
  |none=>rw[q]at hk;cases hk
  |some c=>
   rw[q]at hk;cases hk;have tk:x.cps.toList.take (k + 1)=x.cps.toList.take k ++ [c]:=by rw[K4,q];rfl
   have hs:decide ((⟨#[c]⟩:Str)= "1")=decide (c=49):=by
    by_cases hc:c=49
    ·subst hc;rfl
    ·rw[D8 hc];refine D8 λz=>hc ?_;have:(⟨#[c]⟩:Str).cps.toList=("1" :Str).cps.toList:=by rw[z]
     have: [c]= [49]:=this;simpa using this
   refine⟨_,rfl,[.sh (.str x),.sh (.int (rd (x.cps.toList.take (k + 1)) 0)),.sh (.str ⟨#[c]⟩)],.inl ?_,_,rfl⟩;rw[tk,es_0]
   simp![aa_0,An,Gf (p_1 (show(-18446744073709551616:Int) < 2 by decide) ⋯),bh_4,hs]
   by_cases hc:c=49
   ·subst hc;simp![An,p_2];rfl
   ·simp![hc,An,p_2]
    simp[rd,hc])
 have el:(Hl x).length=x.cps.toList.length:=by unfold Hl;rw[A0]
 rw[el,K6]at e
 simp![t_4,ar_8,An,Cb,e]
theorem co_1(w:Nat):∀ns:List Int,((ns.map λn=>wr w n []).flatten).length=w * ns.length
 | []=>by simp
 |n::ns=>by
  rw[A9,I0,B6,co_1 w ns,au_4,D2,ZA4];simp;omega
def wrD(w:Nat):D->D
 | .int n=> .str (Bi (wr w n []))
 |d=>d
def cd_1(ns:List Int)(w:Nat)(h1:w<=1000)(h2:ns.length<=10000):aw_0 (.str "") [.lst (ns.map ((wrD w) ∘ D.int))]=.ok (.sh (.str (Bi ((ns.map λn=>wr w n []).flatten)))):=by
 have hj:=cj_3 (λn=>Bi (wr w n [])) ns (by
  rw[D4];have:(ns.map ((λx=>Str.length x) ∘ λn=>Bi (wr w n [])))=ns.map λ_=>w:=by
   apply F8;intro n _;show(Bi (wr w n [])).length=w;rw[s_5,au_4];rfl
  rw[this];simp only[List.map_const',ZA5];have:=ZB6 h2 h1;omega)
 have hj':aw_0 (.str "") [.lst (ns.map ((wrD w) ∘ D.int))]=.ok (.sh (.str (Bi ((ns.map λn=>wr w n []).flatten)))):=by
  refine Eq.trans (show _=aw_0 (.str "") [.lst (ns.map λn=> .str (Bi (wr w n [])))] from rfl) (hj.trans ?_)
  congr 3
  apply ca_4;rw[cj_2,o_4,D4]
  congr 1
 exact hj'
def co_2{z m:Int}(h0:0<=z)(h1:z < m):m_8 [.int z,.int m]=.ok (.sh (.bl true)):=by
 simp![m_8,au_0,An,Ha,aw_4,En,h0,h1]
def cx_1(ns:List Int)(w:Nat)(h1:w<=1000)(h2:ns.length<=10000)(hn:∀n∈ns,0<=n/\n < 2 ^ w):
  ag_3 [.lst (ns.map .int),.int (w:Int)]=.ok (.sh (.str (Bi ((ns.map λn=>wr w n []).flatten)))):=by
 obtain⟨Δ',e,a3,a4,rfl⟩:=g_1 (Gb 3 4) an_7 (λk Δ=>∃a3 a4,Δ= [.sh (.lst (ns.map .int)),.sh (.int (w:Int)),.sh (.int (2 ^ w)),a3,a4]) (ds:=Cl 0 (ns.map .int))
  (Δ:=[.sh (.lst (ns.map .int)),.sh (.int (w:Int)),.sh (.int (2 ^ w)),.no,.no]) ⟨.no,.no,rfl⟩ (λk d Δ hk hI=>by
  obtain⟨a3,a4,rfl⟩:=hI;obtain⟨d',e1,rfl⟩:=n_7 hk;rw[A8]at e1;cases q:ns[k]? with
  |none=>rw[q]at e1;cases e1
  |some n=>
   rw[q]at e1;cases e1;obtain⟨b1,b2⟩:=hn n (B1 q);refine⟨_,rfl,[.sh (.lst (ns.map .int)),.sh (.int (w:Int)),.sh (.int (2 ^ w)),.sh (.int ((0 + k:Nat):Int)),.sh (.int n)],.inl ?_,_,_,rfl⟩
   simp![an_7,An,co_2 b1 b2])
 have ec:=y_9 (fg:=gC 5) (f:=ad_5) (δ:=[some (.lst (ns.map .int)),some (.int (w:Int)),some (.int (2 ^ w)),a3.any,a4.any,none]) (wrD w) (ns.map .int) (λd hd=>by
  obtain⟨n,_,rfl⟩:=D0.mp hd;exact⟨_,.sh (.str (Bi (wr w n []))),rfl,by simp![ad_5,An,ax_9 n w h1],rfl⟩)
 rw[D4]at ec;have ec':=j_9 (m:=1) (fi:=Dj (Ab 0)) (fg:=gC 5) (p:=λ_=> .ok true) (f:=ad_5) (δ:=[some (.lst (ns.map .int)),some (.int (w:Int)),some (.int (2 ^ w)),a3.any,a4.any]) (by simp![An]) (by rw[A0];omega) ec;have hj':=cd_1 ns w h1 h2
 simp![ag_3,bv_9,An,q_6 w h1,Cb,Ep,am_3,e,ec',hj',P8]
def dw_7{c:Nat}(h:bit c):((!decide ((⟨#[c]⟩:Str)= "0")) && (!decide ((⟨#[c]⟩:Str)= "1")))=false:=by
 rcases h with rfl|rfl <;> rfl
def cd_2(x:Str)(w m:Nat)(h1:1<=w)(hx:x.length=w * m)(hx2:x.length<=100000)(hb:∀c∈x.cps.toList,bit c):z_3 [.str x,.int (w:Int)]=.ok (.sh .non):=by
 obtain⟨Δ',e,a3,a4,rfl⟩:=g_1 (Gb 2 3) ae_8 (λk Δ=>∃a3 a4,Δ= [.sh (.str x),.sh (.int (w:Int)),a3,a4]) (ds:=Cl 0 (Hl x))
  (Δ:=[.sh (.str x),.sh (.int (w:Int)),.no,.no]) ⟨.no,.no,rfl⟩ (λk d Δ hk hI=>by
  obtain⟨a3,a4,rfl⟩:=hI;obtain⟨d',e1,rfl⟩:=n_7 hk;unfold Hl at e1;rw[A8]at e1;cases q:x.cps.toList[k]? with
  |none=>rw[q]at e1;cases e1
  |some c=>
   rw[q]at e1;cases e1;have hs:=dw_7 (hb c (B1 q));refine⟨_,rfl,[.sh (.str x),.sh (.int (w:Int)),.sh (.int ((0 + k:Nat):Int)),.sh (.str ⟨#[c]⟩)],.inl ?_,_,_,rfl⟩
   simp![ae_8,An,ee_6]
   cases e2:decide ((⟨#[c]⟩:Str)= "0") with
   |true=>simp![An]
   |false=>
    rw[e2]at hs;cases e3:decide ((⟨#[c]⟩:Str)= "1") with
    |true=>simp![An]
    |false=>rw[e3]at hs;cases hs)
 have c1:¬((w:Int) < 1):=by omega
 have c2:((x.length:Int) % (w:Int)=0):=by rw[hx];simp
 have em:t_3 [.int (x.length:Int),.int (w:Int)]=.ok (.sh (.bl true)):=by
  simp![t_3,ar_7,An,En,c1,Gz (show(0:Int) < w by omega),l_3,c2]
 simp![z_3,bd_4,An,Cb,Ep,am_3,e,ab_1 (show x.length<=16777216 by omega),em]
def Hv(l:List Nat)(w:Nat)(m:Nat):List Int:=(List.range m).map λi=>rd ((l.drop (w * i)).take w) 0
def co_3(l:List Nat)(w m:Nat):Hv l w (m + 1)=Hv l w m ++ [rd ((l.drop (w * m)).take w) 0]:=by
 unfold Hv;rw[List.range_succ,D1];rfl
def cd_3(x:Str)(w m:Nat)(h1:1<=w)(hx:x.length=w * m)(hx2:x.length<=100000)(hm:m < 2999)(hb:∀c∈x.cps.toList,bit c):
  z_4 [.str x,.int (w:Int)]=.ok (.ow (.lst ((Hv x.cps.toList w m).map .int))):=by
 have lw:=cu_5 (js:=[0,3]) (p:=t_5) (g:=y_6) (λi=> [.sh (.str x),.sh (.int (w:Int)),.ow (.lst ((Hv x.cps.toList w i).map .int)),.sh (.int ((w * i:Nat):Int))]) (m:=m) (fuel:=3000) () (λi hi=>by
  have hlt:w * i + w<=x.length:=by
   rw[hx];have:=Nat.mul_le_mul_left w (show i + 1<=m by omega);rw[ZA4]at this;exact this
  have c1:((w * i:Nat):Int) < (x.length:Int):=by omega
  have sl:=dj_4 x (w * i) (w * i + w) () hlt;have ew:w * i + w - w * i=w:=by omega
  rw[ew]at sl;have nr:=bm_3 (Txt.slice x (some ((w * i:Nat):Int)) (some ((w * i + w:Nat):Int))) (by
   rw[bh_3,sl,G6,S9];omega)
  rw[sl]at nr;have ei:((w * i:Nat):Int) + (w:Int)=((w * i + w:Nat):Int):=by omega
  have hl2:((Hv x.cps.toList w i).map D.int).length < 16777216:=by
   unfold Hv;rw[A0,A0,J0];omega
  refine⟨by simp![t_5,An,ab_1 (show x.length<=16777216 by omega),En,c1], ?_⟩
  simp![y_6,An,sApp,hl2,p_2,ei,am_1,show x.length<=16777216 by omega,nr]
  rw[co_3,D1,ZA4];rfl) (by
  have c1:¬((w * m:Nat):Int) < (x.length:Int):=by omega
  simp![t_5,An,ab_1 (show x.length<=16777216 by omega),En,c1])
 have lw':Hu [0,3] t_5 y_6 3000 [.sh (.str x),.sh (.int (w:Int)),.ow (.lst []),.sh (.int 0)]=.nx [.sh (.str x),.sh (.int (w:Int)),.ow (.lst ((Hv x.cps.toList w m).map .int)),.sh (.int ((w * m:Nat):Int))]:=lw
 simp![z_4,bd_5,An,cd_2 x w m h1 hx hx2 hb,lw']
abbrev Lg:List Str:=["by_salt","kind","part","modulus","listed"]
def Ck(s ii ij m:Int)(T:List Int):D:=.obj "Table" Lg [.int s,.int ii,.int ij,.int m,.lst (T.map .int)]
def ac_2(a b c d e:D):ad_3 [a,b,c,d,e]=.ok (Lg,[a,b,c,d,e]):=by
 rfl'
def ay_0{ks:List D}{s ii:Int}(h:Ks ks s ii)(hs:f_4 [.lst ks,.int s,.int ii]=.ok (.sh (.bl true)))(m:Int)(hm:0 < m)(w:List Int)(hw:w.length=ks.length):
  ∃T:List Int,(T.length:Int)=ii * Br (ks.length:Int) ii/\(∀t∈T,0<=t/\t < m)/\
   i_3 [.lst ks,.int s,.int ii,.int m,.lst (w.map .int)]=.ok (.sh (Ck s ii (Br (ks.length:Int) ii) m T)):=by
 obtain⟨p1,_,p3,p4⟩:=u_0 (ks.length:Int) ii (by have:=h.h1;omega) (by have:=h.h2;omega) h.kd;obtain⟨b,eb,hb2⟩:=ap_7 h;rw[hs]at eb;have hbt:b=true:=by
  injection eb with eb;injection eb with eb;injection eb with eb;exact eb.symm
 obtain⟨ord,au,⟨st,hP⟩,ef⟩:=hb2 hbt;have hkd:=h.kd;generalize hpart:Br (ks.length:Int) ii=ij at *
 have hsz:0<=ii * ij:=R5 () ();have gp:ii * ij<=3 * 2000:=Q1 () p4 () ();obtain⟨im,hsize⟩:∃n:Nat,(n:Int)=ii * ij:=⟨(ii * ij).toNat,by omega⟩;have fb:∀n ps,(Gi ks s ii)[n]? =some ps->∃d,ks[n]? =some d/\ps=ad_6 d s ii ij:=λn ps e=>by
  unfold Gi at e;rw[A8]at e;obtain⟨d,e1,e2⟩:=D3.mp e;exact⟨d,e1,by rw[<-e2,hpart]⟩
 have hok:∀x∈ord,∃ps,(Gi ks s ii)[x.1]? =some ps/\x.2∈ps/\(∀p∈ps,p < im)/\ps.length<=1000/\x.1 < ks.length:=λx hx=>by
  obtain⟨ps,e1,e2⟩:=hP.ok x hx;obtain⟨d,e3,rfl⟩:=fb x.1 ps e1;refine⟨_,e1,e2,λp hp=> ?_, ?_,(A5.mp e3).1⟩
  ·have:=bm_2 d s ii ij p3 () p hp;omega
  ·rw[bd_9];omega
 have e1:=cw_6 (Gi ks s ii) w m im ord hm () λx hx=>by
  obtain⟨ps,k1,k3,k4,k5,k6⟩:=hok x hx;exact⟨ps,k1,k4,k5,k4 _ k3,by omega⟩
 refine⟨Fq (Gi ks s ii) w m im ord.reverse,by rw[bw_5];exact hsize,λt ht=> ?_, ?_⟩
 ·obtain⟨p,hp,rfl⟩:=M8 ht;have:=dw_5 (Gi ks s ii) w hm im ord.reverse p;unfold at0 at this;rw[D7,B2 hp]at this;exact this
 ·have ee:=bm_0 h.k h.nd h.h1 h.h2 s ii h.s0 h.s1 h.kd;rw[bw_7 ks s ii (by rw[hpart];exact p3)]at ee;have mm:Ec (.int ii) (.int ij)=.ok (.sh (.int (im:Int))):=by
   rw[hsize];exact Gf (p_1 () ())
  have hx:Bu (.tup [.lst (Cv ord),.lst []]) (.int 0)=.ok (.sh (.lst (Cv ord))):=ca_7 (Fd (i:=0) rfl);unfold Ck
  simp![i_3,bd_2,An,Fs,p1,ee,ef,cw_9,hx,mm,e1,Fp,ac_2]
section
variable(s ii ij m:Int)(T:List Int)(r:List (Option D))
def co_4:Bz ["Table"] "by_salt" (Ab 0) (some (Ck s ii ij m T)::r)=.ok (.sh (.int s)):=by rfl'
def co_5:Bz ["Table"] "kind" (Ab 0) (some (Ck s ii ij m T)::r)=.ok (.sh (.int ii)):=by rfl'
def co_6:Bz ["Table"] "part" (Ab 0) (some (Ck s ii ij m T)::r)=.ok (.sh (.int ij)):=by rfl'
def cx_2:Bz ["Table"] "listed" (Ab 0) (some (Ck s ii ij m T)::r)=.ok (.sh (.lst (T.map .int))):=by rfl'
def cx_3{d:D}{w:W}(h:e_5 [d,.int s,.int ii,.int ij]=.ok w):d_4 [Ck s ii ij m T,d]=.ok w:=by
 simp![d_4,ab_7,An,co_4,co_5,co_6,h]
end
def bw_9:(Lg:List Str).contains "places" =false:=by decide +kernel
def dw_8(F:AF):([("Table",F)]:List (Str×(AF))).lookup ("Table" :Str)=some F:=by rfl'
def ai_8{s ii ij m:Int}{T:List Int}{d:D}{w:W}(h:e_5 [d,.int s,.int ii,.int ij]=.ok w)(fo:FE)(δ:DE)(ho:fo δ=.ok (.sh (Ck s ii ij m T)))(fa:FA)(ha:fa δ=.ok [d]):Bp "places" 1 [("Table",d_4)] fo fa δ=.ok w:=by
 have t:=cx_3 s ii ij m T h;unfold Ck at t ho;simp only[Bp,ho,R.bind_ok,W.d_sh,bw_9,N5,S4,dw_8,ha,D2,W6,Nat.reduceAdd,if_true,t]
def Dz(ord:List (Nat×Nat)):List (Av×D):=ord.map λx=>(Sum.inl (x.1:Int),D.int (x.2:Int))
def plc(ord:List (Nat×Nat))(i:Nat):Nat:=((ord.find? λx=>decide (x.1=i)).map (·.2)).getD 0
def eh_5{ord:List (Nat×Nat)}{n p:Nat}(h:n∉ord.map (·.1)):Eh (Dz ord) (.inl (n:Int)) (D.int (p:Int))=Dz (ord ++ [(n,p)]):=by
 unfold Eh;have hno:¬((Dz ord).any λkv=>decide (kv.1=Sum.inl (n:Int)))=true:=λhc=>by
  obtain⟨kv,hm,e⟩:=R1.mp hc;obtain⟨x,hx,rfl⟩:=D0.mp hm;have e:=K0 e;injection e with e
  exact h (D0.mpr ⟨x,hx,by omega⟩)
 rw[if_neg hno];unfold Dz;rw[D1];rfl
theorem de_2:∀(ord:List (Nat×Nat)) (i:Nat),i∈ord.map (·.1)->Ed (Dz ord) (.inl (i:Int))=some (D.int (plc ord i:Nat))
 | [],i,h=>by simp at h
 |x::ord,i,h=>by
  unfold Ed plc Dz;rw[A9,M9,M9]
  by_cases c:x.1=i
  ·have c':(Sum.inl (x.1:Int):Av)=Sum.inl (i:Int):=by rw[c]
   simp only[c,N0,c',L5,R6]
  ·have c':¬(Sum.inl (x.1:Int):Av)=Sum.inl (i:Int):=λz=>by injection z with z;omega
   simp only[c,M5,c'];exact de_2 ord i (by
    rcases B3.mp h with z|z
    ·exact absurd z.symm c
    ·exact z)
theorem cx_4:∀{ord:List (Nat×Nat)} {x:Nat×Nat},(ord.map (·.1)).Nodup->x∈ord->plc ord x.1=x.2
 | [],x,_,h=>by simp at h
 |y::ord,x,nd,h=>by
  rw[A9,O8]at nd;unfold plc;rw[M9];rcases B3.mp h with rfl|h
  ·simp
  ·have c:¬y.1=x.1:=λe=>nd.1 (e▸D0.mpr ⟨x,h,rfl⟩);simp only[c,M5];exact cx_4 nd.2 h
def dl_5{ks:List D}{s ii:Int}(h:Ks ks s ii)(hs:f_4 [.lst ks,.int s,.int ii]=.ok (.sh (.bl true))):
  ∃C:List Nat,C.length=ks.length/\C.Nodup/\(∀i d,ks[i]? =some d->C.getD i 0∈ad_6 d s ii (Br (ks.length:Int) ii))/\p_9 [.lst ks,.int s,.int ii]=.ok (.ow (.lst (zi C))):=by
 have h2:=h.h2;obtain⟨b,eb,hb2⟩:=ap_7 h;rw[hs]at eb;have hbt:b=true:=by
  injection eb with eb;injection eb with eb;injection eb with eb;exact eb.symm
 obtain⟨ord,au,⟨st,hP⟩,ef⟩:=hb2 hbt;have hEl:(Gi ks s ii).length=ks.length:=by unfold Gi;rw[A0]
 have hlt:∀x∈ord,x.1 < ks.length:=λx hx=>by have:=(hP.ok x hx).lt;omega
 have bf:(ord.map (·.1)).Perm (List.range ks.length):=(List.perm_ext_iff_of_nodup hP.nd List.nodup_range).mpr λn=>by
  rw[J9];exact⟨λz=>by obtain⟨x,hx,rfl⟩:=D0.mp z;exact hlt x hx,au n⟩
 have hol:ord.length=ks.length:=by have:=bf.length_eq;rw[A0,J0]at this;exact this
 have nd2:(ord.map (·.2)).Nodup:=by
  unfold List.Nodup;rw[List.pairwise_map];refine List.Pairwise.imp_of_mem (λ{a b} ha hb hr=> ?_) hP.pw;intro e;exact hr (by rw[e];exact hP.ok b hb)
 have fu:(ord.map (·.1)).map (plc ord)=ord.map (·.2):=by
  rw[D4];exact F8 λx hx=>cx_4 hP.nd hx
 refine⟨(List.range ks.length).map (plc ord),by simp, ?_,λi d hd=> ?_, ?_⟩
 ·have:=(bf.map (plc ord)).symm;rw[fu]at this;exact this.nodup_iff.mpr nd2
 ·have hi:i < ks.length:=(A5.mp hd).1;rw[D7,A8,M7 hi];obtain⟨x,hx,rfl⟩:=D0.mp (au i hi);show plc ord x.1∈_;rw[cx_4 hP.nd hx];obtain⟨e,e1,e2⟩:=hP.ok x hx;unfold Gi at e1;rw[A8,hd]at e1;cases e1;exact e2
 ·have hx:Bu (.tup [.lst (Cv ord),.lst []]) (.int 0)=.ok (.sh (.lst (Cv ord))):=ca_7 (Fd (i:=0) rfl);obtain⟨Δ',e,a4,a5,rfl⟩:=g_1 (Gb 4 5) m_2 (λk Δ=>∃a4 a5,Δ= [.sh (.lst ks),.sh (.int s),.sh (.int ii),.ow (.dic (Dz (ord.take k))),a4,a5]) (ds:=Cv ord) (Δ:=[.sh (.lst ks),.sh (.int s),.sh (.int ii),.ow (.dic []),.no,.no]) ⟨_,_,rfl⟩ (λk d Δ hd hI=>by
   obtain⟨a4,a5,rfl⟩:=hI;obtain⟨x,hx,rfl⟩:=co_0 hd;have hkl:k < ord.length:=(A5.mp hx).1;have hn:x.1∉(ord.take k).map (·.1):=λhm=>by
    obtain⟨y,hy,e⟩:=D0.mp hm;obtain⟨j,hj,e2⟩:=M8 hy;rw[G6]at hj;have nd:=hP.nd;have h1:(ord.map (·.1))[j]'(by rw[A0];omega)=(ord.map (·.1))[k]'(by rw[A0];exact hkl):=by
     rw[Z8,Z8];have:ord[k]=x:=(A5.mp hx).2;rw[this,<-e,<-e2];simp
    exact N1.mp nd j k (by rw[A0];omega) (by rw[A0];exact hkl) () h1
   have hp:=eh_5 (p:=x.2) hn;have hl:(Dz (ord.take k)).length < 16777216:=by unfold Dz;rw[A0,G6];omega
   refine⟨_,rfl,[.sh (.lst ks),.sh (.int s),.sh (.int ii),.ow (.dic (Dz (ord.take (k + 1)))),.sh (.int (x.1:Int)),.sh (.int (x.2:Int))],.inl ?_,_,_,rfl⟩;rw[K4,hx];show m_2 [.sh (.lst ks),.sh (.int s),.sh (.int ii),.ow (.dic (Dz (ord.take k))),.sh (.int (x.1:Int)),.sh (.int (x.2:Int))]=_
   simp![m_2,An,aw_3,Dw,hl,hp,Option.toList])
  have hTl:(Cv ord).length=ord.length:=by unfold Cv;rw[A0]
  rw[hTl,K6]at e;have t1:Al 3 [] Ht (Ar 6 [.lst ks,.int s,.int ii])=.nx [.sh (.lst ks),.sh (.int s),.sh (.int ii),.ow (.dic []),.no,.no]:=rfl;have hi:Dj (Aj Bu (At 3 u_6 #v[0,1,2]) (eC (.int 0))) (Bg [.sh (.lst ks),.sh (.int s),.sh (.int ii),.ow (.dic []),.no,.no])=.ok (Cv ord):=by
   simp![An,ef,cw_9,hx]
  have t2:Cb [0,1,2] (Dj (Aj Bu (At 3 u_6 #v[0,1,2]) (eC (.int 0)))) (Gb 4 5) m_2 [.sh (.lst ks),.sh (.int s),.sh (.int ii),.ow (.dic []),.no,.no]=.nx [.sh (.lst ks),.sh (.int s),.sh (.int ii),.ow (.dic (Dz ord)),a4,a5]:=by
   unfold Cb;rw[hi];exact e
  have ec:=j_9 (m:=1) (fi:=Bf Dd #v[Ah Cf #v[0]]) (fg:=gC 6) (p:=λ_=> .ok true) (f:=w_5) (δ:=[some (.lst ks),some (.int s),some (.int ii),some (.dic (Dz ord)),a4.any,a5.any]) (ds:=De 0 ks.length) (by simp![An,Fs,s_2 (show(-4611686018427387903:Int)<=(ks.length:Int) by omega) (),K8]) (by rw[q_3];omega)
   (y_9 (λd=>match d with| .int j=> .int (plc ord j.toNat:Nat)|d=>d) (De 0 ks.length) λd hd=>by
    obtain⟨j,hj,rfl⟩:=D0.mp hd;have hj:=J9.mp hj;refine⟨[some (.lst ks),some (.int s),some (.int ii),some (.dic (Dz ord)),a4.any,a5.any,some (.int (0 + (j:Int)))],.sh (.int (plc ord j:Nat)),rfl, ?_,by simp⟩;have hv:=de_2 ord j (au j hj);rw[P6]
    simp![w_5,An,Fb,Dw,hv])
  have hz:(De 0 ks.length).map (λd=>match d with| .int j=>D.int (plc ord j.toNat:Nat)|d=>d)=zi ((List.range ks.length).map (plc ord)):=by
   unfold De zi;rw[D4,D4];apply F8;intro j _;simp
  rw[hz]at ec;refine r_1 ?_;unfold aj_6;rw[Bn t1,Bn t2];have hv:Aw [.sh (.lst ks),.sh (.int s),.sh (.int ii),.ow (.dic (Dz ord)),a4,a5]= [some (.lst ks),some (.int s),some (.int ii),some (.dic (Dz ord)),a4.any,a5.any]:=rfl;unfold Am;rw[hv,ec]
def rowU(C:List Nat)(im:Nat):List Nat:=(List.range im).map λp=>if p∈C then 49 else 48
def dw_9(C:List Nat)(im:Nat):(rowU C im).length=im:=by unfold rowU;simp
def eh_6(n:Nat)(l:List Nat):Dl (.int (n:Int)) (zi l)=decide (n∈l):=by
 induction l with
 |nil=>rfl
 |cons y l ih=>
  unfold Dl zi at ih⊢;rw[A9,Q9,ih];have:eqF (D.int (y:Int)) (D.int (n:Int))=decide ((y:Int)=(n:Int)):=rfl;rw[this]
  by_cases h:y=n
  ·subst h;simp
  ·have h':¬n=y:=λz=>h z.symm;have h3:¬((y:Int)=(n:Int)):=by omega
   simp[h3,h']
def dx_0(l:List Nat):(zi l).all Bd=true:=by
 unfold zi;rw[List.all_map];exact E9.mpr λ_ _=>rfl
def dx_1(n:Nat)(l:List Nat):inD false (.int (n:Int)) (.lst (zi l))=.ok (.sh (.bl (decide (n∈l)))):=by
 have h:inD false (.int (n:Int)) (.lst (zi l))=if(Bd (.int (n:Int)) && (zi l).all Bd)=true then .ok (.sh (.bl (Dl (.int (n:Int)) (zi l)))) else .no:=rfl
 rw[h,dx_0,if_pos (show(Bd (.int (n:Int)) && true)=true from rfl),eh_6]
def es_5(C:List Nat)(im:Nat)(hz:im<=100000):l_8 [.lst (zi C),.int (im:Int)]=.ok (.sh (.str (Bi (rowU C im)))):=by
 have ec:=j_9 (m:=1) (fi:=Bf Dd #v[1]) (fg:=gC 2) (p:=λ_=> .ok true) (f:=r_2) (δ:=[some (.lst (zi C)),some (.int (im:Int))]) (ds:=De 0 im) (by simp![An,s_2 (show(-4611686018427387903:Int)<=(im:Int) by omega) (),K8]) (by rw[q_3];omega)
  (y_9 (λd=>match d with| .int j=> .str (Bi [if j.toNat∈C then 49 else 48])|d=>d) (De 0 im) λd hd=>by
   obtain⟨j,hj,rfl⟩:=D0.mp hd;refine⟨[some (.lst (zi C)),some (.int (im:Int)),some (.int (0 + (j:Int)))],.sh (.str (Bi [if j∈C then 49 else 48])),rfl, ?_,by simp⟩;rw[P6]
   by_cases c:j∈C
   ·simp![r_2,An,eIf,dx_1,c,N0,if_true];rfl
   ·simp![r_2,An,eIf,dx_1,c,M5,S4];rfl)
 have hz2:(De 0 im).map (λd=>match d with| .int j=>D.str (Bi [if j.toNat∈C then 49 else 48])|d=>d)=(List.range im).map λp=> .str (Bi [if p∈C then 49 else 48]):=by
  unfold De;rw[D4];apply F8;intro j _;simp
 rw[hz2]at ec;have hj:=cj_3 (λp=>Bi [if p∈C then 49 else 48]) (List.range im) (by
  rw[D4];have:((List.range im).map ((λx=>Str.length x) ∘ λp=>Bi [if p∈C then 49 else 48]))=(List.range im).map λ_=>1:=by
   apply F8;intro n _;show(Bi _).length=1;rw[s_5];rfl
  rw[this];simp only[List.map_const',ZA5,J0];omega)
 have bw:Txt.join (Str.ofString "") ((List.range im).map λp=>Bi [if p∈C then 49 else 48])=Bi (rowU C im):=by
  refine ca_4 ?_;rw[o_4,cj_2,D4];unfold rowU;generalize List.range im=l
  induction l with
  |nil=>rfl
  |cons x l ih=>rw[A9,I0,ih,A9];show(Bi _).cps.toList ++ _=_;rw[o_4];rfl
 simp![l_8,aj_7,An,ec,P8,hj,bw]
def cd_5(t:Tn):Sl.pub (.lt t)=none:=rfl
def y_7{Δ:SE}{i:Nat}{cs:List Str}{f c:Str}{js:List Nat}{fe:FE}{ns:List Str}{ts:List Tn}{w:W}(hg:gsome js Δ=Δ)(h0:Δ[i]? =some (.lt (.obj c ns ts)))(hc:cs.contains c=true/\ns.contains f=false/\ns.length < 1000)(he:fe (Bg Δ)=.ok w):
  Dq i cs f js fe Δ=.nx (Δ.set i (.lt (.obj c (ns ++ [f]) (ts ++ [.sh w.d])))):=by
 unfold Dq;rw[hg];simp only[h0,he,if_pos hc]
def co_7{Δ:SE}{i:Nat}{c:Str}{js:List Nat}{F:List D->R (List Str×List D)}{fe:FE}{w:W}{p:List Str×List D}(hg:gsome js Δ=Δ)(h0:Δ[i]? =some (.lt (.obj c [] [])))(he:fe (Bg Δ)=.ok w)(hF:F [w.d]=.ok p):
  at_6 i c js F fe Δ=.nx (Δ.set i (.lt (.obj c p.1 (p.2.map .sh)))):=by
 unfold at_6;rw[hg];simp only[h0,he,hF,if_true]
def ey_4(d:D):f_3 [d]=.ok (["how_many"],[d]):=by
 rfl'
def ey_5(d:D):g_6 [d]=.ok (["how_many"],[d]):=by
 rfl'
def bm_4{i:Nat}{js:List Nat}{f:FE}{Δ:SE}{d:D}(h:f (Bg Δ)=.ok (.sh d)):Al i js f Δ=.nx (Δ.set i (.sh d)):=by unfold Al;rw[h]
def cd_6{i:Nat}{js:List Nat}{f:FE}{Δ:SE}{x:Xn}(h:f (Bg Δ)=.ex x):Al i js f Δ=.ex x Δ:=by unfold Al;rw[h]
def ay_1{js:List Nat}{f:FE}{Δ:SE}{v:W}(h:f (Aw Δ)=.ok v):Bj js f Δ=.nx Δ:=by unfold Bj;rw[h]
def cd_7{g h:FS}{Δ Δ':SE}{x:Xn}(e:g Δ=.ex x Δ'):Af g h Δ=.ex x Δ':=by unfold Af;rw[e]
def cx_5{n:Nat}{c:Str}{g:FS}{ds:List D}{Δ:SE}{ns:List Str}{ts:List Tn}{rs:List D}(h:g (ai_0 n c ds)=.nx Δ)(h0:Δ[0]? =some (.lt (.obj c ns ts)))(hr:unT ts=some rs):AJ n c g ds=.ok (ns,rs):=by
 unfold AJ;rw[h];simp only[h0,hr,if_true]
def bi_0{n:Nat}{c:Str}{g:FS}{ds:List D}{Δ:SE}{x:Xn}(h:g (ai_0 n c ds)=.ex x Δ):AJ n c g ds=.ex x:=by unfold AJ;rw[h]
def es_6{ks:List D}{ii ik:Int}{x:Xn}(e:Ga [.lst ks,.int ii,.int ik]=.ex x):z_2 [.lst ks,.int ii,.int ik]=.ex x:=bi_0 (cd_7 (cd_6 e))
def es_7{ks:List D}{ii ik:Int}{x:Xn}(e:Ga [.lst ks,.int ii,.int ik]=.ex x):x_7 [.lst ks,.int ii,.int ik]=.ex x:=bi_0 (cd_7 (cd_6 e))
abbrev Li:List Str:=["how_many","own_table","used_row"]
abbrev Lm:List Str:=["how_many","own_table"]
def dx_2{ks:List D}{ii ik:Int}(h:Ks ks 0 ii){s:Nat}(hs:s<=1000)(e:Ga [.lst ks,.int ii,.int ik]=.ok (.sh (.int (s:Int))))(e2:f_4 [.lst ks,.int (s:Int),.int ii]=.ok (.sh (.bl true))):
  ∃(T:List Int) (U:List Nat),(T.length:Int)=ii * Br (ks.length:Int) ii/\(∀t∈T,0<=t/\t < ii)/\(∀c∈U,bit c)/\(U.length:Int)=ii * Br (ks.length:Int) ii/\z_2 [.lst ks,.int ii,.int ik]=.ok (Li,[.int (ks.length:Int),Ck (s:Int) ii (Br (ks.length:Int) ii) ii T,.str (Bi U)]):=by
 have h1:=h.h1;have h2:=h.h2;have hK:Ks ks (s:Int) ii:=⟨h.k,h.nd,h.h1,h.h2,by omega,by omega,h.kd⟩;obtain⟨p1,_,p3,p4⟩:=u_0 (ks.length:Int) ii () () h.kd;obtain⟨C,c1,c2,c3,c4⟩:=dl_5 hK e2;have hkd:2<=ii/\ii<=3:=by rcases h.kd with z|z <;> omega
 have hat:∀i,i < ks.length->∃d,ks[i]? =some d:=λi hi=>⟨_,B2 hi⟩;have hq:∀i,i < ks.length->0<=((C.getD i 0:Nat):Int) / Br (ks.length:Int) ii/\((C.getD i 0:Nat):Int) / Br (ks.length:Int) ii < ii:=λi hi=>by
  obtain⟨d,hd⟩:=hat i hi;have hb:=bm_2 d (s:Int) ii (Br (ks.length:Int) ii) p3 () _ (c3 i d hd);have hnn:0<=ii * Br (ks.length:Int) ii:=R5 () ();refine⟨Int.ediv_nonneg () (),Int.ediv_lt_of_lt_mul p3 ?_⟩;omega
 obtain⟨T,t1,t2,t4⟩:=ay_0 hK e2 ii () (C.map λc:Nat=>(c:Int) / Br (ks.length:Int) ii) (by rw[A0];exact c1);generalize hpart:Br (ks.length:Int) ii=ij at *
 have hsz:0<=ii * ij:=R5 () ();have gp:ii * ij<=3 * 2000:=Q1 () p4 () ();refine⟨T,rowU C (ii * ij).toNat,t1,t2,λc hc=> ?_,by rw[dw_9];exact Int.toNat_of_nonneg (R5 () ()), ?_⟩
 ·unfold rowU at hc;obtain⟨i,_,rfl⟩:=D0.mp hc
  by_cases q:i∈C
  ·rw[if_pos q];exact .inr rfl
  ·rw[if_neg q];exact .inl rfl
 ·have rw_:=es_5 C (ii * ij).toNat ();rw[show(((ii * ij).toNat:Nat):Int)=ii * ij by omega]at rw_;have mm:Ec (.int ii) (.int ij)=.ok (.sh (.int (ii * ij))):=Gf (p_1 () ());unfold z_2 AJ ad_4;have q1:Al 4 [1,2,3] (At 3 Ga #v[1,2,3]) (ai_0 7 "Peeled" [.lst ks,.int ii,.int ik])=.nx [.lt (.obj "Peeled" [] []),.sh (.lst ks),.sh (.int ii),.sh (.int ik),.sh (.int (s:Int)),.no,.no]:=by
   have:At 3 Ga #v[1,2,3] (Bg (ai_0 7 "Peeled" [.lst ks,.int ii,.int ik]))=.ok (.sh (.int (s:Int))):=e;unfold Al;rw[this];rfl
  have q2:at_6 0 "Peeled" [1] f_3 (Ah Cf #v[1]) [.lt (.obj "Peeled" [] []),.sh (.lst ks),.sh (.int ii),.sh (.int ik),.sh (.int (s:Int)),.no,.no]=.nx [.lt (.obj "Peeled" ["how_many"] [.sh (.int (ks.length:Int))]),.sh (.lst ks),.sh (.int ii),.sh (.int ik),.sh (.int (s:Int)),.no,.no]:=
   co_7 (w:=.sh (.int (ks.length:Int))) (p:=(["how_many"],[.int (ks.length:Int)])) rfl rfl rfl (ey_4 _)
  have q3:Al 5 [1,2] (At 2 j_0 #v[Ah Cf #v[1],2]) [.lt (.obj "Peeled" ["how_many"] [.sh (.int (ks.length:Int))]),.sh (.lst ks),.sh (.int ii),.sh (.int ik),.sh (.int (s:Int)),.no,.no]=.nx [.lt (.obj "Peeled" ["how_many"] [.sh (.int (ks.length:Int))]),.sh (.lst ks),.sh (.int ii),.sh (.int ik),.sh (.int (s:Int)),.sh (.int ij),.no]:=by
   simp![An,cd_5,Fs,p1]
  have q4:Al 6 [1,2,4] (At 3 p_9 #v[1,4,2]) [.lt (.obj "Peeled" ["how_many"] [.sh (.int (ks.length:Int))]),.sh (.lst ks),.sh (.int ii),.sh (.int ik),.sh (.int (s:Int)),.sh (.int ij),.no]=.nx [.lt (.obj "Peeled" ["how_many"] [.sh (.int (ks.length:Int))]),.sh (.lst ks),.sh (.int ii),.sh (.int ik),.sh (.int (s:Int)),.sh (.int ij),.ow (.lst (zi C))]:=by
   simp![An,cd_5,c4]
  have ec:=j_9 (m:=1) (fi:=Dj (Ab 6)) (fg:=gC 7) (p:=λ_=> .ok true) (f:=k_0) (δ:=[none,some (.lst ks),some (.int ii),some (.int ik),some (.int (s:Int)),some (.int ij),some (.lst (zi C))]) (ds:=zi C) (by simp![An]) (by rw[Hc];omega)
   (y_9 (λd=>match d with| .int c=> .int (c / ij)|d=>d) (zi C) λd hd=>by
    obtain⟨c,hc,rfl⟩:=D0.mp hd;refine⟨[none,some (.lst ks),some (.int ii),some (.int ik),some (.int (s:Int)),some (.int ij),some (.lst (zi C)),some (.int (c:Int))],.sh (.int ((c:Int) / ij)),rfl, ?_,rfl⟩
    simp![k_0,An,w_2 p3 ()])
  have hzz:(zi C).map (λd=>match d with| .int c=>D.int (c / ij)|d=>d)=(C.map λc:Nat=>(c:Int) / ij).map .int:=by
   unfold zi;rw[D4,D4];rfl
  rw[hzz]at ec;have q5:Dq 0 La "own_table" [1,2,4,5,6] (At 5 i_3 #v[1,4,2,2,(Bx 1 (Dj (Ab 6)) (gC 7) (λ_=> .ok true) k_0)]) [.lt (.obj "Peeled" ["how_many"] [.sh (.int (ks.length:Int))]),.sh (.lst ks),.sh (.int ii),.sh (.int ik),.sh (.int (s:Int)),.sh (.int ij),.ow (.lst (zi C))]=
    .nx [.lt (.obj "Peeled" Lm [.sh (.int (ks.length:Int)),.sh (Ck (s:Int) ii ij ii T)]),.sh (.lst ks),.sh (.int ii),.sh (.int ik),.sh (.int (s:Int)),.sh (.int ij),.sh (.lst (zi C))]:=by
   have he:At 5 i_3 #v[1,4,2,2,(Bx 1 (Dj (Ab 6)) (gC 7) (λ_=> .ok true) k_0)] (Bg [.lt (.obj "Peeled" ["how_many"] [.sh (.int (ks.length:Int))]),.sh (.lst ks),.sh (.int ii),.sh (.int ik),.sh (.int (s:Int)),.sh (.int ij),.sh (.lst (zi C))])=.ok (.sh (Ck (s:Int) ii ij ii T)):=by
    simp![An,cd_5,ec]
    exact t4
   have:=y_7 (Δ:=[.lt (.obj "Peeled" ["how_many"] [.sh (.int (ks.length:Int))]),.sh (.lst ks),.sh (.int ii),.sh (.int ik),.sh (.int (s:Int)),.sh (.int ij),.sh (.lst (zi C))]) (i:=0) (cs:= La) (f:= "own_table") (c:= "Peeled") (js:=[1,2,4,5,6]) (ns:=["how_many"]) (ts:=[.sh (.int (ks.length:Int))]) rfl rfl nofun he;unfold Dq at this⊢;exact this
  have q6:Dq 0 Ll "used_row" [2,5,6] (At 2 l_8 #v[6,Aj Ec (Ab 2) (Ab 5)]) [.lt (.obj "Peeled" Lm [.sh (.int (ks.length:Int)),.sh (Ck (s:Int) ii ij ii T)]),.sh (.lst ks),.sh (.int ii),.sh (.int ik),.sh (.int (s:Int)),.sh (.int ij),.sh (.lst (zi C))]=
    .nx [.lt (.obj "Peeled" Li [.sh (.int (ks.length:Int)),.sh (Ck (s:Int) ii ij ii T),.sh (.str (Bi (rowU C (ii * ij).toNat)))]),.sh (.lst ks),.sh (.int ii),.sh (.int ik),.sh (.int (s:Int)),.sh (.int ij),.sh (.lst (zi C))]:=by
   refine y_7 (w:=.sh (.str (Bi (rowU C (ii * ij).toNat)))) (c:= "Peeled") (ns:= Lm) (ts:=[.sh (.int (ks.length:Int)),.sh (Ck (s:Int) ii ij ii T)]) rfl rfl nofun ?_
   simp![An,cd_5,mm,rw_]
  rw[Bn q1,Bn q2,Bn q3,Bn q4,Bn q5,q6];simp only[R4,if_true,unT,L5]
def eh_7(n:Nat):(De 0 n)=(((List.range n).map λk:Nat=>(k:Int)).map D.int):=by
 unfold De;rw[D4];apply F8;intro k _;show D.int (0 + (k:Int))=.int (k:Int);rw[P6]
def dx_3{ks:List D}{ii ik:Int}(h:Ks ks 0 ii){s:Nat}(hs:s<=1000)(e:Ga [.lst ks,.int ii,.int ik]=.ok (.sh (.int (s:Int))))(e2:f_4 [.lst ks,.int (s:Int),.int ii]=.ok (.sh (.bl true))):
  ∃T:List Int,(T.length:Int)=ii * Br (ks.length:Int) ii/\(∀t∈T,0<=t/\t < (ks.length:Int))/\
   x_7 [.lst ks,.int ii,.int ik]=.ok (Lm,[.int (ks.length:Int),Ck (s:Int) ii (Br (ks.length:Int) ii) (ks.length:Int) T]):=by
 have h1:=h.h1;have h2:=h.h2;have rg:∀i,i < ks.length->((List.range ks.length).map λk:Nat=>(k:Int)).getD i 0=(i:Int):=λi hi=>by
  rw[D7,A8,M7 hi];rfl
 obtain⟨T,t1,t2,t4⟩:=ay_0 (s:=(s:Int)) ⟨h.k,h.nd,h.h1,h.h2,by omega,by omega,h.kd⟩ e2 (ks.length:Int) () ((List.range ks.length).map λk:Nat=>(k:Int)) (by simp);refine⟨T,t1,t2, ?_⟩;have hr:eRng Dd #v[Ah Cf #v[1]] [none,some (.lst ks),some (.int ii),some (.int ik),some (.int (s:Int))]=.ok (.ow (.lst (((List.range ks.length).map λk:Nat=>(k:Int)).map D.int))):=by
  rw[<-eh_7]
  simp![An,Fs,eRng,s_2 (show(-4611686018427387903:Int)<=(ks.length:Int) by omega) (),K8]
  rw[if_pos (by rw[q_3];omega)]
 exact cx_5 ((Bn (bm_4 e)).trans ((Bn (co_7 (w:=.sh (.int (ks.length:Int))) rfl rfl rfl (ey_5 _))).trans (y_7 (w:=.sh (Ck (s:Int) ii (Br (ks.length:Int) ii) (ks.length:Int) T)) (c:= "Ordered") (ns:=["how_many"]) (ts:=[.sh (.int (ks.length:Int))]) rfl rfl nofun (by
  show At 5 i_3 #v[1,4,2,Ah Cf #v[1],eRng Dd #v[Ah Cf #v[1]]] [none,some (.lst ks),some (.int ii),some (.int ik),some (.int (s:Int))]=_
  simp![An,Fs,hr]
  exact t4)))) rfl rfl
def pelO(n:Int)(t:D)(u:Str):D:=.obj "Peeled" Li [.int n,t,.str u]
def ordO(n:Int)(t:D):D:=.obj "Ordered" Lm [.int n,t]
def ao_0{vs:List Int}{n:Nat}{m:Int}(hl:vs.length=n)(hn:n<=1000)(hb:∀v∈vs,0<=v/\v < m):t_2 [.lst (vs.map .int),.int (n:Int),.int m]=.ok (.sh .non):=by
 obtain⟨Δ',e,a3,a4,rfl⟩:=g_1 (Gb 3 4) q_1 (λk Δ=>∃a3 a4,Δ= [.sh (.lst (vs.map .int)),.sh (.int (n:Int)),.sh (.int m),a3,a4]) (ds:=Cl 0 (vs.map .int))
  (Δ:=[.sh (.lst (vs.map .int)),.sh (.int (n:Int)),.sh (.int m),.no,.no]) ⟨_,_,rfl⟩ (λk d0 Δ hd hI=>by
   obtain⟨a3,a4,rfl⟩:=hI;obtain⟨d,e1,rfl⟩:=n_7 hd;rw[A8]at e1;obtain⟨v,e2,rfl⟩:=D3.mp e1;have hk:k < vs.length:=(A5.mp e2).1;have hv:=hb v (B1 e2);have c1:¬(n:Int)<=(k:Int):=by omega
   refine⟨[.sh (.lst (vs.map .int)),.sh (.int (n:Int)),.sh (.int m),.sh (.int ((0 + k:Nat):Int)),.sh (.int v)],rfl,[.sh (.lst (vs.map .int)),.sh (.int (n:Int)),.sh (.int m),.sh (.int ((0 + k:Nat):Int)),.sh (.int v)],.inl ?_,_,_,rfl⟩
   simp![q_1,An,ex_6,c1,co_2 hv.1 hv.2])
 have c2:¬(n:Int) < (n:Int):=by omega
 have hv:Ep (Ab 0) (Bg [.sh (.lst (vs.map .int)),.sh (.int (n:Int)),.sh (.int m),.no,.no])=.ok (Cl 0 (vs.map .int)):=by
  simp![Ep,An,am_3]
 have v4:Cb [0] (Ep (Ab 0)) (Gb 3 4) q_1 (Ar 5 [.lst (vs.map .int),.int (n:Int),.int m])=.nx [.sh (.lst (vs.map .int)),.sh (.int (n:Int)),.sh (.int m),a3,a4]:=by
  show Cb [0] (Ep (Ab 0)) (Gb 3 4) q_1 [.sh (.lst (vs.map .int)),.sh (.int (n:Int)),.sh (.int m),.no,.no]=_;unfold Cb;rw[hv];exact e
 unfold t_2 Ag ar_1;rw[Bn v4]
 simp![An,Fs,A0,hl,En,c2]
abbrev Lv:List Str:=["how_many","width","own_table"]
def kptO(n width:Int)(t:D):D:=.obj "Kept" Lv [.int n,.int width,t]
def eh_8{ks:List D}{ii ik:Int}{x:Xn}(h:Ks ks 0 ii)(w:Nat)(hw:w<=100){vs:List Int}(hl:vs.length=ks.length)(hb:∀v∈vs,0<=v/\v < 2 ^ w)(e:Ga [.lst ks,.int ii,.int ik]=.ex x):Hw [.lst ks,.lst (vs.map .int),.int (w:Int),.int ii,.int ik]=.ex x:=by
 have h2:=h.h2;exact bi_0 ((Bn (bm_4 (q_6 w ()))).trans ((Bn (y_7 rfl rfl nofun (bh_8 h.k h.nd h.h1 h.h2))).trans ((Bn (ay_1 (ao_0 (n:=ks.length) hl () hb))).trans (cd_7 (cd_6 e)))))
def dl_6{ks:List D}{ii ik:Int}(h:Ks ks 0 ii)(w:Nat)(hw:w<=100){vs:List Int}(hl:vs.length=ks.length)(hb:∀v∈vs,0<=v/\v < 2 ^ w){s:Nat}(hs:s<=1000)(e:Ga [.lst ks,.int ii,.int ik]=.ok (.sh (.int (s:Int))))(e2:f_4 [.lst ks,.int (s:Int),.int ii]=.ok (.sh (.bl true))):
  ∃T:List Int,(T.length:Int)=ii * Br (ks.length:Int) ii/\(∀t∈T,0<=t/\t < 2 ^ w)/\
   Hw [.lst ks,.lst (vs.map .int),.int (w:Int),.int ii,.int ik]=.ok (Lv,[.int (ks.length:Int),.int (w:Int),Ck (s:Int) ii (Br (ks.length:Int) ii) (2 ^ w) T]):=by
 have pos:(0:Int) < 2 ^ w:=ZB5 ⋯;have h2:=h.h2;obtain⟨T,t1,t2,t4⟩:=ay_0 (s:=(s:Int)) ⟨h.k,h.nd,h.h1,h.h2,by omega,by omega,h.kd⟩ e2 (2 ^ w) pos vs hl;refine⟨T,t1,t2, ?_⟩;exact cx_5 ((Bn (bm_4 (q_6 w ()))).trans ((Bn (y_7 rfl rfl nofun (bh_8 h.k h.nd h.h1 h.h2))).trans ((Bn (ay_1 (ao_0 (n:=ks.length) hl () hb))).trans ((Bn (bm_4 e)).trans ((Bn (y_7 (w:=.sh (.int (w:Int))) rfl rfl nofun rfl)).trans (y_7 rfl rfl nofun t4)))))) rfl rfl
def eh_9{d:D}(h:isKey d)(w:Nat)(hw:w<=100):Hr [d,.int (w:Int)]=.ok (.sh (.int (ai_7 (u_8 d) 3 (2 ^ w)))):=by
 have pos:(0:Int) < 2 ^ w:=ZB5 ⋯
 simp![Hr,cv_4,An,cn_3 h,q_6 w (),(cn_4 (u_8 d) 3 (2 ^ w) ⋯ ⋯ pos).1]
def mrkO(n width:Int)(t:D):D:=.obj "Marked" Lv [.int n,.int width,t]
def de_3(ks:List D)(w:Nat):List Int:=ks.map λd=>ai_7 (u_8 d) 3 (2 ^ w)
def dl_7{ks:List D}{ii ik:Int}{x:Xn}(w:Nat)(e:Ga [.lst ks,.int ii,.int ik]=.ex x):ab_6 [.lst ks,.int (w:Int),.int ii,.int ik]=.ex x:=bi_0 (cd_7 (cd_6 e))
def co_8{ks:List D}{ii ik:Int}(h:Ks ks 0 ii)(w:Nat)(hw:w<=100){s:Nat}(hs:s<=1000)(e:Ga [.lst ks,.int ii,.int ik]=.ok (.sh (.int (s:Int))))(e2:f_4 [.lst ks,.int (s:Int),.int ii]=.ok (.sh (.bl true))):
  ∃T:List Int,(T.length:Int)=ii * Br (ks.length:Int) ii/\(∀t∈T,0<=t/\t < 2 ^ w)/\
   ab_6 [.lst ks,.int (w:Int),.int ii,.int ik]=.ok (Lv,[.int (ks.length:Int),.int (w:Int),Ck (s:Int) ii (Br (ks.length:Int) ii) (2 ^ w) T]):=by
 have pos:(0:Int) < 2 ^ w:=ZB5 ⋯;have h2:=h.h2;obtain⟨T,t1,t2,t4⟩:=ay_0 (s:=(s:Int)) ⟨h.k,h.nd,h.h1,h.h2,by omega,by omega,h.kd⟩ e2 (2 ^ w) pos (de_3 ks w) (by unfold de_3;rw[A0]);refine⟨T,t1,t2, ?_⟩
 ·have ec:=j_9 (m:=1) (fi:=Dj (Ab 1)) (fg:=gC 6) (p:=λ_=> .ok true) (f:=n_3) (δ:=[none,some (.lst ks),some (.int (w:Int)),some (.int ii),some (.int ik),some (.int (s:Int))]) (ds:=ks) (by simp![An]) ()
   (y_9 (λd=> .int (ai_7 (u_8 d) 3 (2 ^ w))) ks λd hd=>⟨_,.sh (.int (ai_7 (u_8 d) 3 (2 ^ w))),rfl,by simp![n_3,An,eh_9 (h.k d hd) w hw],rfl⟩)
  have em:(ks.map λd=>D.int (ai_7 (u_8 d) 3 (2 ^ w)))=(de_3 ks w).map .int:=by unfold de_3;rw[D4];rfl
  rw[em]at ec;exact cx_5 ((Bn (bm_4 e)).trans ((Bn (y_7 (w:=.sh (.int (ks.length:Int))) rfl rfl nofun rfl)).trans ((Bn (y_7 (w:=.sh (.int (w:Int))) rfl rfl nofun rfl)).trans (y_7 (w:=.sh (Ck (s:Int) ii (Br (ks.length:Int) ii) (2 ^ w) T)) rfl rfl nofun (by
   show At 5 i_3 #v[1,5,3,At 1 q_0 #v[2],(Bx 1 (Dj (Ab 1)) (gC 6) (λ_=> .ok true) n_3)] [none,some (.lst ks),some (.int (w:Int)),some (.int ii),some (.int ik),some (.int (s:Int))]=_
   simp![An,q_6 w (by omega:w<=1000),ec,t4]))))) rfl rfl
def paO(n:Int)(t:D)(u:Str):D:=.obj "PeeledAgain" Li [.int n,t,.str u]
def oaO(n:Int)(t:D):D:=.obj "OrderedAgain" Lm [.int n,t]
abbrev Lw:List Str:=["how_many","own_table","width"]
def kaO(n w:Int)(t:D):D:=.obj "KeptAgain" Lw [.int n,t,.int w]
def maO(n w:Int)(t:D):D:=.obj "MarkedAgain" Lw [.int n,t,.int w]
def es_9(a b c:D):t_6 [a,b,c]=.ok (Li,[a,b,c]):=by rfl'
def et_0(a b:D):r_8 [a,b]=.ok (Lm,[a,b]):=by rfl'
def et_1(a b c:D):z_5 [a,b,c]=.ok (Lw,[a,b,c]):=by rfl'
def et_2(a b c:D):t_7 [a,b,c]=.ok (Lw,[a,b,c]):=by rfl'
abbrev C8:List Str:= La
abbrev tbT:List (Str×(AF)):= J15
abbrev tbS:List (Str×(AF)):= J16
abbrev tbM:List (Str×(AF)):= J12
abbrev tbP:List (Str×(AF)):= J14
abbrev tbN:List (Str×(AF)):= J20
abbrev tbR:List (Str×(AF)):= J17
abbrev tbRs:List (Str×(AF)):= J21
abbrev tbU:List (Str×(AF)):= J28
abbrev tbQ:List (Str×(AF)):= J26
abbrev i0:List (Str×Bool):= J22
abbrev i1:List (Str×Bool):= J23
abbrev i2:List (Str×Bool):= J24
abbrev i3:List (Str×Bool):= J25
structure HH(M:D)(n s ii ij m:Int)(T:List Int):Prop where
 own:∀(fo:FE) (δ:DE),fo δ=.ok (.sh M)->Bz C8 "own_table" fo δ=.ok (.sh (Ck s ii ij m T))
 num:∀(fo:FE) (δ:DE),fo δ=.ok (.sh M)->Bz C8 "how_many" fo δ=.ok (.sh (.int n))
 tab:∀(fo:FE) (δ:DE),fo δ=.ok (.sh M)->Bp "table" 0 tbT fo Ac δ=.ok (.ow (.lst (T.map .int)))
 salt:∀(fo:FE) (δ:DE),fo δ=.ok (.sh M)->Bp "salt" 0 tbS fo Ac δ=.ok (.sh (.int s))
 many:∀(fo:FE) (δ:DE),fo δ=.ok (.sh M)->Bp "many" 0 tbM fo Ac δ=.ok (.sh (.int n))
 plc:∀(fo:FE) (fa:FA) (δ:DE) (d:D) (r:W),fo δ=.ok (.sh M)->fa δ=.ok [d]->e_5 [d,.int s,.int ii,.int ij]=.ok r->Bp "places" 1 tbP fo fa δ=.ok r
section
variable{n s ii ij m w z y:Int}{T:List Int}{u:Str}{M d:D}
def Dt{c f:Str}{ns:List Str}{vs:List D}{cs:List Str}{r:D}{M:D}(hM:M=.obj c ns vs)(h1:cs.contains c=true)(h2:(ns.zip vs).lookup f=some r)(fo:FE)(δ:DE)(h:fo δ=.ok (.sh M)):Bz cs f fo δ=.ok (.sh r):=by
 subst hM;simp only[Bz,h,R.bind_ok,W.d_sh,h1,h2,if_true]
def Ds{nm c:Str}{k:Nat}{ns:List Str}{vs:List D}{tb:List (Str×(AF))}{F:AF}{M:D}(hM:M=.obj c ns vs)(h1:ns.contains nm=false)(h2:tb.lookup c=some F)(fo:FE)(fa:FA)(δ:DE)(ds:List D)(h:fo δ=.ok (.sh M))(ha:fa δ=.ok ds)(hk:ds.length=k):Bp nm k tb fo fa δ=F (M::ds):=by
 subst hM;simp only[Bp,h,R.bind_ok,W.d_sh,h1,N5,S4,h2,ha,hk,if_true]
abbrev Hh(M:D)(s ii ij m:Int)(T:List Int):Prop:=∀(fo:FE) (δ:DE),fo δ=.ok (.sh M)->Bz C8 "own_table" fo δ=.ok (.sh (Ck s ii ij m T))
def bm_5{r:W}(f:Hh M s ii ij m T)(h:e_5 [d,.int s,.int ii,.int ij]=.ok r):b_3 [M,d]=.ok r:=by
 have e:=ai_8 h (Bz C8 "own_table" (Ab 0)) [some M,some d] (f (Ab 0) _ rfl) #v[1] rfl
 simp![b_3,aj_9,An,e]
def be_0{r:W}(f:Hh M s ii ij m T)(h:e_5 [d,.int s,.int ii,.int ij]=.ok r):d_0 [M,d]=.ok r:=by
 have e:=ai_8 h (Bz C8 "own_table" (Ab 0)) [some M,some d] (f (Ab 0) _ rfl) #v[1] rfl
 simp![d_0,ag_0,An,e]
def co_9{r:W}(f:Hh M s ii ij m T)(h:e_5 [d,.int s,.int ii,.int ij]=.ok r):e_3 [M,d]=.ok r:=by
 have e:=ai_8 h (Bz C8 "own_table" (Ab 0)) [some M,some d] (f (Ab 0) _ rfl) #v[1] rfl
 simp![e_3,ar_6,An,e]
def bm_6{r:W}(f:Hh M s ii ij m T)(h:e_5 [d,.int s,.int ii,.int ij]=.ok r):d_7 [M,d]=.ok r:=by
 have e:=ai_8 h (Bz C8 "own_table" (Ab 0)) [some M,some d] (f (Ab 0) _ rfl) #v[1] rfl
 simp![d_7,ak_0,An,e]
def dl_8:HH (pelO n (Ck s ii ij m T) u) n s ii ij m T:=
 have o:Hh _ s ii ij m T:=Dt rfl ∅ ∅
 ⟨o,Dt rfl ∅ ∅,λfo δ h=>by unfold Bp;rw[h];rfl',λfo δ h=>by unfold Bp;rw[h];rfl',λfo δ h=>by unfold Bp;rw[h];rfl',λfo fa δ d r h ha e=>(Ds rfl ∅ ∅ fo fa δ [d] h ha rfl).trans (bm_5 o e)⟩
def cx_6:HH (ordO n (Ck s ii ij m T)) n s ii ij m T:=
 have o:Hh _ s ii ij m T:=Dt rfl ∅ ∅
 ⟨o,Dt rfl ∅ ∅,λfo δ h=>by unfold Bp;rw[h];rfl',λfo δ h=>by unfold Bp;rw[h];rfl',λfo δ h=>by unfold Bp;rw[h];rfl',λfo fa δ d r h ha e=>(Ds rfl ∅ ∅ fo fa δ [d] h ha rfl).trans (be_0 o e)⟩
def ei_0:HH (kptO n w (Ck s ii ij m T)) n s ii ij m T:=
 have o:Hh _ s ii ij m T:=Dt rfl ∅ ∅
 ⟨o,Dt rfl ∅ ∅,λfo δ h=>by unfold Bp;rw[h];rfl',λfo δ h=>by unfold Bp;rw[h];rfl',λfo δ h=>by unfold Bp;rw[h];rfl',λfo fa δ d r h ha e=>(Ds rfl ∅ ∅ fo fa δ [d] h ha rfl).trans (co_9 o e)⟩
def dl_9:HH (mrkO n w (Ck s ii ij m T)) n s ii ij m T:=
 have o:Hh _ s ii ij m T:=Dt rfl ∅ ∅
 ⟨o,Dt rfl ∅ ∅,λfo δ h=>by unfold Bp;rw[h];rfl',λfo δ h=>by unfold Bp;rw[h];rfl',λfo δ h=>by unfold Bp;rw[h];rfl',λfo fa δ d r h ha e=>(Ds rfl ∅ ∅ fo fa δ [d] h ha rfl).trans (bm_6 o e)⟩
def bm_7:HH (paO n (Ck s ii ij m T) u) n s ii ij m T:=
 have o:Hh _ s ii ij m T:=Dt rfl ∅ ∅
 ⟨o,Dt rfl ∅ ∅,λfo δ h=>by unfold Bp;rw[h];rfl',λfo δ h=>by unfold Bp;rw[h];rfl',λfo δ h=>by unfold Bp;rw[h];rfl',λfo fa δ d r h ha e=>(Ds rfl ∅ ∅ fo fa δ [d] h ha rfl).trans (bm_5 o e)⟩
def bg_0:HH (oaO n (Ck s ii ij m T)) n s ii ij m T:=
 have o:Hh _ s ii ij m T:=Dt rfl ∅ ∅
 ⟨o,Dt rfl ∅ ∅,λfo δ h=>by unfold Bp;rw[h];rfl',λfo δ h=>by unfold Bp;rw[h];rfl',λfo δ h=>by unfold Bp;rw[h];rfl',λfo fa δ d r h ha e=>(Ds rfl ∅ ∅ fo fa δ [d] h ha rfl).trans (be_0 o e)⟩
def cd_8:HH (kaO n w (Ck s ii ij m T)) n s ii ij m T:=
 have o:Hh _ s ii ij m T:=Dt rfl ∅ ∅
 ⟨o,Dt rfl ∅ ∅,λfo δ h=>by unfold Bp;rw[h];rfl',λfo δ h=>by unfold Bp;rw[h];rfl',λfo δ h=>by unfold Bp;rw[h];rfl',λfo fa δ d r h ha e=>(Ds rfl ∅ ∅ fo fa δ [d] h ha rfl).trans (co_9 o e)⟩
def bm_8:HH (maO n w (Ck s ii ij m T)) n s ii ij m T:=
 have o:Hh _ s ii ij m T:=Dt rfl ∅ ∅
 ⟨o,Dt rfl ∅ ∅,λfo δ h=>by unfold Bp;rw[h];rfl',λfo δ h=>by unfold Bp;rw[h];rfl',λfo δ h=>by unfold Bp;rw[h];rfl',λfo fa δ d r h ha e=>(Ds rfl ∅ ∅ fo fa δ [d] h ha rfl).trans (bm_6 o e)⟩
def dx_4(fo:FE)(δ:DE)(h:fo δ=.ok (.sh (Ck s ii ij m T))):Bz ["Table"] "kind" fo δ=.ok (.sh (.int ii)):=Dt rfl ∅ ∅ fo δ h
def dm_0{Z:D}(h:HH M n s ii ij m T)(c0:Ee i0 (Ab 0) [some M]=.ok (.sh (.bl true)))(d2:Bp "used" 0 tbU (Ab 0) Ac [some M]=.ok (.sh (.str u)))(hw:o_7 [.int ii]=.ok (.sh (.int w)))(ht:l_9 [.str "peeled",M,.int w,.str u]=.ok (.sh Z)):g_2 [M]=.ok (.sh Z):=by
 have d1:=dx_4 (Bz C8 "own_table" (Ab 0)) [some M] (h.own (Ab 0) _ rfl)
 simp![g_2,w_6,An,c0,d1,d2,hw,ht]
def cx_7{Z:D}(h:HH M n s ii ij m T)(c0:Ee i0 (Ab 0) [some M]=.ok (.sh (.bl false)))(c1:Ee i1 (Ab 0) [some M]=.ok (.sh (.bl true)))(hw:o_7 [.int n]=.ok (.sh (.int w)))(ht:l_9 [.str "ordered",M,.int w,.str ""]=.ok (.sh Z)):g_2 [M]=.ok (.sh Z):=by
 have d1:=h.many (Ab 0) [some M] rfl
 simp![g_2,w_6,An,c0,c1,d1,hw,ht]
abbrev Wd(M:D)(w:Int)(r:List (Option D)):Prop:=Bz Lb "width" (Ab 0) (some M::r)=.ok (.sh (.int w))
def ei_1{Z:D}(c0:Ee i0 (Ab 0) [some M]=.ok (.sh (.bl false)))(c1:Ee i1 (Ab 0) [some M]=.ok (.sh (.bl false)))(c2:Ee i2 (Ab 0) [some M]=.ok (.sh (.bl true)))(d1:Wd M w [])(ht:l_9 [.str "kept",M,.int w,.str ""]=.ok (.sh Z)):g_2 [M]=.ok (.sh Z):=by
 simp![g_2,w_6,An,c0,c1,c2,d1,ht]
def dm_1{Z:D}(c0:Ee i0 (Ab 0) [some M]=.ok (.sh (.bl false)))(c1:Ee i1 (Ab 0) [some M]=.ok (.sh (.bl false)))(c2:Ee i2 (Ab 0) [some M]=.ok (.sh (.bl false)))(c3:Ee i3 (Ab 0) [some M]=.ok (.sh (.bl true)))(d1:Wd M w [])(ht:l_9 [.str "marked",M,.int w,.str ""]=.ok (.sh Z)):g_2 [M]=.ok (.sh Z):=by
 simp![g_2,w_6,An,c0,c1,c2,c3,d1,ht]
end
def Hn(nm:Str)(ii s n:Int)(w:Nat)(T:List Int)(u:Str):D:=.tup [.str nm,.int ii,.int s,.int n,.int (w:Int),.str (Bi ((T.map λn=>wr w n []).flatten)),.str u]
def bi_1{M:D}{n s ii ij m:Int}{T:List Int}(h:HH M n s ii ij m T)(nm u:Str)(w:Nat)(h1:w<=1000)(h2:T.length<=10000)(hb:∀t∈T,0<=t/\t < 2 ^ w):l_9 [.str nm,M,.int (w:Int),.str u]=.ok (.sh (Hn nm ii s n w T u)):=by
 have e1:=h.tab (Ab 1) [some (.str nm),some M,some (.int (w:Int)),some (.str u),none] rfl;have e2:=dx_4 (Bz C8 "own_table" (Ab 1)) [some (.str nm),some M,some (.int (w:Int)),some (.str u),some (.str (Bi ((T.map λn=>wr w n []).flatten)))] (h.own (Ab 1) _ rfl);have e3:=h.salt (Ab 1) [some (.str nm),some M,some (.int (w:Int)),some (.str u),some (.str (Bi ((T.map λn=>wr w n []).flatten)))] rfl;have e4:=h.many (Ab 1) [some (.str nm),some M,some (.int (w:Int)),some (.str u),some (.str (Bi ((T.map λn=>wr w n []).flatten)))] rfl;have ew:=cx_1 T w h1 h2 hb;unfold Hn;generalize Bi ((T.map λn=>wr w n []).flatten)=x at *
 simp![l_9,bw_0,An,e1,ew,e2,e3,e4]
def dm_2(w:Nat)(zs:List Int):∀c∈(zs.map λn=>wr w n []).flatten,bit c:=λc hc=>by
 obtain⟨l,hl,hc⟩:=List.mem_flatten.mp hc;obtain⟨n,_,rfl⟩:=D0.mp hl;exact dv_3 w n [] (λc h=>absurd h (by simp)) c hc
theorem cp_0(w:Nat):∀(zs:List Int) (i:Nat) (z:Int),zs[i]? =some z->(((zs.map λn=>wr w n []).flatten).drop (w * i)).take w=wr w z []
 | [],i,z,h=>by simp at h
 |y::zs,0,z,h=>by
  have:y=z:=by simpa using h
  subst this;rw[Nat.mul_zero,V3,A9,I0,W3 (by rw[au_4];simp),V4 (by rw[au_4];simp)]
 |y::zs,i + 1,z,h=>by
  rw[A9,I0,ZA4,List.drop_append,List.drop_of_length_le (by rw[au_4];simp),ZA8,au_4];have e:w * i + w - (w + ([]:List Nat).length)=w * i:=by simp
  rw[e];exact cp_0 w zs i z (by simpa using h)
def cp_1(w:Nat)(zs:List Int)(hz:∀z∈zs,0<=z/\z < 2 ^ w):Hv ((zs.map λn=>wr w n []).flatten) w zs.length=zs:=by
 apply Y5;intro i;unfold Hv;rw[A8]
 by_cases hi:i < zs.length
 ·obtain⟨z,e1⟩:∃z,zs[i]? =some z:=⟨zs[i],B2 hi⟩;rw[M7 hi,e1];show some (rd (((zs.map λn=>wr w n []).flatten.drop (w * i)).take w) 0)=some z;obtain⟨b1,b2⟩:=hz z (B1 e1);rw[cp_0 w zs i z e1,es_1 w z b1 b2]
 ·rw[J7 (by rw[J0];omega),J7 ()];rfl
def ai_9(T:List Int)(w:Nat)(h1:1<=w)(h2:w<=100)(h3:T.length<=900)(hb:∀t∈T,0<=t/\t < 2 ^ w)(z:Int):q_2 [.str (Bi ((T.map λn=>wr w n []).flatten)),.int (w:Int),.int z]=.ok (.ow (.lst (T.map .int))):=by
 have hl:(Bi ((T.map λn=>wr w n []).flatten)).length=w * T.length:=by rw[s_5,co_1]
 have hm:=ZB6 h2 h3;have e:=cd_3 (Bi ((T.map λn=>wr w n []).flatten)) w T.length h1 hl () () (by rw[o_4];exact dm_2 w T);rw[o_4,cp_1 w T hb]at e;generalize Bi ((T.map λn=>wr w n []).flatten)=x at *
 have g:gtD (.int (w:Int)) (.int 0)=.ok (.sh (.bl true)):=by rw[Gg];simp;omega
 simp![q_2,ak_1,An,g,e]
def ay_2{nm x u:Str}{ii s n w:Int}{r:W}(ho:r_9 [.str nm,.int ii,.int s,.int n,.int w,.str x,.str u]=.ok r):h_9 [.tup [.str nm,.int ii,.int s,.int n,.int w,.str x,.str u]]=.ok r:=by
 have hi:∀(i:Nat) (d:D),([D.str nm,.int ii,.int s,.int n,.int w,.str x,.str u])[i]? =some d->Bu (.tup [.str nm,.int ii,.int s,.int n,.int w,.str x,.str u]) (.int (i:Int))=.ok (.sh d):=λi d h=>by
  unfold Bu;simp only[Fd h]
 have i0:=hi 0 _ rfl;have i1:=hi 1 _ rfl;have i2:=hi 2 _ rfl;have i3:=hi 3 _ rfl;have i4:=hi 4 _ rfl;have i5:=hi 5 _ rfl;have i6:=hi 6 _ rfl;generalize D.tup [D.str nm,.int ii,.int s,.int n,.int w,.str x,.str u]=Z at *
 simp only[show((0:Nat):Int)=0 from rfl,show((1:Nat):Int)=1 from rfl,show((2:Nat):Int)=2 from rfl,show((3:Nat):Int)=3 from rfl,show((4:Nat):Int)=4 from rfl,show((5:Nat):Int)=5 from rfl,show((6:Nat):Int)=6 from rfl]at i0 i1 i2 i3 i4 i5 i6
 simp![h_9,ax_3,An,i0,i1,i2,i3,i4,i5,i6,ho]
section
variable{N w:Nat}{s ii:Int}{T:List Int}{u:Str}
def et_3(hN:N<=200)(hk:ii=2\/ii=3)(h1:1<=w)(h2:w<=100)(h3:T.length<=900)(hb:∀t∈T,0<=t/\t < 2 ^ w):h_9 [Hn "peeled" ii s (N:Int) w T u]=.ok (.sh (paO (N:Int) (Ck s ii (Br (N:Int) ii) ii T) u)):=by
 obtain⟨p1,_,p3,p4⟩:=u_0 (N:Int) ii () () hk;have m1:=Gf (i:=ii) (j:=Br (N:Int) ii) (p_1 () ());have e:=ai_9 T w h1 h2 h3 hb (ii * Br (N:Int) ii);have e2:=q_6 w ();unfold Hn paO Ck;generalize Bi ((T.map λn=>wr w n []).flatten)=x at *
 have q0:By (.str "peeled") (.str "peeled")=.ok (.sh (.bl true)):=by rfl'
 refine ay_2 ?_
 simp![r_9,ab_9,An,p1,m1,e,e2,q0,Fp,ac_2,es_9]
def et_4(hN:N<=200)(hk:ii=2\/ii=3)(h1:1<=w)(h2:w<=100)(h3:T.length<=900)(hb:∀t∈T,0<=t/\t < 2 ^ w):h_9 [Hn "ordered" ii s (N:Int) w T ""]=.ok (.sh (oaO (N:Int) (Ck s ii (Br (N:Int) ii) (N:Int) T))):=by
 obtain⟨p1,_,p3,p4⟩:=u_0 (N:Int) ii () () hk;have m1:=Gf (i:=ii) (j:=Br (N:Int) ii) (p_1 () ());have e:=ai_9 T w h1 h2 h3 hb (ii * Br (N:Int) ii);have e2:=q_6 w ();unfold Hn oaO Ck;generalize Bi ((T.map λn=>wr w n []).flatten)=x at *
 have q0:By (.str "ordered") (.str "peeled")=.ok (.sh (.bl false)):=by rfl'
 have q1:By (.str "ordered") (.str "ordered")=.ok (.sh (.bl true)):=by rfl'
 refine ay_2 ?_
 simp![r_9,ab_9,An,p1,m1,e,e2,q0,q1,Fp,ac_2,et_0]
def et_5(hN:N<=200)(hk:ii=2\/ii=3)(h1:1<=w)(h2:w<=100)(h3:T.length<=900)(hb:∀t∈T,0<=t/\t < 2 ^ w):h_9 [Hn "kept" ii s (N:Int) w T ""]=.ok (.sh (kaO (N:Int) (w:Int) (Ck s ii (Br (N:Int) ii) (2 ^ w) T))):=by
 obtain⟨p1,_,p3,p4⟩:=u_0 (N:Int) ii () () hk;have m1:=Gf (i:=ii) (j:=Br (N:Int) ii) (p_1 () ());have e:=ai_9 T w h1 h2 h3 hb (ii * Br (N:Int) ii);have e2:=q_6 w ();unfold Hn kaO Ck;generalize Bi ((T.map λn=>wr w n []).flatten)=x at *
 have q0:By (.str "kept") (.str "peeled")=.ok (.sh (.bl false)):=by rfl'
 have q1:By (.str "kept") (.str "ordered")=.ok (.sh (.bl false)):=by rfl'
 have q2:By (.str "kept") (.str "kept")=.ok (.sh (.bl true)):=by rfl'
 refine ay_2 ?_
 simp![r_9,ab_9,An,p1,m1,e,e2,q0,q1,q2,Fp,ac_2,et_1]
def et_6(hN:N<=200)(hk:ii=2\/ii=3)(h1:1<=w)(h2:w<=100)(h3:T.length<=900)(hb:∀t∈T,0<=t/\t < 2 ^ w):h_9 [Hn "marked" ii s (N:Int) w T ""]=.ok (.sh (maO (N:Int) (w:Int) (Ck s ii (Br (N:Int) ii) (2 ^ w) T))):=by
 obtain⟨p1,_,p3,p4⟩:=u_0 (N:Int) ii () () hk;have m1:=Gf (i:=ii) (j:=Br (N:Int) ii) (p_1 () ());have e:=ai_9 T w h1 h2 h3 hb (ii * Br (N:Int) ii);have e2:=q_6 w ();unfold Hn maO Ck;generalize Bi ((T.map λn=>wr w n []).flatten)=x at *
 have q0:By (.str "marked") (.str "peeled")=.ok (.sh (.bl false)):=by rfl'
 have q1:By (.str "marked") (.str "ordered")=.ok (.sh (.bl false)):=by rfl'
 have q2:By (.str "marked") (.str "kept")=.ok (.sh (.bl false)):=by rfl'
 refine ay_2 ?_
 simp![r_9,ab_9,An,p1,m1,e,e2,q0,q1,q2,Fp,ac_2,et_2]
end
open Classical
def badT(d:D):Prop:=Hj d/\Fw 0 d=true/\k_2 [d]=.ok (.sh (.bl false))
def Hz(d:D):Prop:=isKey d\/badT d
def ey_9:∀c∈sgL,c < 0x110000:=by decide
def dx_6{d:D}(h:Hz d):Fw 0 d=true:=by
 rcases h with(⟨n,rfl,_⟩|⟨l,rfl,_,hc⟩)|h
 ·rfl
 ·show(Bi l).cps.all (· < 0x110000)=true;rw[<-Array.all_toList,o_4,E9];intro c h;exact D9 (ey_9 c (hc c h))
 ·exact h.2.1
def bx_0{xs:List D}(h:∀d∈xs,Hz d):Fw 1 (.lst xs)=true:=by
 show xs.all (Fw 0)=true;rw[E9];exact λd hd=>dx_6 (h d hd)
def et_7{c:Nat}(h:c∈sgL):inD true (.str ⟨#[c]⟩) (.str "abcdefghijklmnopqrstuvwxyz0123456789-_ ")=.ok (.sh (.bl false)):=by
 show R.ok (W.sh (D.bl (!!(Builtin.Str.occurrences "abcdefghijklmnopqrstuvwxyz0123456789-_ " ⟨#[c]⟩ 0 (Str.length "abcdefghijklmnopqrstuvwxyz0123456789-_ ") 1).isEmpty)))=_;rw[dv_6 c h];rfl
def cd_9:Xn:=⟨"NoKeys",[],[]⟩
def dm_3{xs:List D}(h:xs.length < 1\/200 < xs.length):Hg [.lst xs]=.ex cd_9:=by
 by_cases c1:(xs.length:Int)=0
 ·simp![Hg,v_5,An,Fs,l_3,c1,aw_6,cd_9]
 ·have c2:(200:Int) < (xs.length:Int):=by omega
  simp![Hg,v_5,An,Fs,l_3,c1,Gg,c2,aw_6,cd_9]
def cx_8{l:List D}{d:D}{r:List D}(hk:∀k∈l ++ d::r,isKey k)(nd:l.Nodup)(hd:d∈l)(h2:l.length + r.length < 200):Hg [.lst (l ++ d::r)]=.ex (cc_7 l.length):=by
 have zm:((l ++ d::r).length:Int)=(l.length:Int) + (r.length:Int) + 1:=by simp;omega
 have c1:¬((l ++ d::r).length:Int)=0:=by omega
 have c2:¬(200:Int) < ((l ++ d::r).length:Int):=by omega
 simp![Hg,v_5,An,Fs,l_3,c1,Gg,c2,dd_8 hk,cv_8 (λk h=>hk k (K5 _ h)) nd () hd r,exG]
theorem bx_1:∀{xs:List D},(∀d∈xs,Hz d)->(∀d∈xs,isKey d)\/∃l d r,xs=l ++ d::r/\(∀k∈l,isKey k)/\badT d/\∀k∈r,Hz k
 | [],_=> .inl λd h=>absurd h (by simp)
 |x::xs,h=>by
  rcases h x (by simp) with hx|hx
  ·rcases bx_1 (xs:=xs) (λd hd=>h d (by simp[hd])) with h'|⟨l,d,r,rfl,h1,h2,h3⟩
   ·exact .inl λd hd=>by
     rcases B3.mp hd with rfl|hd
     ·exact hx
     ·exact h' d hd
   ·exact .inr ⟨x::l,d,r,rfl,λk hk=>by
     rcases B3.mp hk with rfl|hk
     ·exact hx
     ·exact h1 k hk,h2,h3⟩
  ·exact .inr ⟨[],x,xs,rfl,λk hk=>absurd hk (by simp),hx,λk hk=>h k (by simp[hk])⟩
def cp_2(xs:List D):xs.Nodup\/∃l d r,xs=l ++ d::r/\l.Nodup/\d∈l:=by
 have:∀n,n<=xs.length->(xs.take n).Nodup\/∃l d r,xs=l ++ d::r/\l.Nodup/\d∈l:=by
  intro n
  induction n with
  |zero=>intro _;exact .inl (by simp)
  |succ n ih=>
   intro hn;rcases ih () with h|h
   ·by_cases hm:xs[n]∈xs.take n
    ·refine .inr ⟨xs.take n,xs[n],xs.drop (n + 1), ?_,h,hm⟩;rw[<-Y3 (),List.take_append_drop]
    ·left;rw[K4,B2 ()];show(xs.take n ++ [xs[n]]).Nodup;rw[V6];exact⟨h,by simp,λa ha b hb=>by
      have:b=xs[n]:=by simpa using hb
      rintro rfl
      exact hm (this▸ha)⟩
   ·exact .inr h
 have h:=this xs.length (B0 _)
 rwa[K6]at h
def ei_2{d:D}{ks:List D}(hd:isKey d)(hk:∀k∈ks,isKey k):inD false d (.lst ks)=.ok (.sh (.bl (Dl d ks))):=by
 unfold inD;simp only[hd.flat,cm_8 hk,Bool.and_true,if_true,N5,S4]
def dx_7{l:List D}(nd:l.Nodup){i k:Nat}(hi:i < l.length)(hk:k < l.length)(e:l[i]=l[k]):i=k:=by
 rcases Nat.lt_trichotomy i k with h|h|h
 ·exact absurd e (N1.mp nd i k hi hk h)
 ·exact h
 ·exact absurd e.symm (N1.mp nd k i hk hi h)
def eP(P:Nat->D->Bool):D->Bool
 | .tup [.int k,x]=>P k.toNat x
 |_=>false
def eI:D->D
 | .tup [.int k,_]=> .int k
 |d=>d
theorem bb_8(P:Nat->D->Bool):∀(xs:List D) (j:Nat),(∀k x,xs[k]? =some x->P (j + k) x=false)->(Cl j xs).filter (eP P)= []
 | [],_,_=>rfl
 |x::xs,j,h=>by
  have h0:eP P (.tup [.int (j:Int),x])=false:=h 0 x rfl;have ih:=bb_8 P xs (j + 1) λk y e=>by have:=h (k + 1) y (by simpa using e);rwa[show j + (k + 1)=j + 1 + k by omega]at this
  show((.tup [.int (j:Int),x])::Cl (j + 1) xs).filter (eP P)= [];rw[N4,h0];exact ih
theorem cp_3(P:Nat->D->Bool):∀(xs:List D) (j:Nat),∀e∈((Cl j xs).filter (eP P)).map eI,∃k:Nat,e=.int (k:Int)/\k < j + xs.length
 | [],_,e,h=>by simp[Cl]at h
 |x::xs,j,e,h=>by
  have h':e∈(((D.tup [.int (j:Int),x])::Cl (j + 1) xs).filter (eP P)).map eI:=h;rw[N4]at h';have Eu:e∈((Cl (j + 1) xs).filter (eP P)).map eI->∃k:Nat,e=.int (k:Int)/\k < j + (x::xs).length:=λz=>by
   obtain⟨k,e1,e2⟩:=cp_3 P xs (j + 1) e z;exact⟨k,e1,by simp;omega⟩
  split at h'
  ·rw[A9]at h';rcases B3.mp h' with z|z
   ·exact⟨j,z,by simp⟩
   ·exact Eu z
  ·exact Eu h'
theorem au_6(P:Nat->D->Bool)(d:D)(r:List D):∀(l:List D) (j:Nat),(∀k x,l[k]? =some x->P (j + k) x=false)->P (j + l.length) d=true->∃t,((Cl j (l ++ d::r)).filter (eP P)).map eI=.int ((j + l.length:Nat):Int)::t
 | [],j,_,h=>by
  have h0:eP P (.tup [.int (j:Int),d])=true:=h;refine⟨((Cl (j + 1) r).filter (eP P)).map eI, ?_⟩;show(((D.tup [.int (j:Int),d])::Cl (j + 1) r).filter (eP P)).map eI=_;rw[N4,h0];rfl
 |x::l,j,hn,h=>by
  have h0:eP P (.tup [.int (j:Int),x])=false:=hn 0 x rfl;obtain⟨t,ht⟩:=au_6 P d r l (j + 1) (λk y e=>by have:=hn (k + 1) y (by simpa using e);rwa[show j + (k + 1)=j + 1 + k by omega]at this) (by rwa[D2,show j + (l.length + 1)=j + 1 + l.length by omega]at h);refine⟨t, ?_⟩;show(((D.tup [.int (j:Int),x])::Cl (j + 1) (l ++ d::r)).filter (eP P)).map eI=_;rw[N4,h0,D2,show j + (l.length + 1)=j + 1 + l.length by omega];exact ht
def de_4(P:Nat->D->Bool)(xs:List D)(hl:xs.length<=1000):∃b:Bool,(b=true↔((Cl 0 xs).filter (eP P)).map eI= [])/\Fc (.lst (((Cl 0 xs).filter (eP P)).map eI)) (.lst [])=.ok (.sh (.bl (!b))):=by
 obtain⟨b,h1,_,h3⟩:=cn_1 (ks:=((Cl 0 xs).filter (eP P)).map eI) (js:=[]) (λk hk=>by
  obtain⟨n,rfl,hn⟩:=cp_3 P xs 0 k hk;exact .inl ⟨_,rfl,by omega,by omega⟩) (λk hk=>absurd hk (by simp))
 exact⟨b,h1,h3⟩
open Classical
def bm_9{d:D}(h:isKey d):k_2 [d]=.ok (.sh (.bl true)):=by
 have p18:=ca_5 (aw_5 (i:=10) (j:=18) ⋯ ⋯ ⋯ ⋯);have e18:(10:Int) ^ (18:Int).toNat=1000000000000000000:=by decide
 rw[e18]at p18;rcases h with⟨n,rfl,h0,h1⟩|⟨l,rfl,hl,hc⟩
 ·have c1:n < 1000000000000000000:=by omega
  simp![k_2,ai_1,An,p18,Ha,aw_4,En,h0,c1,N0]
 ·have hx:(Bi l).length<=16777216:=by rw[s_5];omega
  have dw:((Bi l).length:Int) < 12:=by rw[s_5];omega
  have hcm:=x_4 (fg:=gC 2) (p:=w_4) (f:=Ab 2) (δ:=[some (.str (Bi l)),some (.str "abcdefghijklmnopqrstuvwxyz0123456789-_ "),none]) (λ_=>false) (λd=>d) (l.map λc=> .str ⟨#[c]⟩) (λd hd=>by
   obtain⟨c,hcl,rfl⟩:=D0.mp hd;refine⟨[some (.str (Bi l)),some (.str "abcdefghijklmnopqrstuvwxyz0123456789-_ "),some (.str ⟨#[c]⟩)],rfl, ?_,λz=>absurd z A6⟩
   simp![w_4,An,et_7 (hc c hcl)])
  rw[List.filter_eq_nil_iff.mpr (λ_ _=>by simp),N7]at hcm;have ec:=j_9 (m:=1) (fi:=Dj (Ab 0)) (fg:=gC 2) (p:=w_4) (f:=Ab 2) (δ:=[some (.str (Bi l)),some (.str "abcdefghijklmnopqrstuvwxyz0123456789-_ ")]) (ds:=l.map λc=> .str ⟨#[c]⟩) (by simp![An,w_7]) (by rw[A0];omega) hcm;have ee:By (.lst []) (.lst [])=.ok (.sh (.bl true)):=rfl
  simp![k_2,ai_1,An,ab_1 hx,En,dw,N0,ec,ee]
def dx_8{xs:List D}(h:xs.length < 1\/200 < xs.length):o_1 [.lst xs]=.ok (.ow (.lst [.str "none",.int 0])):=by
 by_cases c1:(xs.length:Int) < 1
 ·simp![o_1,aa_7,An,Fs,En,c1,N0]
 ·have c2:(200:Int) < (xs.length:Int):=by omega
  simp![o_1,aa_7,An,Fs,En,c1,M5,Gg,c2,N0]
section
variable{xs l r:List D}{d:D}
def kB(x:D):Bool:=decide (isKey x)
def ez_0(h:Hz d):k_2 [d]=.ok (.sh (.bl (kB d))):=by
 unfold kB
 by_cases hk:isKey d
 ·rw[D9 hk];exact bm_9 hk
 ·rw[D8 hk];rcases h with h|h
  ·exact absurd h hk
  ·exact h.2.2
def P1:Nat->D->Bool:=λ_ x=> !kB x
def P2(xs:List D):Nat->D->Bool:=λk x=>decide (x∈xs.take k)
def ek_8{k:Nat}{e:D}(h:(Cl 0 xs)[k]? =some e):∃x,xs[k]? =some x/\e=.tup [.int (k:Int),x]:=by
 cases q:xs[k]? with
 |none=>
  have hl:xs.length<=k:=List.getElem?_eq_none_iff.mp q;have he:∀(ys:List D) (j:Nat),(Cl j ys).length=ys.length:=by
   intro ys
   induction ys with
   |nil=>intro j;rfl
   |cons y ys ih=>intro j;show(Cl (j + 1) ys).length + 1=_;rw[ih];rfl
  rw[J7 (by rw[he];exact hl)]at h;cases h
 |some x=>
  have:=ax_6 (k:=0) q;rw[O9]at this;rw[this]at h;exact⟨x,rfl,(J8 h).symm⟩
theorem cx_9:∀(ys:List D) (j:Nat),(Cl j ys).length=ys.length
 | [],_=>rfl
 |y::ys,j=>by show(Cl (j + 1) ys).length + 1=_;rw[cx_9 ys (j + 1)];rfl
def bx_2(h:∀d∈xs,Hz d)(hl:xs.length<=1000)(a1 a2:Option D):Bx 2 (Ep (Ab 0)) (gC2 3 4) v_4 (Ab 3) [some (.lst xs),a1,a2]=.ok (.ow (.lst (((Cl 0 xs).filter (eP P1)).map eI))):=by
 refine j_9 (ds:=Cl 0 xs) rfl (by rw[cx_9];omega) (x_4 _ _ _ λe he=> ?_);obtain⟨k,hk⟩:=List.getElem?_of_mem he;obtain⟨x,hx,rfl⟩:=ek_8 hk;refine⟨[some (.lst xs),a1,a2,some (.int (k:Int)),some x],rfl, ?_,λ_=>⟨_,rfl,rfl⟩⟩
 simp![v_4,An,ez_0 (h x (B1 hx))]
 rfl
def dm_4(h:∀d∈xs,isKey d)(hl:xs.length<=1000)(a1 a2:Option D):Bx 2 (Ep (Ab 0)) (gC2 3 4) z_1 (Ab 3) [some (.lst xs),a1,a2]=.ok (.ow (.lst (((Cl 0 xs).filter (eP (P2 xs))).map eI))):=by
 refine j_9 (ds:=Cl 0 xs) rfl (by rw[cx_9];omega) (x_4 _ _ _ λe he=> ?_);obtain⟨k,hk⟩:=List.getElem?_of_mem he;obtain⟨x,hx,rfl⟩:=ek_8 hk;refine⟨[some (.lst xs),a1,a2,some (.int (k:Int)),some x],rfl, ?_,λ_=>⟨_,rfl,rfl⟩⟩;have hlt:k < xs.length:=(A5.mp hx).1;have hin:=ei_2 (h x (B1 hx)) (λy hy=>h y (Q6 hy):∀y∈xs.take k,isKey y);have hm:=dd_6 (h x (B1 hx)) (λy hy=>h y (Q6 hy):∀y∈xs.take k,isKey y)
 simp![z_1,An,Bs,am_1,cv_7 xs k (),hin]
 show R.ok (Dl x (xs.take k))=.ok (P2 xs (k:Int).toNat x);rw[K8]
 congr 1
 rw[O7,hm];exact decide_eq_true_iff.symm
def de_5(h1:1<=xs.length)(h2:xs.length<=200):Bq [0] (Fx (Ao (Aj ltD (Ah Cf #v[0]) (eC (.int 1)))) (Ao (Aj gtD (Ah Cf #v[0]) (eC (.int 200))))) (Am [] (Au #v[eC (.str "none"),eC (.int 0)])) Ba (Ar 3 [.lst xs])=.nx [.sh (.lst xs),.no,.no]:=by
 have c1:¬(xs.length:Int) < 1:=by omega
 have c2:¬(200:Int) < (xs.length:Int):=by omega
 simp![An,Fs,En,c1,M5,Gg,c2]
def ei_3(hk:∀k∈l,isKey k)(hd:badT d)(hn:¬isKey d)(hr:∀k∈r,Hz k)(h2:l.length + r.length < 200):o_1 [.lst (l ++ d::r)]=.ok (.ow (.lst [.str "key",.int (l.length:Int)])):=by
 have zm:(l ++ d::r).length=l.length + r.length + 1:=by simp;omega
 have t1:=de_5 (xs:=l ++ d::r) () ();have au:∀x∈l ++ d::r,Hz x:=λx hx=>by
  rcases F6.mp hx with z|z
  ·exact .inl (hk x z)
  ·rcases B3.mp z with rfl|z
   ·exact .inr hd
   ·exact hr x z
 obtain⟨t,ht⟩:=au_6 P1 d r l 0 (λk x e=>by unfold P1 kB;rw[D9 (hk x (B1 e))];rfl) (by unfold P1 kB;rw[D8 hn];rfl);obtain⟨b,hb,hne⟩:=de_4 P1 (l ++ d::r) ();have ec:=bx_2 au () none none;rw[ht,O9]at hb hne ec;have:b=false:=by
  cases b with
  |false=>rfl
  |true=>exact absurd (hb.mp rfl) (by simp)
 subst this;have t2:Al 1 [0] (Bx 2 (Ep (Ab 0)) (gC2 3 4) v_4 (Ab 3)) [.sh (.lst (l ++ d::r)),.no,.no]=.nx [.sh (.lst (l ++ d::r)),.ow (.lst (.int (l.length:Int)::t)),.no]:=by
  simp![An,ec]
 have x0:Bu (.lst (.int (l.length:Int)::t)) (.int 0)=.ok (.sh (.int (l.length:Int))):=Gd (Fd (i:=0) rfl);refine r_1 ?_;unfold aa_7;rw[Bn t1,Bn t2]
 simp![An,hne,Y0,x0]
end
open Classical
section
variable{xs l r:List D}{d:D}
def dx_9(hk:∀k∈xs,isKey k)(h1:1<=xs.length)(h2:xs.length<=200)(g:FS):Af (Bq [0] (Fx (Ao (Aj ltD (Ah Cf #v[0]) (eC (.int 1)))) (Ao (Aj gtD (Ah Cf #v[0]) (eC (.int 200))))) (Am [] (Au #v[eC (.str "none"),eC (.int 0)])) Ba)
  (Af (Al 1 [0] (Bx 2 (Ep (Ab 0)) (gC2 3 4) v_4 (Ab 3))) (Af (Bq [1] (Ao (Aj Fc (Ab 1) (Au Ac))) (Am [1] (Au #v[eC (.str "key"),Aj Bu (Ab 1) (eC (.int 0))])) Ba) (Af (Al 2 [0] (Bx 2 (Ep (Ab 0)) (gC2 3 4) z_1 (Ab 3))) g))) (Ar 3 [.lst xs])=g [.sh (.lst xs),.ow (.lst []),.ow (.lst (((Cl 0 xs).filter (eP (P2 xs))).map eI))]:=by
 have ec:=bx_2 (λd h=> .inl (hk d h)) () none none (xs:=xs);rw[bb_8 P1 xs 0 (λk x e=>by unfold P1 kB;rw[D9 (hk x (B1 e))];rfl),N7]at ec;have t2:Al 1 [0] (Bx 2 (Ep (Ab 0)) (gC2 3 4) v_4 (Ab 3)) [.sh (.lst xs),.no,.no]=.nx [.sh (.lst xs),.ow (.lst []),.no]:=by
  simp![An,ec]
 have nn:Fc (.lst []) (.lst [])=.ok (.sh (.bl false)):=rfl;have t3:Bq [1] (Ao (Aj Fc (Ab 1) (Au Ac))) (Am [1] (Au #v[eC (.str "key"),Aj Bu (Ab 1) (eC (.int 0))])) Ba [.sh (.lst xs),.ow (.lst []),.no]=.nx [.sh (.lst xs),.ow (.lst []),.no]:=by
  simp![An,nn]
 have t4:Al 2 [0] (Bx 2 (Ep (Ab 0)) (gC2 3 4) z_1 (Ab 3)) [.sh (.lst xs),.ow (.lst []),.no]=.nx [.sh (.lst xs),.ow (.lst []),.ow (.lst (((Cl 0 xs).filter (eP (P2 xs))).map eI))]:=by
  have e2:=dm_4 hk () none none
  simp![An,e2]
 rw[Bn (de_5 h1 h2),Bn t2,Bn t3,Bn t4]
def dm_5(hk:∀k∈l ++ d::r,isKey k)(nd:l.Nodup)(hd:d∈l)(h2:l.length + r.length < 200):o_1 [.lst (l ++ d::r)]=.ok (.ow (.lst [.str "twice",.int (l.length:Int)])):=by
 have zm:(l ++ d::r).length=l.length + r.length + 1:=by simp;omega
 obtain⟨t,ht⟩:=au_6 (P2 (l ++ d::r)) d r l 0 (λk x e=>by
  have hlt:k < l.length:=(A5.mp e).1;unfold P2;rw[O9,W3 ()];refine D8 λhm=> ?_;obtain⟨i,hi,e'⟩:=M8 hm;rw[G6]at hi;have hx':l[k]=x:=(A5.mp e).2;have:l[i]' ()=l[k]:=by rw[hx',<-e'];simp
  have:=dx_7 nd _ _ this;omega) (by unfold P2;rw[O9,List.take_left' rfl];exact D9 hd)
 obtain⟨b,hb,hne⟩:=de_4 (P2 (l ++ d::r)) (l ++ d::r) ();have hgo:=dx_9 hk () ();rw[ht,O9]at hb hne hgo;have:b=false:=by
  cases b with
  |false=>rfl
  |true=>exact absurd (hb.mp rfl) (by simp)
 subst this;have x0:Bu (.lst (.int (l.length:Int)::t)) (.int 0)=.ok (.sh (.int (l.length:Int))):=Gd (Fd (i:=0) rfl);refine r_1 ?_;unfold aa_7;rw[hgo]
 simp![An,hne,Y0,x0]
def dy_0(hk:∀k∈xs,isKey k)(nd:xs.Nodup)(h1:1<=xs.length)(h2:xs.length<=200):o_1 [.lst xs]=.ok (.ow (.lst [.str "good",.int 0])):=by
 have hgo:=dx_9 hk h1 h2;rw[bb_8 (P2 xs) xs 0 (λk x e=>by
  have hlt:k < xs.length:=(A5.mp e).1;unfold P2;rw[O9];refine D8 λhm=> ?_;obtain⟨i,hi,e'⟩:=M8 hm;rw[G6]at hi;have hx':xs[k]=x:=(A5.mp e).2;have:xs[i]' ()=xs[k]:=by rw[hx',<-e'];simp
  have:=dx_7 nd _ _ this;omega),N7]at hgo
 have nn:Fc (.lst []) (.lst [])=.ok (.sh (.bl false)):=rfl;refine r_1 ?_;unfold aa_7;rw[hgo]
 simp![An,nn]
end
section
variable{ks:List D}{x:Xn}{ii ik:Int}
def ei_4(hx:Hg [.lst ks]=.ex x)(salt ii:Int):u_6 [.lst ks,.int salt,.int ii]=.ex x:=by
 simp![u_6,cv_3,An,cn_8 hx]
def dy_1(hx:Hg [.lst ks]=.ex x)(ii ik:Int):Ga [.lst ks,.int ii,.int ik]=.ex x:=by
 simp![Ga,ad_2,An,hx,exG]
def ei_5{vs:D}(hx:Hg [.lst ks]=.ex x)(ii ik:Int):Hw [.lst ks,vs,.int 3,.int ii,.int ik]=.ex x:=by
 have q1:Al 6 [3] (At 1 q_0 #v[3]) (ai_0 8 "Kept" [.lst ks,vs,.int 3,.int ii,.int ik])=.nx [.lt (.obj "Kept" [] []),.sh (.lst ks),.sh vs,.sh (.int 3),.sh (.int ii),.sh (.int ik),.sh (.int (2 ^ 3)),.no]:=by
  have:At 1 q_0 #v[3] (Bg (ai_0 8 "Kept" [.lst ks,vs,.int 3,.int ii,.int ik]))=.ok (.sh (.int (2 ^ 3))):=q_6 3 ();unfold Al;rw[this];rfl
 have q2:Dq 0 La "how_many" [1] (At 1 Hg #v[1]) [.lt (.obj "Kept" [] []),.sh (.lst ks),.sh vs,.sh (.int 3),.sh (.int ii),.sh (.int ik),.sh (.int (2 ^ 3)),.no]=.ex x [.lt (.obj "Kept" [] []),.sh (.lst ks),.sh vs,.sh (.int 3),.sh (.int ii),.sh (.int ik),.sh (.int (2 ^ 3)),.no]:=by
  have:At 1 Hg #v[1] (Bg (gsome [1] [.lt (.obj "Kept" [] []),.sh (.lst ks),.sh vs,.sh (.int 3),.sh (.int ii),.sh (.int ik),.sh (.int (2 ^ 3)),.no]))=.ex x:=hx;unfold Dq;rw[this];rfl
 unfold Hw AJ aj_8;rw[Bn q1];unfold Af;rw[q2]
def rep1(n:Nat)(h:n<=1000):repD [.int 1] (.int (n:Int))=.ok (.ow (.lst ((List.replicate n (1:Int)).map .int))):=by
 unfold repD;simp only;rw[if_pos ⟨by omega,by simp;omega⟩,K8]
 congr 3
 induction n with
 |zero=>rfl
 |succ n ih=>rw[F3,I0,ih (),F3];rfl
def de_6{c:Str}{n:Nat}{I:List D->R (List Str×List D)}{fa:FA}{δ:DE}{ds:List D}(ha:fa δ=.ok ds)(hl:ds.length=n)(h:I ds=.ex x):Fp c n I fa δ=.ex x:=by
 unfold Fp;rw[ha,R.bind_ok,if_pos hl,h];rfl
def de_7{c:Str}{n:Nat}{I:List D->R (List Str×List D)}{fa:FA}{δ:DE}{ds:List D}{p:List Str×List D}(ha:fa δ=.ok ds)(hl:ds.length=n)(h:I ds=.ok p):Fp c n I fa δ=.ok (.sh (.obj c p.1 p.2)):=by
 unfold Fp;rw[ha,R.bind_ok,if_pos hl,h];rfl
def u_1{js:List Nat}{f:FE}{Δ:SE}{x:Xn}(hv:Aw Δ=Bg Δ)(hg:gsome js Δ=Δ)(h:f (Bg Δ)=.ex x):Bj js f Δ=.ex x Δ:=by
 unfold Bj;rw[hv,h];simp only[exG,hg,h]
def x_8{js:List Nat}{f:FE}{Δ:SE}{x:Xn}(hv:Aw Δ=Bg Δ)(hg:gsome js Δ=Δ)(h:f (Bg Δ)=.ex x):Am js f Δ=.ex x Δ:=by
 unfold Am;rw[hv,h];simp only[exG,hg,h]
abbrev stW(ks:List D)(ii ik w:Int):SE:=[.sh (.lst ks),.sh (.int ii),.sh (.int ik),.sh (.int w)]
def Ex(k w:Int)(g h:FS):Bq [3] (Ao (Aj By (Ab 3) (eC (.int k)))) g h (stW ks ii ik w)=if w=k then g (stW ks ii ik w) else h (stW ks ii ik w):=by
 by_cases e:w=k
 ·simp![An,l_3,e,N0]
 ·simp![An,l_3,e,M5]
def be_1(ks:List D)(ii ik:Int):Nat->Fl->Prop
 |0,r=>Bj [0,1] (At 3 l_0 #v[0,eC (.int 0),1]) (stW ks ii ik 0)=r
 |1,r=>Bj [0,1] (At 3 u_6 #v[0,eC (.int 0),1]) (stW ks ii ik 1)=r
 |2,r=>Bj [0,1,2] (At 3 Ga #v[0,1,2]) (stW ks ii ik 2)=r
 |3,r=>Am [0,1,2] (Fp "Peeled" 3 z_2 #v[0,1,2]) (stW ks ii ik 3)=r
 |4,r=>Am [0,1,2] (Fp "Ordered" 3 x_7 #v[0,1,2]) (stW ks ii ik 4)=r
 |5,r=>Am [0,1,2] (Fp "Kept" 5 Hw #v[0,eRep #v[eC (.int 1)] (Ah Cf #v[0]),eC (.int 3),1,2]) (stW ks ii ik 5)=r
 |_,r=>Am [0,1,2] (Fp "Marked" 4 ab_6 #v[0,eC (.int 8),1,2]) (stW ks ii ik 6)=r
def ad_7{r:Fl}{w:Nat}(hw:w < 7)(h:be_1 ks ii ik w r):f_0 [.lst ks,.int ii,.int ik,.int (w:Int)]=(match r with| .nx _=> .ok (.sh .non)| .rt v=> .ok v| .ex x _=> .ex x|_=> .no):=by
 have key:∀B:FS,B (stW ks ii ik (w:Int))=r->Ag 4 (Af B (Am [] (eC .non))) [.lst ks,.int ii,.int ik,.int (w:Int)]=(match r with| .nx _=> .ok (.sh .non)| .rt v=> .ok v| .ex x _=> .ex x|_=> .no):=λB e=>by
  unfold Ag Af;rw[show Ar 4 [.lst ks,.int ii,.int ik,.int (w:Int)]=stW ks ii ik (w:Int) from rfl,e];cases r <;> rfl
 refine key _ ?_;rcases(show w=0\/w=1\/w=2\/w=3\/w=4\/w=5\/w=6 by omega) with rfl|rfl|rfl|rfl|rfl|rfl|rfl
 ·rw[Ex,if_pos ⋯];exact h
 ·rw[Ex,if_neg ⋯,Ex,if_pos ⋯];exact h
 ·rw[Ex,if_neg ⋯,Ex,if_neg ⋯,Ex,if_pos ⋯];exact h
 ·rw[Ex,if_neg ⋯,Ex,if_neg ⋯,Ex,if_neg ⋯,Ex,if_pos ⋯];exact h
 ·rw[Ex,if_neg ⋯,Ex,if_neg ⋯,Ex,if_neg ⋯,Ex,if_neg ⋯,Ex,if_pos ⋯];exact h
 ·rw[Ex,if_neg ⋯,Ex,if_neg ⋯,Ex,if_neg ⋯,Ex,if_neg ⋯,Ex,if_neg ⋯,Ex,if_pos ⋯];exact h
 ·rw[Ex,if_neg ⋯,Ex,if_neg ⋯,Ex,if_neg ⋯,Ex,if_neg ⋯,Ex,if_neg ⋯,Ex,if_neg ⋯,Ex,if_pos ⋯];exact h
def bx_3(hn:ks.length<=1000)(w:Int):Aa (Ab 0) #v[eRep #v[eC (.int 1)] (Ah Cf #v[0]),eC (.int 3),1,2] (Bg (stW ks ii ik w))=.ok [.lst ks,.lst ((List.replicate ks.length (1:Int)).map .int),.int 3,.int ii,.int ik]:=by
 simp![An,eRep,Fs,rep1 _ hn]
def dy_2(hn:ks.length<=1000)(w:Nat)(hw:w < 7)
  (h0:w=0->l_0 [.lst ks,.int 0,.int ii]=.ex x) (h1:w=1->u_6 [.lst ks,.int 0,.int ii]=.ex x) (h2:2<=w->Ga [.lst ks,.int ii,.int ik]=.ex x)
  (h5:w=5->Hw [.lst ks,.lst ((List.replicate ks.length (1:Int)).map .int),.int 3,.int ii,.int ik]=.ex x):f_0 [.lst ks,.int ii,.int ik,.int (w:Int)]=.ex x:=by
 refine ad_7 (r:=.ex x (stW ks ii ik (w:Int))) hw ?_;rcases(show w=0\/w=1\/w=2\/w=3\/w=4\/w=5\/w=6 by omega) with rfl|rfl|rfl|rfl|rfl|rfl|rfl
 ·exact u_1 rfl rfl (h0 rfl)
 ·exact u_1 rfl rfl (h1 rfl)
 ·exact u_1 rfl rfl (h2 ())
 ·exact x_8 rfl rfl (de_6 rfl rfl (es_6 (h2 ())))
 ·exact x_8 rfl rfl (de_6 rfl rfl (es_7 (h2 ())))
 ·exact x_8 rfl rfl (de_6 (bx_3 hn _) rfl (h5 rfl))
 ·exact x_8 rfl rfl (de_6 rfl rfl (dl_7 8 (h2 ())))
def ce_0(hn:ks.length<=1000)(hx:Hg [.lst ks]=.ex x)(w:Nat)(hw:w < 7):f_0 [.lst ks,.int ii,.int ik,.int (w:Int)]=.ex x:=
 dy_2 hn w hw (λ_=>cn_8 hx _ _) (λ_=>ei_4 hx _ _) (λ_=>dy_1 hx _ _) (λ_=>ei_5 hx _ _)
end
section
variable{ks:List D}{ii ik w:Int}
abbrev stA(ks:List D)(ii ik w:Int)(a4:Sl)(t:D):SE:=[.sh (.lst ks),.sh (.int ii),.sh (.int ik),.sh (.int w),a4,.ow t,.sh (.bl false),.no]
def ao_2{a4:Sl}{c:Str}{n:Int}(ha:a4=.sh (.lst ks)\/a4=.ow (.lst ks))(ok:Fw 1 (.lst ks)=true)(h:Gc q_5 [⟨some 7, L97,ar_2⟩,⟨some 7, L98,ar_3⟩,⟨some 7, J10,ar_4⟩,⟨some 7, J11,ar_5⟩] (stA ks ii ik w (.ow (.lst ks)) (.lst [.str "good",.int 0]))=.nx (stA ks ii ik w a4 (.lst [.str c,.int n]))):
  He [.lst ks,.int ii,.int ik,.int w]=.ok (.ow (.lst [.str c,.int n])):=by
 have hn:=ax_4 1 ok;have x1:Bu (.lst [.str c,.int n]) (.int 1)=.ok (.sh (.int n)):=Gd (Fd (i:=1) rfl);refine r_1 ?_;unfold bd_3;refine(Bn (Δ':=[.sh (.lst ks),.sh (.int ii),.sh (.int ik),.sh (.int w),.ow (.lst ks),.no,.no,.no]) (by simp![An,at_2])).trans ?_;refine(Bn (Δ':=[.sh (.lst ks),.sh (.int ii),.sh (.int ik),.sh (.int w),.ow (.lst ks),.ow (.lst [.str "good",.int 0]),.no,.no]) (by simp![An])).trans ?_;refine(Bn (Δ':=stA ks ii ik w (.ow (.lst ks)) (.lst [.str "good",.int 0])) (by simp![An])).trans ?_;refine(Bn h).trans ?_;rcases ha with rfl|rfl
 ·refine(Bn (by simp![An,hn,x1];rfl)).trans ?_;rfl
 ·refine(Bn (by simp![An,hn,x1];rfl)).trans ?_;rfl
def ay_3{x:Xn}(h:f_0 [.lst ks,.int ii,.int ik,.int w]=.ex x):q_5 (stA ks ii ik w (.ow (.lst ks)) (.lst [.str "good",.int 0]))=.ex x (stA ks ii ik w (.sh (.lst ks)) (.lst [.str "good",.int 0])):=by
 simp![q_5,An,h,exG]
def au_7{v:W}(ok:Fw 1 (.lst ks)=true)(h:f_0 [.lst ks,.int ii,.int ik,.int w]=.ok v):He [.lst ks,.int ii,.int ik,.int w]=.ok (.ow (.lst [.str "good",.int 0])):=by
 refine ao_2 (a4:=.ow (.lst ks)) (.inr rfl) ok ?_;have hb:q_5 (stA ks ii ik w (.ow (.lst ks)) (.lst [.str "good",.int 0]))=.nx (stA ks ii ik w (.ow (.lst ks)) (.lst [.str "good",.int 0])):=by
  simp![q_5,An,h]
 unfold Gc;rw[hb]
def ei_6{n:Int}(ok:Fw 1 (.lst ks)=true)(h:f_0 [.lst ks,.int ii,.int ik,.int w]=.ex ⟨"NoKey",["at"],[.int n]⟩):He [.lst ks,.int ii,.int ik,.int w]=.ok (.ow (.lst [.str "key",.int n])):=by
 refine ao_2 (a4:=.sh (.lst ks)) (.inl rfl) ok ?_;unfold Gc;rw[ay_3 h];rfl
def dy_3(ok:Fw 1 (.lst ks)=true)(h:f_0 [.lst ks,.int ii,.int ik,.int w]=.ex ⟨"NoKeys",[],[]⟩):He [.lst ks,.int ii,.int ik,.int w]=.ok (.ow (.lst [.str "none",.int 0])):=by
 refine ao_2 (a4:=.sh (.lst ks)) (.inl rfl) ok ?_;unfold Gc;rw[ay_3 h];rfl
def ei_7(ok:Fw 1 (.lst ks)=true)(h:f_0 [.lst ks,.int ii,.int ik,.int w]=.ex cx_0):He [.lst ks,.int ii,.int ik,.int w]=.ok (.ow (.lst [.str "try",.int 0])):=by
 refine ao_2 (a4:=.sh (.lst ks)) (.inl rfl) ok ?_;unfold Gc;rw[ay_3 h];rfl
def dm_6{n:Int}(ok:Fw 1 (.lst ks)=true)(h:f_0 [.lst ks,.int ii,.int ik,.int w]=.ex ⟨"Twice",["at"],[.int n]⟩):He [.lst ks,.int ii,.int ik,.int w]=.ok (.ow (.lst [.str "twice",.int n])):=by
 refine ao_2 (a4:=.sh (.lst ks)) (.inl rfl) ok ?_;unfold Gc;rw[ay_3 h];rfl
end
section
variable{ks:List D}{ii ik:Int}
def hz{n k:Nat}{d:D}(e:(De 0 n)[k]? =some d):k < n/\d=.int (k:Int):=by
 unfold De at e;rw[A8]at e
 by_cases z:k < n
 ·rw[M7 z]at e;simp only[L5,P6,Option.some.injEq]at e;exact⟨z,e.symm⟩
 ·rw[J7 (by simp;omega)]at e;cases e
def bn_0{due ai:D}{a4:Sl}(h4:a4.any=some ai)(o1:Fw 1 due=true)(o2:Fw 1 ai=true)(ha:∀w:Nat,w < 7->He [.lst ks,.int ii,.int ik,.int (w:Int)]=.ok (.ow (if w<=1 then due else ai))):
  ∃a5,Cb [] (Bf Dd #v[eC (.int 7)]) (gV 5) y_5 [.sh (.lst ks),.sh (.int ii),.sh (.int ik),.sh due,a4,.no]=.nx [.sh (.lst ks),.sh (.int ii),.sh (.int ik),.sh due,a4,a5]:=by
 obtain⟨Δ',e,a5,rfl⟩:=g_1 (gV 5) y_5 (λ_ Δ=>∃a5,Δ= [.sh (.lst ks),.sh (.int ii),.sh (.int ik),.sh due,a4,a5]) (ds:=De 0 7) (Δ:=[.sh (.lst ks),.sh (.int ii),.sh (.int ik),.sh due,a4,.no]) ⟨_,rfl⟩ (λk d Δ hd hI=>by
  obtain⟨a5,rfl⟩:=hI;obtain⟨h7,rfl⟩:=hz hd;refine⟨[.sh (.lst ks),.sh (.int ii),.sh (.int ik),.sh due,a4,.sh (.int (k:Int))],rfl,[.sh (.lst ks),.sh (.int ii),.sh (.int ik),.sh due,a4,.sh (.int (k:Int))],.inl ?_,_,rfl⟩;have ht:Ao (Aj Fc (At 4 He #v[0,1,2,5]) (Aj Bu (Au #v[3,4]) (Ah Fa #v[Aj gtD (Ab 5) (eC (.int 1))]))) (Aw [.sh (.lst ks),.sh (.int ii),.sh (.int ik),.sh due,a4,.sh (.int (k:Int))])=.ok false:=by
   show Ao (Aj Fc (At 4 He #v[0,1,2,5]) (Aj Bu (Au #v[3,4]) (Ah Fa #v[Aj gtD (Ab 5) (eC (.int 1))]))) [some (.lst ks),some (.int ii),some (.int ik),some due,a4.any,some (.int (k:Int))]=_;rw[h4];have hk:=ha k h7;have i0:Fa [.bl false]=.ok (.sh (.int 0)):=rfl;have i1:Fa [.bl true]=.ok (.sh (.int 1)):=rfl;have x0:Bu (.lst [due,ai]) (.int 0)=.ok (.sh due):=Gd (Fd (i:=0) rfl);have x1:Bu (.lst [due,ai]) (.int 1)=.ok (.sh ai):=Gd (Fd (i:=1) rfl)
   by_cases c:k<=1
   ·rw[if_pos c]at hk;have c':¬(1:Int) < (k:Int):=by omega
    simp![An,hk,Gg,c',M5,i0,x0,ax_4 1 o1]
   ·rw[if_neg c]at hk;have c':(1:Int) < (k:Int):=by omega
    simp![An,hk,Gg,c',N0,i1,x1,ax_4 1 o2]
  unfold y_5 Bq;rw[ht];rfl)
 refine⟨a5, ?_⟩;unfold Cb;rw[show Bf Dd #v[eC (.int 7)] (Bg (gsome [] [.sh (.lst ks),.sh (.int ii),.sh (.int ik),.sh due,a4,.no]))=.ok (De 0 7) from rfl];exact e
def bb_9{due:D}(nf:Bd due=false)(o1:Fw 1 due=true)(hd:o_1 [.lst ks]=.ok (.ow due))(he:By due (.lst [.str "good",.int 0])=.ok (.sh (.bl false)))(ha:∀w:Nat,w < 7->He [.lst ks,.int ii,.int ik,.int (w:Int)]=.ok (.ow due)):m_3 [.lst ks,.int ii,.int ik]=.ok (.sh (.bl true)):=by
 obtain⟨a5,hl⟩:=bn_0 (a4:=.sh due) (due:=due) rfl o1 o1 (λw hw=>by rw[ha w hw,ite_self]);refine r_1 ?_;unfold an_4;refine(Bn (Δ':=[.sh (.lst ks),.sh (.int ii),.sh (.int ik),.ow due,.no,.no]) (by simp![An,hd])).trans ?_;refine(Bn (Δ':=[.sh (.lst ks),.sh (.int ii),.sh (.int ik),.sh due,.sh due,.no]) (by simp![An,nf])).trans ?_;refine(Bn (Δ':=[.sh (.lst ks),.sh (.int ii),.sh (.int ik),.sh due,.sh due,.no]) (by simp![An,he])).trans ?_;refine(Bn hl).trans ?_;rfl
def bn_1{t:Str}(ht:t= "good" \/t= "try")(hd:o_1 [.lst ks]=.ok (.ow (.lst [.str "good",.int 0])))(ha:∀w:Nat,w < 7->He [.lst ks,.int ii,.int ik,.int (w:Int)]=.ok (.ow (if w<=1 then .lst [.str "good",.int 0] else .lst [.str t,.int 0]))):m_3 [.lst ks,.int ii,.int ik]=.ok (.sh (.bl true)):=by
 have o1:Fw 1 (.lst [.str "good",.int 0])=true:=by decide +kernel
 have o2:Fw 1 (.lst [.str t,.int 0])=true:=by rcases ht with rfl|rfl <;> decide +kernel
 have hi:inQ (.lst [.str t,.int 0]) (.lst [.lst [.str "good",.int 0],.lst [.str "try",.int 0]])=.ok (.sh (.bl false)):=by rcases ht with rfl|rfl <;> rfl'
 have he:=cm_6 1 o1;have a2:=ha 2 ();rw[if_neg ()]at a2;obtain⟨a5,hl⟩:=bn_0 (a4:=.ow (.lst [.str t,.int 0])) (due:=.lst [.str "good",.int 0]) rfl o1 o2 ha;refine r_1 ?_;unfold an_4;refine(Bn (Δ':=[.sh (.lst ks),.sh (.int ii),.sh (.int ik),.ow (.lst [.str "good",.int 0]),.no,.no]) (by simp![An,hd])).trans ?_;refine(Bn (Δ':=[.sh (.lst ks),.sh (.int ii),.sh (.int ik),.sh (.lst [.str "good",.int 0]),.sh (.lst [.str "good",.int 0]),.no]) (by simp![An])).trans ?_;have a2':He [.lst ks,.int ii,.int ik,.int 2]=.ok (.ow (.lst [.str t,.int 0])):=a2;refine(Bn (Δ':=[.sh (.lst ks),.sh (.int ii),.sh (.int ik),.sh (.lst [.str "good",.int 0]),.ow (.lst [.str t,.int 0]),.no]) (by simp![An,he,a2',hi])).trans ?_;refine(Bn hl).trans ?_;rfl
def dm_7{xs:List D}(h:∀d∈xs,Hz d)(hl:xs.length<=1000)(ii ik:Int):m_3 [.lst xs,.int ii,.int ik]=.ok (.sh (.bl true))\/((∀d∈xs,isKey d)/\xs.Nodup/\1<=xs.length/\xs.length<=200):=by
 have ok:=bx_0 h
 by_cases hn:xs.length < 1\/200 < xs.length
 ·exact .inl (bb_9 rfl nofun (dx_8 hn) ∅ λw hw=>dy_3 ok (ce_0 hl (dm_3 hn) w hw))
 ·have h1:1<=xs.length:=by omega
  have h2:xs.length<=200:=by omega
  have okl:∀(c:Str) (n:Nat),Fw 0 (.str c)=true->Fw 1 (.lst [.str c,.int (n:Int)])=true:=λc n z=>by
   show([D.str c,.int (n:Int)].all (Fw 0))=true;simp only[Q8,List.all_nil,z,Bool.and_true];rfl
  rcases bx_1 h with hk|⟨l,d,r,rfl,hk,hd,hr⟩
  ·rcases cp_2 xs with nd|⟨l,d,r,rfl,nd,hd⟩
   ·exact .inr ⟨hk,nd,h1,h2⟩
   ·have zm:l.length + r.length < 200:=by simp at h2;omega
    exact .inl (bb_9 rfl (okl "twice" _ nofun) (dm_5 hk nd hd zm) ∅ λw hw=>dm_6 ok (ce_0 hl (cx_8 hk nd hd zm) w hw))
  ·have zm:l.length + r.length < 200:=by simp at h2;omega
   have hnk:¬isKey d:=λz=>by
    have:=bm_9 z;rw[hd.2.2]at this;cases this
   exact .inl (bb_9 rfl (okl "key" _ nofun) (ei_3 hk hd hnk hr zm) ∅ λw hw=>ei_6 ok (ce_0 hl (eg_6 hk hd.1 zm) w hw))
end
section
variable{d M:D}{n s ii ij m w:Int}{T:List Int}{u:Str}{x:Xn}
def cp_4(h:Hj d):aa_5 [d]=.ex (Fv 0):=by
 simp![aa_5,bh_7,An,bw_2 h,w_3,Fv]
 rfl
def bx_4(h:Hj d)(s ii ij:Int):e_5 [d,.int s,.int ii,.int ij]=.ex (Fv 0):=by
 simp![e_5,an_2,An,cp_4 h]
def ei_8(h:Hj d)(w:Int):Hr [d,.int w]=.ex (Fv 0):=by
 simp![Hr,cv_4,An,cp_4 h,exG]
def l_4{n:Nat}{g:FS}{ds:List D}{x:Xn}{Δ:SE}(e:g (Ar n ds)=.ex x Δ):Ag n g ds=.ex x:=by unfold Ag;rw[e]
def de_8{f:FE}{fa:FA}{δ:DE}(h:f δ=.ex x):Aa f fa δ=.ex x:=by unfold Aa;rw[h];rfl
def dy_4{f:FE}{fa:FA}{δ:DE}{v:W}(h:f δ=.ok v)(h2:fa δ=.ex x):Aa f fa δ=.ex x:=by unfold Aa;rw[h,R.bind_ok,h2];rfl
def de_9(h:Hj d):d_4 [Ck s ii ij m T,d]=.ex (Fv 0):=by
 simp![d_4,ab_7,An,co_4,co_5,co_6,bx_4 h,exG]
def ei_9(h:Hj d):h_8 [Ck s ii ij m T,d]=.ex (Fv 0):=by
 refine l_4 (Δ:=Ar 2 [Ck s ii ij m T,d]) (x_8 rfl rfl ?_);have hm:Bp "places" 1 [("Table",d_4)] (Ab 0) #v[1] [some (Ck s ii ij m T),some d]=.ex (Fv 0):=(Ds rfl ∅ ∅ (Ab 0) _ _ [d] rfl rfl rfl).trans (de_9 h);unfold At;rw[show Bg (Ar 2 [Ck s ii ij m T,d])= [some (Ck s ii ij m T),some d] from rfl,dy_4 (cx_2 s ii ij m T [some d]) (de_8 hm)];rfl
def dy_5{r:List (Option D)}(o:Hh M s ii ij m T){nm:Str}{F:AF}(hn:(Lg:List Str).contains nm=false)(hF:F [Ck s ii ij m T,d]=.ex x):Bp nm 1 [("Table",F)] (Bz C8 "own_table" (Ab 0)) #v[1] (some M::some d::r)=.ex x:=
 (Ds rfl hn (dw_8 F) (Bz C8 "own_table" (Ab 0)) #v[1] (some M::some d::r) [d] (o (Ab 0) _ rfl) rfl rfl).trans hF
def cy_0(h:Hj d)(o:Hh M s ii ij m T)(r:List (Option D)):Bp "total" 1 [("Table",h_8)] (Bz C8 "own_table" (Ab 0)) #v[1] (some M::some d::r)=.ex (Fv 0):=dy_5 o nofun (ei_9 h)
def df_0(h:Hj d)(o:Hh M s ii ij m T)(r:List (Option D)):Bp "places" 1 [("Table",d_4)] (Bz C8 "own_table" (Ab 0)) #v[1] (some M::some d::r)=.ex (Fv 0):=dy_5 o bw_9 (de_9 h)
def ce_1(h:Hj d)(o:Hh M s ii ij m T):b_3 [M,d]=.ex (Fv 0):=l_4 (x_8 (Δ:=Ar 2 [M,d]) rfl rfl (df_0 h o []))
def dy_6(h:Hj d)(o:Hh M s ii ij m T):d_0 [M,d]=.ex (Fv 0):=l_4 (x_8 (Δ:=Ar 2 [M,d]) rfl rfl (df_0 h o []))
def dy_7(h:Hj d)(o:Hh M s ii ij m T):e_3 [M,d]=.ex (Fv 0):=l_4 (x_8 (Δ:=Ar 2 [M,d]) rfl rfl (df_0 h o []))
def dy_8(h:Hj d)(o:Hh M s ii ij m T):d_7 [M,d]=.ex (Fv 0):=l_4 (x_8 (Δ:=Ar 2 [M,d]) rfl rfl (df_0 h o []))
def dy_9(h:Hj d)(o:Hh M s ii ij m T):h_1 [M,d]=.ex (Fv 0):=l_4 (x_8 (Δ:=Ar 2 [M,d]) rfl rfl (cy_0 h o []))
def df_1(h:Hj d)(o:Hh M s ii ij m T):c_5 [M,d]=.ex (Fv 0):=l_4 (x_8 (Δ:=Ar 2 [M,d]) rfl rfl (cy_0 h o []))
def ek_9{op:D->D->R W}{f g:FE}{δ:DE}(h:f δ=.ex x):Aj op f g δ=.ex x:=by unfold Aj;rw[h];rfl
def dz_0(h:Hj d)(o:Hh M s ii ij m T):e_7 [M,d]=.ex (Fv 0):=l_4 (x_8 (Δ:=Ar 2 [M,d]) rfl rfl (ek_9 (cy_0 h o [])))
def df_2(hp:Bp "places" 1 tbQ (Ab 0) #v[1] [some M,some d,none]=.ex x):d_1 [M,d]=.ex x:=by
 refine l_4 (Δ:=Ar 3 [M,d]) ?_;unfold ab_8 Af;have:∀g:FE,Al 2 [0,1] (Aj Bu (Bp "places" 1 tbQ (Ab 0) #v[1]) g) (Ar 3 [M,d])=.ex x (Ar 3 [M,d]):=λg=>by
  unfold Al;rw[show Bg (Ar 3 [M,d])= [some M,some d,none] from rfl,ek_9 hp]
 rw[this]
def bi_2(hp:Bp "number_of" 1 tbN (Ab 0) #v[1] [some M,some d]=.ex x):b_4 [M,d]=.ex x:=by
 refine l_4 (x_8 (Δ:=Ar 2 [M,d]) rfl rfl ?_);unfold Ah;rw[show Bg (Ar 2 [M,d])= [some M,some d] from rfl,de_8 hp];rfl
def ay_4(h:Hj d):b_7 [M,.lst [.int 3,.str "b",d,.int (0 - 1)]]=.ex (Fv 2):=by
 have he:=cn_6 (l:=[.int 3,.str "b"]) (r:=[.int (0 - 1)]) (λk hk=>by
  rcases B3.mp hk with rfl|hk
  ·exact .inl ⟨3,rfl,by decide,by decide⟩
  ·rw[F7.mp hk];exact .inr ⟨[98],rfl,by decide,by decide⟩) h
 refine l_4 (Δ:=Ar 2 [M,.lst [.int 3,.str "b",d,.int (0 - 1)]]) ?_;unfold an_5 Af;rw[u_1 (x:=Fv 2) rfl rfl he]
abbrev stD(M d:D)(nm:Str):SE:=[.sh M,.sh d,.sh (.str nm)]
def Fh(k nm:Str)(g h:FS):Bq [2] (Ao (Aj By (Ab 2) (eC (.str k)))) g h (stD M d nm)=if nm=k then g (stD M d nm) else h (stD M d nm):=by
 by_cases e:nm=k
 ·simp![An,bh_4,e,N0]
 ·simp![An,bh_4,e,M5]
def dm_8(h:Hr [d,.int 8]=.ex x):i_8 [M,d,.str "mark"]=.ex x:=by
 refine l_4 (Δ:=stD M d "mark") ((Fh _ _ _ _).trans ?_);rw[if_pos rfl];exact u_1 rfl rfl h
def dz_1(h:e_5 [d,.int 0,.int 2,.int 5]=.ex x):i_8 [M,d,.str "places_of"]=.ex x:=by
 refine l_4 (Δ:=stD M d "places_of") ((Fh _ _ _ _).trans ?_);rw[if_neg nofun,Fh,if_pos rfl];exact u_1 rfl rfl h
def ap_8(h:Bp "room" 1 tbR (Ab 0) #v[1] (Bg (stD M d "room"))=.ex x):i_8 [M,d,.str "room"]=.ex x:=by
 refine l_4 (Δ:=stD M d "room") ((Fh _ _ _ _).trans ?_);rw[if_neg nofun,Fh,if_neg nofun,Fh,if_pos rfl];exact u_1 rfl rfl h
def aj_0(h:Bp "rooms" 1 tbRs (Ab 0) #v[Au #v[eC (.int 3),eC (.str "b"),1,Aj Es (eC (.int 0)) (eC (.int 1))]] (Bg (stD M d "rooms"))=.ex x):i_8 [M,d,.str "rooms"]=.ex x:=by
 refine l_4 (Δ:=stD M d "rooms") ((Fh _ _ _ _).trans ?_);rw[if_neg nofun,Fh,if_neg nofun,Fh,if_neg nofun,Fh,if_pos rfl];exact u_1 rfl rfl h
def o_9(h:Bp "places" 1 tbP (Ab 0) #v[1] (Bg (stD M d "places"))=.ex x):i_8 [M,d,.str "places"]=.ex x:=by
 refine l_4 (Δ:=stD M d "places") ((Fh _ _ _ _).trans ?_);rw[if_neg nofun,Fh,if_neg nofun,Fh,if_neg nofun,Fh,if_neg nofun,Fh,if_pos rfl];exact u_1 rfl rfl h
def bn_2(h:Bp "value" 1 J29 (Ab 0) #v[1] (Bg (stD M d "value"))=.ex x):i_8 [M,d,.str "value"]=.ex x:=by
 refine l_4 (Δ:=stD M d "value") ((Fh _ _ _ _).trans ?_);rw[if_neg nofun,Fh,if_neg nofun,Fh,if_neg nofun,Fh,if_neg nofun,Fh,if_neg nofun,Fh,if_pos rfl];exact u_1 rfl rfl h
def bn_3(h:Bp "knows" 1 J27 (Ab 0) #v[1] (Bg (stD M d "knows"))=.ex x):i_8 [M,d,.str "knows"]=.ex x:=by
 refine l_4 (Δ:=stD M d "knows") ((Fh _ _ _ _).trans ?_);rw[if_neg nofun,Fh,if_neg nofun,Fh,if_neg nofun,Fh,if_neg nofun,Fh,if_neg nofun,Fh,if_neg nofun];exact u_1 rfl rfl h
def df_3{nm:Str}{k:Nat}(h:i_8 [M,d,.str nm]=.ex (Fv k))(hx:Bu (.lst [.int 0,.int 2]) (.int (if nm= "rooms" then 1 else 0))=.ok (.sh (.int (k:Int)))):g_4 [M,d,.str nm]=.ok (.sh (.bl true)):=by
 have hb:ai_4 [.sh M,.sh d,.sh (.str nm),.sh .non,.no]=.ex (Fv k) [.sh M,.sh d,.sh (.str nm),.sh .non,.no]:=u_1 rfl rfl h;have s2:Gc ai_4 [⟨some 4, L97,ax_2⟩] [.sh M,.sh d,.sh (.str nm),.sh .non,.no]=.nx [.sh M,.sh d,.sh (.str nm),.ow (.lst [.int (k:Int),.bl false]),.no]:=by
  unfold Gc;rw[hb];rfl
 have he:By (.lst [.int (k:Int),.bl false]) (.lst [.int (k:Int),.bl false])=.ok (.sh (.bl true)):=cm_6 1 rfl;have hi:Fa [.bl (decide (nm= "rooms"))]=.ok (.sh (.int (if nm= "rooms" then 1 else 0))):=by
  by_cases e:nm= "rooms"
  ·rw[D9 e,if_pos e];rfl
  ·rw[D8 e,if_neg e];rfl
 have x0:Bu (.lst [.int (k:Int),.bl false]) (.int 0)=.ok (.sh (.int (k:Int))):=Gd (Fd (i:=0) rfl);refine r_1 ?_;unfold bl_2;rw[Bn (show Al 3 [] (eC .non) (Ar 5 [M,d,.str nm])=.nx [.sh M,.sh d,.sh (.str nm),.sh .non,.no] from rfl),Bn s2]
 simp![An,bh_4,hi,hx,he,x0]
def x_2{nm:Str}(hn:nm≠ "rooms")(h:i_8 [M,d,.str nm]=.ex (Fv 0)):g_4 [M,d,.str nm]=.ok (.sh (.bl true)):=df_3 h (by rw[if_neg hn];exact Gd (Fd (i:=0) rfl))
def df_4(h:i_8 [M,d,.str "rooms"]=.ex (Fv 2)):g_4 [M,d,.str "rooms"]=.ok (.sh (.bl true)):=df_3 h (by rw[if_pos rfl];exact Gd (Fd (i:=1) rfl))
end
def wOk(i:Nat):Bool:=match o_7 [.int (i:Int)] with
 | .ok (.sh (.int z))=>decide (1<=z.toNat/\z.toNat<=6/\i<=2 ^ z.toNat/\(z.toNat:Int)=z)
 |_=>false
def df_5(n:Nat)(h1:1<=n)(h2:n<=40):∃w:Nat,1<=w/\w<=6/\n<=2 ^ w/\o_7 [.int (n:Int)]=.ok (.sh (.int (w:Int))):=by
 have h:wOk (n - 1 + 1)=true:=E9.mp (show((List.range 40).all λi=>wOk (i + 1))=true by rfl') (n - 1) (J9.mpr ());rw[Nat.sub_add_cancel h1]at h;unfold wOk at h
 split at h
 ·rename_i z e;obtain⟨a,b,c,d⟩:=K0 h;exact⟨_,a,b,c,by rw[e,d]⟩
 ·cases h
def bi_3{N:Nat}(h:N<=40){ii:Int}(hk:ii=2\/ii=3):Br (N:Int) ii<=50:=by
 unfold Br;rcases hk with rfl|rfl
 ·rw[if_pos ⋯];omega
 ·rw[if_neg ⋯];omega
def Hse(ks:List D)(ii ik:Int)(w:Nat)(drs:List Str):Prop:=∃M M' Z,f_0 [.lst ks,.int ii,.int ik,.int (w:Int)]=.ok (.sh M)/\g_2 [M]=.ok (.sh Z)/\h_9 [Z]=.ok (.sh M')/\
 ∀d,Hj d->∀nm∈drs,g_4 [M,d,.str nm]=.ok (.sh (.bl true))/\g_4 [M',d,.str nm]=.ok (.sh (.bl true))
section
variable{ks:List D}{ii ik:Int}{s:Nat}
def ce_2{js:List Nat}{f:FE}{Δ:SE}{v:W}(h:f (Aw Δ)=.ok v):Am js f Δ=.rt v:=by unfold Am;rw[h]
def reps:∀v∈List.replicate ks.length (1:Int),0<=v/\v < 2 ^ 3:=λv hv=>by rw[List.eq_of_mem_replicate hv];decide
def dz_2{n w:Nat}{k:Int}(h:n<=2 ^ w)(e:(n:Int)=k):k<=2 ^ w:=by
 have:(n:Int)<=((2 ^ w:Nat):Int):=Int.ofNat_le.mpr h;rw[Int.natCast_pow,e]at this;simpa using this
variable(h:Ks ks 0 ii)(hn:ks.length<=40)(hs:s<=1000)(e:Ga [.lst ks,.int ii,.int ik]=.ok (.sh (.int (s:Int))))(e2:f_4 [.lst ks,.int (s:Int),.int ii]=.ok (.sh (.bl true)))
include h hn hs e e2
abbrev Lr:List Str:=["room","rooms","places"]
def hse3:Hse ks ii ik 3 Lr:=by
 have h1:=h.h1;have hkd:2<=ii/\ii<=3:=by rcases h.kd with z|z <;> omega
 have hle:ii * Br (ks.length:Int) ii<=3 * 50:=Q1 hkd.2 (bi_3 hn h.kd) (by have:=(u_0 (ks.length:Int) ii () () h.kd).2.2.1;omega) ();obtain⟨w1,b1,b2,b3,b4⟩:=df_5 ii.toNat () ();have hkt:((ii.toNat:Nat):Int)=ii:=by omega
 rw[hkt]at b4;have b3:=dz_2 b3 hkt;obtain⟨T,U,t1,t2,t3,t4,ei⟩:=dx_2 h hs e e2;have tb:∀t∈T,0<=t/\t < 2 ^ w1:=λt ht=>by have:=t2 t ht;omega
 have hh:=dl_8 (n:=(ks.length:Int)) (s:=(s:Int)) (ii:=ii) (ij:=(Br (ks.length:Int) ii)) (m:=ii) (T:=T) (u:=Bi U);have hh':=bm_7 (n:=(ks.length:Int)) (s:=(s:Int)) (ii:=ii) (ij:=(Br (ks.length:Int) ii)) (m:=ii) (T:=T) (u:=Bi U);have hm:be_1 ks ii ik 3 (.rt (.sh (pelO (ks.length:Int) (Ck (s:Int) ii (Br (ks.length:Int) ii) ii T) (Bi U)))):=ce_2 (de_7 rfl rfl ei);refine⟨_,_,_,ad_7 (w:=3) ⋯ hm,dm_0 hh ∅ ∅ b4 (bi_1 hh "peeled" (Bi U) w1 () () tb),et_3 () h.kd b1 () () tb,λd hd nm hm=> ?_⟩;have n1:=df_2 ((Ds rfl ∅ ∅ (Ab 0) #v[1] [some (pelO (ks.length:Int) (Ck (s:Int) ii (Br (ks.length:Int) ii) ii T) (Bi U)),some d,none] [d] rfl rfl rfl).trans (ce_1 hd hh.own));have n2:=df_2 ((Ds rfl ∅ ∅ (Ab 0) #v[1] [some (paO (ks.length:Int) (Ck (s:Int) ii (Br (ks.length:Int) ii) ii T) (Bi U)),some d,none] [d] rfl rfl rfl).trans (ce_1 hd hh'.own));simp only[B3,K7,V7]at hm;rcases hm with rfl|rfl|rfl
 ·exact⟨x_2 nofun (ap_8 ((Ds rfl ∅ ∅ (Ab 0) _ _ [d] rfl rfl rfl).trans (bi_2 ((Ds rfl ∅ ∅ (Ab 0) _ _ [d] rfl rfl rfl).trans n1)))),x_2 nofun (ap_8 ((Ds rfl ∅ ∅ (Ab 0) _ _ [d] rfl rfl rfl).trans (bi_2 ((Ds rfl ∅ ∅ (Ab 0) _ _ [d] rfl rfl rfl).trans n2))))⟩
 ·exact⟨df_4 (aj_0 ((Ds rfl ∅ ∅ (Ab 0) _ _ _ rfl rfl rfl).trans (ay_4 hd))),df_4 (aj_0 ((Ds rfl ∅ ∅ (Ab 0) _ _ _ rfl rfl rfl).trans (ay_4 hd)))⟩
 ·exact⟨x_2 nofun (o_9 ((Ds rfl ∅ ∅ (Ab 0) _ _ [d] rfl rfl rfl).trans (ce_1 hd hh.own))),x_2 nofun (o_9 ((Ds rfl ∅ ∅ (Ab 0) _ _ [d] rfl rfl rfl).trans (ce_1 hd hh'.own)))⟩
def hse4:Hse ks ii ik 4 Lr:=by
 have h1:=h.h1;have hkd:2<=ii/\ii<=3:=by rcases h.kd with z|z <;> omega
 have hle:ii * Br (ks.length:Int) ii<=3 * 50:=Q1 hkd.2 (bi_3 hn h.kd) (by have:=(u_0 (ks.length:Int) ii () () h.kd).2.2.1;omega) ();obtain⟨w1,b1,b2,b3,b4⟩:=df_5 ks.length h1 hn;have b3:=dz_2 b3 rfl;obtain⟨T,t1,t2,ei⟩:=dx_3 h hs e e2;have tb:∀t∈T,0<=t/\t < 2 ^ w1:=λt ht=>by have:=t2 t ht;omega
 have hh:=cx_6 (n:=(ks.length:Int)) (s:=(s:Int)) (ii:=ii) (ij:=(Br (ks.length:Int) ii)) (m:=(ks.length:Int)) (T:=T);have hh':=bg_0 (n:=(ks.length:Int)) (s:=(s:Int)) (ii:=ii) (ij:=(Br (ks.length:Int) ii)) (m:=(ks.length:Int)) (T:=T);have hm:be_1 ks ii ik 4 (.rt (.sh (ordO (ks.length:Int) (Ck (s:Int) ii (Br (ks.length:Int) ii) (ks.length:Int) T)))):=ce_2 (de_7 rfl rfl ei);refine⟨_,_,_,ad_7 (w:=4) ⋯ hm,cx_7 hh ∅ ∅ b4 (bi_1 hh "ordered" "" w1 () () tb),et_4 () h.kd b1 () () tb,λd hd nm hm=> ?_⟩;simp only[B3,K7,V7]at hm;rcases hm with rfl|rfl|rfl
 ·exact⟨x_2 nofun (ap_8 ((Ds rfl ∅ ∅ (Ab 0) _ _ [d] rfl rfl rfl).trans (bi_2 ((Ds rfl ∅ ∅ (Ab 0) _ _ [d] rfl rfl rfl).trans (df_1 hd hh.own))))),x_2 nofun (ap_8 ((Ds rfl ∅ ∅ (Ab 0) _ _ [d] rfl rfl rfl).trans (bi_2 ((Ds rfl ∅ ∅ (Ab 0) _ _ [d] rfl rfl rfl).trans (df_1 hd hh'.own)))))⟩
 ·exact⟨df_4 (aj_0 ((Ds rfl ∅ ∅ (Ab 0) _ _ _ rfl rfl rfl).trans (ay_4 hd))),df_4 (aj_0 ((Ds rfl ∅ ∅ (Ab 0) _ _ _ rfl rfl rfl).trans (ay_4 hd)))⟩
 ·exact⟨x_2 nofun (o_9 ((Ds rfl ∅ ∅ (Ab 0) _ _ [d] rfl rfl rfl).trans (dy_6 hd hh.own))),x_2 nofun (o_9 ((Ds rfl ∅ ∅ (Ab 0) _ _ [d] rfl rfl rfl).trans (dy_6 hd hh'.own)))⟩
def hse5:Hse ks ii ik 5 ["value","places"]:=by
 have h1:=h.h1;have hkd:2<=ii/\ii<=3:=by rcases h.kd with z|z <;> omega
 have hle:ii * Br (ks.length:Int) ii<=3 * 50:=Q1 hkd.2 (bi_3 hn h.kd) (by have:=(u_0 (ks.length:Int) ii () () h.kd).2.2.1;omega) ();obtain⟨T,t1,tb,ei⟩:=dl_6 h 3 ⋯ (vs:=List.replicate ks.length 1) (by simp) reps hs e e2;have hh:=ei_0 (n:=(ks.length:Int)) (s:=(s:Int)) (ii:=ii) (ij:=(Br (ks.length:Int) ii)) (m:=(2 ^ 3)) (T:=T) (w:=((3:Nat):Int));have hh':=cd_8 (n:=(ks.length:Int)) (s:=(s:Int)) (ii:=ii) (ij:=(Br (ks.length:Int) ii)) (m:=(2 ^ 3)) (T:=T) (w:=((3:Nat):Int));have hm:be_1 ks ii ik 5 (.rt (.sh (kptO (ks.length:Int) ((3:Nat):Int) (Ck (s:Int) ii (Br (ks.length:Int) ii) (2 ^ 3) T)))):=ce_2 (de_7 (bx_3 () _) rfl ei);refine⟨_,_,_,ad_7 (w:=5) ⋯ hm,ei_1 ∅ ∅ ∅ ∅ (bi_1 hh "kept" "" 3 () () tb),et_5 () h.kd ⋯ () () tb,λd hd nm hm=> ?_⟩;simp only[B3,K7,V7]at hm;rcases hm with rfl|rfl
 ·exact⟨x_2 nofun (bn_2 ((Ds rfl ∅ ∅ (Ab 0) _ _ [d] rfl rfl rfl).trans (dy_9 hd hh.own))),x_2 nofun (bn_2 ((Ds rfl ∅ ∅ (Ab 0) _ _ [d] rfl rfl rfl).trans (dy_9 hd hh'.own)))⟩
 ·exact⟨x_2 nofun (o_9 ((Ds rfl ∅ ∅ (Ab 0) _ _ [d] rfl rfl rfl).trans (dy_7 hd hh.own))),x_2 nofun (o_9 ((Ds rfl ∅ ∅ (Ab 0) _ _ [d] rfl rfl rfl).trans (dy_7 hd hh'.own)))⟩
def hse6:Hse ks ii ik 6 ["knows","places"]:=by
 have h1:=h.h1;have hkd:2<=ii/\ii<=3:=by rcases h.kd with z|z <;> omega
 have hle:ii * Br (ks.length:Int) ii<=3 * 50:=Q1 hkd.2 (bi_3 hn h.kd) (by have:=(u_0 (ks.length:Int) ii () () h.kd).2.2.1;omega) ();obtain⟨T,t1,tb,ei⟩:=co_8 h 8 ⋯ hs e e2;have hh:=dl_9 (n:=(ks.length:Int)) (s:=(s:Int)) (ii:=ii) (ij:=(Br (ks.length:Int) ii)) (m:=(2 ^ 8)) (T:=T) (w:=((8:Nat):Int));have hh':=bm_8 (n:=(ks.length:Int)) (s:=(s:Int)) (ii:=ii) (ij:=(Br (ks.length:Int) ii)) (m:=(2 ^ 8)) (T:=T) (w:=((8:Nat):Int));have hm:be_1 ks ii ik 6 (.rt (.sh (mrkO (ks.length:Int) ((8:Nat):Int) (Ck (s:Int) ii (Br (ks.length:Int) ii) (2 ^ 8) T)))):=ce_2 (de_7 rfl rfl ei);refine⟨_,_,_,ad_7 (w:=6) ⋯ hm,dm_1 ∅ ∅ ∅ ∅ ∅ (bi_1 hh "marked" "" 8 () () tb),et_6 () h.kd ⋯ () () tb,λd hd nm hm=> ?_⟩;simp only[B3,K7,V7]at hm;rcases hm with rfl|rfl
 ·exact⟨x_2 nofun (bn_3 ((Ds rfl ∅ ∅ (Ab 0) _ _ [d] rfl rfl rfl).trans (dz_0 hd hh.own))),x_2 nofun (bn_3 ((Ds rfl ∅ ∅ (Ab 0) _ _ [d] rfl rfl rfl).trans (dz_0 hd hh'.own)))⟩
 ·exact⟨x_2 nofun (o_9 ((Ds rfl ∅ ∅ (Ab 0) _ _ [d] rfl rfl rfl).trans (dy_8 hd hh.own))),x_2 nofun (o_9 ((Ds rfl ∅ ∅ (Ab 0) _ _ [d] rfl rfl rfl).trans (dy_8 hd hh'.own)))⟩
end
section
variable{ks:List D}{ii ik:Int}
def dm_9(h:Ks ks 0 ii)(hn:ks.length<=40)(m0:0<=ik)(m1:ik<=1000):(∀w:Nat,w<=1->∃v,f_0 [.lst ks,.int ii,.int ik,.int (w:Int)]=.ok v)/\
  ((∀w:Nat,2<=w->w < 7->f_0 [.lst ks,.int ii,.int ik,.int (w:Int)]=.ex cx_0)\/
   ((∃v,f_0 [.lst ks,.int ii,.int ik,.int 2]=.ok v)/\Hse ks ii ik 3 Lr/\Hse ks ii ik 4 Lr/\Hse ks ii ik 5 ["value","places"]/\Hse ks ii ik 6 ["knows","places"])):=by
 refine⟨λw hw=> ?_, ?_⟩
 ·rcases(show w=0\/w=1 by omega) with rfl|rfl
  ·have ee:=bm_0 h.k h.nd h.h1 h.h2 0 ii h.s0 h.s1 h.kd;have hm:be_1 ks ii ik 0 (.nx (stW ks ii ik 0)):=ay_1 ee;exact⟨_,ad_7 (w:=0) ⋯ hm⟩
  ·obtain⟨st,ord,_,_,ef⟩:=de_1 h;have hm:be_1 ks ii ik 1 (.nx (stW ks ii ik 1)):=ay_1 ef;exact⟨_,ad_7 (w:=1) ⋯ hm⟩
 ·rcases dw_6 h ik m0 m1 with⟨e,_⟩|⟨s,hs,e,e2,_⟩
  ·exact .inl λw h2 h7=>dy_2 () w h7 (λz=>by omega) (λz=>by omega) (λ_=>e) (λ_=>eh_8 h 3 ⋯ (by simp) reps e)
  ·have hm:be_1 ks ii ik 2 (.nx (stW ks ii ik 2)):=ay_1 e;exact .inr ⟨⟨_,ad_7 (w:=2) ⋯ hm⟩,hse3 h hn () e e2,hse4 h hn () e e2,hse5 h hn () e e2,hse6 h hn () e e2⟩
def bn_4(h:Ks ks 0 ii)(hn:ks.length<=40)(m0:0<=ik)(m1:ik<=1000):(∀w:Nat,w < 7->He [.lst ks,.int ii,.int ik,.int (w:Int)]=.ok (.ow (if w<=1 then .lst [.str "good",.int 0] else .lst [.str "try",.int 0])))\/
  ((∀w:Nat,w < 7->He [.lst ks,.int ii,.int ik,.int (w:Int)]=.ok (.ow (if w<=1 then .lst [.str "good",.int 0] else .lst [.str "good",.int 0])))/\Hse ks ii ik 3 Lr/\Hse ks ii ik 4 Lr/\Hse ks ii ik 5 ["value","places"]/\Hse ks ii ik 6 ["knows","places"]):=by
 have ok:=bx_0 λd hd=> .inl (h.k d hd);obtain⟨g1,g2⟩:=dm_9 h hn m0 m1;rcases g2 with g2|⟨g2,g3,g4,g5,g6⟩
 ·refine .inl λw hw=> ?_
  by_cases c:w<=1
  ·obtain⟨v,hv⟩:=g1 w c;rw[if_pos c];exact au_7 ok hv
  ·rw[if_neg c];exact ei_7 ok (g2 w () hw)
 ·refine .inr ⟨λw hw=> ?_,g3,g4,g5,g6⟩;rw[ite_self]
  by_cases c:w<=1
  ·obtain⟨v,hv⟩:=g1 w c;exact au_7 ok hv
  ·rcases(show w=2\/w=3\/w=4\/w=5\/w=6 by omega) with rfl|rfl|rfl|rfl|rfl
   ·obtain⟨v,hv⟩:=g2;exact au_7 ok hv
   ·obtain⟨M,M',Z,hv,_⟩:=g3;exact au_7 ok hv
   ·obtain⟨M,M',Z,hv,_⟩:=g4;exact au_7 ok hv
   ·obtain⟨M,M',Z,hv,_⟩:=g5;exact au_7 ok hv
   ·obtain⟨M,M',Z,hv,_⟩:=g6;exact au_7 ok hv
def cy_1(h:Ks ks 0 ii)(hn:ks.length<=40)(m0:0<=ik)(m1:ik<=1000):m_3 [.lst ks,.int ii,.int ik]=.ok (.sh (.bl true)):=by
 have hd:=dy_0 h.k h.nd h.h1 h.h2;rcases bn_4 h hn m0 m1 with g|⟨g,_⟩
 ·exact bn_1 (.inr rfl) hd g
 ·exact bn_1 (.inl rfl) hd g
abbrev Ft(ks:List D)(ii:Int)(d:D)(a3 a4 a5 a6 a7:Sl):SE:=[.sh (.lst ks),.sh (.int ii),.sh d,a3,a4,a5,a6,a7]
def aj_1{d:D}{w:Nat}{drs:List Str}(hd:Hj d)(hw:3<=w/\w<=6)(h:Hse ks ii 8 w drs)(hx:Bu (.lst [.lst [.str "room",.str "rooms",.str "places"],.lst [.str "value",.str "places"],.lst [.str "knows",.str "places"]]) (.int (max 0 ((w:Int) - 4)))=.ok (.sh (.lst (drs.map .str))))(a4 a5 a6 a7:Sl):
  ∃b4 b5 b6 b7,k_7 (Ft ks ii d (.sh (.int (w:Int))) a4 a5 a6 a7)=.nx (Ft ks ii d (.sh (.int (w:Int))) b4 b5 b6 b7):=by
 obtain⟨M,M',Z,hm,ht,ha,hs⟩:=h;have t1:Al 4 [3] (Aj Bu (Au #v[Au #v[eC (.str "room"),eC (.str "rooms"),eC (.str "places")],Au #v[eC (.str "value"),eC (.str "places")],Au #v[eC (.str "knows"),eC (.str "places")]]) (Ah Ez #v[eC (.int 0),Aj Es (Ab 3) (eC (.int 4))])) (Ft ks ii d (.sh (.int (w:Int))) a4 a5 a6 a7)=.nx (Ft ks ii d (.sh (.int (w:Int))) (.sh (.lst (drs.map .str))) a5 a6 a7):=by
  simp![An,at_5,ca_6,hx]
 have t2:Al 5 [0,1,3] (At 4 f_0 #v[Ah at_2 #v[0],1,eC (.int 8),3]) (Ft ks ii d (.sh (.int (w:Int))) (.sh (.lst (drs.map .str))) a5 a6 a7)=.nx (Ft ks ii d (.sh (.int (w:Int))) (.sh (.lst (drs.map .str))) (.sh M) a6 a7):=by
  simp![An,at_2,hm]
 have inner:∀(N:D) (a7:Sl),(∀nm∈drs,g_4 [N,d,.str nm]=.ok (.sh (.bl true)))->∃b7,s_4 (Ft ks ii d (.sh (.int (w:Int))) (.sh (.lst (drs.map .str))) (.sh M) (.sh N) a7)=.nx (Ft ks ii d (.sh (.int (w:Int))) (.sh (.lst (drs.map .str))) (.sh M) (.sh N) b7):=λN a7 hN=>by
  obtain⟨Δ',e,b7,rfl⟩:=g_1 (gV 7) s_3 (λ_ Δ=>∃b7,Δ=Ft ks ii d (.sh (.int (w:Int))) (.sh (.lst (drs.map .str))) (.sh M) (.sh N) b7) (ds:=drs.map .str) (Δ:=Ft ks ii d (.sh (.int (w:Int))) (.sh (.lst (drs.map .str))) (.sh M) (.sh N) a7) ⟨_,rfl⟩ (λk e Δ he hI=>by
   obtain⟨b7,rfl⟩:=hI;rw[A8]at he;obtain⟨nm,hnm,rfl⟩:=D3.mp he;refine⟨_,rfl,Ft ks ii d (.sh (.int (w:Int))) (.sh (.lst (drs.map .str))) (.sh M) (.sh N) (.sh (.str nm)),.inl ?_,_,rfl⟩;show s_3 (Ft ks ii d (.sh (.int (w:Int))) (.sh (.lst (drs.map .str))) (.sh M) (.sh N) (.sh (.str nm)))=_
   simp![s_3,An,hN nm (B1 hnm)])
  refine⟨b7, ?_⟩;unfold s_4 Cb;exact e
 obtain⟨Δ',e,b6,b7,rfl⟩:=g_1 (gV 6) s_4 (λ_ Δ=>∃b6 b7,Δ=Ft ks ii d (.sh (.int (w:Int))) (.sh (.lst (drs.map .str))) (.sh M) b6 b7) (ds:=[M,M']) (Δ:=Ft ks ii d (.sh (.int (w:Int))) (.sh (.lst (drs.map .str))) (.sh M) a6 a7) ⟨_,_,rfl⟩ (λk N Δ he hI=>by
  obtain⟨b6,b7,rfl⟩:=hI;have hN:∀nm∈drs,g_4 [N,d,.str nm]=.ok (.sh (.bl true)):=λnm hnm=>by
   have:=hs d hd nm hnm;rcases B3.mp (B1 he) with rfl|z
   ·exact this.1
   ·rw[F7.mp z];exact this.2
  obtain⟨c7,hc⟩:=inner N b7 hN;exact⟨_,rfl,_,.inl hc,_,_,rfl⟩)
 refine⟨.sh (.lst (drs.map .str)),.sh M,b6,b7, ?_⟩;unfold k_7;rw[Bn t1,Bn t2];have hi:Dj (Au #v[5,At 1 h_9 #v[At 1 g_2 #v[5]]]) (Bg (Ft ks ii d (.sh (.int (w:Int))) (.sh (.lst (drs.map .str))) (.sh M) a6 a7))=.ok [M,M']:=by
  simp![An,ht,ha]
 unfold Cb;rw[show gsome [5] (Ft ks ii d (.sh (.int (w:Int))) (.sh (.lst (drs.map .str))) (.sh M) a6 a7)=Ft ks ii d (.sh (.int (w:Int))) (.sh (.lst (drs.map .str))) (.sh M) a6 a7 from rfl,hi];exact e
def cp_5(h:Ks ks 0 ii)(hn:ks.length<=40){d:D}(hd:Hj d):s_0 [.lst ks,.int ii,d]=.ok (.sh (.bl true)):=by
 have s1:g_4 [.non,d,.str "mark"]=.ok (.sh (.bl true)):=x_2 nofun (dm_8 (ei_8 hd 8));have s2:g_4 [.non,d,.str "places_of"]=.ok (.sh (.bl true)):=x_2 nofun (dz_1 (bx_4 hd 0 2 5));have o1:Fw 1 (.lst [.str "good",.int 0])=true:=by decide +kernel
 have t1:Bq [2] (Fx (Cm (Ax (At 3 g_4 #v[eC .non,2,eC (.str "mark")]))) (Cm (Ax (At 3 g_4 #v[eC .non,2,eC (.str "places_of")])))) (Am [] (eC (.bl false))) Ba (Ar 8 [.lst ks,.int ii,d])=.nx (Ft ks ii d .no .no .no .no .no):=by
  simp![An,s1,s2]
 refine r_1 ?_;unfold an_8;rw[Bn t1];rcases bn_4 h hn (show(0:Int)<=8 by decide) ⋯ with g|⟨g,g3,g4,g5,g6⟩
 ·have g2:He [.lst ks,.int ii,.int 8,.int 2]=.ok (.ow (.lst [.str "try",.int 0])):=g 2 ⋯;have ne:Fc (.lst [.str "try",.int 0]) (.lst [.str "good",.int 0])=.ok (.sh (.bl true)):=by rfl'
  simp![An,g2,ne]
 ·have g2:He [.lst ks,.int ii,.int 8,.int 2]=.ok (.ow (.lst [.str "good",.int 0])):=g 2 ⋯;have t2:Bq [0,1] (Ao (Aj Fc (At 4 He #v[0,1,eC (.int 8),eC (.int 2)]) (Au #v[eC (.str "good"),eC (.int 0)]))) (Am [] (eC (.bl true))) Ba (Ft ks ii d .no .no .no .no .no)=.nx (Ft ks ii d .no .no .no .no .no):=by
   simp![An,g2,ax_4 1 o1]
  obtain⟨Δ',e,b3,b4,b5,b6,b7,rfl⟩:=g_1 (gV 3) k_7 (λ_ Δ=>∃b3 b4 b5 b6 b7,Δ=Ft ks ii d b3 b4 b5 b6 b7) (ds:=[.int 3,.int 4,.int 5,.int 6]) (Δ:=Ft ks ii d .no .no .no .no .no) ⟨_,_,_,_,_,rfl⟩ (λk N Δ he hI=>by
   obtain⟨b3,b4,b5,b6,b7,rfl⟩:=hI;have key:∃c4 c5 c6 c7 N',N=.int N'/\k_7 (Ft ks ii d (.sh N) b4 b5 b6 b7)=.nx (Ft ks ii d (.sh N) c4 c5 c6 c7):=by
    have hm:=B1 he;simp only[B3,K7,V7]at hm;rcases hm with rfl|rfl|rfl|rfl
    ·obtain⟨c4,c5,c6,c7,hc⟩:=aj_1 hd () g3 (Gd (Fd (i:=0) rfl)) b4 b5 b6 b7;exact⟨c4,c5,c6,c7,_,rfl,hc⟩
    ·obtain⟨c4,c5,c6,c7,hc⟩:=aj_1 hd () g4 (Gd (Fd (i:=0) rfl)) b4 b5 b6 b7;exact⟨c4,c5,c6,c7,_,rfl,hc⟩
    ·obtain⟨c4,c5,c6,c7,hc⟩:=aj_1 hd () g5 (Gd (Fd (i:=1) rfl)) b4 b5 b6 b7;exact⟨c4,c5,c6,c7,_,rfl,hc⟩
    ·obtain⟨c4,c5,c6,c7,hc⟩:=aj_1 hd () g6 (Gd (Fd (i:=2) rfl)) b4 b5 b6 b7;exact⟨c4,c5,c6,c7,_,rfl,hc⟩
   obtain⟨c4,c5,c6,c7,_,_,hc⟩:=key;exact⟨_,rfl,_,.inl hc,_,_,_,_,_,rfl⟩)
  rw[Bn t2];have t3:Cb [] (Dj (Au #v[eC (.int 3),eC (.int 4),eC (.int 5),eC (.int 6)])) (gV 3) k_7 (Ft ks ii d .no .no .no .no .no)=.nx (Ft ks ii d b3 b4 b5 b6 b7):=by
   unfold Cb;exact e
  rw[Bn t3];rfl
end
def bad7(z:Int):∃d,badT d/\Bu (.lst [.int (0 - 1),.int 1000000000000000000,.str "A",.str "twelve signs",.str "a+b",.int (0 - 100000000000000000000),.str "a\n"]) (.int (z % 7))=.ok (.sh d):=by
 have ib:∀n:Int,(n < 0\/999999999999999999 < n)->k_2 [.int n]=.ok (.sh (.bl false))->badT (.int n):=λn h e=>⟨.inl ⟨n,rfl,h⟩,rfl,e⟩;have h:z % 7=0\/z % 7=1\/z % 7=2\/z % 7=3\/z % 7=4\/z % 7=5\/z % 7=6:=by omega
 rcases h with h|h|h|h|h|h|h <;> rw[h]
 ·exact⟨_,ib _ () ∅,Gd (Fd (i:=0) rfl)⟩
 ·exact⟨_,ib _ () ∅,Gd (Fd (i:=1) rfl)⟩
 ·exact⟨_,⟨.inr ⟨[65],rfl,by decide,.inr ⟨65,by decide,inB 65,in_B 65,by decide +kernel⟩⟩,by decide +kernel,by rfl'⟩,Gd (Fd (i:=2) rfl)⟩
 ·exact⟨_,⟨.inr ⟨[116,119,101,108,118,101,32,115,105,103,110,115],rfl,by decide,.inl ⋯⟩,by decide +kernel,by rfl'⟩,Gd (Fd (i:=3) rfl)⟩
 ·exact⟨_,⟨.inr ⟨[97,43,98],rfl,by decide,.inr ⟨43,by decide,inB 43,in_B 43,by decide +kernel⟩⟩,by decide +kernel,by rfl'⟩,Gd (Fd (i:=4) rfl)⟩
 ·exact⟨_,ib _ () ∅,Gd (Fd (i:=5) rfl)⟩
 ·exact⟨_,⟨.inr ⟨[97,10],rfl,by decide,.inr ⟨10,by decide,inB 10,in_B 10,by decide +kernel⟩⟩,by decide +kernel,by rfl'⟩,Gd (Fd (i:=6) rfl)⟩
def ap_9{α:Type}{l:List α}{a b:Option Int}{x:α}(h:x∈Ek l a b):x∈l:=List.mem_of_mem_drop (Q6 h)
def dz_3(ii:Int)(hk:ii=2\/ii=3):Ks [.str "a",.int 0,.str "b c"] 0 ii:=by
 refine⟨λk hm=> ?_, ?_,by decide,by decide,by decide,by decide,hk⟩
 ·simp only[B3,K7,V7]at hm;rcases hm with rfl|rfl|rfl
  ·exact .inr ⟨[97],rfl,by decide,by decide⟩
  ·exact .inl ⟨0,rfl,by decide,by decide⟩
  ·exact .inr ⟨[98,32,99],rfl,by decide,by decide⟩
 ·have ne:D.str "a" ≠ .str "b c" :=λz=>by
   injection z with z
   exact absurd z nofun
  rw[O8,O8];refine⟨λz=> ?_,λz=> ?_,by simp⟩
  ·simp only[B3,K7,V7]at z;rcases z with z|z
   ·cases z
   ·exact ne z
  ·simp only[B3,K7,V7]at z;cases z
def dz_4(ns:List Int)(hn:ns.length<=63):∃v,ek_3 [.lst (ns.map .int)]=.ok v/\v.d=.bl true:=by
 obtain⟨ks,hne,hl,hk,nd,ek⟩:=eg_4 ns 2 20 hn ⋯ ⋯ ⋯ ⋯;have fm:1<=ks.length:=List.length_pos_iff.mpr hne;have ig:ks.length<=20:=by omega
 have er:=bb_5 ns 1 ⋯;generalize ns.getD (1:Int).toNat 0=c at er;generalize hns:D.lst (ns.map .int)=nsD at *
 have m2:=λi:Int=>Gz (i:=i) (show(0:Int) < 2 by decide);have m8:=λi:Int=>Gz (i:=i) (show(0:Int) < 8 by decide);have m7:=λi:Int=>Gz (i:=i) (show(0:Int) < 7 by decide);have d2:=w_2 (i:=c) (show(0:Int) < 2 by decide) ⋯;have d16:=w_2 (i:=c) (show(0:Int) < 16 by decide) ⋯;have gm:=w_2 (i:=c) (show(0:Int) < 128 by decide) ⋯;have d4:=w_2 (i:=c) (show(0:Int) < 4096 by decide) ⋯;have d3:=w_2 (i:=c) (show(0:Int) < 32768 by decide) ⋯;have p18:=ca_5 (aw_5 (i:=10) (j:=18) ⋯ ⋯ ⋯ ⋯);have p20:=ca_5 (aw_5 (i:=10) (j:=20) ⋯ ⋯ ⋯ ⋯);rw[show(10:Int) ^ (18:Int).toNat=1000000000000000000 by decide]at p18;rw[show(10:Int) ^ (20:Int).toNat=100000000000000000000 by decide]at p20;have ml:=λi:Int=>Gz (i:=i) (show(0:Int) < (ks.length:Int) by omega);have mk:=λi:Int=>Gz (i:=i) (show(0:Int) < (ks.length:Int) + 1 by omega);obtain⟨ii,ekd,hkd⟩:∃ii,2 + c % 2=ii/\(ii=2\/ii=3):=⟨_,rfl,by omega⟩;obtain⟨ik,emo,hm0,hm1⟩:∃ik,1 + c / 2 % 8=ik/\0<=ik/\ik<=1000:=⟨_,rfl,by omega,by omega⟩;obtain⟨d,hbd,ed⟩:=bad7 (c / 16);obtain⟨at_,eat⟩:∃at_,c / 128 % ((ks.length:Int) + 1)=at_:=⟨_,rfl⟩;have b0:=L6 (c / 32768) (show(ks.length:Int)≠0 by omega);have b1:=K2 (c / 32768) (show(0:Int) < (ks.length:Int) by omega);obtain⟨x,hx⟩:∃x,ks[(c / 32768 % (ks.length:Int)).toNat]? =some x:=⟨_,B2 ()⟩;have ex:=Gd (cu_2 b0 hx);have hxk:=hk x (B1 hx);have hr:Dd [.int (201 + c / 4096 % 7)]=.ok (De 0 (201 + c / 4096 % 7).toNat):=s_2 () ();obtain⟨g,eg,hg1,hg2⟩:∃g,De 0 (201 + c / 4096 % 7).toNat=g/\200 < g.length/\g.length<=300:=⟨_,rfl,by rw[q_3];omega,by rw[q_3];omega⟩;have hgt:∀e∈g,Hz e:=λe he=>by
  rw[<-eg]at he;unfold De at he;obtain⟨k,hk,rfl⟩:=D0.mp he;have:=J9.mp hk;exact .inl (.inl ⟨_,rfl,by omega,by omega⟩)
 rw[eg]at hr;have hgl:g.length<=16777216:=by omega
 have hat:0<=at_/\at_<=(ks.length:Int):=by
  rw[<-eat];have:=L6 (c / 128) (show(ks.length:Int) + 1≠0 by omega);have:=K2 (c / 128) (show(0:Int) < (ks.length:Int) + 1 by omega);omega
 have lab:(Ek ks none (some at_)).length + (Ek ks (some at_) none).length=ks.length:=by
  rw[show at_=((at_.toNat:Nat):Int) by omega,cv_7 ks _ (),cm_7 ks _ (),G6,S9];omega
 have lcd:(Ek g none (some 100)).length + (Ek g (some 100) none).length=g.length:=by
  rw[show(100:Int)=((100:Nat):Int) from rfl,cv_7 g 100 (),cm_7 g 100 (),G6,S9];omega
 have cat:∀x y:List D,x.length + y.length<=10000->Cc (.lst x) (.lst y)=.ok (.ow (.lst (x ++ y))):=λx y h=>ee_7 ();have c1:=cat (Ek ks none (some at_)) [d] (by simp;omega);have c2:=cat (Ek ks none (some at_) ++ [d]) (Ek ks (some at_) none) (by simp;omega);obtain⟨sp,esp⟩:∃sp,Ek ks none (some at_) ++ [d] ++ Ek ks (some at_) none=sp:=⟨_,rfl⟩;have hsp:sp.length<=21:=by rw[<-esp];simp;omega
 have c3:=cat (Ek g none (some 100)) [d] (by simp;omega);have c4:=cat (Ek g none (some 100) ++ [d]) (Ek g (some 100) none) (by simp;omega);obtain⟨gs,egs⟩:∃gs,Ek g none (some 100) ++ [d] ++ Ek g (some 100) none=gs:=⟨_,rfl⟩;have hgs:gs.length<=700:=by rw[<-egs];simp;omega
 have dn:200 < gs.length:=by rw[<-egs];simp;omega
 have c5:=cat sp [d,x] (by simp;omega);have c6:=cat (Ek ks none (some at_)) [x] (by simp;omega);have c7:=cat (Ek ks none (some at_) ++ [x]) (Ek ks (some at_) none) (by simp;omega);obtain⟨tw,etw⟩:∃tw,Ek ks none (some at_) ++ [x] ++ Ek ks (some at_) none=tw:=⟨_,rfl⟩;have htw:tw.length<=21:=by rw[<-etw];simp;omega
 have hkt:∀k∈ks,Hz k:=λk h=> .inl (hk k h);have two:∀x y:List D,(∀d∈x,Hz d)->(∀d∈y,Hz d)->∀d∈x ++ y,Hz d:=λx y hx hy d hd=>by
  rcases F6.mp hd with h|h
  ·exact hx d h
  ·exact hy d h
 have t1:∀a,Hz a->∀d∈ [a],Hz d:=λa ha d hd=>by rw[F7.mp hd];exact ha
 have hd1:=t1 d (.inr hbd);have hx1:=t1 x (.inl hxk);have tsp:∀e∈sp,Hz e:=by rw[<-esp];exact two _ _ (two _ _ (λe he=>hkt e (ap_9 he)) hd1) (λe he=>hkt e (ap_9 he))
 have tgs:∀e∈gs,Hz e:=by rw[<-egs];exact two _ _ (two _ _ (λe he=>hgt e (ap_9 he)) hd1) (λe he=>hgt e (ap_9 he))
 have ttw:∀e∈tw,Hz e:=by rw[<-etw];exact two _ _ (two _ _ (λe he=>hkt e (ap_9 he)) hx1) (λe he=>hkt e (ap_9 he))
 rw[esp]at c2;rw[egs]at c4;rw[etw]at c7;have c8:=cat [.lst [],.lst g,.lst gs,.lst sp] [.lst (sp ++ [d,x]),.lst tw,.lst ks] (by simp);have all:∀L∈ [D.lst [],.lst g,.lst gs,.lst sp] ++ [.lst (sp ++ [d,x]),.lst tw,.lst ks],m_3 [L,.int ii,.int ik]=.ok (.sh (.bl true)):=λL hL=>by
  have key:∀xs:List D,(∀d∈xs,Hz d)->xs.length<=40\/200 < xs.length/\xs.length<=1000->m_3 [.lst xs,.int ii,.int ik]=.ok (.sh (.bl true)):=λxs h hl=>by
   rcases dm_7 h () ii ik with z|⟨z1,z2,z3,z4⟩
   ·exact z
   ·exact cy_1 ⟨z1,z2,z3,z4,by decide,by decide,hkd⟩ () hm0 hm1
  rcases F6.mp hL with z|z
  ·simp only[B3,K7,V7]at z;rcases z with rfl|rfl|rfl|rfl
   ·exact key _ (λe he=>absurd he (by simp)) (.inl (by simp))
   ·exact key _ hgt (.inr ⟨hg1,by omega⟩)
   ·exact key _ tgs (.inr ⟨dn,by omega⟩)
   ·exact key _ tsp (.inl ())
  ·simp only[B3,K7,V7]at z;rcases z with rfl|rfl|rfl
   ·exact key _ (two _ _ tsp (two [d] [x] hd1 hx1)) (.inl (by simp;omega))
   ·exact key _ ttw (.inl ())
   ·exact key _ hkt (.inl ())
 have hK:Ks ks 0 ii:=⟨hk,nd,fm,by omega,by decide,by decide,hkd⟩;have sh1:=cp_5 hK () hbd.1;have sh2:=cp_5 (dz_3 (5 - ii) ()) ⋯ hbd.1
 let Δ:Sl->SE:=λa=> [.sh nsD,.sh (.lst ks),.sh (.int c),.sh (.int ii),.sh (.int ik),.sh d,.sh (.int at_),.sh (.lst g),.sh x,.sh (.lst sp),.sh (.lst [.lst [],.lst g,.lst gs,.lst sp]),a]
 obtain⟨Δ',e11,a11,rfl⟩:=g_1 (gV 11) cc_6 (λ_ Δ1=>∃a,Δ1=Δ a) (ds:=[D.lst [],.lst g,.lst gs,.lst sp] ++ [.lst (sp ++ [d,x]),.lst tw,.lst ks]) (Δ:=Δ .no) ⟨_,rfl⟩ (λk L Δ1 hL hI=>by
  obtain⟨a,rfl⟩:=hI;have h:=all L (B1 hL);refine⟨Δ (.sh L),rfl,Δ (.sh L),.inl ?_,_,rfl⟩
  simp![Δ,cc_6,An,h])
 have q11:bl_6 [.sh nsD,.sh (.lst ks),.sh (.int c),.sh (.int ii),.sh (.int ik),.sh d,.sh (.int at_),.sh (.lst g),.sh x,.sh (.lst sp),.ow (.lst [.lst [],.lst g,.lst gs,.lst sp]),.no]=.nx (Δ a11):=by
  unfold bl_6 Cb;rw[show gsome [1,5,6,8,9,10] [.sh nsD,.sh (.lst ks),.sh (.int c),.sh (.int ii),.sh (.int ik),.sh d,.sh (.int at_),.sh (.lst g),.sh x,.sh (.lst sp),.ow (.lst [.lst [],.lst g,.lst gs,.lst sp]),.no]=Δ .no from rfl];have hi:Dj (Aj Cc (Ab 10) (Au #v[Aj Cc (Ab 9) (Au #v[5,8]),Aj Cc (Aj Cc (Bs (Ab 1) Dm (Cu (Ab 6))) (Au #v[8])) (Bs (Ab 1) (Cu (Ab 6)) Dm),1])) (Bg (Δ .no))=.ok ([D.lst [],.lst g,.lst gs,.lst sp] ++ [.lst (sp ++ [d,x]),.lst tw,.lst ks]):=by
   simp![Δ,An,Bs,am_1,c5,c6,c7,c8]
  rw[hi];exact e11
 refine⟨.sh (.bl true),r_1 ?_,rfl⟩;unfold ek_2;refine(Bn (by simp![dc_4,An,ek];rfl)).trans ?_;refine(Bn (by simp![dc_5,An,er];rfl)).trans ?_;refine(Bn (by simp![dc_6,An,m2,p_2,ekd];rfl)).trans ?_;refine(Bn (by simp![dc_7,An,d2,m8,p_2,emo];rfl)).trans ?_;refine(Bn (by simp![dc_8,An,at_5,p18,p20,d16,m7,ed];rfl)).trans ?_;refine(Bn (by simp![dc_9,An,gm,Fs,p_2,mk,eat];rfl)).trans ?_;refine(Bn (by simp![dd_0,An,eRng,d4,m7,p_2,hr,hgl];rfl)).trans ?_;refine(Bn (by simp![dd_1,An,d3,Fs,ml,ex,hxk.flat];rfl)).trans ?_;refine(Bn (by simp![dd_2,An,Bs,am_1,c1,c2];rfl)).trans ?_;refine(Bn (by simp![cm_3,An,Bs,am_1,c3,c4])).trans ((Bn q11).trans ?_)
 simp![Δ,cm_4,An,sh1,at_5,sh2]
end My
set_option maxHeartbeats 20000000
namespace My
open PySem PyProof.Rows L2 L3
local macro_rules|`(#v[])=>`(Ak)|`(#v[$n:num])=>`(Ae (Ad $n) Ak)|`(#v[$x])=>`(Ae $x Ak)|`(#v[$n:num,$xs,*])=>`(Ae (Ad $n) #v[$xs,*])|`(#v[$x,$xs,*])=>`(Ae $x #v[$xs,*])
noncomputable def Ay(i:Nat):Stmt:=PySem.Challenge.pw_lodge_k59_refused_at_each_door.main.body.getD i (.Pass ⟨0,0,0,0⟩)
def ag_5:Stmt->List Stmt
 | .ClassDef (body:=b) .. =>b
 |_=> []
def Bc(i j:Nat):Stmt:=(ag_5 (Ay i)).getD j (.Pass ⟨0,0,0,0⟩)
abbrev AH(P:Program)(w:World)(K:Frag)(r:Str->Option Value)(u:Heap)(f:Addr)(B:FuncData)(x:Str)(i k:Nat)(ps:List Str)(n:Nat)(g:List D->R W):Prop:=Fun K x x (Ay i) f B->FnX P w K r u true k f B ps (Bh K n g)
abbrev AI(P:Program)(w:World)(K:Frag)(r:Str->Option Value)(u:Heap)(f:Addr)(B:FuncData)(x:Str)(q:Str)(i j k:Nat)(ps:List Str)(n:Nat)(g:List D->R W):Prop:=Fun K x q (Bc i j) f B->FnX P w K r u true k f B ps (Bh K n g)
section
variable{P:Program}{w:World}{K:Frag}{r:AB}{u:Heap}{f:Addr}{B:FuncData}
abbrev TF(c:Bool)(x:Str)(k:Nat)(ps:List Str)(F:AF)(P:Program)(w:World)(K:Frag)(r:AB)(u:Heap):Prop:=FnD P w K r u c x k ps F
abbrev TFB(x:Str)(k:Nat)(ps:List Str)(F:AF)(P:Program)(w:World)(K:Frag)(r:AB)(u:Heap):Prop:=FnDB P w K r u x k ps F
abbrev Ls:List Str:=["_law_script","_law_k"]
abbrev bx_5:=TF true "_law_raw" 1 Ls n_9
abbrev bx_6:=TF true "_law_mix" 1 ["_law_cell_here","_law_k"] o_0
abbrev bn_5:=TF true "_law_cell" 2 Ls p_3
abbrev be_2:=TF true "_law_great" 2 ["_law_cell_here"] r_5
abbrev Ln:List Str:=["_law_script","_law_start","_law_most"]
abbrev be_3:=TF true "_law_cells" 3 Ln v_2
abbrev bx_7:=TF true "_law_key" 1 ["_law_cell_here"] v_3
abbrev bn_6:=TF true "_law_keys" 4 Ln x_5
abbrev ay_5:=TF true "_law_is_key" 1 ["_law_thing"] k_2
abbrev bx_8:=TF true "_law_due" 2 ["_law_keys_here"] o_1
abbrev be_4:=TF true "part_size" 1 ["many","kind"] j_0
abbrev as_0:=TF true "is_key_text" 1 ["text"] k_5
abbrev cp_6:=TF true "is_key" 2 ["thing"] r_6
abbrev ak_3:=TF true "look_each_key" 3 ["keys"] i_2
abbrev as_1:=TF true "look_unlike" 3 ["keys"] m_7
abbrev be_5:=TF true "look_keys" 4 ["keys"] Hg
abbrev df_6:=TF true "worth" 1 ["text"] aw_9
abbrev df_7:=TF true "stamp" 3 ["key"] aa_5
abbrev df_8:=TF true "mixed" 1 ["number","salt","size"] ap_4
abbrev be_6:=TF true "places_of" 4 ["key","salt","kind","part"] e_5
abbrev Lh:List Str:=["keys","salt","kind"]
abbrev bn_7:=TF true "edges_of" 5 Lh l_0
abbrev as_2:=TF true "standing_at" 1 ["edges"] t_1
abbrev cp_7:=TF true "peeled" 2 ["edges","size"] ax_0
abbrev dz_5:=TF true "fate" 6 Lh u_6
abbrev bn_8:=TF true "succeeds" 7 Lh f_4
abbrev be_7:=TF true "first_try" 8 ["keys","kind","most"] Ga
abbrev ak_4:=TF true "chosen_places" 7 Lh p_9
abbrev bn_9:=TF true "is_below" 1 ["number","limit"] m_8
abbrev L35:List Str:=["number","modulus"]
abbrev be_8:=TF true "remainder" 1 L35 v_6
abbrev cp_8:=TF true "summed" 2 ["table","places","modulus"] ab_5
abbrev L11:List Str:=["edges","size","order","wanted","modulus"]
abbrev cp_9:=TF true "filled" 3 L11 an_3
abbrev L14:List Str:=["keys","salt","kind","modulus","wanted"]
abbrev be_9:=TF true "table_for" 7 L14 i_3
abbrev ak_5:=TF true "row_with_ones" 1 ["places","size"] l_8
abbrev cq_0:=TF true "two_to" 1 ["width"] q_0
abbrev as_3:=TF true "look_values" 3 ["values","many","limit"] t_2
abbrev dz_6:=TF true "mark" 4 ["key","width"] Hr
abbrev Ld:List Str:=["_law_keys_here","_law_kind","_law_most","_law_way"]
abbrev bo_0:=TF true "_law_made" 11 Ld f_0
abbrev as_4:=TFB "_law_strange" 1 ["_law_error","_law_own"] m_9
abbrev bf_0:=TF true "_law_asked" 12 Ld He
abbrev L18:List Str:=["_law_keys_here","_law_kind","_law_most"]
abbrev bf_1:=TF true "_law_doors" 13 L18 m_3
abbrev as_5:=TF true "ones_before" 1 ["bits","place"] ae_7
abbrev Le:List Str:=["_law_house","_law_thing","_law_door_here"]
abbrev bo_1:=TF true "_law_door" 10 Le i_8
abbrev bo_2:=TF true "_law_shut" 11 Le g_4
abbrev as_6:=TF true "is_multiple" 1 ["length","width"] t_3
abbrev L29:List Str:=["bits","width"]
abbrev bf_2:=TF true "look_bits" 3 L29 z_3
abbrev as_7:=TF true "number_read" 1 ["bits"] t_4
abbrev bf_3:=TF true "read_bits" 4 L29 z_4
abbrev L25:List Str:=["bits","width","size"]
abbrev ak_6:=TF true "numbers_again" 5 L25 q_2
abbrev Lz:List Str:=["name","kind","salt","many","width","bits","used"]
abbrev bo_3:=TF true "house_of" 6 Lz r_9
abbrev ay_6:=TF true "made_again" 7 ["what"] h_9
abbrev ag_6:=TF true "number_written" 1 ["number","width"] o_2
abbrev bx_9:=TF true "written" 3 ["numbers","width"] ag_3
abbrev by_0:=TF true "told_by" 4 ["name","house","width","used"] l_9
abbrev bf_4:=TF true "width_for" 1 ["number"] o_7
abbrev ay_7:=TF true "house_told" 5 ["house"] g_2
abbrev L15:List Str:=["_law_keys_here","_law_kind","_law_thing"]
abbrev ao_3:=TF true "_law_all_shut" 13 L15 s_0
def Cw:= @Fun.binds1
def Cq:= @Fun.binds2
def bn3:= @Fun.binds3
def bn4:= @Fun.binds4
def bn5:= @Fun.binds5
def bn6:= @Fun.binds6
def bn7:= @Fun.binds7
abbrev af_0:Stmt:=(ag_5 (Ay 5)).getD 0 (.Pass ⟨0,0,0,0⟩)
abbrev Lo:List Str:=["self","at"]
def bo_4:FnScope Lo Lo (Ce af_0):=⟨rfl,rfl,rfl,by decide +kernel,rfl,by decide +kernel,by decide +kernel⟩
def bo_5{C f:Addr}{B:FuncData}(F:Fun K "__init__" "NoBits.__init__" af_0 f B)(xc:XCls K C)(hn:findIn K (.ref C) "at" =some none):FnX P w K r u false 1 f B Lo (am_6 C "at"):=
 bh_6 (k:=0) F bo_4 λzq A outer s H E=>av_1 (bh_5 xc hn (Gr rfl (.inl rfl)) (Gr rfl (.inl rfl)))
abbrev ac_3:Stmt:=(ag_5 (Ay 8)).getD 0 (.Pass ⟨0,0,0,0⟩)
def bg_1:FnScope Lo Lo (Ce ac_3):=⟨rfl,rfl,rfl,by decide +kernel,rfl,by decide +kernel,by decide +kernel⟩
def bg_2{C f:Addr}{B:FuncData}(F:Fun K "__init__" "NoValue.__init__" ac_3 f B)(xc:XCls K C)(hn:findIn K (.ref C) "at" =some none):FnX P w K r u false 1 f B Lo (am_6 C "at"):=
 bh_6 (k:=0) F bg_1 λzq A outer s H E=>av_1 (bh_5 xc hn (Gr rfl (.inl rfl)) (Gr rfl (.inl rfl)))
abbrev aj_2:Stmt:=(ag_5 (Ay 4)).getD 0 (.Pass ⟨0,0,0,0⟩)
def br_5:FnScope Lo Lo (Ce aj_2):=⟨rfl,rfl,rfl,by decide +kernel,rfl,by decide +kernel,by decide +kernel⟩
def br_6{C f:Addr}{B:FuncData}(F:Fun K "__init__" "Twice.__init__" aj_2 f B)(xc:XCls K C)(hn:findIn K (.ref C) "at" =some none):FnX P w K r u false 1 f B Lo (am_6 C "at"):=
 bh_6 (k:=0) F br_5 λzq A outer s H E=>av_1 (bh_5 xc hn (Gr rfl (.inl rfl)) (Gr rfl (.inl rfl)))
abbrev aj_3:Stmt:=(ag_5 (Ay 3)).getD 0 (.Pass ⟨0,0,0,0⟩)
def br_7:FnScope Lo Lo (Ce aj_3):=⟨rfl,rfl,rfl,by decide +kernel,rfl,by decide +kernel,by decide +kernel⟩
def br_8{C f:Addr}{B:FuncData}(F:Fun K "__init__" "NoKey.__init__" aj_3 f B)(xc:XCls K C)(hn:findIn K (.ref C) "at" =some none):FnX P w K r u false 1 f B Lo (am_6 C "at"):=
 bh_6 (k:=0) F br_7 λzq A outer s H E=>av_1 (bh_5 xc hn (Gr rfl (.inl rfl)) (Gr rfl (.inl rfl)))
variable(j6:r "len" =none)
def cy_2:AH P w K r u f B "_law_raw" 80 1 Ls 2 n_9:=λF=>Bo (N:= Ls) F λm o d a p=>(As (Bv [0,1] (Ci ah_7 (Ad 1) (Dc Ef rfl j6 B8 #v[0]) (Ca _))
   (Ap (Be [0,1] (Ew (Ad 0) (Ad 1))))
   Cp)
  (Ap (Be [] Aq)))
def cy_3:AH P w K r u f B "_law_mix" 79 1 ["_law_cell_here","_law_k"] 2 o_0:=λF=>Bo (N:=["_law_cell_here","_law_k","_law_first"]) F λm o d a p=>(As (Bl (i:=2) [0,1] (Az Ge (Az Go (Az Df (Ad 0) Aq) (Az Df Aq (Az Go Aq (Ad 1)))) Aq) a)
  (Ap (Be [1,2] (Az Ge (Az Df (Az Df (Az Go (Az q_7 (Ad 2) Aq) Aq) (Az Go (Ad 2) (Az Df (Az Go (Ad 1) (Ad 1)) Aq))) (Ad 1)) Aq))))
variable(aa1:bx_6 P w K r u)(y2:bx_5 P w K r u)
def cq_1:AH P w K r u f B "_law_cell" 81 2 Ls 2 p_3:=λF=>Bo (N:= Ls) F λm o d a p=>(Ap (Be [0,1] (Bb o p aa1 #v[Az Ge (Bb o p y2 #v[0,1]) Aq,Az Df (Ad 1) Aq])))
def ce_3:AH P w K r u f B "_law_great" 83 2 ["_law_cell_here"] 1 r_5:=λF=>Bo (N:=["_law_cell_here"]) F λm o d a p=>(Ap (Be [0] (Az Df (Az Go (Az Df (Az Go (Bb o p aa1 #v[0,Aq]) Aq) (Bb o p aa1 #v[0,Aq])) Aq) (Bb o p aa1 #v[0,Aq]))))
variable(ah2:bn_5 P w K r u)(aj0:be_2 P w K r u)(ak9:r "max" =none)(l3:r "range" =none)(ai9:r "min" =none)
abbrev Lp:List Str:=["_law_script","_law_start","_law_most","_law_cells_here","_law_many","_law_k"]
def ce_4:AH P w K r u f B "_law_cells" 84 3 Ln 3 v_2:=λF=>Bo (N:=["_law_script","_law_start","_law_most","_law_cells_here","_law_many"]) F λm o d a p=>(As (Bl (i:=3) [0,1] (Dc (aa_6 m) rfl ak9 N3 #v[Aq,Az y_0 (Dc Ef rfl j6 B8 #v[0]) (Ad 1)]) a)
  (As (Bv [0] (Ci (Dv d) (Az Ge (Bb o p y2 #v[0,Aq]) Aq) Aq (Ca _))
   (Ap (Be [0,1,2,3] (t_8 (N':= Lp) m (n_5 l3 #v[Dc (ba_1 (du_1 m)) rfl ai9 S3 #v[2,3]]) rfl ∅ rfl (λC s0 H0 fp pn=>⟨(gcM (i:=5)),z_8,(Bb (n_6 o) n_1 y2 #v[0,Az Df (Ad 1) (Ad 5)])⟩))))
   Cp)
  (As (Bl (i:=4) [0,2,3] (Dc (ba_1 m) rfl ai9 S3 #v[2,Dc (aa_6 m) rfl ak9 N3 #v[3,Az Df Aq (Az Ge (Bb o p ah2 #v[0,Aq]) (Ad 2))]]) a)
  (Ap (Be [0,1,3,4] (t_8 (N':= Lp) m (n_5 l3 #v[4]) rfl ∅ rfl (λC s0 H0 fp pn=>⟨(gcM (i:=5)),z_8,(Bb (n_6 o) n_1 aj0 #v[Bb (n_6 o) n_1 aa1 #v[Bb (n_6 o) n_1 ah2 #v[0,Az Df (Ad 1) (Az Ge (Ad 5) (Dc (aa_6 (ba_3 m)) rfl ak9 N3 #v[Aq,3]))],5]])⟩)))))))
variable(ai3:r "int" =none)
def cy_4:AH P w K r u f B "_law_key" 82 1 ["_law_cell_here"] 1 v_3:=λF=>Bo (N:=["_law_cell_here","_law_signs","_law_rest","_law_found","_law_size","_law_k"]) F λm o d a p=>(As (Bl (i:=1) [] Bw a)
  (As (Bl (i:=2) [0] (Az q_7 (Ad 0) Aq) a)
  (As (Bv [0] (Ci (Dv d) (Az Ge (Ad 0) Aq) Aq (Ca _))
   (Ap (Be [2] (Az Ge (Ad 2) (Az bg_5 Aq Aq))))
   Cp)
  (As (Bv [0] (Ci (Dv d) (Az Ge (Ad 0) Aq) Aq (Ca _))
   (Ap (Be [2] (Az Ge (Ad 2) Aq)))
   Cp)
  (As (Bl (i:=3) [] Bw a)
  (As (Bl (i:=4) [2] (Az Ge (Ad 2) Aq) a)
  (As (Hk [4] Gh m (n_5 l3 #v[4]) (q_8 (i:=5) a)
   (As (Bl (i:=2) [2,5] (Az q_7 (Ad 2) (Ew (Cz #v[Aq,Aq]) (s_1 at_1 rfl ai3 Q2 #v[x_3 az_8 (Ad 5) Aq (Ca _)]))) a)
  (Ap (Bl (i:=3) [1,2,3] (Az Df (Ad 3) (Ew (Ad 1) (Az Ge (Ad 2) Aq))) a))))
  (Ap (w_0 3)))))))))
variable(al1:be_3 P w K r u)(al3:bx_7 P w K r u)
def cq_2:AH P w K r u f B "_law_keys" 85 4 Ln 3 x_5:=λF=>Bo (N:=["_law_script","_law_start","_law_most","_law_found","_law_cell_here","_law_key_here"]) F λm o d a p=>(As (Bl (i:=3) [] (Cz Ak) a)
  (As (Hk [0,1,2] Gh m (x_1 (Bb o p al1 #v[0,1,2])) (q_8 (i:=4) a)
   (As (Bl (i:=5) [4] (Bb o p al3 #v[4]) a)
  (Ap (Bv [3,5] (Ci bu_1 (Ad 5) (Ad 3) (by with_unfolding_all rfl))
   (Ap (ct_1 (i:=3) (Ad 5)))
   Cp))))
  (As (Bv [3] (Ci (Dv d) (Ad 3) (Cz Ak) (Ca _))
   (Ap (Bl (i:=3) [0] (Cz #v[Bb o p al3 #v[Az q_7 (Bb o p y2 #v[0,Aq]) Aq]]) a))
   Cp)
  (Ap (w_0 3)))))
variable(f6:r "isinstance" =none)(ap4:KitT K "int")
def br_9:AH P w K r u f B "_law_is_key" 89 1 ["_law_thing"] 1 k_2:=λF=>Bo (N:=["_law_thing","_law_signs"]) F λm o d a p=>(As (Bv [0] (Fu (am_2 ap4 (Ad 0) f6 ai3 Q2))
   (Ap (Be [0] (bj_1 bj_6 ah_7 Aq (Ad 0) (Az bg_5 Aq Aq))))
   Cp)
  (As (Bl (i:=1) [] Bw a)
  (Ap (Be [0,1] (az_6 (x_3 ah_7 (Dc Ef rfl j6 B8 #v[0]) Aq (Ca _)) (az_5 (x_3 (Dv d) (t_8 (N':=["_law_thing","_law_signs","_law_sign"]) m (x_1 (Ad 0)) rfl ∅ rfl (λC s0 H0 fp pn=>⟨(gcM (i:=2)),(bj_8 (Ci bu_1 (Ad 2) (Ad 1) (by with_unfolding_all rfl))),(Ad 2)⟩)) (Cz Ak) (Ca _))))))))
variable(ah5:ay_5 P w K r u)(k8:r "enumerate" =none)
abbrev Lu:List Str:=["_law_keys_here","_law_bad","_law_twice","_law_at","_law_key_here"]
def cy_5:AH P w K r u f B "_law_due" 90 2 ["_law_keys_here"] 1 o_1:=λF=>Bo (N:=["_law_keys_here","_law_bad","_law_twice"]) F λm o d a p=>(As (Bv [0] (td_w (bj_2 (Ci ah_7 (Dc Ef rfl j6 B8 #v[0]) Aq (Ca _)) (az_4 (Ci az_8 (Dc Ef rfl j6 B8 #v[0]) Aq (Ca _)))))
   (Ap (Be [] (Cz #v[Bw,Aq])))
   Cp)
  (As (bg_8 (i:=1) [0] (N':= Lu) m (ad_0 k8 (Ad 0)) rfl ∅ rfl (λC s0 H0 fp pn=>⟨(ds_3 (i:=3) (j:=4) (ba_3 m) (show List.Nodup [("_law_keys_here" :Str),("_law_bad" :Str),("_law_twice" :Str),("_law_at" :Str),("_law_key_here" :Str)] from by decide +kernel)),(bj_8 (z_7 (Fu (Bb (n_6 o) n_1 ah5 #v[4])))),(Ad 3)⟩) a)
  (As (Bv [1] (Ci (al_7 d) (Ad 1) (Cz Ak) (Ca _))
   (Ap (Be [1] (Cz #v[Bw,Ew (Ad 1) Aq])))
   Cp)
  (As (bg_8 (i:=2) [0] (N':= Lu) m (ad_0 k8 (Ad 0)) rfl ∅ rfl (λC s0 H0 fp pn=>⟨(ds_3 (i:=3) (j:=4) (ba_3 m) (show List.Nodup [("_law_keys_here" :Str),("_law_bad" :Str),("_law_twice" :Str),("_law_at" :Str),("_law_key_here" :Str)] from by decide +kernel)),(bj_8 (Ci cs_6 (Ad 4) (w_1 (Ad 0) ac_9 (y_1 (Ad 3))) (by with_unfolding_all rfl))),(Ad 3)⟩) a)
  (As (Bv [2] (Ci (al_7 d) (Ad 2) (Cz Ak) (Ca _))
   (Ap (Be [2] (Cz #v[Bw,Ew (Ad 2) Aq])))
   Cp)
  (Ap (Be [] (Cz #v[Bw,Aq]))))))))
def ce_5:AH P w K r u f B "part_size" 49 1 ["many","kind"] 2 j_0:=λF=>Bo (N:=["many","kind"]) F λm o d a p=>(As (Bv [1] (Ci ah_7 (Ad 1) Aq (Ca _))
   (Ap (Be [0] (Az Df (Az Df (Ad 0) (Az q_7 (Ad 0) Aq)) Aq)))
   Cp)
  (Ap (Be [0] (Az Df (Az q_7 (Az Go Aq (Ad 0)) Aq) Aq))))
variable(bj8:r "all" =none){be2:Tok}(ag2:r "MOST_SIGNS" =some (.int 11 be2)){bk9:Tok}(ar2:r "SIGNS" =some (.str "abcdefghijklmnopqrstuvwxyz0123456789-_ " bk9))
def bo_6:AH P w K r u f B "is_key_text" 31 1 ["text"] 1 k_5:=λF=>Bo (N:=["text"]) F λm o d a p=>(Ap (Be [0] (az_6 (x_3 bj_6 (Dc Ef rfl j6 B8 #v[0]) (ah_6 rfl ag2) (Ca _)) (az_5 (Dc (di_3 m) rfl bj8 PyProof.Rows.boot_all #v[(t_8 (N':=["text","sign"]) m (x_1 (Ad 0)) rfl ∅ rfl (λC s0 H0 fp pn=>⟨(gcM (i:=1)),z_8,(x_3 cs_6 (Ad 1) (da_0 rfl ar2) (by with_unfolding_all rfl))⟩))])))))
variable(af2:as_0 P w K r u)(ag4:r "bool" =none)(ba0:r "str" =none)(aa8:KitT K "bool")(aq9:KitT K "str"){ap6:Tok}(ab0:r "GREATEST_NUMBER" =some (.int 999999999999999999 ap6))
def dn_0:AH P w K r u f B "is_key" 32 2 ["thing"] 1 r_6:=λF=>Bo (N:=["thing"]) F λm o d a p=>(As (Bv [0] (Fu (am_2 aa8 (Ad 0) f6 ag4 ap_1))
   (Ap (Be [] y_8))
   Cp)
  (As (Bv [0] (Fu (am_2 ap4 (Ad 0) f6 ai3 Q2))
   (Ap (Be [0] (bj_1 bj_6 bj_6 Aq (Ad 0) (ah_6 rfl ab0))))
   Cp)
  (Ap (Be [0] (az_6 (am_2 aq9 (Ad 0) f6 ba0 W1) (az_5 (Bb o p af2 #v[0])))))))
variable(al0:cp_6 P w K r u){j0:Addr}(ap1:XC P w K r u "NoKey" "at" j0)
def bc_0:AH P w K r u f B "look_each_key" 37 3 ["keys"] 1 i_2:=λF=>Bo (N:=["keys","place","key"]) F λm o d a p=>(Ap (Hk [0] Gh m (ad_0 k8 (Ad 0)) (al_9 (i:=1) (j:=2) m a)
   (Ap (Bv [2] (z_7 (Fu (Bb o p al0 #v[2])))
   (Ap (z_0 [1] ap1 (RoomC.mono o ⋯) y_2 (Ad 1)))
   Cp))))
variable{i9:Addr}(be0:XC P w K r u "Twice" "at" i9)
def bo_7:AH P w K r u f B "look_unlike" 38 3 ["keys"] 1 m_7:=λF=>Bo (N:=["keys","seen","place","key"]) F λm o d a p=>(As (Bl (i:=1) [] bh_1 a)
  (Ap (Hk [0] Gh m (ad_0 k8 (Ad 0)) (al_9 (i:=2) (j:=3) m a)
   (As (Bv [1,3] (Ci (ep_9 d) (Ad 3) (Ad 1) (by with_unfolding_all rfl))
   (Ap (z_0 [2] be0 (RoomC.mono o ⋯) y_2 (Ad 2)))
   Cp)
  (Ap (ca_2 (i:=1) [] d y_8 (Ad 3)))))))
variable(o6:ak_3 P w K r u)(af1:as_1 P w K r u){f8:Addr}(at4:XC0 K r "NoKeys" f8){bf6:Tok}(ai4:r "MOST_KEYS" =some (.int 200 bf6))
def ce_6:AH P w K r u f B "look_keys" 39 4 ["keys"] 1 Hg:=λF=>Bo (N:=["keys"]) F λm o d a p=>(As (Bv [0] (td_w (bj_2 (Ci (Dv d) (Dc Ef rfl j6 B8 #v[0]) Aq (Ca _)) (az_4 (Ci az_8 (Dc Ef rfl j6 B8 #v[0]) (ah_6 rfl ai4) (Ca _)))))
   (Ap (bv_6 at4 (RoomC.mono o ⋯) y_2))
   Cp)
  (As (l_2 [0] (Bb o p o6 #v[0]))
  (As (l_2 [0] (Bb o p af1 #v[0]))
  (Ap (Be [0] (Dc Ef rfl j6 B8 #v[0]))))))
def dz_7:AH P w K r u f B "worth" 33 1 ["text"] 1 aw_9:=λF=>Bo (N:=["text","total","sign"]) F λm o d a p=>(As (Bl (i:=1) [] Aq a)
  (As (Hk [0] Gh m (x_1 (Ad 0)) (q_8 (i:=2) a)
   (Ap (Bl (i:=1) [1,2] (Az Df (Az Df (Az Go Aq (Ad 1)) (bg_9 R8 PySem.F.slot_str_find PySem.F.type_str_find dr_8 (da_0 rfl ar2) #v[2])) Aq) a)))
  (Ap (w_0 1))))
variable(bf4:df_6 P w K r u)
def dz_8:AH P w K r u f B "stamp" 34 3 ["key"] 1 aa_5:=λF=>Bo (N:=["key"]) F λm o d a p=>(As (Bv [0] (z_7 (Fu (Bb o p al0 #v[0])))
   (Ap (z_0 [] ap1 (RoomC.mono o ⋯) y_2 Aq))
   Cp)
  (As (Bv [0] (Fu (am_2 aq9 (Ad 0) f6 ba0 W1))
   (Ap (Be [0] (Az Df (Az Go Aq (Bb o p bf4 #v[0])) Aq)))
   Cp)
  (Ap (Be [0] (Az Go Aq (Ad 0))))))
variable{bl0:Tok}(aq5:r "PRIME" =some (.int 2305843009213693951 bl0))
def dz_9:AH P w K r u f B "mixed" 35 1 ["number","salt","size"] 3 ap_4:=λF=>Bo (N:=["number","salt","size","factor","shift","first"]) F λm o d a p=>(As (Bv [2] (Ci (Dv d) (Ad 2) Aq (Ca _))
   (Ap (Be [] Aq))
   Cp)
  (As (Bl (i:=3) [1] (Az Df Aq (Az Ge (Az Df (Az Go Aq (Ad 1)) Aq) (Az y_0 (ah_6 rfl aq5) Aq))) a)
  (As (Bl (i:=4) [1] (Az Ge (Az Df (Az Go (Az Go Aq (Ad 1)) (Ad 1)) (Az Go Aq (Ad 1))) (ah_6 rfl aq5)) a)
  (As (Bl (i:=5) [0,3,4] (Az Ge (Az Df (Az Go (Ad 3) (Ad 0)) (Ad 4)) (ah_6 rfl aq5)) a)
  (Ap (Be [2,5] (Az Ge (Az Df (Ad 5) (Az q_7 (Ad 5) Aq)) (Ad 2))))))))
variable(ap3:df_7 P w K r u)(ap9:df_8 P w K r u)(bd9:r "tuple" =none)
def ce_7:AH P w K r u f B "places_of" 50 4 ["key","salt","kind","part"] 4 e_5:=λF=>Bo (N:=["key","salt","kind","part","number"]) F λm o d a p=>(As (Bl (i:=4) [0] (Bb o p ap3 #v[0]) a)
  (Ap (Be [1,2,3,4] (s_1 cs_8 rfl bd9 PyProof.Rows.boot_tuple #v[(t_8 (N':=["key","salt","kind","part","number","turn"]) m (n_5 l3 #v[2]) rfl ∅ rfl (λC s0 H0 fp pn=>⟨(gcM (i:=5)),z_8,(Az Df (Az Go (Ad 5) (Ad 3)) (Bb (n_6 o) n_1 ap9 #v[4,Az Df (Az Go Aq (Ad 1)) (Ad 5),3]))⟩))]))))
variable(p7:be_4 P w K r u)(y6:be_5 P w K r u)(z6:be_6 P w K r u)
def cq_3:AH P w K r u f B "edges_of" 51 5 Lh 3 l_0:=λF=>Bo (N:=["keys","salt","kind","part"]) F λm o d a p=>(As (Bl (i:=3) [0,2] (Bb o p p7 #v[Bb o p y6 #v[0],2]) a)
  (Ap (Be [0,1,2,3] (t_8 (N':=["keys","salt","kind","part","key"]) m (x_1 (Ad 0)) rfl ∅ rfl (λC s0 H0 fp pn=>⟨(gcM (i:=4)),z_8,(Bb (n_6 o) n_1 z6 #v[4,1,2,3])⟩)))))
def bo_8:AH P w K r u f B "standing_at" 45 1 ["edges"] 1 t_1:=λF=>Bo (N:=["edges","standing","number","edge","place"]) F λm o d a p=>(As (Bl (i:=1) [] bh_1 a)
  (As (Hk [0] Gh m (ad_0 k8 (Ad 0)) (al_9 (i:=2) (j:=3) m a)
   (Ap (Hk [3] Gh m (x_1 (Ad 3)) (q_8 (i:=4) a)
   (As (Bv [1,4] (Ci (bu_9 d) (Ad 4) (Ad 1) (by with_unfolding_all rfl))
   (Ap (ed_7 (i:=1) d (Ad 4)))
   Cp)
  (Ap (ed_5 (i:=1) d y_8 (Ad 4) (Ad 2)))))))
  (Ap (w_0 1))))
abbrev L16:List Str:=["number","edge","standing"]
def ce_8(F:Fun K "take_away" "take_away" (Ay 46) f B):FnX P w K r u true 1 f B L16 (spM K 2 r_7):=
 ex_7 (n:=2) (N:=["number","edge","standing","place"]) F ⋯ ⋯ λm o d a p=>(Ap (Hk [1] Gh m (x_1 (Ad 1)) (q_8 (i:=3) a)
   (Ap (ed_6 (i:=2) d (Ad 3) (Ad 0)))))
variable(ae7:as_2 P w K r u)(ai8:FnMd P w K r u true "take_away" 1 2 L16 r_7)(ab4:r "list" =none)
def dn_1:AH P w K r u f B "peeled" 47 2 ["edges","size"] 2 ax_0:=λF=>Bo (N:=["edges","size","standing","waiting","order","taken","left","place","number"]) F λm o d a p=>(As (Bl (i:=2) [0] (Bb o p ae7 #v[0]) a)
  (As (ee_1 (i:=3) (s_1 (ct_8 m) rfl ab4 P3 #v[2]) a)
  (As (Bl (i:=4) [] (Cz Ak) a)
  (As (Bl (i:=5) [] bh_1 a)
  (As (ch_2 [3] 3000 Gh (Ci az_8 (Dc Ef rfl j6 B8 #v[3]) Aq (Ca _))
   (As (ee_0 (i:=7) (j:=3) a)
  (Ap (Bv [2,7] (Ci (Dv d) (Dc di_7 rfl j6 B8 #v[ca_1 d (Ad 2) (Ad 7)]) Aq (Ca _))
   (As (Bl (i:=8) [2,7] (Dc (di_9 m) rfl ai9 S3 #v[ca_1 d (Ad 2) (Ad 7)]) a)
  (As (ct_1 (i:=4) (dq_1 #v[8,7]))
  (As (ca_2 (i:=5) [] d y_8 (Ad 8))
  (As (ds_9 (i:=2) o p ai8 (Ad 8) (Ew (Ad 0) (Ad 8)))
  (Ap (eQ_9 (i:=3) (Ew (Ad 0) (Ad 8))))))))
   Cp))))
  (As (bg_8 (i:=6) [0,5] (N':=["edges","size","standing","waiting","order","taken","left","place","?8","number"]) m (n_5 l3 #v[Dc Ef rfl j6 B8 #v[0]]) rfl ∅ rfl (λC s0 H0 fp pn=>⟨(gcM (i:=9)),(bj_8 (Ci (bu_9 d) (Ad 9) (Ad 5) (by with_unfolding_all rfl))),(Ad 9)⟩) a)
  (Ap (ee_3 (i:=4) (j:=6)))))))))
variable(aa5:bn_7 P w K r u)(bb2:cp_7 P w K r u)
def ej_0:AH P w K r u f B "fate" 52 6 Lh 3 u_6:=λF=>Bo (N:=["keys","salt","kind","edges"]) F λm o d a p=>(As (Bl (i:=3) [0,1,2] (Bb o p aa5 #v[0,1,2]) a)
  (Ap (Be [0,2,3] (Bb o p bb2 #v[3,Az Go (Ad 2) (Bb o p p7 #v[Dc Ef rfl j6 B8 #v[0],2])]))))
variable(ag7:dz_5 P w K r u)
def cq_4:AH P w K r u f B "succeeds" 53 7 Lh 3 f_4:=λF=>Bo (N:=["keys","salt","kind","left"]) F λm o d a p=>(As (Bl (i:=3) [0,1,2] (Ew (Bb o p ag7 #v[0,1,2]) Aq) a)
  (Ap (Be [3] (x_3 (Dv d) (Dc Ef rfl j6 B8 #v[3]) Aq (Ca _)))))
variable(ao9:bn_8 P w K r u){j2:Addr}(bb0:XC0 K r "NoTry" j2)
def ce_9:AH P w K r u f B "first_try" 54 8 ["keys","kind","most"] 3 Ga:=λF=>Bo (N:=["keys","kind","most","salt"]) F λm o d a p=>(As (l_2 [0] (Bb o p y6 #v[0]))
  (As (Hk [2] Gh m (n_5 l3 #v[2]) (q_8 (i:=3) a)
   (Ap (Bv [0,1,3] (Fu (Bb o p ao9 #v[0,3,1]))
   (Ap (w_0 3))
   Cp)))
  (Ap (bv_6 bb0 (RoomC.mono o ⋯) y_2))))
def bc_1:AH P w K r u f B "chosen_places" 64 7 Lh 3 p_9:=λF=>Bo (N:=["keys","salt","kind","chosen","number","place"]) F λm o d a p=>(As (Bl (i:=3) [] bh_1 a)
  (As (Hk [0,1,2] Gh m (x_1 (Ew (Bb o p ag7 #v[0,1,2]) Aq)) (al_9 (i:=4) (j:=5) m a)
   (Ap (ca_2 (i:=3) [5] d (Ad 5) (Ad 4))))
  (Ap (Be [0,3] (t_8 (N':=["keys","salt","kind","chosen","?4","place","number"]) m (n_5 l3 #v[Dc Ef rfl j6 B8 #v[0]]) rfl ∅ rfl (λC s0 H0 fp pn=>⟨(gcM (i:=6)),z_8,(ca_1 d (Ad 3) (Ad 6))⟩))))))
def cq_5:AH P w K r u f B "is_below" 14 1 ["number","limit"] 2 m_8:=λF=>Bo (N:=["number","limit"]) F λm o d a p=>(Ap (Be [0,1] (az_6 (dq_0 (am_2 aa8 (Ad 0) f6 ag4 ap_1)) (az_5 (bj_1 bj_6 ah_7 Aq (Ad 0) (Ad 1))))))
def cf_0:AH P w K r u f B "remainder" 41 1 L35 2 v_6:=λF=>Bo (N:= L35) F λm o d a p=>(Ap (Be [0,1] (da_1 (Ci (Dv d) (Ad 1) Aq (Ca _)) Aq (Az Ge (Ad 0) (Ad 1)))))
variable(y0:bn_9 P w K r u)(ac0:be_8 P w K r u)(bk2:r "sum" =none)
def dn_2:AH P w K r u f B "summed" 42 2 ["table","places","modulus"] 3 ab_5:=λF=>Bo (N:=["table","places","modulus","found"]) F λm o d a p=>(As (bg_8 (i:=3) [0,1] (N':=["table","places","modulus","found","place"]) m (x_1 (Ad 1)) rfl ∅ rfl (λC s0 H0 fp pn=>⟨(gcM (i:=4)),(bj_8 (Fu (Bb (n_6 o) n_1 y0 #v[4,Dc Ef rfl j6 B8 #v[0]]))),(Ew (Ad 0) (Ad 4))⟩) a)
  (Ap (Be [2,3] (Bb o p ac0 #v[Dc (di_5 m) rfl bk2 PyProof.Rows.boot_sum #v[3],2]))))
variable(ak0:cp_8 P w K r u)(ao2:r "reversed" =none)
def dn_3:AH P w K r u f B "filled" 43 3 L11 5 an_3:=λF=>Bo (N:=["edges","size","order","wanted","modulus","table","number","place","lacking"]) F λm o d a p=>(As (Bl (i:=5) [1] (ct_4 #v[Aq] (Ad 1)) a)
  (As (Hk [2] Gh m (ep_8 ao2 (Ad 2)) (al_9 (i:=6) (j:=7) m a)
   (As (Bl (i:=8) [0,3,4,5,6] (Az y_0 (Ew (Ad 3) (Ad 6)) (Bb o p ak0 #v[5,Ew (Ad 0) (Ad 6),4])) a)
  (Ap (Bv [1,7] (Fu (Bb o p y0 #v[7,1]))
   (Ap (ed_4 (i:=5) [4,8] (Bb o p ac0 #v[8,4]) (Ad 7)))
   Cp))))
  (Ap (w_0 5))))
variable(aa4:OFld K ["Table"] "by_salt")(ac9:OFld K ["Table"] "kind")(aq4:OFld K ["Table"] "part")(ad5:OFld K ["Table"] "modulus")(ab6:OFld K ["Table"] "listed")
abbrev L10:List Str:=["self","salt","kind","part","modulus","listed"]
def ay_8(F:Fun K "__init__" "Table.__init__" (Bc 56 0) f B){CI:Addr}(hCI:ClsAt K "Table" CI):FnX P w K r u true 1 f B L10 (spI K CI 5 ad_3):=
 Gu (n:=5) (cn:= "Table") (N:= L10) F hCI ⋯ ⋯ λm o d a p=>(As (Fo (i:=0) [1] aa4 (Ad 1))
  (As (Fo (i:=0) [2] ac9 (Ad 2))
  (As (Fo (i:=0) [3] aq4 (Ad 3))
  (As (Fo (i:=0) [4] ad5 (Ad 4))
  (Ap (Fo (i:=0) [5] ab6 (Ad 5)))))))
variable(az4:cp_9 P w K r u)(ad7:Fz P w K r u true "Table" 1 5 ad_3)
def cf_1:AH P w K r u f B "table_for" 57 7 L14 5 i_3:=λF=>Bo (N:=["keys","salt","kind","modulus","wanted","part","edges","order"]) F λm o d a p=>(As (Bl (i:=5) [0,2] (Bb o p p7 #v[Dc Ef rfl j6 B8 #v[0],2]) a)
  (As (Bl (i:=6) [0,1,2] (Bb o p aa5 #v[0,1,2]) a)
  (As (Bl (i:=7) [0,1,2] (Ew (Bb o p ag7 #v[0,1,2]) Aq) a)
  (Ap (Be [1,2,3,4,5,6,7] (t_9 o p ad7 #v[1,2,5,3,Bb o p az4 #v[6,Az Go (Ad 2) (Ad 5),7,4,3]]))))))
def bc_2:AH P w K r u f B "row_with_ones" 65 1 ["places","size"] 2 l_8:=λF=>Bo (N:=["places","size"]) F λm o d a p=>(Ap (Be [0,1] (bg_9 R8 PySem.F.slot_str_join PySem.F.type_str_join ch_9 Bw #v[(t_8 (N':=["places","size","place"]) m (n_5 l3 #v[1]) rfl ∅ rfl (λC s0 H0 fp pn=>⟨(gcM (i:=2)),z_8,(da_1 (Ci cs_6 (Ad 2) (Ad 0) (by with_unfolding_all rfl)) Bw Bw)⟩))])))
variable(d9:OFld K La "how_many")
abbrev L24:List Str:=["self","how_many"]
def af_1(F:Fun K "__init__" "House.__init__" (Bc 63 0) f B){CI:Addr}(hCI:ClsAt K "Peeled" CI):FnX P w K r u true 1 f B L24 (spI K CI 1 f_3):=
 Gu (n:=1) (cn:= "Peeled") (N:= L24) F hCI ⋯ ⋯ λm o d a p=>(Ap (Fo (i:=0) [1] d9 (Ad 1)))
variable(p5:be_7 P w K r u)(ac7:ak_4 P w K r u)(x4:be_9 P w K r u)(ac6:ak_5 P w K r u)(x6:MakB P w K r u true "House" "Peeled" 1 1 f_3)(a9:OFld K La "own_table")(o9:OFld K Ll "used_row")
def au_8(F:Fun K "__init__" "Peeled.__init__" (Bc 66 0) f B){CI:Addr}(hCI:ClsAt K "Peeled" CI):FnX P w K r u true 9 f B ["self","keys","kind","most"] (spI K CI 3 z_2):=
 Gu (n:=3) (cn:= "Peeled") (N:=["self","keys","kind","most","salt","part","chosen"]) F hCI ⋯ ⋯ λm o d a p=>(As (Bl (i:=4) [1,2,3] (Bb o p p5 #v[1,2,3]) a)
  (As (cl_4 (i:=0) [1] o p x6 (Dc Ef rfl j6 B8 #v[1]))
  (As (Bl (i:=5) [1,2] (Bb o p p7 #v[Dc Ef rfl j6 B8 #v[1],2]) a)
  (As (Bl (i:=6) [1,2,4] (Bb o p ac7 #v[1,4,2]) a)
  (As (Fo (i:=0) [1,2,4,5,6] a9 (Bb o p x4 #v[1,4,2,2,(t_8 (N':=["self","keys","kind","most","salt","part","chosen","place"]) m (x_1 (Ad 6)) rfl ∅ rfl (λC s0 H0 fp pn=>⟨(gcM (i:=7)),z_8,(Az q_7 (Ad 7) (Ad 5))⟩))]))
  (Ap (Fo (i:=0) [2,5,6] o9 (Bb o p ac6 #v[6,Az Go (Ad 2) (Ad 5)]))))))))
def ac_5(F:Fun K "__init__" "House.__init__" (Bc 63 0) f B){CI:Addr}(hCI:ClsAt K "Ordered" CI):FnX P w K r u true 1 f B L24 (spI K CI 1 g_6):=
 Gu (n:=1) (cn:= "Ordered") (N:= L24) F hCI ⋯ ⋯ λm o d a p=>(Ap (Fo (i:=0) [1] d9 (Ad 1)))
variable(u6:MakB P w K r u true "House" "Ordered" 1 1 g_6)
def aq_4(F:Fun K "__init__" "Ordered.__init__" (Bc 67 0) f B){CI:Addr}(hCI:ClsAt K "Ordered" CI):FnX P w K r u true 9 f B ["self","keys","kind","most"] (spI K CI 3 x_7):=
 Gu (n:=3) (cn:= "Ordered") (N:=["self","keys","kind","most","salt"]) F hCI ⋯ ⋯ λm o d a p=>(As (Bl (i:=4) [1,2,3] (Bb o p p5 #v[1,2,3]) a)
  (As (cl_4 (i:=0) [1] o p u6 (Dc Ef rfl j6 B8 #v[1]))
  (Ap (Fo (i:=0) [1,2,4] a9 (Bb o p x4 #v[1,4,2,Dc Ef rfl j6 B8 #v[1],aq_8 m ab4 l3 #v[Dc Ef rfl j6 B8 #v[1]]])))))
def dn_4:AH P w K r u f B "two_to" 15 1 ["width"] 1 q_0:=λF=>Bo (N:=["width","power","turn"]) F λm o d a p=>(As (Bl (i:=1) [] Aq a)
  (As (Hk [0] Gh m (n_5 l3 #v[0]) (q_8 (i:=2) a)
   (Ap (Bl (i:=1) [1] (Az Go (Ad 1) Aq) a)))
  (Ap (w_0 1))))
variable{f7:Addr}(al5:XC P w K r u "NoValue" "at" f7)
def bo_9:AH P w K r u f B "look_values" 59 3 ["values","many","limit"] 3 t_2:=λF=>Bo (N:=["values","many","limit","place","value"]) F λm o d a p=>(As (Hk [0] Gh m (ad_0 k8 (Ad 0)) (al_9 (i:=3) (j:=4) m a)
   (Ap (Bv [1,2,3,4] (td_w (bj_2 (Ci eo_9 (Ad 3) (Ad 1) (Ca _)) (az_4 (z_7 (Fu (Bb o p y0 #v[4,2]))))))
   (Ap (z_0 [3] al5 (RoomC.mono o ⋯) y_2 (Ad 3)))
   Cp)))
  (Ap (Bv [0,1] (Ci ah_7 (Dc Ef rfl j6 B8 #v[0]) (Ad 1) (Ca _))
   (Ap (z_0 [0] al5 (RoomC.mono o ⋯) y_2 (Dc Ef rfl j6 B8 #v[0])))
   Cp)))
variable(z8:cq_0 P w K r u)(af4:as_3 P w K r u)(u0:OFld K Lb "width")
def bc_3(F:Fun K "__init__" "Kept.__init__" (Bc 60 0) f B){CI:Addr}(hCI:ClsAt K "Kept" CI):FnX P w K r u true 9 f B ["self","keys","values","width","kind","most"] (spI K CI 5 Hw):=
 Gu (n:=5) (cn:= "Kept") (N:=["self","keys","values","width","kind","most","limit","salt"]) F hCI ⋯ ⋯ λm o d a p=>(As (Bl (i:=6) [3] (Bb o p z8 #v[3]) a)
  (As (Fo (i:=0) [1] d9 (Bb o p y6 #v[1]))
  (As (l_2 [1,2,6] (Bb o p af4 #v[2,Dc Ef rfl j6 B8 #v[1],6]))
  (As (Bl (i:=7) [1,4,5] (Bb o p p5 #v[1,4,5]) a)
  (As (Fo (i:=0) [3] u0 (Ad 3))
  (Ap (Fo (i:=0) [1,2,4,6,7] a9 (Bb o p x4 #v[1,7,4,6,2]))))))))
variable{bf5:Tok}(ak2:r "MARK_SALT" =some (.int 3 bf5))
def ej_1:AH P w K r u f B "mark" 36 4 ["key","width"] 2 Hr:=λF=>Bo (N:=["key","width"]) F λm o d a p=>(Ap (Be [0,1] (Bb o p ap9 #v[Bb o p ap3 #v[0],ah_6 rfl ak2,Bb o p z8 #v[1]])))
variable(ak7:dz_6 P w K r u)
def au_9(F:Fun K "__init__" "Marked.__init__" (Bc 61 0) f B){CI:Addr}(hCI:ClsAt K "Marked" CI):FnX P w K r u true 9 f B ["self","keys","width","kind","most"] (spI K CI 4 ab_6):=
 Gu (n:=4) (cn:= "Marked") (N:=["self","keys","width","kind","most","salt"]) F hCI ⋯ ⋯ λm o d a p=>(As (Bl (i:=5) [1,3,4] (Bb o p p5 #v[1,3,4]) a)
  (As (Fo (i:=0) [1] d9 (Dc Ef rfl j6 B8 #v[1]))
  (As (Fo (i:=0) [2] u0 (Ad 2))
  (Ap (Fo (i:=0) [1,2,3,5] a9 (Bb o p x4 #v[1,5,3,Bb o p z8 #v[2],(t_8 (N':=["self","keys","width","kind","most","salt","key"]) m (x_1 (Ad 1)) rfl ∅ rfl (λC s0 H0 fp pn=>⟨(gcM (i:=6)),z_8,(Bb (n_6 o) n_1 ak7 #v[6,2])⟩))]))))))
variable(ar3:Fz P w K r u true "Peeled" 9 3 z_2)(ao1:Fz P w K r u true "Ordered" 9 3 x_7)(be1:Fz P w K r u true "Kept" 9 5 Hw)(ar9:Fz P w K r u true "Marked" 9 4 ab_6)
def cq_6:AH P w K r u f B "_law_made" 87 11 Ld 4 f_0:=λF=>Bo (N:= Ld) F λm o d a p=>(As (Bv [3] (Ci (Dv d) (Ad 3) Aq (Ca _))
   (Ap (l_2 [0,1] (Bb o p aa5 #v[0,Aq,1])))
   (Ap (Bv [3] (Ci (Dv d) (Ad 3) Aq (Ca _))
   (Ap (l_2 [0,1] (Bb o p ag7 #v[0,Aq,1])))
   (Ap (Bv [3] (Ci (Dv d) (Ad 3) Aq (Ca _))
   (Ap (l_2 [0,1,2] (Bb o p p5 #v[0,1,2])))
   (Ap (Bv [3] (Ci (Dv d) (Ad 3) Aq (Ca _))
   (Ap (Be [0,1,2] (t_9 o p ar3 #v[0,1,2])))
   (Ap (Bv [3] (Ci (Dv d) (Ad 3) Aq (Ca _))
   (Ap (Be [0,1,2] (t_9 o p ao1 #v[0,1,2])))
   (Ap (Bv [3] (Ci (Dv d) (Ad 3) Aq (Ca _))
   (Ap (Be [0,1,2] (t_9 o p be1 #v[0,ct_4 #v[Aq] (Dc Ef rfl j6 B8 #v[0]),Aq,1,2])))
   (Ap (Bv [3] (Ci (Dv d) (Ad 3) Aq (Ca _))
   (Ap (Be [0,1,2] (t_9 o p ar9 #v[0,Aq,1,2])))
   Cp)))))))))))))
  (Ap (Be [] az_3)))
variable(ah3:r "ValueError" =none){n8:Addr}{g7:Addr}{l9:Addr}{v5:Addr}{m6:Addr}{p8:Addr}{v7:Addr}(ae3:r "LodgeError" =some (.ref n8))(af7:r "Twice" =some (.ref i9))(ag0:r "NoTry" =some (.ref j2))(ad1:r "NoKeys" =some (.ref f8))(ac3:r "NoKey" =some (.ref j0))(al4:r "NoBits" =some (.ref g7))(ao7:r "NoEdges" =some (.ref l9))(ba9:r "NoFit" =some (.ref v5))(an5:r "NoRange" =some (.ref m6))(au2:r "NoSuch" =some (.ref p8))(ag6:r "NoValue" =some (.ref f7))(bc0:r "Stuck" =some (.ref v7))(af3:IsOne K (.ref n8) J13)(bb4:IsOne K (.ref i9) J11)(ay2:IsOne K (.ref j2) J10)(at3:IsOne K (.ref f8) L98)(az8:IsOne K (.ref j0) L97)(ad2:IsOne K (.type "ValueError") J13)(n5:IsAny K [g7,l9,v5,m6] J18)(x5:IsAny K [p8,f7,v7] J19)
def bp_0(F:Fun K "_law_strange" "_law_strange" (Ay 86) f B):FnB P w K r u 1 f B ["_law_error","_law_own"] (Bh K 2 m_9):=
 ex_9 (N:=["_law_error","_law_own","_law_some"]) F λbx o d a p=>(As (Bv [0] (td_w (bj_2 (z_7 (Fu (bk_8 af3 (Ad 0) f6 ae3))) (az_4 (z_7 (Fu (er_5 ad2 (Ad 0) f6 ah3 bf_7))))))
   (Ap (Be [] y_8))
   Cp)
  (As (Bl (i:=2) [0] (Cz #v[bk_8 az8 (Ad 0) f6 ac3,bk_8 at3 (Ad 0) f6 ad1,bk_8 ay2 (Ad 0) f6 ag0,bk_8 bb4 (Ad 0) f6 af7]) a)
  (As (Bv [1,2] (Ci (al_7 d) (Ad 2) (du_7 (N':=["_law_error","_law_own","_law_some","_law_one"]) bx (cv_2 l3 #v[Aq]) rfl ∅ rfl (λC s0 H0 fp pn=>⟨(gcM (i:=3)),z_8,(x_3 (Dv d) (Ad 3) (Ad 1) (Ca _))⟩)) (Ca _))
   (Ap (Be [] y_8))
   Cp)
  (As (Bv [0] (Fu (cl_2 n5 (Ad 0) f6 (ab_2 al4 (ab_2 ao7 (ab_2 ba9 (ab_2 an5 db_9))))))
   (Ap (Be [] y_8))
   Cp)
  (Ap (Be [0] (cl_2 x5 (Ad 0) f6 (ab_2 au2 (ab_2 ag6 (ab_2 bc0 db_9))))))))))
variable(ad8:bo_0 P w K r u)(r6:as_4 P w K r u)(ai7:Catches K j0 L97)(ar4:Catches K f8 L98)(ba3:Catches K j2 J10)(az6:Catches K i9 J11)(bd7:XGets K Lf "at")
def cf_2:AH P w K r u f B "_law_asked" 88 12 Ld 4 He:=λF=>Bo (N:=["_law_keys_here","_law_kind","_law_most","_law_way","_law_handed","_law_told","_law_strange_here","_law_error"]) F λm o d a p=>(As (Bl (i:=4) [0] (s_1 al_8 rfl ab4 P3 #v[0]) a)
  (As (Bl (i:=5) [] (Cz #v[Bw,Aq]) a)
  (As (Bl (i:=6) [] y_8 a)
  (As (dc_0 a rfl rfl (λzd W EXB lkB=>(Ap (l_2 [1,2,3,4] (Bb (cl_3 o) lkB ad8 #v[4,1,2,3])))) (HOk3.as_ (i:=7) ac3 ai7 (λe=>(As (Bl (i:=5) [7] (Cz #v[Bw,cc_1 bd7 (Ad 7)]) a)
  (Ap (Bl (i:=6) [7] (am_8 aw_8 (af_7 o) n_1 r6 #v[7,Aq]) a)))) (HOk3.as_ (i:=7) ad1 ar4 (λe=>(As (Bl (i:=5) [] (Cz #v[Bw,Aq]) a)
  (Ap (Bl (i:=6) [7] (am_8 aw_8 (af_7 o) n_1 r6 #v[7,Aq]) a)))) (HOk3.as_ (i:=7) ag0 ba3 (λe=>(As (Bl (i:=5) [] (Cz #v[Bw,Aq]) a)
  (Ap (Bl (i:=6) [7] (am_8 aw_8 (af_7 o) n_1 r6 #v[7,Aq]) a)))) (HOk3.as_ (i:=7) af7 az6 (λe=>(As (Bl (i:=5) [7] (Cz #v[Bw,cc_1 bd7 (Ad 7)]) a)
  (Ap (Bl (i:=6) [7] (am_8 aw_8 (af_7 o) n_1 r6 #v[7,Aq]) a)))) .nil)))))
  (As (Bv [0,4,5,6] (td_w (bj_2 (Fu (Ad 6)) (bj_2 (Ci (al_7 d) (Ad 4) (Ad 0) (Ca _)) (az_4 (Fu (am_2 aa8 (Ew (Ad 5) Aq) f6 ag4 ap_1))))))
   (Ap (Be [] az_3))
   Cp)
  (Ap (w_0 5)))))))
variable(as9:bx_8 P w K r u)(aa7:bf_0 P w K r u)
def cf_3:AH P w K r u f B "_law_doors" 91 13 L18 3 m_3:=λF=>Bo (N:=["_law_keys_here","_law_kind","_law_most","_law_due_here","_law_tried","_law_way"]) F λm o d a p=>(As (Bl (i:=3) [0] (Bb o p as9 #v[0]) a)
  (As (Bl (i:=4) [3] (Ad 3) a)
  (As (Bv [3] (Ci (Dv d) (Ad 3) (Cz #v[Bw,Aq]) (Ca _))
   (As (Bl (i:=4) [0,1,2] (Bb o p aa7 #v[0,1,2,Aq]) a)
  (Ap (Bv [4] (Ci (dk_2 d) (Ad 4) (Cz #v[Cz #v[Bw,Aq],Cz #v[Bw,Aq]]) (by with_unfolding_all rfl))
   (Ap (Be [] y_8))
   Cp)))
   Cp)
  (As (Hk [] Gh m (n_5 l3 #v[Aq]) (q_8 (i:=5) a)
   (Ap (Bv [0,1,2,3,4,5] (Ci (al_7 d) (Bb o p aa7 #v[0,1,2,5]) (Ew (Cz #v[3,4]) (s_1 at_1 rfl ai3 Q2 #v[x_3 az_8 (Ad 5) Aq (Ca _)])) (Ca _))
   (Ap (Be [] y_8))
   Cp)))
  (Ap (Be [] y_8))))))
def bp_1:AH P w K r u f B "ones_before" 22 1 ["bits","place"] 2 ae_7:=λF=>Bo (N:=["bits","place"]) F λm o d a p=>(Ap (Be [0,1] (bg_9 R8 PySem.F.slot_str_count PySem.F.type_str_count di_1 (w_1 (Ad 0) ac_9 (y_1 (Dc (aa_6 m) rfl ak9 N3 #v[1,Aq]))) #v[Bw])))
abbrev Lc:List Str:=["self","key"]
def bg_3:AI P w K r u f B "places" "Table.places" 56 3 5 Lc 2 d_4:=λF=>Bo (N:= Lc) F λm o d a p=>(Ap (Be [0,1] (Bb o p z6 #v[1,Dp aa4 (Ad 0),Dp ac9 (Ad 0),Dp aq4 (Ad 0)])))
variable(f9:MethT P w K r u true 5 1 "places" [("Table",d_4)])
def ag_7:AI P w K r u f B "places" "Peeled.places" 66 4 6 Lc 2 b_3:=λF=>Bo (N:= Lc) F λm o d a p=>(Ap (Be [0,1] (m_1 f9 o p (Dp a9 (Ad 0)) #v[1])))
def bp_2:AI P w K r u f B "total" "Table.total" 56 4 6 Lc 2 h_8:=λF=>Bo (N:= Lc) F λm o d a p=>(Ap (Be [0,1] (Bb o p ak0 #v[Dp ab6 (Ad 0),m_1 f9 o p (Ad 0) #v[1],Dp ad5 (Ad 0)])))
variable(ab8:as_5 P w K r u)(l7:MethT P w K r u true 6 1 "places" J26)(j5:MethT P w K r u true 6 1 "total" [("Table",h_8)])
def aa_2:AI P w K r u f B "number_of" "Peeled.number_of" 66 5 7 Lc 2 d_1:=λF=>Bo (N:=["self","key","choice"]) F λm o d a p=>(As (Bl (i:=2) [0,1] (Ew (m_1 l7 o p (Ad 0) #v[1]) (m_1 j5 o p (Dp a9 (Ad 0)) #v[1])) a)
  (Ap (Be [0,2] (Bb o p ab8 #v[Dp o9 (Ad 0),2]))))
def z_6:AI P w K r u f B "number_of" "Ordered.number_of" 67 4 7 Lc 2 c_5:=λF=>Bo (N:= Lc) F λm o d a p=>(Ap (Be [0,1] (m_1 j5 o p (Dp a9 (Ad 0)) #v[1])))
variable(d5:MethT P w K r u true 7 1 "number_of" J20)
def w_9:AI P w K r u f B "room" "House.room" 63 2 8 Lc 2 b_4:=λF=>Bo (N:= Lc) F λm o d a p=>(Ap (Be [0,1] (Dc (ba_1 m) rfl ai9 S3 #v[m_1 d5 o p (Ad 0) #v[1],Az y_0 (Dp d9 (Ad 0)) Aq])))
variable(c9:MethT P w K r u true 8 1 "room" J17)
def u_2:AI P w K r u f B "rooms" "House.rooms" 63 3 9 ["self","keys"] 2 b_7:=λF=>Bo (N:=["self","keys"]) F λm o d a p=>(As (l_2 [1] (Bb o p o6 #v[1]))
  (Ap (Be [0,1] (t_8 (N':=["self","keys","key"]) m (x_1 (Ad 1)) rfl ∅ rfl (λC s0 H0 fp pn=>⟨(gcM (i:=2)),z_8,(m_1 c9 (n_6 o) n_1 (Ad 0) #v[2])⟩)))))
def ad_8:AI P w K r u f B "places" "Ordered.places" 67 3 6 Lc 2 d_0:=λF=>Bo (N:= Lc) F λm o d a p=>(Ap (Be [0,1] (m_1 f9 o p (Dp a9 (Ad 0)) #v[1])))
def ao_4:AI P w K r u f B "places" "Kept.places" 60 4 6 Lc 2 e_3:=λF=>Bo (N:= Lc) F λm o d a p=>(Ap (Be [0,1] (m_1 f9 o p (Dp a9 (Ad 0)) #v[1])))
def ag_8:AI P w K r u f B "places" "Marked.places" 61 4 6 Lc 2 d_7:=λF=>Bo (N:= Lc) F λm o d a p=>(Ap (Be [0,1] (m_1 f9 o p (Dp a9 (Ad 0)) #v[1])))
def as_8:AI P w K r u f B "value" "Kept.value" 60 5 7 Lc 2 h_1:=λF=>Bo (N:= Lc) F λm o d a p=>(Ap (Be [0,1] (m_1 j5 o p (Dp a9 (Ad 0)) #v[1])))
def ak_7:AI P w K r u f B "knows" "Marked.knows" 61 5 7 Lc 2 e_7:=λF=>Bo (N:= Lc) F λm o d a p=>(Ap (Be [0,1] (x_3 (Dv d) (m_1 j5 o p (Dp a9 (Ad 0)) #v[1]) (Bb o p ak7 #v[1,Dp u0 (Ad 0)]) (Ca _))))
variable(i7:MethT P w K r u true 9 1 "rooms" J21)(d6:MethT P w K r u true 6 1 "places" J14)(x8:MethT P w K r u true 7 1 "value" J29)(q9:MethT P w K r u true 7 1 "knows" J27)
def cq_7:AH P w K r u f B "_law_door" 92 10 Le 3 i_8:=λF=>Bo (N:= Le) F λm o d a p=>(Ap (Bv [2] (Ci (Dv d) (Ad 2) Bw (Ca _))
   (Ap (l_2 [1] (Bb o p ak7 #v[1,Aq])))
   (Ap (Bv [2] (Ci (Dv d) (Ad 2) Bw (Ca _))
   (Ap (l_2 [1] (Bb o p z6 #v[1,Aq,Aq,Aq])))
   (Ap (Bv [2] (Ci (Dv d) (Ad 2) Bw (Ca _))
   (Ap (l_2 [0,1] (m_1 c9 o p (Ad 0) #v[1])))
   (Ap (Bv [2] (Ci (Dv d) (Ad 2) Bw (Ca _))
   (Ap (l_2 [0,1] (m_1 i7 o p (Ad 0) #v[Cz #v[Aq,Bw,1,Az y_0 Aq Aq]])))
   (Ap (Bv [2] (Ci (Dv d) (Ad 2) Bw (Ca _))
   (Ap (l_2 [0,1] (m_1 d6 o p (Ad 0) #v[1])))
   (Ap (Bv [2] (Ci (Dv d) (Ad 2) Bw (Ca _))
   (Ap (l_2 [0,1] (m_1 x8 o p (Ad 0) #v[1])))
   (Ap (l_2 [0,1] (m_1 q9 o p (Ad 0) #v[1])))))))))))))))
variable(an8:bo_1 P w K r u)
def cq_8:AH P w K r u f B "_law_shut" 93 11 Le 3 g_4:=λF=>Bo (N:=["_law_house","_law_thing","_law_door_here","_law_told","_law_error"]) F λm o d a p=>(As (Bl (i:=3) [] az_3 a)
  (As (dc_0 a rfl rfl (λzd W EXB lkB=>(Ap (l_2 [0,1,2] (Bb (cl_3 o) lkB an8 #v[0,1,2])))) (HOk3.as_ (i:=4) ac3 ai7 (λe=>(Ap (Bl (i:=3) [4] (Cz #v[cc_1 bd7 (Ad 4),am_8 aw_8 (af_7 o) n_1 r6 #v[4,Aq]]) a))) .nil))
  (Ap (Be [2,3] (az_6 (x_3 (Dv d) (Ad 3) (Cz #v[Ew (Cz #v[Aq,Aq]) (s_1 at_1 rfl ai3 Q2 #v[x_3 (Dv d) (Ad 2) Bw (Ca _)]),y_8]) (Ca _)) (az_5 (dq_0 (am_2 aa8 (Ew (Ad 3) Aq) f6 ag4 ap_1))))))))
def bp_3:AH P w K r u f B "is_multiple" 18 1 ["length","width"] 2 t_3:=λF=>Bo (N:=["length","width"]) F λm o d a p=>(As (Bv [1] (Ci ah_7 (Ad 1) Aq (Ca _))
   (Ap (Be [0] (x_3 (Dv d) (Ad 0) Aq (Ca _))))
   Cp)
  (Ap (Be [0,1] (x_3 (Dv d) (Az Ge (Ad 0) (Ad 1)) Aq (Ca _)))))
variable(ae8:as_6 P w K r u)(af8:XC P w K r u "NoBits" "at" g7)
def cf_4:AH P w K r u f B "look_bits" 19 3 L29 2 z_3:=λF=>Bo (N:=["bits","width","place","sign"]) F λm o d a p=>(As (Hk [0] Gh m (ad_0 k8 (Ad 0)) (al_9 (i:=2) (j:=3) m a)
   (Ap (Bv [3] (td_w (eo_3 (Ci (al_7 d) (Ad 3) Bw (Ca _)) (eb_8 (Ci (al_7 d) (Ad 3) Bw (Ca _)))))
   (Ap (z_0 [2] af8 (RoomC.mono o ⋯) y_2 (Ad 2)))
   Cp)))
  (Ap (Bv [0,1] (z_7 (Fu (Bb o p ae8 #v[Dc Ef rfl j6 B8 #v[0],1])))
   (Ap (z_0 [0] af8 (RoomC.mono o ⋯) y_2 (Dc Ef rfl j6 B8 #v[0])))
   Cp)))
def bp_4:AH P w K r u f B "number_read" 20 1 ["bits"] 1 t_4:=λF=>Bo (N:=["bits","number","sign"]) F λm o d a p=>(As (Bl (i:=1) [] Aq a)
  (As (Hk [0] Gh m (x_1 (Ad 0)) (q_8 (i:=2) a)
   (Ap (Bl (i:=1) [1,2] (Az Df (Az Go Aq (Ad 1)) (da_1 (Ci (Dv d) (Ad 2) Bw (Ca _)) Aq Aq)) a)))
  (Ap (w_0 1))))
variable(ai6:bf_2 P w K r u)(ae4:as_7 P w K r u)
def cf_5:AH P w K r u f B "read_bits" 21 4 L29 2 z_4:=λF=>Bo (N:=["bits","width","numbers","start"]) F λm o d a p=>(As (l_2 [0,1] (Bb o p ai6 #v[0,1]))
  (As (Bl (i:=2) [] (Cz Ak) a)
  (As (Bl (i:=3) [] Aq a)
  (As (ch_2 [0,3] 3000 Gh (Ci ah_7 (Ad 3) (Dc Ef rfl j6 B8 #v[0]) (Ca _))
   (As (ct_1 (i:=2) (Bb o p ae4 #v[w_1 (Ad 0) (y_1 (Ad 3)) (y_1 (Az Df (Ad 3) (Ad 1)))]))
  (Ap (Bl (i:=3) [1,3] (Az Df (Ad 3) (Ad 1)) a))))
  (Ap (w_0 2))))))
variable(ak6:bf_3 P w K r u)
def bc_4:AH P w K r u f B "numbers_again" 75 5 L25 3 q_2:=λF=>Bo (N:= L25) F λm o d a p=>(Ap (Be [0,1,2] (da_1 (Ci az_8 (Ad 1) Aq (Ca _)) (Bb o p ak6 #v[0,1]) (ct_4 #v[Aq] (Ad 2)))))
abbrev L17:List Str:=["self","how_many","own_table","used_row"]
def ag_9(F:Fun K "__init__" "PeeledAgain.__init__" (Bc 69 0) f B){CI:Addr}(hCI:ClsAt K "PeeledAgain" CI):FnX P w K r u true 1 f B L17 (spI K CI 3 t_6):=
 Gu (n:=3) (cn:= "PeeledAgain") (N:= L17) F hCI ⋯ ⋯ λm o d a p=>(As (Fo (i:=0) [1] d9 (Ad 1))
  (As (Fo (i:=0) [2] a9 (Ad 2))
  (Ap (Fo (i:=0) [3] o9 (Ad 3)))))
def af_2(F:Fun K "__init__" "OrderedAgain.__init__" (Bc 70 0) f B){CI:Addr}(hCI:ClsAt K "OrderedAgain" CI):FnX P w K r u true 1 f B ["self","how_many","own_table"] (spI K CI 2 r_8):=
 Gu (n:=2) (cn:= "OrderedAgain") (N:=["self","how_many","own_table"]) F hCI ⋯ ⋯ λm o d a p=>(As (Fo (i:=0) [1] d9 (Ad 1))
  (Ap (Fo (i:=0) [2] a9 (Ad 2))))
abbrev Lq:List Str:=["self","how_many","own_table","width"]
def al_3(F:Fun K "__init__" "KeptAgain.__init__" (Bc 71 0) f B){CI:Addr}(hCI:ClsAt K "KeptAgain" CI):FnX P w K r u true 1 f B Lq (spI K CI 3 z_5):=
 Gu (n:=3) (cn:= "KeptAgain") (N:= Lq) F hCI ⋯ ⋯ λm o d a p=>(As (Fo (i:=0) [1] d9 (Ad 1))
  (As (Fo (i:=0) [2] a9 (Ad 2))
  (Ap (Fo (i:=0) [3] u0 (Ad 3)))))
def ah_0(F:Fun K "__init__" "MarkedAgain.__init__" (Bc 72 0) f B){CI:Addr}(hCI:ClsAt K "MarkedAgain" CI):FnX P w K r u true 1 f B Lq (spI K CI 3 t_7):=
 Gu (n:=3) (cn:= "MarkedAgain") (N:= Lq) F hCI ⋯ ⋯ λm o d a p=>(As (Fo (i:=0) [1] d9 (Ad 1))
  (As (Fo (i:=0) [2] a9 (Ad 2))
  (Ap (Fo (i:=0) [3] u0 (Ad 3)))))
variable(ac8:ak_6 P w K r u)(ad4:Fz P w K r u true "PeeledAgain" 1 3 t_6)(ac5:Fz P w K r u true "OrderedAgain" 1 2 r_8)(ah4:Fz P w K r u true "KeptAgain" 1 3 z_5)(ad6:Fz P w K r u true "MarkedAgain" 1 3 t_7)
def cq_9:AH P w K r u f B "house_of" 76 6 Lz 7 r_9:=λF=>Bo (N:=["name","kind","salt","many","width","bits","used","part","listed","own_table"]) F λm o d a p=>(As (Bl (i:=7) [1,3] (Bb o p p7 #v[3,1]) a)
  (As (Bl (i:=8) [1,4,5,7] (Bb o p ac8 #v[5,4,Az Go (Ad 1) (Ad 7)]) a)
  (As (Bv [0] (Ci (Dv d) (Ad 0) Bw (Ca _))
   (Ap (Be [1,2,3,6,7,8] (t_9 o p ad4 #v[3,t_9 o p ad7 #v[2,1,7,1,8],6])))
   Cp)
  (As (Bv [0] (Ci (Dv d) (Ad 0) Bw (Ca _))
   (Ap (Be [1,2,3,7,8] (t_9 o p ac5 #v[3,t_9 o p ad7 #v[2,1,7,3,8]])))
   Cp)
  (As (Bl (i:=9) [1,2,4,7,8] (t_9 o p ad7 #v[2,1,7,Bb o p z8 #v[4],8]) a)
  (As (Bv [0] (Ci (Dv d) (Ad 0) Bw (Ca _))
   (Ap (Be [3,4,9] (t_9 o p ah4 #v[3,9,4])))
   Cp)
  (Ap (Be [3,4,9] (t_9 o p ad6 #v[3,9,4])))))))))
variable(ao0:bo_3 P w K r u)
def bs_0:AH P w K r u f B "made_again" 77 7 ["what"] 1 h_9:=λF=>Bo (N:=["what"]) F λm o d a p=>(Ap (Be [0] (Bb o p ao0 #v[Ew (Ad 0) Aq,Ew (Ad 0) Aq,Ew (Ad 0) Aq,Ew (Ad 0) Aq,Ew (Ad 0) Aq,Ew (Ad 0) Aq,Ew (Ad 0) Aq])))
def ay_9:AH P w K r u f B "number_written" 16 1 ["number","width"] 2 o_2:=λF=>Bo (N:=["number","width","signs","rest","turn"]) F λm o d a p=>(As (Bl (i:=2) [] Bw a)
  (As (Bl (i:=3) [0] (Ad 0) a)
  (As (Hk [1] Gh m (n_5 l3 #v[1]) (q_8 (i:=4) a)
   (As (Bl (i:=2) [2,3] (Az Df (s_1 cs_7 rfl ba0 W1 #v[Az Ge (Ad 3) Aq]) (Ad 2)) a)
  (Ap (Bl (i:=3) [3] (Az q_7 (Ad 3) Aq) a))))
  (Ap (w_0 2)))))
variable(ab3:ag_6 P w K r u)
def cy_6:AH P w K r u f B "written" 17 3 ["numbers","width"] 2 ag_3:=λF=>Bo (N:=["numbers","width","limit","place","number"]) F λm o d a p=>(As (Bl (i:=2) [1] (Bb o p z8 #v[1]) a)
  (As (Hk [0] Gh m (ad_0 k8 (Ad 0)) (al_9 (i:=3) (j:=4) m a)
   (Ap (Bv [2,4] (z_7 (Fu (Bb o p y0 #v[4,2])))
   (Ap (z_0 [3] af8 (RoomC.mono o ⋯) y_2 (Ad 3)))
   Cp)))
  (Ap (Be [0,1] (bg_9 R8 PySem.F.slot_str_join PySem.F.type_str_join ch_9 Bw #v[(t_8 (N':=["numbers","width","limit","place","?4","number"]) m (x_1 (Ad 0)) rfl ∅ rfl (λC s0 H0 fp pn=>⟨(gcM (i:=5)),z_8,(Bb (n_6 o) n_1 ab3 #v[5,1])⟩))])))))
def bp_5:AI P w K r u f B "table" "Table.table" 56 2 1 ["self"] 1 k_6:=λF=>Bo (N:=["self"]) F λm o d a p=>(Ap (Be [0] (s_1 al_8 rfl ab4 P3 #v[Dp ab6 (Ad 0)])))
variable(j4:MethT P w K r u true 1 0 "table" [("Table",k_6)])
def ak_8:AI P w K r u f B "table" "Peeled.table" 66 2 2 ["self"] 1 f_5:=λF=>Bo (N:=["self"]) F λm o d a p=>(Ap (Be [0] (n_8 j4 o p (Dp a9 (Ad 0)))))
def ah_1:AI P w K r u f B "table" "Ordered.table" 67 2 2 ["self"] 1 e_8:=λF=>Bo (N:=["self"]) F λm o d a p=>(Ap (Be [0] (n_8 j4 o p (Dp a9 (Ad 0)))))
def as_9:AI P w K r u f B "table" "Kept.table" 60 3 2 ["self"] 1 i_0:=λF=>Bo (N:=["self"]) F λm o d a p=>(Ap (Be [0] (n_8 j4 o p (Dp a9 (Ad 0)))))
def ak_9:AI P w K r u f B "table" "Marked.table" 61 3 2 ["self"] 1 f_6:=λF=>Bo (N:=["self"]) F λm o d a p=>(Ap (Be [0] (n_8 j4 o p (Dp a9 (Ad 0)))))
def x_0:AI P w K r u f B "many" "House.many" 63 1 1 ["self"] 1 b_6:=λF=>Bo (N:=["self"]) F λm o d a p=>(Ap (Be [0] (Dp d9 (Ad 0))))
def az_0:AI P w K r u f B "many" "Kept.many" 60 1 1 ["self"] 1 h_4:=λF=>Bo (N:=["self"]) F λm o d a p=>(Ap (Be [0] (Dp d9 (Ad 0))))
def ao_5:AI P w K r u f B "many" "Marked.many" 61 1 1 ["self"] 1 e_9:=λF=>Bo (N:=["self"]) F λm o d a p=>(Ap (Be [0] (Dp d9 (Ad 0))))
def bs_1:AI P w K r u f B "salt" "Table.salt" 56 1 1 ["self"] 1 m_4:=λF=>Bo (N:=["self"]) F λm o d a p=>(Ap (Be [0] (Dp aa4 (Ad 0))))
variable(k7:MethT P w K r u true 1 0 "salt" [("Table",m_4)])
def ao_6:AI P w K r u f B "salt" "Peeled.salt" 66 1 2 ["self"] 1 g_7:=λF=>Bo (N:=["self"]) F λm o d a p=>(Ap (Be [0] (n_8 k7 o p (Dp a9 (Ad 0)))))
def al_0:AI P w K r u f B "salt" "Ordered.salt" 67 1 2 ["self"] 1 f_7:=λF=>Bo (N:=["self"]) F λm o d a p=>(Ap (Be [0] (n_8 k7 o p (Dp a9 (Ad 0)))))
def az_1:AI P w K r u f B "salt" "Kept.salt" 60 2 2 ["self"] 1 j_1:=λF=>Bo (N:=["self"]) F λm o d a p=>(Ap (Be [0] (n_8 k7 o p (Dp a9 (Ad 0)))))
def ao_7:AI P w K r u f B "salt" "Marked.salt" 61 2 2 ["self"] 1 g_8:=λF=>Bo (N:=["self"]) F λm o d a p=>(Ap (Be [0] (n_8 k7 o p (Dp a9 (Ad 0)))))
variable(ar7:bx_9 P w K r u)(d7:MethT P w K r u true 2 0 "table" J15)(b9:MethT P w K r u true 1 0 "many" J12)(d8:MethT P w K r u true 2 0 "salt" J16)
def cy_7:AH P w K r u f B "told_by" 73 4 ["name","house","width","used"] 4 l_9:=λF=>Bo (N:=["name","house","width","used","bits"]) F λm o d a p=>(As (Bl (i:=4) [1,2] (Bb o p ar7 #v[n_8 d7 o p (Ad 1),2]) a)
  (Ap (Be [0,1,2,3,4] (dq_1 #v[0,Dp ac9 (Dp a9 (Ad 1)),n_8 d8 o p (Ad 1),n_8 b9 o p (Ad 1),2,4,3]))))
def cf_6:AH P w K r u f B "width_for" 23 1 ["number"] 1 o_7:=λF=>Bo (N:=["number"]) F λm o d a p=>(Ap (Be [0] (Dc (aa_6 m) rfl ak9 N3 #v[dr_6 PySem.F.plainAttrs_int PySem.F.slot_int_bit_length PySem.F.type_int_bit_length di_0 (Az y_0 (Ad 0) Aq),Aq])))
def ao_8:AI P w K r u f B "used" "Peeled.used" 66 3 1 ["self"] 1 g_9:=λF=>Bo (N:=["self"]) F λm o d a p=>(Ap (Be [0] (Dp o9 (Ad 0))))
variable(ad0:by_0 P w K r u)(ae1:bf_4 P w K r u)(u4:MethT P w K r u true 1 0 "used" J28){h8:Addr}(au4:IsOneO K (.ref h8) J22)(al6:r "Peeled" =some (.ref h8)){g8:Addr}(an6:IsOneO K (.ref g8) J23)(ah1:r "Ordered" =some (.ref g8)){p6:Addr}(bf0:IsOneO K (.ref p6) J24)(ax8:r "Kept" =some (.ref p6)){j7:Addr}(as3:IsOneO K (.ref j7) J25)(al2:r "Marked" =some (.ref j7))
def bs_2:AH P w K r u f B "house_told" 74 5 ["house"] 1 g_2:=λF=>Bo (N:=["house"]) F λm o d a p=>(As (Bv [0] (Fu (cc_2 au4 (Ad 0) f6 al6))
   (Ap (Be [0] (Bb o p ad0 #v[Bw,0,Bb o p ae1 #v[Dp ac9 (Dp a9 (Ad 0))],n_8 u4 o p (Ad 0)])))
   Cp)
  (As (Bv [0] (Fu (cc_2 an6 (Ad 0) f6 ah1))
   (Ap (Be [0] (Bb o p ad0 #v[Bw,0,Bb o p ae1 #v[n_8 b9 o p (Ad 0)],Bw])))
   Cp)
  (As (Bv [0] (Fu (cc_2 bf0 (Ad 0) f6 ax8))
   (Ap (Be [0] (Bb o p ad0 #v[Bw,0,Dp u0 (Ad 0),Bw])))
   Cp)
  (As (Bv [0] (Fu (cc_2 as3 (Ad 0) f6 al2))
   (Ap (Be [0] (Bb o p ad0 #v[Bw,0,Dp u0 (Ad 0),Bw])))
   Cp)
  (Ap (Be [] az_3))))))
variable(ad3:bo_2 P w K r u)(ah0:ay_6 P w K r u)(ag5:ay_7 P w K r u)
def bg_4:AH P w K r u f B "_law_all_shut" 94 13 L15 3 s_0:=λF=>Bo (N:=["_law_keys_here","_law_kind","_law_thing","_law_way","_law_doors_here","_law_house","_law_one","_law_door_here"]) F λm o d a p=>(As (Bv [2] (td_w (bj_2 (z_7 (Fu (Bb o p ad3 #v[az_3,2,Bw]))) (az_4 (z_7 (Fu (Bb o p ad3 #v[az_3,2,Bw]))))))
   (Ap (Be [] y_8))
   Cp)
  (As (Bv [0,1] (Ci (al_7 d) (Bb o p aa7 #v[0,1,Aq,Aq]) (Cz #v[Bw,Aq]) (Ca _))
   (Ap (Be [] y_8))
   Cp)
  (As (Hk [] Gh m (x_1 (Cz #v[Aq,Aq,Aq,Aq])) (q_8 (i:=3) a)
   (As (Bl (i:=4) [3] (Ew (Cz #v[Cz #v[Bw,Bw,Bw],Cz #v[Bw,Bw],Cz #v[Bw,Bw]]) (Dc (aa_6 m) rfl ak9 N3 #v[Aq,Az y_0 (Ad 3) Aq])) a)
  (As (Bl (i:=5) [0,1,3] (Bb o p ad8 #v[s_1 al_8 rfl ab4 P3 #v[0],1,Aq,3]) a)
  (Ap (Hk [5] Gh m (x_1 (Cz #v[5,Bb o p ah0 #v[Bb o p ag5 #v[5]]])) (q_8 (i:=6) a)
   (Ap (Hk [4] Gh m (x_1 (Ad 4)) (q_8 (i:=7) a)
   (Ap (Bv [2,6,7] (z_7 (Fu (Bb o p ad3 #v[6,2,7])))
   (Ap (Be [] y_8))
   Cp)))))))))
  (Ap (Be [] y_8)))))
variable(an7:bn_6 P w K r u)(aj8:bf_1 P w K r u)(aa9:ao_3 P w K r u)
def et_8:AH P w K r u f B "law" 95 14 ["_law_script"] 1 ek_3:=λF=>Bo (N:=["_law_script","_law_keys_here","_law_cell_here","_law_kind","_law_most","_law_thing","_law_at","_law_great_here","_law_one","_law_spoiled","_law_lists","_law_some"]) F λm o d a p=>(As (Bl (i:=1) [0] (Bb o p an7 #v[0,Aq,Aq]) a)
  (As (Bl (i:=2) [0] (Bb o p y2 #v[0,Aq]) a)
  (As (Bl (i:=3) [2] (Az Df Aq (Az Ge (Ad 2) Aq)) a)
  (As (Bl (i:=4) [2] (Az Df Aq (Az Ge (Az q_7 (Ad 2) Aq) Aq)) a)
  (As (Bl (i:=5) [2] (Ew (Cz #v[Az y_0 Aq Aq,Az bg_5 Aq Aq,Bw,Bw,Bw,Az y_0 Aq (Az bg_5 Aq Aq),Bw]) (Az Ge (Az q_7 (Ad 2) Aq) Aq)) a)
  (As (Bl (i:=6) [1,2] (Az Ge (Az q_7 (Ad 2) Aq) (Az Df (Dc Ef rfl j6 B8 #v[1]) Aq)) a)
  (As (Bl (i:=7) [2] (aq_8 m ab4 l3 #v[Az Df Aq (Az Ge (Az q_7 (Ad 2) Aq) Aq)]) a)
  (As (Bl (i:=8) [1,2] (Ew (Ad 1) (Az Ge (Az q_7 (Ad 2) Aq) (Dc Ef rfl j6 B8 #v[1]))) a)
  (As (Bl (i:=9) [1,5,6] (Az Df (Az Df (w_1 (Ad 1) ac_9 (y_1 (Ad 6))) (Cz #v[5])) (w_1 (Ad 1) (y_1 (Ad 6)) ac_9)) a)
  (As (Bl (i:=10) [5,7,9] (Cz #v[Cz Ak,7,Az Df (Az Df (w_1 (Ad 7) ac_9 (y_1 Aq)) (Cz #v[5])) (w_1 (Ad 7) (y_1 Aq) ac_9),9]) a)
  (As (Hk [1,5,6,8,9,10] Gh m (x_1 (Az Df (Ad 10) (Cz #v[Az Df (Ad 9) (Cz #v[5,8]),Az Df (Az Df (w_1 (Ad 1) ac_9 (y_1 (Ad 6))) (Cz #v[8])) (w_1 (Ad 1) (y_1 (Ad 6)) ac_9),1]))) (q_8 (i:=11) a)
   (Ap (Bv [3,4,11] (z_7 (Fu (Bb o p aj8 #v[11,3,4])))
   (Ap (Be [] y_8))
   Cp)))
  (Ap (Be [1,3,5] (az_6 (Bb o p aa9 #v[1,3,5]) (az_5 (Bb o p aa9 #v[Cz #v[Bw,Aq,Bw],Az y_0 Aq (Ad 3),5]))))))))))))))))
abbrev bp_6:Stmt:=Ay 95
end
def et_9{l:PySem.W.OpenLaw}{w:World}{K:Frag}{h:Heap}{r:AB}{fa:Addr}(X:K.In h)(G:h.Ns mainGlobals r)(hfa:r "law" =some (.ref fa))
  {aq2 y3 p6 j7 h8 g8 g9 j1 m9 j9 j0 i9 f7 g7 f8 j2 n8 l9 v5 m6 p8 v7:Addr}
  {bl8:Addr} {bm5 bl3:Option Addr} {bm4:Array (Option Value)} {bm1 bl4 bl6 bl5 bj9 bl2:Value}
  {bc8 bj6 an4 be9 bj2 be8:Tok}
  (bj3:nsIn K mainGlobals "House" =some (some (.ref aq2)))
  (y1:nsIn K mainGlobals "Table" =some (some (.ref y3)))
  (z9:Cls K y3)
  (bk3:makesIn K y3=true)
  (bj0:keepIn K (.ref y3)=true)
  (au3:NoAttr K y3 "by_salt")
  (bd0:NoAttr K y3 "kind")
  (bd2:NoAttr K y3 "part")
  (ar6:NoAttr K y3 "modulus")
  (ax3:NoAttr K y3 "listed")
  (x9:nsIn K mainGlobals "Kept" =some (some (.ref p6)))
  (ab9:Cls K p6)
  (bk8:makesIn K p6=true)
  (bk5:keepIn K (.ref p6)=true)
  (as4:NoAttr K p6 "how_many")
  (aq3:NoAttr K p6 "own_table")
  (bd4:NoAttr K p6 "width")
  (o7:nsIn K mainGlobals "Marked" =some (some (.ref j7)))
  (y7:Cls K j7)
  (bh4:makesIn K j7=true)
  (bi8:keepIn K (.ref j7)=true)
  (ap0:NoAttr K j7 "how_many")
  (am0:NoAttr K j7 "own_table")
  (aw0:NoAttr K j7 "width")
  (l0:nsIn K mainGlobals "Peeled" =some (some (.ref h8)))
  (t8:Cls K h8)
  (bh6:makesIn K h8=true)
  (bi3:keepIn K (.ref h8)=true)
  (ao6:NoAttr K h8 "how_many")
  (am1:NoAttr K h8 "own_table")
  (ao3:NoAttr K h8 "used_row")
  (k9:nsIn K mainGlobals "Ordered" =some (some (.ref g8)))
  (v9:Cls K g8)
  (bg7:makesIn K g8=true)
  (bh1:keepIn K (.ref g8)=true)
  (am5:NoAttr K g8 "how_many")
  (ak1:NoAttr K g8 "own_table")
  (i8:nsIn K mainGlobals "PeeledAgain" =some (some (.ref g9)))
  (j8:Cls K g9)
  (bb1:makesIn K g9=true)
  (bc7:keepIn K (.ref g9)=true)
  (af6:NoAttr K g9 "how_many")
  (ae6:NoAttr K g9 "own_table")
  (ag1:NoAttr K g9 "used_row")
  (j3:nsIn K mainGlobals "OrderedAgain" =some (some (.ref j1)))
  (l6:Cls K j1)
  (ax5:makesIn K j1=true)
  (ax6:keepIn K (.ref j1)=true)
  (ae9:NoAttr K j1 "how_many")
  (ae0:NoAttr K j1 "own_table")
  (n6:nsIn K mainGlobals "KeptAgain" =some (some (.ref m9)))
  (r9:Cls K m9)
  (be7:makesIn K m9=true)
  (bd8:keepIn K (.ref m9)=true)
  (ah8:NoAttr K m9 "how_many")
  (ah6:NoAttr K m9 "own_table")
  (ao5:NoAttr K m9 "width")
  (l4:nsIn K mainGlobals "MarkedAgain" =some (some (.ref j9)))
  (n9:Cls K j9)
  (ay5:makesIn K j9=true)
  (az2:keepIn K (.ref j9)=true)
  (af9:NoAttr K j9 "how_many")
  (ae5:NoAttr K j9 "own_table")
  (ai5:NoAttr K j9 "width")
  (w1:FnTop K "_law_raw" (Ay 80))
  (w2:FnTop K "_law_mix" (Ay 79))
  (w3:FnTop K "_law_cell" (Ay 81))
  (w4:FnTop K "_law_great" (Ay 83))
  (w5:FnTop K "_law_cells" (Ay 84))
  (w6:FnTop K "_law_key" (Ay 82))
  (w7:FnTop K "_law_keys" (Ay 85))
  (w8:FnTop K "_law_is_key" (Ay 89))
  (w9:FnTop K "_law_due" (Ay 90))
  (w10:FnTop K "part_size" (Ay 49))
  (w11:FnTop K "is_key_text" (Ay 31))
  (w12:FnTop K "is_key" (Ay 32))
  (w13:FnTop K "look_each_key" (Ay 37))
  (w14:FnTop K "look_unlike" (Ay 38))
  (w15:FnTop K "look_keys" (Ay 39))
  (w16:FnTop K "worth" (Ay 33))
  (w17:FnTop K "stamp" (Ay 34))
  (w18:FnTop K "mixed" (Ay 35))
  (w19:FnTop K "places_of" (Ay 50))
  (w20:FnTop K "edges_of" (Ay 51))
  (w21:FnTop K "standing_at" (Ay 45))
  (w22:FnTop K "take_away" (Ay 46))
  (w23:FnTop K "peeled" (Ay 47))
  (w24:FnTop K "fate" (Ay 52))
  (w25:FnTop K "succeeds" (Ay 53))
  (w26:FnTop K "first_try" (Ay 54))
  (w27:FnTop K "chosen_places" (Ay 64))
  (w28:FnTop K "is_below" (Ay 14))
  (w29:FnTop K "remainder" (Ay 41))
  (w30:FnTop K "summed" (Ay 42))
  (w31:FnTop K "filled" (Ay 43))
  (w32:FnMet K y3 "__init__" "Table.__init__" (Bc 56 0))
  (w33:FnTop K "table_for" (Ay 57))
  (w34:FnTop K "row_with_ones" (Ay 65))
  (w35:FnBase K aq2 "House.__init__" (Bc 63 0))
  (w36:FnMet K h8 "__init__" "Peeled.__init__" (Bc 66 0))
  (w37:FnBase K aq2 "House.__init__" (Bc 63 0))
  (w38:FnMet K g8 "__init__" "Ordered.__init__" (Bc 67 0))
  (w39:FnTop K "two_to" (Ay 15))
  (w40:FnTop K "look_values" (Ay 59))
  (w41:FnMet K p6 "__init__" "Kept.__init__" (Bc 60 0))
  (w42:FnTop K "mark" (Ay 36))
  (w43:FnMet K j7 "__init__" "Marked.__init__" (Bc 61 0))
  (w44:FnTop K "_law_made" (Ay 87))
  (w45:FnTop K "_law_strange" (Ay 86))
  (w46:FnTop K "_law_asked" (Ay 88))
  (w47:FnTop K "_law_doors" (Ay 91))
  (w48:FnTop K "ones_before" (Ay 22))
  (w49:FnMet K y3 "places" "Table.places" (Bc 56 3))
  (w50:FnMet K h8 "places" "Peeled.places" (Bc 66 4))
  (w51:FnMet K g9 "places" "Peeled.places" (Bc 66 4))
  (w52:FnMet K y3 "total" "Table.total" (Bc 56 4))
  (w53:FnMet K h8 "number_of" "Peeled.number_of" (Bc 66 5))
  (w54:FnMet K g8 "number_of" "Ordered.number_of" (Bc 67 4))
  (w55:FnMet K g9 "number_of" "Peeled.number_of" (Bc 66 5))
  (w56:FnMet K j1 "number_of" "Ordered.number_of" (Bc 67 4))
  (w57:FnMet K h8 "room" "House.room" (Bc 63 2))
  (w58:FnMet K g8 "room" "House.room" (Bc 63 2))
  (w59:FnMet K g9 "room" "House.room" (Bc 63 2))
  (w60:FnMet K j1 "room" "House.room" (Bc 63 2))
  (w61:FnMet K h8 "rooms" "House.rooms" (Bc 63 3))
  (w62:FnMet K g8 "rooms" "House.rooms" (Bc 63 3))
  (w63:FnMet K g9 "rooms" "House.rooms" (Bc 63 3))
  (w64:FnMet K j1 "rooms" "House.rooms" (Bc 63 3))
  (w65:FnMet K g8 "places" "Ordered.places" (Bc 67 3))
  (w66:FnMet K p6 "places" "Kept.places" (Bc 60 4))
  (w67:FnMet K j7 "places" "Marked.places" (Bc 61 4))
  (w68:FnMet K j1 "places" "Ordered.places" (Bc 67 3))
  (w69:FnMet K m9 "places" "Kept.places" (Bc 60 4))
  (w70:FnMet K j9 "places" "Marked.places" (Bc 61 4))
  (w71:FnMet K p6 "value" "Kept.value" (Bc 60 5))
  (w72:FnMet K m9 "value" "Kept.value" (Bc 60 5))
  (w73:FnMet K j7 "knows" "Marked.knows" (Bc 61 5))
  (w74:FnMet K j9 "knows" "Marked.knows" (Bc 61 5))
  (w75:FnTop K "_law_door" (Ay 92))
  (w76:FnTop K "_law_shut" (Ay 93))
  (w77:FnTop K "is_multiple" (Ay 18))
  (w78:FnTop K "look_bits" (Ay 19))
  (w79:FnTop K "number_read" (Ay 20))
  (w80:FnTop K "read_bits" (Ay 21))
  (w81:FnTop K "numbers_again" (Ay 75))
  (w82:FnMet K g9 "__init__" "PeeledAgain.__init__" (Bc 69 0))
  (w83:FnMet K j1 "__init__" "OrderedAgain.__init__" (Bc 70 0))
  (w84:FnMet K m9 "__init__" "KeptAgain.__init__" (Bc 71 0))
  (w85:FnMet K j9 "__init__" "MarkedAgain.__init__" (Bc 72 0))
  (w86:FnTop K "house_of" (Ay 76))
  (w87:FnTop K "made_again" (Ay 77))
  (w88:FnTop K "number_written" (Ay 16))
  (w89:FnTop K "written" (Ay 17))
  (w90:FnMet K y3 "table" "Table.table" (Bc 56 2))
  (w91:FnMet K h8 "table" "Peeled.table" (Bc 66 2))
  (w92:FnMet K g8 "table" "Ordered.table" (Bc 67 2))
  (w93:FnMet K p6 "table" "Kept.table" (Bc 60 3))
  (w94:FnMet K j7 "table" "Marked.table" (Bc 61 3))
  (w95:FnMet K g9 "table" "Peeled.table" (Bc 66 2))
  (w96:FnMet K j1 "table" "Ordered.table" (Bc 67 2))
  (w97:FnMet K m9 "table" "Kept.table" (Bc 60 3))
  (w98:FnMet K j9 "table" "Marked.table" (Bc 61 3))
  (w99:FnMet K h8 "many" "House.many" (Bc 63 1))
  (bq0:FnMet K g8 "many" "House.many" (Bc 63 1))
  (bq1:FnMet K p6 "many" "Kept.many" (Bc 60 1))
  (bp4:FnMet K j7 "many" "Marked.many" (Bc 61 1))
  (bo0:FnMet K g9 "many" "House.many" (Bc 63 1))
  (bp6:FnMet K j1 "many" "House.many" (Bc 63 1))
  (bp7:FnMet K m9 "many" "Kept.many" (Bc 60 1))
  (bo2:FnMet K j9 "many" "Marked.many" (Bc 61 1))
  (bn9:FnMet K y3 "salt" "Table.salt" (Bc 56 1))
  (bp5:FnMet K h8 "salt" "Peeled.salt" (Bc 66 1))
  (bo1:FnMet K g8 "salt" "Ordered.salt" (Bc 67 1))
  (bp9:FnMet K p6 "salt" "Kept.salt" (Bc 60 2))
  (bo6:FnMet K j7 "salt" "Marked.salt" (Bc 61 2))
  (bp2:FnMet K g9 "salt" "Peeled.salt" (Bc 66 1))
  (bn0:FnMet K j1 "salt" "Ordered.salt" (Bc 67 1))
  (bo3:FnMet K m9 "salt" "Kept.salt" (Bc 60 2))
  (bq3:FnMet K j9 "salt" "Marked.salt" (Bc 61 2))
  (bn8:FnTop K "told_by" (Ay 73))
  (bo7:FnTop K "width_for" (Ay 23))
  (bp8:FnMet K h8 "used" "Peeled.used" (Bc 66 3))
  (bo4:FnMet K g9 "used" "Peeled.used" (Bc 66 3))
  (bo8:FnTop K "house_told" (Ay 74))
  (bp0:FnTop K "_law_all_shut" (Ay 94))
  (bo9:nsIn K mainGlobals "law" =some (some (.ref bl8))) (bp3:K.lookup bl8=some ⟨bm1,bm5,.func (fnOf "law" "law" (l_1 bp_6) (Fg bp_6) (Ce bp_6) .none bl4 bl6 bl5 bl3 bj9 bl2),bm4⟩) (bq2:codeIn K bj9 "law" =true) (bo5:keepIn K (.ref bl8)=true)
  (bm3:nsIn K mainGlobals "len" =some none)
  (bm2:nsIn K mainGlobals "max" =some none)
  (bk7:nsIn K mainGlobals "range" =some none)
  (bm0:nsIn K mainGlobals "min" =some none)
  (bm8:nsIn K mainGlobals "int" =some none)
  (be4:nsIn K mainGlobals "isinstance" =some none)
  (bf7:nsIn K mainGlobals "enumerate" =some none)
  (bm9:nsIn K mainGlobals "all" =some none)
  (bl9:nsIn K mainGlobals "bool" =some none)
  (bm7:nsIn K mainGlobals "str" =some none)
  (bk4:nsIn K mainGlobals "tuple" =some none)
  (bl7:nsIn K mainGlobals "list" =some none)
  (bm6:nsIn K mainGlobals "sum" =some none)
  (bh2:nsIn K mainGlobals "reversed" =some none)
  (be5:nsIn K mainGlobals "ValueError" =some none)
  (bi5:kitOne K (.type "NoneType") (.type "int")=some false)
  (bk0:kitOne K (.type "bool") (.type "int")=some true)
  (bi2:kitOne K (.type "int") (.type "int")=some true)
  (bi1:kitOne K (.type "str") (.type "int")=some false)
  (bi4:kitOne K (.type "list") (.type "int")=some false)
  (bi7:kitOne K (.type "tuple") (.type "int")=some false)
  (bg6:kitOne K (.type "NoneType") (.type "bool")=some false)
  (bh9:kitOne K (.type "bool") (.type "bool")=some true)
  (bg3:kitOne K (.type "int") (.type "bool")=some false)
  (bg9:kitOne K (.type "str") (.type "bool")=some false)
  (bg5:kitOne K (.type "list") (.type "bool")=some false)
  (bg4:kitOne K (.type "tuple") (.type "bool")=some false)
  (bi9:kitOne K (.type "NoneType") (.type "str")=some false)
  (bj5:kitOne K (.type "bool") (.type "str")=some false)
  (bh8:kitOne K (.type "int") (.type "str")=some false)
  (bh5:kitOne K (.type "str") (.type "str")=some true)
  (bi6:kitOne K (.type "list") (.type "str")=some false)
  (bi0:kitOne K (.type "tuple") (.type "str")=some false)
  (bf2:nsIn K mainGlobals "MOST_SIGNS" =some (some (.int 11 bc8)))
  (bk6:nsIn K mainGlobals "SIGNS" =some (some (.str "abcdefghijklmnopqrstuvwxyz0123456789-_ " bj6)))
  (ap5:nsIn K mainGlobals "GREATEST_NUMBER" =some (some (.int 999999999999999999 an4)))
  (bg1:nsIn K mainGlobals "MOST_KEYS" =some (some (.int 200 be9)))
  (bl1:nsIn K mainGlobals "PRIME" =some (some (.int 2305843009213693951 bj2)))
  (bg0:nsIn K mainGlobals "MARK_SALT" =some (some (.int 3 be8)))
  (t7:nsIn K mainGlobals "NoKey" =some (some (.ref j0)))
  (t9:nsIn K mainGlobals "Twice" =some (some (.ref i9)))
  (l8:nsIn K mainGlobals "NoValue" =some (some (.ref f7)))
  (o8:nsIn K mainGlobals "NoBits" =some (some (.ref g7)))
  (p9:nsIn K mainGlobals "NoKeys" =some (some (.ref f8)))
  (v6:nsIn K mainGlobals "NoTry" =some (some (.ref j2)))
  (bc9:nsIn K mainGlobals "LodgeError" =some (some (.ref n8)))
  (bh0:nsIn K mainGlobals "NoEdges" =some (some (.ref l9)))
  (bj1:nsIn K mainGlobals "NoFit" =some (some (.ref v5)))
  (bg8:nsIn K mainGlobals "NoRange" =some (some (.ref m6)))
  (bh7:nsIn K mainGlobals "NoSuch" =some (some (.ref p8)))
  (bj4:nsIn K mainGlobals "Stuck" =some (some (.ref v7)))
  (ag9:OInst K h8)
  (ar5:KO K h8 h8 true)
  (ap2:KO K h8 g8 false)
  (bb3:KO K h8 p6 false)
  (at8:KO K h8 j7 false)
  (ae2:OInst K g8)
  (ar1:KO K g8 h8 false)
  (ao8:KO K g8 g8 true)
  (av3:KO K g8 p6 false)
  (ap7:KO K g8 j7 false)
  (aq1:OInst K p6)
  (bc5:KO K p6 h8 false)
  (av6:KO K p6 g8 false)
  (bf3:KO K p6 p6 true)
  (bb6:KO K p6 j7 false)
  (ag8:OInst K j7)
  (at2:KO K j7 h8 false)
  (aq6:KO K j7 g8 false)
  (ba1:KO K j7 p6 false)
  (at6:KO K j7 j7 true)
  (bf9:XB K j0 "NoKey.__init__" "at" aj_3)
  (u9:XInst K j0)
  (ay6:exmOne K (.ref j0) (.ref j0)=some true)
  (ax1:exmOne K (.ref j0) (.ref f8)=some false)
  (ba4:exmOne K (.ref j0) (.ref j2)=some false)
  (az9:exmOne K (.ref j0) (.ref i9)=some false)
  (al7:kitOne K (.ref j0) (.ref n8)=some true)
  (ba7:kitOne K (.ref j0) (.ref i9)=some false)
  (bb8:kitOne K (.ref j0) (.ref j2)=some false)
  (av9:kitOne K (.ref j0) (.ref f8)=some false)
  (ba6:kitOne K (.ref j0) (.ref j0)=some true)
  (am6:kitOne K (.ref j0) (.type "ValueError")=some true)
  (aa0:kitAny K (.ref j0) [.ref g7,.ref l9,.ref v5,.ref m6]=some false)
  (ac2:kitAny K (.ref j0) [.ref p8,.ref f7,.ref v7]=some false)
  (bg2:XB K i9 "Twice.__init__" "at" aj_2)
  (u7:XInst K i9)
  (bb5:exmOne K (.ref i9) (.ref j0)=some false)
  (aw8:exmOne K (.ref i9) (.ref f8)=some false)
  (ay1:exmOne K (.ref i9) (.ref j2)=some false)
  (ba2:exmOne K (.ref i9) (.ref i9)=some true)
  (am7:kitOne K (.ref i9) (.ref n8)=some true)
  (bc4:kitOne K (.ref i9) (.ref i9)=some true)
  (ax9:kitOne K (.ref i9) (.ref j2)=some false)
  (aw1:kitOne K (.ref i9) (.ref f8)=some false)
  (az0:kitOne K (.ref i9) (.ref j0)=some false)
  (an2:kitOne K (.ref i9) (.type "ValueError")=some true)
  (aa2:kitAny K (.ref i9) [.ref g7,.ref l9,.ref v5,.ref m6]=some false)
  (ac1:kitAny K (.ref i9) [.ref p8,.ref f7,.ref v7]=some false)
  (az5:XB K f7 "NoValue.__init__" "at" ac_3)
  (o5:XInst K f7)
  (ar8:exmOne K (.ref f7) (.ref j0)=some false)
  (aq8:exmOne K (.ref f7) (.ref f8)=some false)
  (au1:exmOne K (.ref f7) (.ref j2)=some false)
  (as7:exmOne K (.ref f7) (.ref i9)=some false)
  (ai0:kitOne K (.ref f7) (.ref n8)=some true)
  (au0:kitOne K (.ref f7) (.ref i9)=some false)
  (as5:kitOne K (.ref f7) (.ref j2)=some false)
  (aq7:kitOne K (.ref f7) (.ref f8)=some false)
  (at5:kitOne K (.ref f7) (.ref j0)=some false)
  (ah7:kitOne K (.ref f7) (.type "ValueError")=some true)
  (y4:kitAny K (.ref f7) [.ref g7,.ref l9,.ref v5,.ref m6]=some false)
  (ab1:kitAny K (.ref f7) [.ref p8,.ref f7,.ref v7]=some true)
  (bd6:XB K g7 "NoBits.__init__" "at" af_0)
  (q8:XInst K g7)
  (aw6:exmOne K (.ref g7) (.ref j0)=some false)
  (as6:exmOne K (.ref g7) (.ref f8)=some false)
  (ax4:exmOne K (.ref g7) (.ref j2)=some false)
  (ax0:exmOne K (.ref g7) (.ref i9)=some false)
  (aj9:kitOne K (.ref g7) (.ref n8)=some true)
  (aw7:kitOne K (.ref g7) (.ref i9)=some false)
  (au8:kitOne K (.ref g7) (.ref j2)=some false)
  (as0:kitOne K (.ref g7) (.ref f8)=some false)
  (av5:kitOne K (.ref g7) (.ref j0)=some false)
  (aj4:kitOne K (.ref g7) (.type "ValueError")=some true)
  (y8:kitAny K (.ref g7) [.ref g7,.ref l9,.ref v5,.ref m6]=some true)
  (ab7:kitAny K (.ref g7) [.ref p8,.ref f7,.ref v7]=some false)
  (bh3:XB9 K f8)
  (y9:XInst K f8)
  (av2:exmOne K (.ref f8) (.ref j0)=some false)
  (at7:exmOne K (.ref f8) (.ref f8)=some true)
  (aw4:exmOne K (.ref f8) (.ref j2)=some false)
  (aw5:exmOne K (.ref f8) (.ref i9)=some false)
  (aj3:kitOne K (.ref f8) (.ref n8)=some true)
  (av4:kitOne K (.ref f8) (.ref i9)=some false)
  (au9:kitOne K (.ref f8) (.ref j2)=some false)
  (as1:kitOne K (.ref f8) (.ref f8)=some true)
  (av8:kitOne K (.ref f8) (.ref j0)=some false)
  (aj5:kitOne K (.ref f8) (.type "ValueError")=some true)
  (z7:kitAny K (.ref f8) [.ref g7,.ref l9,.ref v5,.ref m6]=some false)
  (ab5:kitAny K (.ref f8) [.ref p8,.ref f7,.ref v7]=some false)
  (bj7:XB9 K j2)
  (aa6:XInst K j2)
  (ay8:exmOne K (.ref j2) (.ref j0)=some false)
  (av1:exmOne K (.ref j2) (.ref f8)=some false)
  (bb9:exmOne K (.ref j2) (.ref j2)=some true)
  (bb7:exmOne K (.ref j2) (.ref i9)=some false)
  (am3:kitOne K (.ref j2) (.ref n8)=some true)
  (az3:kitOne K (.ref j2) (.ref i9)=some false)
  (ba8:kitOne K (.ref j2) (.ref j2)=some true)
  (ax2:kitOne K (.ref j2) (.ref f8)=some false)
  (az7:kitOne K (.ref j2) (.ref j0)=some false)
  (an0:kitOne K (.ref j2) (.type "ValueError")=some true)
  (aa3:kitAny K (.ref j2) [.ref g7,.ref l9,.ref v5,.ref m6]=some false)
  (ac4:kitAny K (.ref j2) [.ref p8,.ref f7,.ref v7]=some false):
  ∃B:FuncData,(∀(s:Shared) (v:Value),BindsTo s B ⟨[v],[]⟩ [("_law_script",v)])/\∀u:Heap,K.In u->u.Ns mainGlobals r->FnOk l.prog w K r u CX0 14 fa B ["_law_script"] (bk_2 K):=by
 have bf8:=mg_of X G bj3;have bk1:=mg_of X G y1;have ax8:=mg_of X G x9;have al2:=mg_of X G o7;have al6:=mg_of X G l0;have ah1:=mg_of X G k9;have ay0:=mg_of X G i8;have av0:=mg_of X G j3;have bf1:=mg_of X G n6;have ba5:=mg_of X G l4;have aa4:OFld K ["Table"] "by_salt" :=(.one y1 z9 au3 .nil);have ac9:OFld K ["Table"] "kind" :=(.one y1 z9 bd0 .nil);have aq4:OFld K ["Table"] "part" :=(.one y1 z9 bd2 .nil);have ad5:OFld K ["Table"] "modulus" :=(.one y1 z9 ar6 .nil);have ab6:OFld K ["Table"] "listed" :=(.one y1 z9 ax3 .nil);have d9:OFld K La "how_many" :=(.one x9 ab9 as4 (.one o7 y7 ap0 (.one l0 t8 ao6 (.one k9 v9 am5 (.one i8 j8 af6 (.one j3 l6 ae9 (.one n6 r9 ah8 (.one l4 n9 af9 .nil))))))));have a9:OFld K La "own_table" :=(.one x9 ab9 aq3 (.one o7 y7 am0 (.one l0 t8 am1 (.one k9 v9 ak1 (.one i8 j8 ae6 (.one j3 l6 ae0 (.one n6 r9 ah6 (.one l4 n9 ae5 .nil))))))));have o9:OFld K Ll "used_row" :=(.one l0 t8 ao3 (.one i8 j8 ag1 .nil));have u0:OFld K Lb "width" :=(.one x9 ab9 bd4 (.one o7 y7 aw0 (.one n6 r9 ao5 (.one l4 n9 ai5 .nil))));have ac3:=mg_of X G t7;have af7:=mg_of X G t9;have ag6:=mg_of X G l8;have al4:=mg_of X G o8;have ad1:=mg_of X G p9;have ag0:=mg_of X G v6;have ae3:=mg_of X G bc9;have ao7:=mg_of X G bh0;have ba9:=mg_of X G bj1;have an5:=mg_of X G bg8;have au2:=mg_of X G bh7;have bc0:=mg_of X G bj4;have at4:XC0 K r "NoKeys" f8:=du_6 p9 ad1 bh3;have bb0:XC0 K r "NoTry" j2:=du_6 v6 ag0 bj7;have ai7:Catches K j0 L97:=(.one o8 aw6 (.one t7 ay6 (.one p9 av2 (.one v6 ay8 (.one l8 ar8 (.one t9 bb5 .nil))))));have ar4:Catches K f8 L98:=(.one o8 as6 (.one t7 ax1 (.one p9 at7 (.one v6 av1 (.one l8 aq8 (.one t9 aw8 .nil))))));have ba3:Catches K j2 J10:=(.one o8 ax4 (.one t7 ba4 (.one p9 aw4 (.one v6 bb9 (.one l8 au1 (.one t9 ay1 .nil))))));have az6:Catches K i9 J11:=(.one o8 ax0 (.one t7 az9 (.one p9 aw5 (.one v6 bb7 (.one l8 as7 (.one t9 ba2 .nil))))));have af3:IsOne K (.ref n8) J13:=(.one o8 q8 aj9 (.one t7 u9 al7 (.one p9 y9 aj3 (.one v6 aa6 am3 (.one l8 o5 ai0 (.one t9 u7 am7 .nil))))));have bb4:IsOne K (.ref i9) J11:=(.one o8 q8 aw7 (.one t7 u9 ba7 (.one p9 y9 av4 (.one v6 aa6 az3 (.one l8 o5 au0 (.one t9 u7 bc4 .nil))))));have ay2:IsOne K (.ref j2) J10:=(.one o8 q8 au8 (.one t7 u9 bb8 (.one p9 y9 au9 (.one v6 aa6 ba8 (.one l8 o5 as5 (.one t9 u7 ax9 .nil))))));have at3:IsOne K (.ref f8) L98:=(.one o8 q8 as0 (.one t7 u9 av9 (.one p9 y9 as1 (.one v6 aa6 ax2 (.one l8 o5 aq7 (.one t9 u7 aw1 .nil))))));have az8:IsOne K (.ref j0) L97:=(.one o8 q8 av5 (.one t7 u9 ba6 (.one p9 y9 av8 (.one v6 aa6 az7 (.one l8 o5 at5 (.one t9 u7 az0 .nil))))));have au4:IsOneO K (.ref h8) J22:=(.one l0 ag9 ar5 (.one k9 ae2 ar1 (.one x9 aq1 bc5 (.one o7 ag8 at2 .nil))));have an6:IsOneO K (.ref g8) J23:=(.one l0 ag9 ap2 (.one k9 ae2 ao8 (.one x9 aq1 av6 (.one o7 ag8 aq6 .nil))));have bf0:IsOneO K (.ref p6) J24:=(.one l0 ag9 bb3 (.one k9 ae2 av3 (.one x9 aq1 bf3 (.one o7 ag8 ba1 .nil))));have as3:IsOneO K (.ref j7) J25:=(.one l0 ag9 at8 (.one k9 ae2 ap7 (.one x9 aq1 bb6 (.one o7 ag8 at6 .nil))));have ad2:IsOne K (.type "ValueError") J13:=(.one o8 q8 aj4 (.one t7 u9 am6 (.one p9 y9 aj5 (.one v6 aa6 an0 (.one l8 o5 ah7 (.one t9 u7 an2 .nil))))));have n5:IsAny K [g7,l9,v5,m6] J18:=(IsAny.one (v:=[g7,l9,v5,m6]) o8 q8 y8 (IsAny.one (v:=[g7,l9,v5,m6]) t7 u9 aa0 (IsAny.one (v:=[g7,l9,v5,m6]) p9 y9 z7 (IsAny.one (v:=[g7,l9,v5,m6]) v6 aa6 aa3 (IsAny.one (v:=[g7,l9,v5,m6]) l8 o5 y4 (IsAny.one (v:=[g7,l9,v5,m6]) t9 u7 aa2 .nil))))));have x5:IsAny K [p8,f7,v7] J19:=(IsAny.one (v:=[p8,f7,v7]) o8 q8 ab7 (IsAny.one (v:=[p8,f7,v7]) t7 u9 ac2 (IsAny.one (v:=[p8,f7,v7]) p9 y9 ab5 (IsAny.one (v:=[p8,f7,v7]) v6 aa6 ac4 (IsAny.one (v:=[p8,f7,v7]) l8 o5 ab1 (IsAny.one (v:=[p8,f7,v7]) t9 u7 ac1 .nil))))));have bd7:XGets K Lf "at" :=(.one o8 ⟨q8.ga,q8.gt,q8.be,q8.hd,bd6.2.2.1⟩ (.one t7 ⟨u9.ga,u9.gt,u9.be,u9.hd,bf9.2.2.1⟩ (.one l8 ⟨o5.ga,o5.gt,o5.be,o5.hd,az5.2.2.1⟩ (.one t9 ⟨u7.ga,u7.gt,u7.be,u7.hd,bg2.2.2.1⟩ .nil))));have e:=hfa.symm.trans (mg_of X G bo9);cases e;have j6:=L7 X G bm3;have ak9:=L7 X G bm2;have l3:=L7 X G bk7;have ai9:=L7 X G bm0;have ai3:=L7 X G bm8;have f6:=L7 X G be4;have k8:=L7 X G bf7;have bj8:=L7 X G bm9;have ag4:=L7 X G bl9;have ba0:=L7 X G bm7;have bd9:=L7 X G bk4;have ab4:=L7 X G bl7;have bk2:=L7 X G bm6;have ao2:=L7 X G bh2;have ah3:=L7 X G be5;have ap4:KitT K "int" :=⟨bi5,bk0,bi2,bi1,bi4,bi7⟩;have aa8:KitT K "bool" :=⟨bg6,bh9,bg3,bg9,bg5,bg4⟩;have aq9:KitT K "str" :=⟨bi9,bj5,bh8,bh5,bi6,bi0⟩;have ag2:=mg_of X G bf2;have ar2:=mg_of X G bk6;have ab0:=mg_of X G ap5;have ai4:=mg_of X G bg1;have aq5:=mg_of X G bl1;have ak2:=mg_of X G bg0;obtain⟨f22,a22,d22,F22⟩:=w22;obtain⟨f35,a35,⟨d35,F35⟩⟩:=w35;obtain⟨f37,a37,⟨d37,F37⟩⟩:=w37;have bp1:=cs_2 (st:=bp_6) bp3 bq2 bo5;refine⟨fnOf "law" "law" (l_1 bp_6) (Fg bp_6) (Ce bp_6) .none bl4 bl6 bl5 bl3 bj9 bl2,λs v=> .of_eq rfl,λu _ _=> ?_⟩
 let lMd:=MethD l.prog w K r u true
 let lMt:=MethT l.prog w K r u true
 let lMk:=Fz l.prog w K r u true
 let lXC:=XC l.prog w K r u
 let lT:=λt:Program->World->Frag->(AB)->Heap->Prop=>t l.prog w K r u
 have ap1:lXC "NoKey" "at" j0:=dc_1 t7 ac3 bf9 λF y z=>⟨br_8 F y z,Cq F⟩;have be0:lXC "Twice" "at" i9:=dc_1 t9 af7 bg2 λF y z=>⟨br_6 F y z,Cq F⟩;have al5:lXC "NoValue" "at" f7:=dc_1 l8 ag6 az5 λF y z=>⟨bg_2 F y z,Cq F⟩;have af8:lXC "NoBits" "at" g7:=dc_1 o8 al4 bd6 λF y z=>⟨bo_5 F y z,Cq F⟩;have y2:lT bx_5:=Ch X G w1 λF=>⟨cy_2 j6 F,Cq F⟩;have aa1:lT bx_6:=Ch X G w2 λF=>⟨cy_3 F,Cq F⟩;have ah2:lT bn_5:=Ch X G w3 λF=>⟨cq_1 aa1 y2 F,Cq F⟩;have aj0:lT be_2:=Ch X G w4 λF=>⟨ce_3 aa1 F,Cw F⟩;have al1:lT be_3:=Ch X G w5 λF=>⟨ce_4 j6 aa1 y2 ah2 aj0 ak9 l3 ai9 F,bn3 F⟩;have al3:lT bx_7:=Ch X G w6 λF=>⟨cy_4 l3 ai3 F,Cw F⟩;have an7:lT bn_6:=Ch X G w7 λF=>⟨cq_2 y2 al1 al3 F,bn3 F⟩;have ah5:lT ay_5:=Ch X G w8 λF=>⟨br_9 j6 ai3 f6 ap4 F,Cw F⟩;have as9:lT bx_8:=Ch X G w9 λF=>⟨cy_5 j6 ah5 k8 F,Cw F⟩;have p7:lT be_4:=Ch X G w10 λF=>⟨ce_5 F,Cq F⟩;have af2:lT as_0:=Ch X G w11 λF=>⟨bo_6 j6 bj8 ag2 ar2 F,Cw F⟩;have al0:lT cp_6:=Ch X G w12 λF=>⟨dn_0 ai3 f6 ap4 af2 ag4 ba0 aa8 aq9 ab0 F,Cw F⟩;have o6:lT ak_3:=Ch X G w13 λF=>⟨bc_0 k8 al0 ap1 F,Cw F⟩;have af1:lT as_1:=Ch X G w14 λF=>⟨bo_7 k8 be0 F,Cw F⟩;have y6:lT be_5:=Ch X G w15 λF=>⟨ce_6 j6 o6 af1 at4 ai4 F,Cw F⟩;have bf4:lT df_6:=Ch X G w16 λF=>⟨dz_7 ar2 F,Cw F⟩;have ap3:lT df_7:=Ch X G w17 λF=>⟨dz_8 f6 ba0 aq9 al0 ap1 bf4 F,Cw F⟩;have ap9:lT df_8:=Ch X G w18 λF=>⟨dz_9 aq5 F,bn3 F⟩;have z6:lT be_6:=Ch X G w19 λF=>⟨ce_7 l3 ap3 ap9 bd9 F,bn4 F⟩;have aa5:lT bn_7:=Ch X G w20 λF=>⟨cq_3 p7 y6 z6 F,bn3 F⟩;have ae7:lT as_2:=Ch X G w21 λF=>⟨bo_8 k8 F,Cw F⟩;have ai8:FnMd l.prog w K r u true "take_away" 1 2 L16 r_7:=er_0 F22 (mg_of X G a22) (bn3 F22) (ce_8 F22);have bb2:lT cp_7:=Ch X G w23 λF=>⟨dn_1 j6 l3 ai9 ae7 ai8 ab4 F,Cq F⟩;have ag7:lT dz_5:=Ch X G w24 λF=>⟨ej_0 j6 p7 aa5 bb2 F,bn3 F⟩;have ao9:lT bn_8:=Ch X G w25 λF=>⟨cq_4 j6 ag7 F,bn3 F⟩;have p5:lT be_7:=Ch X G w26 λF=>⟨ce_9 l3 y6 ao9 bb0 F,bn3 F⟩;have ac7:lT ak_4:=Ch X G w27 λF=>⟨bc_1 j6 l3 ag7 F,bn3 F⟩;have y0:lT bn_9:=Ch X G w28 λF=>⟨cq_5 f6 ag4 aa8 F,Cq F⟩;have ac0:lT be_8:=Ch X G w29 λF=>⟨cf_0 F,Cq F⟩;have ak0:lT cp_8:=Ch X G w30 λF=>⟨dn_2 j6 y0 ac0 bk2 F,bn3 F⟩;have az4:lT cp_9:=Ch X G w31 λF=>⟨dn_3 y0 ac0 ak0 ao2 F,bn5 F⟩;have ad7:lMk "Table" 1 5 ad_3:=aw_7 y1 bk1 bk3 bj0 w32 λF=>⟨ay_8 aa4 ac9 aq4 ad5 ab6 F y1,bn6 F⟩;have x4:lT be_9:=Ch X G w33 λF=>⟨cf_1 j6 p7 aa5 ag7 az4 ad7 F,bn5 F⟩;have ac6:lT ak_5:=Ch X G w34 λF=>⟨bc_2 l3 F,Cq F⟩;have x6:MakB l.prog w K r u true "House" "Peeled" 1 1 f_3:=⟨aq2,h8,_,_,_,l0,bf8,a35,af_1 d9 F35 l0,(Cq F35)⟩;have ar3:lMk "Peeled" 9 3 z_2:=aw_7 l0 al6 bh6 bi3 w36 λF=>⟨au_8 j6 p7 p5 ac7 x4 ac6 x6 a9 o9 F l0,bn4 F⟩;have u6:MakB l.prog w K r u true "House" "Ordered" 1 1 g_6:=⟨aq2,g8,_,_,_,k9,bf8,a37,ac_5 d9 F37 k9,(Cq F37)⟩;have ao1:lMk "Ordered" 9 3 x_7:=aw_7 k9 ah1 bg7 bh1 w38 λF=>⟨aq_4 j6 l3 ab4 p5 x4 a9 u6 F k9,bn4 F⟩;have z8:lT cq_0:=Ch X G w39 λF=>⟨dn_4 l3 F,Cw F⟩;have af4:lT as_3:=Ch X G w40 λF=>⟨bo_9 j6 k8 y0 al5 F,bn3 F⟩;have be1:lMk "Kept" 9 5 Hw:=aw_7 x9 ax8 bk8 bk5 w41 λF=>⟨bc_3 j6 y6 d9 p5 x4 a9 z8 af4 u0 F x9,bn6 F⟩;have ak7:lT dz_6:=Ch X G w42 λF=>⟨ej_1 ap3 ap9 z8 ak2 F,Cq F⟩;have ar9:lMk "Marked" 9 4 ab_6:=aw_7 o7 al2 bh4 bi8 w43 λF=>⟨au_9 j6 d9 p5 x4 a9 z8 u0 ak7 F o7,bn5 F⟩;have ad8:lT bo_0:=Ch X G w44 λF=>⟨cq_6 j6 aa5 ag7 p5 ar3 ao1 be1 ar9 F,bn4 F⟩;have r6:lT as_4:=ef_8 X G w45 λF=>⟨bp_0 l3 f6 ah3 ae3 af7 ag0 ad1 ac3 al4 ao7 ba9 an5 au2 ag6 bc0 af3 bb4 ay2 at3 az8 ad2 n5 x5 F,Cq F⟩;have aa7:lT bf_0:=Ch X G w46 λF=>⟨cf_2 f6 ag4 aa8 ab4 af7 ag0 ad1 ac3 ad8 r6 ai7 ar4 ba3 az6 bd7 F,bn4 F⟩;have aj8:lT bf_1:=Ch X G w47 λF=>⟨cf_3 l3 ai3 as9 aa7 F,bn3 F⟩;have ab8:lT as_5:=Ch X G w48 λF=>⟨bp_1 ak9 F,Cq F⟩;have av7:lMd 5 1 "places" "Table" d_4:=Cg y1 z9 w49 λF=>⟨bg_3 z6 aa4 ac9 aq4 F,Cq F⟩;have f9:lMt 5 1 "places" [("Table",d_4)]:=(Cd av7 mtn);have af5:lMd 6 1 "places" "Peeled" b_3:=Cg l0 t8 w50 λF=>⟨ag_7 a9 f9 F,Cq F⟩;have ab2:lMd 6 1 "places" "PeeledAgain" b_3:=Cg i8 j8 w51 λF=>⟨ag_7 a9 f9 F,Cq F⟩;have ay4:lMd 6 1 "total" "Table" h_8:=Cg y1 z9 w52 λF=>⟨bp_2 ak0 ad5 ab6 f9 F,Cq F⟩;have l7:lMt 6 1 "places" J26:=(Cd af5 (Cd ab2 mtn));have j5:lMt 6 1 "total" [("Table",h_8)]:=(Cd ay4 mtn);have al8:lMd 7 1 "number_of" "Peeled" d_1:=Cg l0 t8 w53 λF=>⟨aa_2 a9 o9 ab8 l7 j5 F,Cq F⟩;have aj7:lMd 7 1 "number_of" "Ordered" c_5:=Cg k9 v9 w54 λF=>⟨z_6 a9 j5 F,Cq F⟩;have af0:lMd 7 1 "number_of" "PeeledAgain" d_1:=Cg i8 j8 w55 λF=>⟨aa_2 a9 o9 ab8 l7 j5 F,Cq F⟩;have ad9:lMd 7 1 "number_of" "OrderedAgain" c_5:=Cg j3 l6 w56 λF=>⟨z_6 a9 j5 F,Cq F⟩;have d5:lMt 7 1 "number_of" J20:=(Cd al8 (Cd aj7 (Cd af0 (Cd ad9 mtn))));have ay7:lMd 8 1 "room" "Peeled" b_4:=Cg l0 t8 w57 λF=>⟨w_9 ai9 d9 d5 F,Cq F⟩;have au5:lMd 8 1 "room" "Ordered" b_4:=Cg k9 v9 w58 λF=>⟨w_9 ai9 d9 d5 F,Cq F⟩;have am2:lMd 8 1 "room" "PeeledAgain" b_4:=Cg i8 j8 w59 λF=>⟨w_9 ai9 d9 d5 F,Cq F⟩;have ak8:lMd 8 1 "room" "OrderedAgain" b_4:=Cg j3 l6 w60 λF=>⟨w_9 ai9 d9 d5 F,Cq F⟩;have c9:lMt 8 1 "room" J17:=(Cd ay7 (Cd au5 (Cd am2 (Cd ak8 mtn))));have aw2:lMd 9 1 "rooms" "Peeled" b_7:=Cg l0 t8 w61 λF=>⟨u_2 o6 c9 F,Cq F⟩;have as8:lMd 9 1 "rooms" "Ordered" b_7:=Cg k9 v9 w62 λF=>⟨u_2 o6 c9 F,Cq F⟩;have aj1:lMd 9 1 "rooms" "PeeledAgain" b_7:=Cg i8 j8 w63 λF=>⟨u_2 o6 c9 F,Cq F⟩;have ah9:lMd 9 1 "rooms" "OrderedAgain" b_7:=Cg j3 l6 w64 λF=>⟨u_2 o6 c9 F,Cq F⟩;have ap8:lMd 6 1 "places" "Ordered" d_0:=Cg k9 v9 w65 λF=>⟨ad_8 a9 f9 F,Cq F⟩;have bc6:lMd 6 1 "places" "Kept" e_3:=Cg x9 ab9 w66 λF=>⟨ao_4 a9 f9 F,Cq F⟩;have at9:lMd 6 1 "places" "Marked" d_7:=Cg o7 y7 w67 λF=>⟨ag_8 a9 f9 F,Cq F⟩;have ag3:lMd 6 1 "places" "OrderedAgain" d_0:=Cg j3 l6 w68 λF=>⟨ad_8 a9 f9 F,Cq F⟩;have an3:lMd 6 1 "places" "KeptAgain" e_3:=Cg n6 r9 w69 λF=>⟨ao_4 a9 f9 F,Cq F⟩;have ai1:lMd 6 1 "places" "MarkedAgain" d_7:=Cg l4 n9 w70 λF=>⟨ag_8 a9 f9 F,Cq F⟩;have bd5:lMd 7 1 "value" "Kept" h_1:=Cg x9 ab9 w71 λF=>⟨as_8 a9 j5 F,Cq F⟩;have ao4:lMd 7 1 "value" "KeptAgain" h_1:=Cg n6 r9 w72 λF=>⟨as_8 a9 j5 F,Cq F⟩;have ax7:lMd 7 1 "knows" "Marked" e_7:=Cg o7 y7 w73 λF=>⟨ak_7 a9 u0 ak7 j5 F,Cq F⟩;have ak3:lMd 7 1 "knows" "MarkedAgain" e_7:=Cg l4 n9 w74 λF=>⟨ak_7 a9 u0 ak7 j5 F,Cq F⟩;have i7:lMt 9 1 "rooms" J21:=(Cd aw2 (Cd as8 (Cd aj1 (Cd ah9 mtn))));have d6:lMt 6 1 "places" J14:=(Cd af5 (Cd ap8 (Cd bc6 (Cd at9 (Cd ab2 (Cd ag3 (Cd an3 (Cd ai1 mtn))))))));have x8:lMt 7 1 "value" J29:=(Cd bd5 (Cd ao4 mtn));have q9:lMt 7 1 "knows" J27:=(Cd ax7 (Cd ak3 mtn));have an8:lT bo_1:=Ch X G w75 λF=>⟨cq_7 z6 ak7 c9 i7 d6 x8 q9 F,bn3 F⟩;have ad3:lT bo_2:=Ch X G w76 λF=>⟨cq_8 ai3 f6 ag4 aa8 ac3 r6 ai7 bd7 an8 F,bn3 F⟩;have ae8:lT as_6:=Ch X G w77 λF=>⟨bp_3 F,Cq F⟩;have ai6:lT bf_2:=Ch X G w78 λF=>⟨cf_4 j6 k8 ae8 af8 F,Cq F⟩;have ae4:lT as_7:=Ch X G w79 λF=>⟨bp_4 F,Cw F⟩;have ak6:lT bf_3:=Ch X G w80 λF=>⟨cf_5 j6 ai6 ae4 F,Cq F⟩;have ac8:lT ak_6:=Ch X G w81 λF=>⟨bc_4 ak6 F,bn3 F⟩;have ad4:lMk "PeeledAgain" 1 3 t_6:=aw_7 i8 ay0 bb1 bc7 w82 λF=>⟨ag_9 d9 a9 o9 F i8,bn4 F⟩;have ac5:lMk "OrderedAgain" 1 2 r_8:=aw_7 j3 av0 ax5 ax6 w83 λF=>⟨af_2 d9 a9 F j3,bn3 F⟩;have ah4:lMk "KeptAgain" 1 3 z_5:=aw_7 n6 bf1 be7 bd8 w84 λF=>⟨al_3 d9 a9 u0 F n6,bn4 F⟩;have ad6:lMk "MarkedAgain" 1 3 t_7:=aw_7 l4 ba5 ay5 az2 w85 λF=>⟨ah_0 d9 a9 u0 F l4,bn4 F⟩;have ao0:lT bo_3:=Ch X G w86 λF=>⟨cq_9 p7 ad7 z8 ac8 ad4 ac5 ah4 ad6 F,bn7 F⟩;have ah0:lT ay_6:=Ch X G w87 λF=>⟨bs_0 ao0 F,Cw F⟩;have ab3:lT ag_6:=Ch X G w88 λF=>⟨ay_9 l3 ba0 F,Cq F⟩;have ar7:lT bx_9:=Ch X G w89 λF=>⟨cy_6 k8 y0 z8 af8 ab3 F,Cq F⟩;have bc1:lMd 1 0 "table" "Table" k_6:=Cg y1 z9 w90 λF=>⟨bp_5 ab4 ab6 F,Cw F⟩;have j4:lMt 1 0 "table" [("Table",k_6)]:=(Cd bc1 mtn);have aw3:lMd 2 0 "table" "Peeled" f_5:=Cg l0 t8 w91 λF=>⟨ak_8 a9 j4 F,Cw F⟩;have as2:lMd 2 0 "table" "Ordered" e_8:=Cg k9 v9 w92 λF=>⟨ah_1 a9 j4 F,Cw F⟩;have bd3:lMd 2 0 "table" "Kept" i_0:=Cg x9 ab9 w93 λF=>⟨as_9 a9 j4 F,Cw F⟩;have aw9:lMd 2 0 "table" "Marked" f_6:=Cg o7 y7 w94 λF=>⟨ak_9 a9 j4 F,Cw F⟩;have ak4:lMd 2 0 "table" "PeeledAgain" f_5:=Cg i8 j8 w95 λF=>⟨ak_8 a9 j4 F,Cw F⟩;have ai2:lMd 2 0 "table" "OrderedAgain" e_8:=Cg j3 l6 w96 λF=>⟨ah_1 a9 j4 F,Cw F⟩;have an9:lMd 2 0 "table" "KeptAgain" i_0:=Cg n6 r9 w97 λF=>⟨as_9 a9 j4 F,Cw F⟩;have aj2:lMd 2 0 "table" "MarkedAgain" f_6:=Cg l4 n9 w98 λF=>⟨ak_9 a9 j4 F,Cw F⟩;have bc3:lMd 1 0 "many" "Peeled" b_6:=Cg l0 t8 w99 λF=>⟨x_0 d9 F,Cw F⟩;have au6:lMd 1 0 "many" "Ordered" b_6:=Cg k9 v9 bq0 λF=>⟨x_0 d9 F,Cw F⟩;have be3:lMd 1 0 "many" "Kept" h_4:=Cg x9 ab9 bq1 λF=>⟨az_0 d9 F,Cw F⟩;have az1:lMd 1 0 "many" "Marked" e_9:=Cg o7 y7 bp4 λF=>⟨ao_5 d9 F,Cw F⟩;have an1:lMd 1 0 "many" "PeeledAgain" b_6:=Cg i8 j8 bo0 λF=>⟨x_0 d9 F,Cw F⟩;have ak5:lMd 1 0 "many" "OrderedAgain" b_6:=Cg j3 l6 bp6 λF=>⟨x_0 d9 F,Cw F⟩;have aq0:lMd 1 0 "many" "KeptAgain" h_4:=Cg n6 r9 bp7 λF=>⟨az_0 d9 F,Cw F⟩;have am8:lMd 1 0 "many" "MarkedAgain" e_9:=Cg l4 n9 bo2 λF=>⟨ao_5 d9 F,Cw F⟩;have bd1:lMd 1 0 "salt" "Table" m_4:=Cg y1 z9 bn9 λF=>⟨bs_1 aa4 F,Cw F⟩;have k7:lMt 1 0 "salt" [("Table",m_4)]:=(Cd bd1 mtn);have bc2:lMd 2 0 "salt" "Peeled" g_7:=Cg l0 t8 bp5 λF=>⟨ao_6 a9 k7 F,Cw F⟩;have au7:lMd 2 0 "salt" "Ordered" f_7:=Cg k9 v9 bo1 λF=>⟨al_0 a9 k7 F,Cw F⟩;have be6:lMd 2 0 "salt" "Kept" j_1:=Cg x9 ab9 bp9 λF=>⟨az_1 a9 k7 F,Cw F⟩;have ay3:lMd 2 0 "salt" "Marked" g_8:=Cg o7 y7 bo6 λF=>⟨ao_7 a9 k7 F,Cw F⟩;have am9:lMd 2 0 "salt" "PeeledAgain" g_7:=Cg i8 j8 bp2 λF=>⟨ao_6 a9 k7 F,Cw F⟩;have aj6:lMd 2 0 "salt" "OrderedAgain" f_7:=Cg j3 l6 bn0 λF=>⟨al_0 a9 k7 F,Cw F⟩;have ar0:lMd 2 0 "salt" "KeptAgain" j_1:=Cg n6 r9 bo3 λF=>⟨az_1 a9 k7 F,Cw F⟩;have al9:lMd 2 0 "salt" "MarkedAgain" g_8:=Cg l4 n9 bq3 λF=>⟨ao_7 a9 k7 F,Cw F⟩;have d7:lMt 2 0 "table" J15:=(Cd aw3 (Cd as2 (Cd bd3 (Cd aw9 (Cd ak4 (Cd ai2 (Cd an9 (Cd aj2 mtn))))))));have b9:lMt 1 0 "many" J12:=(Cd bc3 (Cd au6 (Cd be3 (Cd az1 (Cd an1 (Cd ak5 (Cd aq0 (Cd am8 mtn))))))));have d8:lMt 2 0 "salt" J16:=(Cd bc2 (Cd au7 (Cd be6 (Cd ay3 (Cd am9 (Cd aj6 (Cd ar0 (Cd al9 mtn))))))));have ad0:lT by_0:=Ch X G bn8 λF=>⟨cy_7 ac9 a9 ar7 d7 b9 d8 F,bn4 F⟩;have ae1:lT bf_4:=Ch X G bo7 λF=>⟨cf_6 ak9 F,Cw F⟩;have ay9:lMd 1 0 "used" "Peeled" g_9:=Cg l0 t8 bp8 λF=>⟨ao_8 o9 F,Cw F⟩;have am4:lMd 1 0 "used" "PeeledAgain" g_9:=Cg i8 j8 bo4 λF=>⟨ao_8 o9 F,Cw F⟩;have u4:lMt 1 0 "used" J28:=(Cd ay9 (Cd am4 mtn));have ag5:lT ay_7:=Ch X G bo8 λF=>⟨bs_2 f6 ac9 a9 u0 b9 ad0 ae1 u4 au4 al6 an6 ah1 bf0 ax8 as3 al2 F,Cw F⟩;have aa9:lT ao_3:=Ch X G bp0 λF=>⟨bg_4 ak9 ab4 ad8 aa7 ad3 ah0 ag5 F,bn3 F⟩;exact ep_5 (et_8 (P:=l.prog) (w:=w) (u:=u) j6 y2 l3 ab4 an7 aj8 aa9 bp1) dz_4
end My


open PySem PySem.W PyProof.Rows
set_option maxRecDepth 100000 in
set_option maxHeartbeats 0 in
theorem PySem.Challenge.cw_lodge_k59_refused_at_each_door_holds : PySem.Challenge.rw_lodge_k59_refused_at_each_door.Holds := by
 w_on; o_law; k_head; (case hw => w_witness2)
 k_fill
 refine L3.ex_3 (l := PySem.Challenge.rw_lodge_k59_refused_at_each_door) (x := "_law_script") (k := 14) rfl rfl ⟨rfl, by decide, by decide⟩ (λw h Y => PySem.W.kIn_of Y) ?F
 case F =>
  intro w mg fa h KX G hmg
  refine' My.et_9 KX G hmg ?c1 ?c2 ?c3 ?c4 ?c5 ?c6 ?c7 ?c8 ?c9 ?c10 ?c11 ?c12 ?c13 ?c14 ?c15 ?c16 ?c17 ?c18 ?c19 ?c20 ?c21 ?c22 ?c23 ?c24 ?c25 ?c26 ?c27 ?c28 ?c29 ?c30 ?c31 ?c32 ?c33 ?c34 ?c35 ?c36 ?c37 ?c38 ?c39 ?c40 ?c41 ?c42 ?c43 ?c44 ?c45 ?c46 ?c47 ?c48 ?c49 ?c50 ?c51 ?c52 ?c53 ?c54 ?c55 ?c56 ?c57 ?c58 ?c59 ?c60 ?c61 ?c62 ?c63 ?c64 ?c65 ?c66 ?c67 ?c68 ?c69 ?c70 ?c71 ?c72 ?c73 ?c74 ?c75 ?c76 ?c77 ?c78 ?c79 ?c80 ?c81 ?c82 ?c83 ?c84 ?c85 ?c86 ?c87 ?c88 ?c89 ?c90 ?c91 ?c92 ?c93 ?c94 ?c95 ?c96 ?c97 ?c98 ?c99 ?c100 ?c101 ?c102 ?c103 ?c104 ?c105 ?c106 ?c107 ?c108 ?c109 ?c110 ?c111 ?c112 ?c113 ?c114 ?c115 ?c116 ?c117 ?c118 ?c119 ?c120 ?c121 ?c122 ?c123 ?c124 ?c125 ?c126 ?c127 ?c128 ?c129 ?c130 ?c131 ?c132 ?c133 ?c134 ?c135 ?c136 ?c137 ?c138 ?c139 ?c140 ?c141 ?c142 ?c143 ?c144 ?c145 ?c146 ?c147 ?c148 ?c149 ?c150 ?c151 ?c152 ?c153 ?c154 ?c155 ?c156 ?c157 ?c158 ?c159 ?c160 ?c161 ?c162 ?c163 ?c164 ?c165 ?c166 ?c167 ?c168 ?c169 ?c170 ?c171 ?c172 ?c173 ?c174 ?c175 ?c176 ?c177 ?c178 ?c179 ?c180 ?c181 ?c182 ?c183 ?c184 ?c185 ?c186 ?c187 ?c188 ?c189 ?c190 ?c191 ?c192 ?c193 ?c194 ?c195 ?c196 ?c197 ?c198 ?c199 ?c200 ?c201 ?c202 ?c203 ?c204 ?c205 ?c206 ?c207 ?c208 ?c209 ?c210 ?c211 ?c212 ?c213 ?c214 ?c215 ?c216 ?c217 ?c218 ?c219 ?c220 ?c221 ?c222 ?c223 ?c224 ?c225 ?c226 ?c227 ?c228 ?c229 ?c230 ?c231 ?c232 ?c233 ?c234 ?c235 ?c236 ?c237 ?c238 ?c239 ?c240 ?c241 ?c242 ?c243 ?c244 ?c245 ?c246 ?c247 ?c248 ?c249 ?c250 ?c251 ?c252 ?c253 ?c254 ?c255 ?c256 ?c257 ?c258 ?c259 ?c260 ?c261 ?c262 ?c263 ?c264 ?c265 ?c266 ?c267 ?c268 ?c269 ?c270 ?c271 ?c272 ?c273 ?c274 ?c275 ?c276 ?c277 ?c278 ?c279 ?c280 ?c281 ?c282 ?c283 ?c284 ?c285 ?c286 ?c287 ?c288 ?c289 ?c290 ?c291 ?c292 ?c293 ?c294 ?c295 ?c296 ?c297 ?c298 ?c299 ?c300 ?c301 ?c302 ?c303 ?c304 ?c305 ?c306 ?c307 ?c308 ?c309 ?c310 ?c311 ?c312 ?c313 ?c314 ?c315 ?c316 ?c317 ?c318 ?c319 ?c320 ?c321 ?c322 ?c323 ?c324 ?c325 ?c326 ?c327 ?c328 ?c329 ?c330 ?c331 ?c332 ?c333 ?c334 ?c335 ?c336 ?c337 ?c338 ?c339 ?c340 ?c341 ?c342 ?c343 ?c344
  (case c1|c2|c4|c5|c11|c13|c14|c18|c20|c21|c25|c27|c28|c32|c34|c35|c38|c40|c41|c45|c47|c48|c51|c53|c54|c58|c60|c61|c186|c187|c188|c189|c190|c191|c192|c193|c194|c195|c196|c197|c198|c199|c200|c201|c202|c203|c204|c223|c224|c225|c226|c227|c228|c229|c230|c231|c232|c233|c234|c235|c236|c237|c238|c239|c240=>k_is)
  (case c3|c12|c19|c26|c33|c39|c46|c52|c59=>(refine' L2.Cls.mk ?z0 ?z1 ?z2 ?z3;(case z0=>k_is);(case z1=>k_is);(case z2=>k_is);(case z3=>k_is)))
  (case c6|c7|c8|c9|c10|c15|c16|c17|c22|c23|c24|c29|c30|c31|c36|c37|c42|c43|c44|c49|c50|c55|c56|c57|c62|c63|c64=>(refine' L3.NoAttr.mk ?z0;(case z0=>k_is)))
  (case c65|c66|c67|c68|c69|c70|c71|c72|c73|c74|c75|c76|c77|c78|c79|c80|c81|c82|c83|c84|c85|c86|c87|c88|c89|c90|c91|c92|c93|c94|c95|c97|c98|c103|c104|c106|c108|c109|c110|c111|c112|c139|c140|c141|c142|c143|c144|c145|c150|c151|c152|c153|c180|c181|c184|c185=>(refine' L3.FnTop.mk ?a ?l ?c ?k;(case a=>k_is);(case l=>k_is);(case c=>k_is);(case k=>k_is)))
  (case c96|c100|c102|c105|c107|c113|c114|c115|c116|c117|c118|c119|c120|c121|c122|c123|c124|c125|c126|c127|c128|c129|c130|c131|c132|c133|c134|c135|c136|c137|c138|c146|c147|c148|c149|c154|c155|c156|c157|c158|c159|c160|c161|c162|c163|c164|c165|c166|c167|c168|c169|c170|c171|c172|c173|c174|c175|c176|c177|c178|c179|c182|c183=>(refine' L3.FnMet.mk ?a ?l ?c ?k ?i;(case a=>k_is);(case l=>k_is);(case c=>k_is);(case k=>k_is);(case i=>k_is)))
  (case c99|c101=>(refine' L3.FnBase.mk ?s ?r ?a ?l ?c ?k;(case s=>k_is);(case r=>k_is);(case a=>k_is);(case l=>k_is);(case c=>k_is);(case k=>k_is)))
  (case c205|c206|c207|c208|c209|c210|c211|c212|c213|c214|c215|c216|c217|c218|c219|c220|c221|c222|c267|c268|c269|c270|c271|c272|c273|c274|c281|c282|c283|c284|c285|c286|c287|c288|c295|c296|c297|c298|c299|c300|c301|c302|c309|c310|c311|c312|c313|c314|c315|c316|c323|c324|c325|c326|c327|c328|c329|c330|c337|c338|c339|c340|c341|c342|c343|c344=>kit_is)
  (case c241|c246|c251|c256=>(refine' L3.OInst.mm ?z0 ?z1 ?z2 ?z3 ?z4 ?z5;(case z0=>k_is);(case z1=>k_is);(case z2=>k_is);(case z3=>k_is);(case z4=>k_is);(case z5=>k_is)))
  (case c242|c243|c244|c245|c247|c248|c249|c250|c252|c253|c254|c255|c257|c258|c259|c260=>(refine' L3.KO.mk ?z0;(case z0=>kit_is)))
  (case c261|c275|c289|c303=>(refine' L3.XB.mk ?z0 ?z1 ?z2 ?z3 ?z4 ?z5 ?z6 ?z7 ?z8 ?z9 ?z10 ?z11 ?z12 ?z13 ?z14;(case z0=>k_is);(case z1=>k_is);(case z2=>k_is);(case z3=>rfl);(case z4=>rfl);(case z5=>k_is);(case z6=>k_is);(case z7=>rfl);(case z8=>rfl);(case z9=>k_is);(case z10=>k_is);(case z11=>k_is);(case z12=>k_is);(case z13=>k_is);(case z14=>k_is)))
  (case c262|c276|c290|c304|c318|c332=>(refine' L3.XInst.mk ?z0 ?z1 ?z2 ?z3 ?z4 ?z5 ?z6 ?z7;(case z0=>k_is);(case z1=>k_is);(case z2=>k_is);(case z3=>k_is);(case z4=>k_is);(case z5=>k_is);(case z6=>k_is);(case z7=>k_is)))
  (case c263|c264|c265|c266|c277|c278|c279|c280|c291|c292|c293|c294|c305|c306|c307|c308|c319|c320|c321|c322|c333|c334|c335|c336=>kts_exm)
  (case c317|c331=>(refine' L3.XB0 ?z0 ?z1 ?z2 ?z3 ?z4 ?z5 ?z6 ?z7 ?z8;(case z0=>k_is);(case z1=>k_is);(case z2=>rfl);(case z3=>rfl);(case z4=>k_is);(case z5=>k_is);(case z6=>rfl);(case z7=>rfl);(case z8=>k_is)))

end
