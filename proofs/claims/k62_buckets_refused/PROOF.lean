import PyProof.Rows.All
import Wide.All
import OpenK.AllK
import Wide.FinOn
import Lean
import PyProof.EqAt
import PyProof.EqKinds
import PyProof.TupleCall
import PySem.Challenge.RW_lodge_k62_buckets_refused
set_option Elab.async false
set_option linter.all false
set_option maxRecDepth 100000
set_option genSizeOf false
def A3:=@PySem.wpAny_bind
def A4:=@List.length_map
def A5:=@PySem.Heap.get?_push_of_some
def A6:=@PySem.Heap.lt_size
def A7:=@Bool.false_ne_true
def A8:=@Nat.le_refl
def A9:=@List.getElem?_eq_some_iff
def B1:=@List.mem_append_right
def B2:=@List.map_cons
def B3:=@List.getElem?_append_left
def B4:=@List.getElem?_map
def B5:=@List.getElem?_eq_getElem
def B6:=@List.length_append
def B7:=@PySem.Heap.get?_push_size
def B8:=@List.mem_cons
def C1:=@Nat.ne_of_lt
def C4:=@Nat.lt_of_lt_of_le
def C5:=@PySem.wpAny_pure
def C6:=@List.length_cons
def C7:=@Nat.le_trans
def C8:=@List.size_toArray
def C9:=@List.getElem?_set_ne
def D0:=@Bool.and_eq_true
def D1:=@List.getElem?_append_right
def D2:=@PySem.wpAny_mono
def D3:=@List.append_nil
def D4:=@List.mem_cons_of_mem
def D5:=@PySem.sizeLine_eq
def D6:=@PySem.boot_len
def D7:=@Nat.lt_irrefl
def D8:=@List.mem_singleton
def D9:=@List.getElem?_eq_none
def E4:=@decide_eq_false
def E7:=@Bool.false_eq_true
def E8:=@List.getElem?_replicate
def E9:=@List.mem_of_getElem?
def F0:=@List.mem_map
def F1:=@decide_eq_true
def F2:=@List.getD_eq_getElem?_getD
def F3:=@List.getElem?_range
def F4:=@List.all_eq_true
def F5:=@of_decide_eq_true
def F6:=@List.mem_append
def F7:=@List.map_append
def F8:=@List.lookup_cons
def F9:=@List.getElem?_set_self
def G6:=@PyProof.Rows.callWith_type1
def J6:=@PySem.Heap.get?_update_other
def J7:=@List.length_set
def J8:=@List.mem_range
def J9:=@List.length_replicate
def K0:=@Nat.zero_le
def K1:=@List.replicate_succ
def K2:=@Option.some.inj
def K3:=@List.nodup_cons
def K4:=@List.length_range
def K5:=@List.mem_cons_self
def K6:=@PySem.mem_of_lookup
def K7:=@decide_true
def K8:=@List.pairwise_iff_getElem
def K9:=@PySem.Heap.size_push
def L4:=@PySem.wpAny_holding
def L5:=@List.map_congr_left
def L6:=@congrArg
def L7:=@List.map_map
def L8:=@decide_false
def L9:=@List.mem_append_left
def M0:=@beq_iff_eq
def M3:=@Option.map_some
def M4:=@PySem.W.mg_none_of
def M5:=@List.length_singleton
def M6:=@List.find?_cons
def M7:=@PySem.Calls.spliced_cons
def M8:=@PySem.wpAny_Call_Name_kw
def M9:=@List.length_take
def N0:=@if_false
def N1:=@List.append_assoc
def N2:=@List.map_nil
def N3:=@Int.toNat_natCast
def N4:=@PySem.wpAny_loadPart_at
def N5:=@Option.map_eq_some_iff
def N6:=@Nat.zero_add
def N7:=@beq_eq_false_iff_ne
def N8:=@Array.length_toList
def N9:=@PySem.Heap.SameBut.update
def O0:=@PySem.Heap.get?_update_self
def O4:=@PyProof.Rows.boot_int
def O5:=@List.cons_append
def O6:=@beq_self_eq_true
def O7:=@Int.emod_lt_of_pos
def O8:=@PySem.Heap.get?_none_of_le
def O9:=@PySem.wpAny_newObj_type
def P0:=@List.ext_getElem?
def P1:=@Bool.eq_iff_iff
def P2:=@List.nil_append
def P3:=@List.length_nil
def P4:=@PySem.wpAny_standAt
def P5:=@PySem.wpAny_of_eq
def P6:=@Nat.le_succ
def P7:=@Nat.lt_succ_self
def P8:=@Array.getElem?_eq_some_iff
def P9:=@List.contains_cons
def Q0:=@List.pairwise_cons
def Q1:=@List.mem_filter
def Q2:=@PySem.wpAny_passesOwn
def Q3:=@Bool.or_eq_true
def Q4:=@Int.emod_nonneg
def Q5:=@PySem.wpAny_truthy_bool
def Q6:=@Nat.le_of_eq
def Q7:=@PySem.Calls.spliced_nil
def Q8:=@List.flatten_cons
def Q9:=@PySem.codeAny_mono
def R0:=@PySem.wpAny_field
def R1:=@Nat.lt_succ_of_lt
def R3:=@Nat.lt_trichotomy
def R4:=@List.mem_of_mem_take
def R5:=@Option.isSome_iff_exists
def R6:=@PySem.wpAny_call
def R7:=@List.getElem_of_mem
def R8:=@PySem.wpAny_getItem_str_slice
def R9:=@List.getElem_mem
def S0:=@List.getElem?_cons_succ
def S3:=@List.getElem?_cons_zero
def S4:=@List.nodup_nil
def S5:=@Nat.le_of_lt
def S6:=@PySem.Paired.length
def S7:=@List.all_cons
def S9:=@List.any_cons
def T3:=@PySem.Obj.isFreed_of_fields
def T4:=@List.contains_iff_mem
def T5:=@PyProof.Rows.boot_max
def T6:=@PySem.wpAny_pyIter_list
def T7:=@List.take_add_one
def T8:=@List.nodup_append
def T9:=@PySem.codeAny_call_builtin
def U1:=@Array.getElem_toList
def U2:=@PySem.W.looks_findIn
def U3:=@List.take_length
def U4:=@PySem.F.slot_list_append
def U5:=@PySem.F.type_list_append
def U6:=@PySem.wpAny_comprehension_free
def U7:=@PySem.wpAny_execs_nil
def U8:=@List.foldl_cons
def U9:=@List.cons.injEq
def V0:=@PySem.W.KasT.kasWp_bind
def V1:=@PySem.Obj.data_mapFields
def V2:=@PySem.Code.quiet_builtin
def V3:=@PySem.tupleKind_room_in1
def V4:=@PySem.F.plainAttrs_list
def V5:=@Option.bind_eq_some_iff
def V6:=@PySem.wpAny_pyNext_list_item
def V7:=@PySem.Calls.callWith_builtin
def V8:=@List.drop_eq_nil_of_le
def V9:=@PySem.wpAny_pyIter_enum
def W0:=@List.find?_cons_of_pos
def W1:=@List.find?_cons_of_neg
def W2:=@Int.lt_trans
def W3:=@decide_eq_true_eq
def W4:=@PySem.plainObj_wpAny_Assign_Attribute
def W5:=@PySem.F.slot_dict_get
def W6:=@List.length_filter_le
def W7:=@PyProof.Rows.boot_min
def W8:=@PySem.W.callWith_K
def W9:=@PyProof.Rows.callWith_builtin1
def X0:=@List.perm_middle
def X1:=@List.any_eq_true
def X2:=@PySem.wpAny_attempt
def X3:=@PySem.Around.frames_deeper
def X4:=@PySem.Calls.evalArgs_plain
def X5:=@PySem.wpAny_newFunctionEnv
def X6:=@List.eq_nil_of_length_eq_zero
def X7:=@PySem.Around.under_plainId
def X8:=@List.of_mem_zip
def X9:=@PySem.codeAny_builtin
def Y0:=@PySem.post_val_or_str
def Y1:=@PyProof.Rows.boot_isinstance
def Y2:=@PySem.F.slot_dict_setdefault
def Y3:=@Nat.not_lt_zero
def Y4:=@List.filterMap_cons
def Y5:=@PySem.wpAny_isSubtype_exc
def Y6:=@Nat.ne_of_gt
def Y7:=@Array.getD_eq_getD_getElem?
def Y8:=@PySem.W.cellsFrom_some
def Y9:=@PySem.Calls.Name_function_global
def Z0:=@PySem.wpAny_setField
def Z1:=@PySem.wpAny_newFunctionEnv_cells
def Z2:=@PySem.wpAny_letOwnedTupleGo_enum
def Z3:=@Nat.not_lt
def Z4:=@List.zip_cons_cons
def Z5:=@PySem.F.excBase_ValueError
def Z6:=@Array.perm_iff_toList_perm
def Z7:=@List.perm_ext_iff_of_nodup
def Z8:=@PySem.codeAny_call_builtin_code
def Z9:=@PySem.wpAny_check_type_call_sub
def ZA0:=@List.drop_eq_getElem_cons
def ZA1:=@PySem.wpAny_assign_Name
def ZA2:=@Option.isSome_map
def ZA3:=@List.pairwise_map
def ZA4:=@Bool.not_true
def ZA5:=@PyProof.Rows.listUpdate_at
def ZA6:=@List.eq_of_mem_replicate
def ZA7:=@PySem.W.any_some
def ZA8:=@PySem.wpAny_eqBool_int
def ZA9:=@Option.getD_none
def ZB0:=@PySem.codeAny_call_builtin_at
def ZB1:=@PySem.F.args_dict_get_3
def ZB2:=@PySem.F.plainAttrs_dict
def ZB3:=@PySem.wpAny_pyNext_enum_itemD
def ZB4:=@Option.bind_some
def ZB5:=@PySem.F.plain_list_iadd
def ZB6:=@decide_eq_decide
def ZB7:=@List.getElem_map
def ZB8:=@Array.all_toList
def ZB9:=@List.filter_cons
def ZC0:=@PySem.wpAny_pyNext_range_end
def ZC1:=@PySem.wpAny_pyIter_rangeiter
def ZC2:=@PyProof.Rows.subscriptTail_builtinR
def ZC3:=@PySem.F.entry_dict_get
def ZC4:=@PySem.codeAny_compStart_list
def ZC5:=@PySem.Txt.slice_le
def ZC6:=@PySem.wpAny_pyNext_enum_endD
def ZC7:=@PyProof.Rows.boot_list
def ZC8:=@Nat.sub_self
def ZC9:=@PySem.F.plainAttrs_str
def ZD0:=@PySem.wpAny_loadPart'
def ZD1:=@PySem.codeAny_of_tree
def ZD2:=@PySem.W.looks_clsIn
def ZD3:=@PySem.W.looks_mroIn
def ZD4:=@PySem.W.plainGet_of
def ZD5:=@PySem.wpAny_loadPart
def ZD6:=@List.drop_zero
def ZD7:=@Bool.not_false
def ZD8:=@PySem.W.methodCall_KW
def ZD9:=@Bool.and_true
def ZE0:=@PySem.W.check_slot
def ZE1:=@PySem.W.Looks.here
def ZE2:=@PySem.call_range_1
def ZE3:=@PySem.seqIndex_neg
def ZE4:=@Nat.succ_mul
def ZE5:=@Bool.or_true
def ZE6:=@PySem.call_meetsIn
def ZE7:=@Int.le_trans
def ZE8:=@List.map_id'
def ZE9:=@Int.zero_add
local macro_rules|`(tactic|trivial)=>`(tactic|first|exact Or.inl rfl|exact Or.inr rfl|exact Or.inr (Or.inl rfl)|exact Or.inr (Or.inr rfl))
namespace PySem.W.Fast
def tw10136681925734797216:=0
def tw10155915537931185656:=0
def tw10169289762873989547:=0
def tw10184491273223647105:=0
def tw10188486466488216911:=0
def tw10339631006528878202:=0
def tw10369198114317576585:=0
def tw1039834148795106489:=0
def tw1043614467349773069:=0
def tw1045474143608575348:=0
def tw10509972393605273468:=0
def tw10585753332329158838:=0
def tw10623094657149207436:=0
def tw10649071645702053209:=0
def tw10709888972637233511:=0
def tw10722310448960385122:=0
def tw10807079133398241379:=0
def tw10830630659211362011:=0
def tw10846846694693296419:=0
def tw10860148909442511771:=0
def tw10879556945708446391:=0
def tw10935445228892418167:=0
def tw10949023020827747640:=0
def tw10970858573420721668:=0
def tw10995994615494365218:=0
def tw11022722651773918542:=0
def tw1103883497576575770:=0
def tw11070419333814159298:=0
def tw11186729017321271865:=0
def tw11194607539735919485:=0
def tw11283201197717878010:=0
def tw11334096498917525541:=0
def tw11335555579179363405:=0
def tw11341460334975255743:=0
def tw1138020977039817218:=0
def tw11428237193239388778:=0
def tw11431584143359884094:=0
def tw11497068447046113174:=0
def tw11497605263697258259:=0
def tw1153488463957722533:=0
def tw11553835129628916650:=0
def tw11558789420773728572:=0
def tw11562697537548824311:=0
def tw11623667855452776165:=0
def tw11674972386648670012:=0
def tw1167870964413517346:=0
def tw117737609603806923:=0
def tw1179833210102477549:=0
def tw11887669931516243261:=0
def tw12029776203156622299:=0
def tw12059375965091424493:=0
def tw12265177284780565515:=0
def tw12410779070139308127:=0
def tw1263916360945095724:=0
def tw12658240307680446832:=0
def tw12698757194321266036:=0
def tw12745663434415990641:=0
def tw1274825222647546868:=0
def tw12783691564623407994:=0
def tw12838207136956723925:=0
def tw12873558822514113587:=0
def tw12878432812420279701:=0
def tw13012270537511420526:=0
def tw13066289125062820936:=0
def tw13185933978611013520:=0
def tw13286836427744494802:=0
def tw13426572083546546551:=0
def tw13437024186269957622:=0
def tw13475109565626506691:=0
def tw13494509402437187559:=0
def tw13568037820492072277:=0
def tw13606266220423233280:=0
def tw13636644664114564887:=0
def tw13638873364773147674:=0
def tw13681018240817253321:=0
def tw13879825051257102603:=0
def tw13894384791719684745:=0
def tw13911580550181775548:=0
def tw13955391363966314281:=0
def tw13992446787925969962:=0
def tw14018002573830337399:=0
def tw14048040076824191316:=0
def tw14124348809951943619:=0
def tw14194055128682200265:=0
def tw1421496191729026801:=0
def tw14228820737931508018:=0
def tw14229044362266506595:=0
def tw14261012563273504393:=0
def tw14262774179892566950:=0
def tw14300118549788517634:=0
def tw14349606274467684348:=0
def tw14350390880730835122:=0
def tw14384215774040985221:=0
def tw14393050788917867176:=0
def tw14415876524836973520:=0
def tw14425144216562019572:=0
def tw14433493134952434729:=0
def tw14446789720350437530:=0
def tw1455024860234999334:=0
def tw14560309525185060452:=0
def tw14666748373604519754:=0
def tw14683692364822527244:=0
def tw14714499652521667776:=0
def tw14736428636366382483:=0
def tw14799303655851489210:=0
def tw14815927090564781225:=0
def tw14829089624916340246:=0
def tw1483989056644831789:=0
def tw14861963613576427424:=0
def tw14875405913691881169:=0
def tw14943678421195296161:=0
def tw15019419772823524500:=0
def tw15035515114692582347:=0
def tw15070613908924519946:=0
def tw15118745860307771073:=0
def tw15129809632541741628:=0
def tw15145286725067126917:=0
def tw15173644665247921219:=0
def tw15319523587980645229:=0
def tw15383966548072902619:=0
def tw15413972959204531600:=0
def tw15433993737872191602:=0
def tw15484661192659688112:=0
def tw15489385422662254731:=0
def tw15525696470339073965:=0
def tw15555406448599785279:=0
def tw15603638130470393897:=0
def tw15666360565401179920:=0
def tw15705807738334528681:=0
def tw15735842050296585832:=0
def tw15793647842053145109:=0
def tw15798937930426541592:=0
def tw15814970201829222042:=0
def tw15820926457005637868:=0
def tw15863828816778373275:=0
def tw15922344344931364984:=0
def tw1592874333528115959:=0
def tw1597448271541892952:=0
def tw16021842936518083979:=0
def tw16070700354458093354:=0
def tw16096584229439114455:=0
def tw16098296950609635467:=0
def tw16105366456103363323:=0
def tw16128119070604013257:=0
def tw16165576707283175799:=0
def tw16257004089543802326:=0
def tw16269689085828487102:=0
def tw16335618842280650915:=0
def tw16338480627647623424:=0
def tw16355721959193533886:=0
def tw163817206674915315:=0
def tw16388943474886534188:=0
def tw16499282769234066853:=0
def tw16547535984043094926:=0
def tw16550762522751942034:=0
def tw16638771803744948929:=0
def tw16641173351594120626:=0
def tw16644694494708763031:=0
def tw16659514099781032649:=0
def tw1667050486494620290:=0
def tw16705207226696934586:=0
def tw16710468852543266798:=0
def tw16756250193320903416:=0
def tw16757205719962061934:=0
def tw16918190383901177099:=0
def tw16951423363319042978:=0
def tw16954976076134083074:=0
def tw16979552691022057452:=0
def tw17078989745935145987:=0
def tw17151844323334274006:=0
def tw17154377019201902984:=0
def tw17247090973283620481:=0
def tw17274310022154471109:=0
def tw17295831524326130072:=0
def tw1738733586270660595:=0
def tw17395003293038806206:=0
def tw17412743583980524644:=0
def tw17471988014633751978:=0
def tw17499734775463478388:=0
def tw17505914403856488655:=0
def tw17528438555935547492:=0
def tw17590386204809246372:=0
def tw17649436333257473387:=0
def tw17693585067614282356:=0
def tw17866401511328682878:=0
def tw17922937258886988519:=0
def tw17946206688350293482:=0
def tw17953165976806891319:=0
def tw17995040023163993085:=0
def tw18050391389266221397:=0
def tw18202556572540397292:=0
def tw18293124469345080000:=0
def tw18295039896828504717:=0
def tw18367479735490820451:=0
def tw18415743866991071870:=0
def tw1860534902828647249:=0
def tw1899404980738608149:=0
def tw191168677400295117:=0
def tw1914959695811355082:=0
def tw1961765978601760053:=0
def tw2012081438213898800:=0
def tw2025133849622894707:=0
def tw2086775650060063995:=0
def tw208772166282143389:=0
def tw2106416918561316956:=0
def tw2125638507719478837:=0
def tw2134503069396648335:=0
def tw2233542167186780659:=0
def tw2295786451173906006:=0
def tw2296806848642004608:=0
def tw2373675896416580873:=0
def tw2391853989425306503:=0
def tw2393397179446586821:=0
def tw2468617312958925821:=0
def tw257977557304617158:=0
def tw2610785214862681795:=0
def tw2621039351198674006:=0
def tw2625567984712814399:=0
def tw2694801640176614602:=0
def tw2726972070567707576:=0
def tw2732951911370049996:=0
def tw2750369522498242440:=0
def tw2751916308487429020:=0
def tw2769428862337071670:=0
def tw2790004690807265796:=0
def tw2790408266753116724:=0
def tw2965851786118778688:=0
def tw2989007131735364764:=0
def tw3019505433392884598:=0
def tw3028272948057192419:=0
def tw3099511612110510799:=0
def tw3134450546402476837:=0
def tw3140239993222202143:=0
def tw3150113815434575892:=0
def tw3175129995091114636:=0
def tw3195319582228329852:=0
def tw3198739088068730980:=0
def tw3233297445113058561:=0
def tw3266505016853244583:=0
def tw3294314595907722685:=0
def tw3316997258793821769:=0
def tw3457169439308684797:=0
def tw3496881050214388674:=0
def tw3549315393691781686:=0
def tw3638499666251903466:=0
def tw3702793529665777494:=0
def tw3757230012174457301:=0
def tw3766785080119175706:=0
def tw3877425930402844804:=0
def tw3982513908792132262:=0
def tw3986425231247072388:=0
def tw4042696854157831406:=0
def tw404340671754459118:=0
def tw4080730704612842458:=0
def tw4096142680897106835:=0
def tw4096246757410151322:=0
def tw413048859193585627:=0
def tw4183628360481097576:=0
def tw4189270227480613200:=0
def tw4193372129012362415:=0
def tw420930110277821827:=0
def tw4359659438343902794:=0
def tw436016556818034940:=0
def tw4379146554225944811:=0
def tw4410201448475939923:=0
def tw4419223842849215527:=0
def tw445238655833378284:=0
def tw4468444466108600322:=0
def tw4493684684963879548:=0
def tw4538473623847183478:=0
def tw4568944004891483897:=0
def tw4682530514011438205:=0
def tw47873812145074618:=0
def tw4870549997536170328:=0
def tw4881129048823723663:=0
def tw4965175369599506312:=0
def tw4997790905653122032:=0
def tw5066917678833030670:=0
def tw5134472785264266120:=0
def tw5183520191806508802:=0
def tw5213144771536727584:=0
def tw5323568524411870261:=0
def tw534189694339280817:=0
def tw5402997677903735766:=0
def tw5422092757824045355:=0
def tw5438847703309403529:=0
def tw5476024669279955183:=0
def tw5547406507511596663:=0
def tw5680297432515963447:=0
def tw5689412183827618886:=0
def tw5711446465305646141:=0
def tw5716057125749618308:=0
def tw5788126960879276217:=0
def tw5813220470903538021:=0
def tw5817190271607006355:=0
def tw5854969379567391605:=0
def tw5860689283506532059:=0
def tw5949002356351716718:=0
def tw6059189901423237495:=0
def tw6069987560011413217:=0
def tw6122389505050711369:=0
def tw622585668476942221:=0
def tw6230326395026097449:=0
def tw6398079055512072927:=0
def tw6420766362339499029:=0
def tw6453802396921758470:=0
def tw6495497476496712893:=0
def tw6499378120883314717:=0
def tw6503955479735711683:=0
def tw6587100276452125846:=0
def tw6697209069525135344:=0
def tw670871234870449098:=0
def tw6722079957848300351:=0
def tw6735424279139403177:=0
def tw6830527020630292615:=0
def tw6869035988090921687:=0
def tw6876973641599637304:=0
def tw7017749399421684188:=0
def tw7054289176934087131:=0
def tw7065241760093693771:=0
def tw7077408126031298414:=0
def tw709091289753590723:=0
def tw7233754313198004435:=0
def tw7246256262394141214:=0
def tw7272317846992732994:=0
def tw7305502061503326714:=0
def tw7315903029193743402:=0
def tw741002333098811156:=0
def tw7446326625632412215:=0
def tw7467917110782862823:=0
def tw7488488448021416701:=0
def tw7502755224186821622:=0
def tw7585095391601154400:=0
def tw7599195380094798877:=0
def tw7628813414285667829:=0
def tw7697269370933204468:=0
def tw7706899429238413801:=0
def tw7746673574249145665:=0
def tw7763320845492220511:=0
def tw7871307373204485162:=0
def tw7984665095924344905:=0
def tw8025580942819288851:=0
def tw805692813292674619:=0
def tw8060132326431984996:=0
def tw8073200971458281065:=0
def tw8105306695250407698:=0
def tw8176225434499906725:=0
def tw820851953460955942:=0
def tw825357860062659256:=0
def tw825431515961593369:=0
def tw8283744771519269775:=0
def tw8296833614430482136:=0
def tw8318771017492621837:=0
def tw8326030491721114822:=0
def tw8405964980288556707:=0
def tw8536179362206150734:=0
def tw8554820679447359103:=0
def tw8610177453444011811:=0
def tw8693026465438738243:=0
def tw8704664538322380283:=0
def tw8770582786990855586:=0
def tw8808904426264377229:=0
def tw8915688507180221691:=0
def tw9008143447395243205:=0
def tw901016451861735740:=0
def tw9056648946227661022:=0
def tw9080501963242378526:=0
def tw9174088911370625686:=0
def tw9223628562711205428:=0
def tw9260882353353361921:=0
def tw9263402362568023370:=0
def tw9286466330915713014:=0
def tw9301011566072505609:=0
def tw9333229029639384762:=0
def tw9468509840933580307:=0
def tw9632111625823614219:=0
def tw9753738116977114701:=0
def tw9821669715372842937:=0
def tw9836200527199922005:=0
def tw9874623366796578160:=0
def tw9967457179186080255:=0
end PySem.W.Fast
noncomputable section
open PySem.W (Frag InitBack InstAt KitX Looks any_some bind_fn callWith_K callWith_K0 cellsFrom_some check_slot class_get clsIn cls_value codeIn codeRec_of emptyDict eq_bytes exmOne exm_one findCls findIn findObj findObj_own fnOf get_value handedIn handedOut_of handed_on hasDictIn hideAll hideAll_get hideAll_none hideAll_size instObj isFn kdl_dict keepIn ki_setAt ki_setBack kia_one kia_tup kitAny kitOne kitx_bool kitx_int kitx_list kitx_none kitx_str kitx_tuple kun_itemsOf lookIn looks_clsIn looks_find looks_findIn looks_mroIn make_core makesIn makes_of methodCall_KW methodObj method_cls method_fn mg_none_of mg_of mroIn ne_bytes notCls of_hideAll osa_eq osa_open plainGet plainGet_of plainOver readsIn set_plain specialIn takerIn takesIn truthy_bytes typeIn)
local macro_rules
 | `(tactic| rfl') => `(tactic| kernel_rfl)
local macro_rules
 | `(tactic| simp![$xs,*] $[$l:location]?) => `(tactic| simp only[Nat.reduceAdd, Nat.reduceSub, Nat.reduceLeDiff, ↓reduceIte, reduceCtorEq, $xs,*] $[$l:location]?)
local macro_rules|`(())=>`(by omega)
local macro_rules|`(⋯)=>`(by decide)|`(nofun)=>`(by decide +kernel)|`(∅)=>`(by rfl')
abbrev AG(x:PySem.Str):Prop:=(x==("__debug__" :PySem.Str))=false
abbrev AE:=List (PySem.Addr×PySem.Obj)
abbrev AB:=PySem.Str->Option PySem.Value
abbrev AA:=PySem.Value->PySem.Shared->Prop
namespace L2
open PySem PySem.Spec PyProof.Rows
abbrev Ar:=Sum Int Str
def bb_8:Ar->Value->Bool
 | .inl k,v=>Value.isInt k v
 | .inr x,v=>Value.isStrOf x v
def keyH(w:World):Ar->Int
 | .inl k=>hashInt k
 | .inr x=>hashStr w x
def i_0:∀{k:Ar} {v:Value},bb_8 k v=true->(∃i t,k=Sum.inl i/\v=Value.int i t)\/(∃x t,k=Sum.inr x/\v=Value.str x t)
 | .inl i,v,h=>by
  obtain⟨t,e⟩:=Value.isInt_shape (k:=i) (v:=v) h;exact .inl ⟨i,t,rfl,e⟩
 | .inr x,v,h=>by
  obtain⟨t,e⟩:=Value.isStrOf_shape (x:=x) (v:=v) h;exact .inr ⟨x,t,rfl,e⟩
def cg_8(i:Int)(t:Tok):bb_8 (.inl i) (.int i t)=true:=by simp[bb_8,Value.isInt]
def cg_9(x:Str)(t:Tok):bb_8 (.inr x) (.str x t)=true:=by simp[bb_8,Value.isStrOf]
def dl_4(a b:Int):decide ((Sum.inl a:Ar)=Sum.inl b)=(a ==b):=by
 by_cases e:a=b
 ·subst e;simp
 ·have h:¬(Sum.inl a:Ar)=Sum.inl b:=λq=>e (Sum.inl.inj q);rw[E4 h];exact(N7.mpr e).symm
def dl_5(a b:Str):decide ((Sum.inr a:Ar)=Sum.inr b)=decide (a=b):=by
 by_cases e:a=b
 ·subst e;simp
 ·have h:¬(Sum.inr a:Ar)=Sum.inr b:=λq=>e (Sum.inr.inj q);rw[E4 h,E4 e]
def dl_6(a:Int)(b:Str):decide ((Sum.inl a:Ar)=Sum.inr b)=false:=E4 (λq=>nomatch q)
def dl_7(a:Str)(b:Int):decide ((Sum.inr a:Ar)=Sum.inl b)=false:=E4 (λq=>nomatch q)
def h_7(prog:Program)(w:World):PySem.KeyKind prog w Ar where
 is:=bb_8
 hash:=keyH w
 inj:=λv a b ha hb=>by
  rcases i_0 ha with⟨i,t,rfl,rfl⟩|⟨x,t,rfl,rfl⟩
  ·rcases i_0 hb with⟨j,u,rfl,e⟩|⟨y,u,rfl,e⟩
   ·injection e with e1 _;rw[e1]
   ·exact nomatch e
  ·rcases i_0 hb with⟨j,u,rfl,e⟩|⟨y,u,rfl,e⟩
   ·exact nomatch e
   ·injection e with e1 _;rw[e1]
 byValue:=λk v h=>by
  rcases i_0 h with⟨i,t,rfl,rfl⟩|⟨x,t,rfl,rfl⟩ <;> rfl
 pyHash:=λhv h=>by
  rcases i_0 hv with⟨i,t,rfl,rfl⟩|⟨x,t,rfl,rfl⟩
  ·exact wpAny_pyHash_int h
  ·exact wpAny_pyHash_str h
 eqBool:=λhu hv h=>by
  rcases i_0 hu with⟨i,t,rfl,rfl⟩|⟨x,t,rfl,rfl⟩
  ·rcases i_0 hv with⟨j,u,rfl,rfl⟩|⟨y,u,rfl,rfl⟩
   ·rw[dl_4]at h;exact ZA8 h
   ·rw[dl_6]at h;exact SeqAt.EqAt.int_str i t y u _ _ _ _ h
  ·rcases i_0 hv with⟨j,u,rfl,rfl⟩|⟨y,u,rfl,rfl⟩
   ·rw[dl_7]at h;exact SeqAt.EqAt.str_int x t j u _ _ _ _ h
   ·rw[dl_5]at h;exact wpAny_eqBool_str h
 «strs»:=λk x t v h=>by
  rcases i_0 h with⟨i,u,rfl,e⟩|⟨y,u,rfl,e⟩
  ·exact nomatch e
  ·injection e with e1 _
   subst e1;cases v <;> rfl
def bo_1(prog:Program)(w:World)(i:Int)(t:Tok):(h_7 prog w).is (.inl i) (.int i t)=true:=cg_8 i t
def bo_2(prog:Program)(w:World)(x:Str)(t:Tok):(h_7 prog w).is (.inr x) (.str x t)=true:=cg_9 x t
inductive V where
 |non|bl (b:Bool)|int (i:Int)|str (x:Str)|byt (b:Array UInt8)|flt (b:UInt64)|ref (a:Addr)|ty (n:String)
 deriving DecidableEq
def RelV:V->Value->Prop
 | .non,u=>u=Value.none
 | .bl b,u=>u=Value.bool b
 | .int i,u=>∃t,u=Value.int i t
 | .str x,u=>∃t,u=Value.str x t
 | .byt b,u=>∃t,u=Value.bytes b t
 | .flt b,u=>∃t,u=Value.float b t
 | .ref a,u=>u=Value.ref a
 | .ty n,u=>u=Value.type n
abbrev Vals:List V->List Value->Prop:=Paired RelV
theorem Vals.length{xs:List V}{us:List Value}(r:Vals xs us):xs.length=us.length:=S6 r
theorem Vals.get:∀{xs:List V} {us:List Value} {i:Nat} {x:V},Vals xs us->xs[i]? =some x->∃u,us[i]? =some u/\RelV x u
 |_,_,_,_,.nil,e=>by simp at e
 |_,_,0,_,.cons r _,e=>by simp at e;subst e;exact⟨_,rfl,r⟩
 |_,_,i + 1,x,.cons _ t,e=>by
  obtain⟨u,h1,h2⟩:=Vals.get (i:=i) (x:=x) t (by simpa using e);exact⟨u,by simpa using h1,h2⟩
theorem Vals.set{x:V}{u:Value}(r:RelV x u):∀{xs:List V} {us:List Value} (i:Nat),Vals xs us->Vals (xs.set i x) (us.set i u)
 |_,_,_,.nil=> .nil
 |_,_,0,.cons _ t=> .cons r t
 |_,_,i + 1,.cons q t=> .cons q (Vals.set r i t)
theorem Vals.append:∀{xs ys:List V} {us ws:List Value},Vals xs us->Vals ys ws->Vals (xs ++ ys) (us ++ ws)
 |_,_,_,_,.nil,s=>s
 |_,_,_,_,.cons r t,s=> .cons r (Vals.append t s)
theorem Vals.take:∀{xs:List V} {us:List Value} (n:Nat),Vals xs us->Vals (xs.take n) (us.take n)
 |_,_,0,_=> .nil
 |_,_,_ + 1,.nil=> .nil
 |_,_,n + 1,.cons r t=> .cons r (Vals.take n t)
theorem Vals.drop:∀{xs:List V} {us:List Value} (n:Nat),Vals xs us->Vals (xs.drop n) (us.drop n)
 |_,_,0,r=>r
 |_,_,_ + 1,.nil=> .nil
 |_,_,n + 1,.cons _ t=>Vals.drop n t
def RelO:Option V->Option Value->Prop
 |some v,some u=>RelV v u
 |none,none=>True
 |_,_=>False
def KV{κ:Type}:List (κ×V)->List (κ×Value)->Prop:=Paired λ(p:κ×V) (q:κ×Value)=>p.1=q.1/\RelV p.2 q.2
def kV:Ar->V
 | .inl i=> .int i
 | .inr x=> .str x
inductive HO where
  |lst (xs:List V)
  |tup (xs:List V)
  |dK (kvs:List (Ar×V))|dT (kvs:List (List Ar×V))
  |set (S:Int->Bool) (n:Nat)
  |ins (C dx:Addr) (fs:List (Str×V))
  |own (x:Addr)
  |xd (fs:List (Str×V))
  |met (f x:Addr)
  |rng (lo hi:Int)
  |frz (o:Obj) (u:HO)
  |tbl (ps:Array Value)
  |ext (φ:Heap->Prop)
abbrev Hp:=Addr->Option HO
def upd(H:Hp)(a:Addr)(o:HO):Hp:=λb=>if b=a then some o else H b
def Cb{H:Hp}{a:Addr}{o:HO}:upd H a o a=some o:=by unfold upd;rw[if_pos rfl]
def Ba{H:Hp}{a b:Addr}{o:HO}(h:b≠a):upd H a o b=H b:=by unfold upd;rw[if_neg h]
def dt_5{H:Hp}{a b:Addr}{o u:HO}(h:H a=some o)(h':H b=some u)(d:o≠u):a≠b:=by
 intro e;subst e;rw[h]at h';exact d (K2 h')
def Ei{H:Hp}{a b:Addr}{o:HO}(h:H a=some o)(h':H b=none):a≠b:=by
 intro e;subst e;rw[h]at h';cases h'
section
variable(P:Program)(w:World)
def ObjOk(H:Hp)(h:Heap)(a:Addr):HO->Prop
 | .lst xs=>xs.length<=sizeLine/\∃(its:List Value) (n:Nat),Vals xs its/\h.get? a=some {cls:=.type "list",data:=.seq its.toArray n}
 | .tup xs=>xs.length<=sizeLine/\∃its:List Value,Vals xs its/\IsTup h a its.toArray
 | .dK kvs=>kvs.length<=sizeLine/\(a ==sysModules)=false/\∃vs,KV kvs vs/\h.DictOf (h_7 P w) a vs
 | .dT kvs=>kvs.length<=sizeLine/\(a ==sysModules)=false/\∃xs:List (List Ar×Addr×Value),
   Paired (λ(p:List Ar×V) (q:List Ar×Addr×Value)=>p.1=q.1/\H q.2.1=some (.tup (p.1.map kV))/\RelV p.2 q.2.2) kvs xs/\
   ∃o es ep,h.get? a=some o/\o.ExactDict/\o.data=.dict es ep/\es.toList=xs.map (entryOfKey (tupleKind (h_7 P w)))/\(xs.map (·.1)).Nodup
 | .set S n=>h.SetOf (intKind P w) a S n
 | .ins C dx fs=>H dx=some (.own a)/\fs.length<=1000/\dx≠a/\h.get? a=some (instObj C dx)/\
   ∃mA,h.Ns1 dx mA/\(∀f,RelO (fs.lookup f) (mA f))/\PySem.Within mA (fs.map (·.1))
 | .own _=>∃o,h.get? a=some o
 | .xd fs=>∃mA,h.Ns1 a mA/\∀f,RelO (fs.lookup f) (mA f)
 | .rng lo hi=>∃t u v,h.get? a=some {cls:=.type "range",data:=.fields #[.int lo t,.int hi u,.int 1 v]}
 | .frz o u=>h.get? a=some o/\ObjOk H h a u
 | .tbl _=>∃vs:Array Value,h.get? a=some {cls:=.none,data:=.fields vs}/\TriplesOk vs.toList/\∀pos cv,codeAmong pos vs.toList=some cv->∃c o us t,cv=.ref c/\H c=some (.frz o (.own a))/\o.data=.fields us/\us[1]? =some (.str "numbers_by_bucket.<locals>.<lambda>" t)
 | .met f x=>h.get? a=some (methodObj (.ref f) (.ref x))
 | .ext φ=>φ h/\(∃o,h.get? a=some o)/\∀h1 h2:Heap,φ h1->(∀o,h1.get? a=some o->h2.get? a=some o)->φ h2
def HOk(H:Hp)(h:Heap):Prop:=∀a o,H a=some o->ObjOk P w H h a o
end
section
variable{P:Program}{w:World}{H H':Hp}{h h':Heap}{a:Addr}{o:HO}
theorem ObjOk.lt(x:ObjOk P w H h a o):a < h.objs.size:=by
 cases o with
 |lst xs=>obtain⟨_,_,_,_,e⟩:=x;exact A6 e
 |tup xs=>obtain⟨_,_,_,p⟩:=x;exact p.lt
 |dK kvs=>obtain⟨_,_,_,_,o,_,_,e,_⟩:=x;exact A6 e
 |dT kvs=>obtain⟨_,_,_,_,o,_,_,e,_⟩:=x;exact A6 e
 |set S n=>obtain⟨o,_,_,_,e,_⟩:=x;exact A6 e
 |ins C dx fs=>obtain⟨_,_,_,e,_⟩:=x;exact A6 e
 |own y=>obtain⟨_,e⟩:=x;exact A6 e
 |xd fs=>obtain⟨_,⟨_,_,_,e,_⟩,_⟩:=x;exact A6 e
 |rng lo hi=>obtain⟨_,_,_,e⟩:=x;exact A6 e
 |frz ob u=>obtain⟨e,_⟩:=x;exact A6 e
 |tbl ps=>obtain⟨_,e,_⟩:=x;exact A6 e
 |met f y=>exact A6 (show h.get? a=some _ from x)
 |ext φ=>obtain⟨_,⟨_,e⟩,_⟩:=x;exact A6 e
theorem Paired.mapP{α β:Type}{F G:α->β->Prop}:∀{l₁:List α} {l₂:List β},Paired F l₁ l₂->(∀a b,F a b->G a b)->Paired G l₁ l₂
 |_,_,.nil,_=> .nil
 |_,_,.cons r t,f=> .cons (f _ _ r) (Paired.mapP t f)
def ObjOk.stay(x:ObjOk P w H h a o)(k:∀b u,(b=a\/H b=some (.own a))->h.get? b=some u->h'.get? b=some u)
  (ho:∀b,H b=some (.own a)->H' b=some (.own a)) (ht:∀b xs,H b=some (.tup xs)->H' b=some (.tup xs)) (hf:∀b o,H b=some (.frz o (.own a))->H' b=some (.frz o (.own a)):=by exact λ_ _ q=>q):ObjOk P w H' h' a o:=by
 induction o with
 |lst xs=>obtain⟨z,its,n,r,e⟩:=x;exact⟨z,its,n,r,k _ _ (.inl rfl) e⟩
 |tup xs=>obtain⟨z,its,r,ob,e,c⟩:=x;exact⟨z,its,r,ob,k _ _ (.inl rfl) e,c⟩
 |dK kvs=>obtain⟨z,y,vs,r,ob,es,ep,e,c⟩:=x;exact⟨z,y,vs,r,ob,es,ep,k _ _ (.inl rfl) e,c⟩
 |dT kvs=>
  obtain⟨z,y,xs,r,ob,es,ep,e,c⟩:=x;exact⟨z,y,xs,Paired.mapP r λp q z=>⟨z.1,ht _ _ z.2.1,z.2.2⟩,ob,es,ep,k _ _ (.inl rfl) e,c⟩
 |set S n=>obtain⟨ob,es,ep,t,e,c⟩:=x;exact⟨ob,es,ep,t,k _ _ (.inl rfl) e,c⟩
 |ins C dx fs=>
  obtain⟨d,z,ne,e,mA,⟨od,es,ep,e2,c⟩,r⟩:=x;exact⟨ho _ d,z,ne,k _ _ (.inl rfl) e,mA,⟨od,es,ep,k _ _ (.inr d) e2,c⟩,r⟩
 |own y=>obtain⟨ob,e⟩:=x;exact⟨ob,k _ _ (.inl rfl) e⟩
 |xd fs=>obtain⟨mA,⟨od,es,ep,e,c⟩,r⟩:=x;exact⟨mA,⟨od,es,ep,k _ _ (.inl rfl) e,c⟩,r⟩
 |rng lo hi=>obtain⟨t,u,v,e⟩:=x;exact⟨t,u,v,k _ _ (.inl rfl) e⟩
 |frz ob u ih=>obtain⟨e,q⟩:=x;exact⟨k _ _ (.inl rfl) e,ih q⟩
 |tbl ps=>obtain⟨vs,e,t,c⟩:=x;exact⟨vs,k _ _ (.inl rfl) e,t,λpos cv q=>let⟨c,o,us,t,e1,e2,r⟩:=c pos cv q;⟨c,o,us,t,e1,hf c o e2,r⟩⟩
 |met f y=>
  have e:h.get? a=some (methodObj (.ref f) (.ref y)):=x;show h'.get? a=some (methodObj (.ref f) (.ref y));exact k a _ (.inl rfl) e
 |ext φ=>obtain⟨p,⟨o,e⟩,st⟩:=x;exact⟨st _ _ p λo q=>k _ _ (.inl rfl) q,⟨o,k _ _ (.inl rfl) e⟩,st⟩
theorem HOk.lt(x:HOk P w H h)(e:H a=some o):a < h.objs.size:=(x a o e).lt
def HOk.fresh(x:HOk P w H h)(e:h.objs.size<=a):H a=none:=by
 cases q:H a with
 |none=>rfl
 |some u=>exact absurd (C4 (x.lt q) e) (D7 _)
def HOk.kept(x:HOk P w H h)(k:∀b u,h.get? b=some u->h'.get? b=some u):HOk P w H h':=λa o e=>
 (x a o e).stay (λb u _ q=>k b u q) (λ_ q=>q) λ_ _ q=>q
def HOk.laid(x:HOk P w H h)(k:∀b u,h.get? b=some u->h'.get? b=some u)(hp:h.objs.size<=a)(new:ObjOk P w (upd H a o) h' a o):HOk P w (upd H a o) h':=λb u e=>by
 have hn:=x.fresh hp
 by_cases hb:b=a
 ·subst hb;rw[Cb]at e;cases e;exact new
 ·rw[Ba hb]at e;exact(x b u e).stay (λc v _ q=>k c v q) (λc q=>by rw[Ba (Ei q hn)];exact q) (λc xs q=>by rw[Ba (Ei q hn)];exact q) λc o q=>by rw[Ba (Ei q hn)];exact q
end
def Rd(H:Hp)(a:Addr)(u:HO):Prop:=H a=some u\/∃o,H a=some (.frz o u)
def Rd.ok{P:Program}{w:World}{H:Hp}{h:Heap}{a:Addr}{u:HO}(r:Rd H a u)(x:HOk P w H h):ObjOk P w H h a u:=by
 rcases r with r|⟨o,r⟩
 ·exact x a u r
 ·obtain⟨_,q⟩:=x a _ r;exact q
def Mut:Option HO->Prop
 |some (.lst _)=>True
 |some (.dK _)=>True
 |some (.dT _)=>True
 |some (.set _ _)=>True
 |some (.ins _ _ _)=>True
 |some (.ext _)=>True
 |_=>False
section
variable{P:Program}{w:World}{H:Hp}{h h':Heap}{x e:Addr}{o':HO}
def HOk.write(ok:HOk P w H h)(mu:Mut (H x))(he:e=x\/H e=some (.own x))(k:∀b u,b≠e->h.get? b=some u->h'.get? b=some u)(heo:∃u,h'.get? e=some u)
  (new:ObjOk P w (upd H x o') h' x o'):HOk P w (upd H x o') h':=λb u q=>by
 have ff:∀c y,H c=some (.own y)->c≠x:=λc y r z=>by subst z;rw[r]at mu;exact mu
 have gv:∀c xs,H c=some (.tup xs)->c≠x:=λc xs r z=>by subst z;rw[r]at mu;exact mu
 by_cases hb:b=x
 ·subst hb;rw[Cb]at q;cases q;exact new
 ·rw[Ba hb]at q
  by_cases hbe:b=e
  ·have q':H b=some (.own x):=by
    rcases he with z|z
    ·exact absurd (hbe.trans z) hb
    ·rw[hbe];exact z
   rw[q]at q';cases q';obtain⟨v,hv⟩:=heo;exact⟨v,by rw[hbe];exact hv⟩
  ·refine(ok b u q).stay (λc v hc r=>k c v ?_ r) (λc r=>by rw[Ba (ff c b r)];exact r) (λc xs r=>by rw[Ba (gv c xs r)];exact r) λc o r=>by rw[Ba λz=>by subst z;rw[r]at mu;exact mu];exact r
   rcases hc with rfl|hc
   ·exact hbe
   ·rintro rfl
    rcases he with z|z
    ·exact ff c b hc z
    ·rw[hc]at z;cases z;exact hb rfl
end
structure Un(fs ex:List Addr)(H H':Hp)(h h':Heap):Prop where
 keep:∀b o,h.get? b=some o->H b=none->b∉fs->b∉ex->h'.get? b=some o
 slot:∀b o,h.get? b=some o->H b=none->b∈fs->b∉ex->∃sl,h'.get? b=some {o with slots:=sl}
 free:∀b o,h.get? b=some o->H b=none->b∉ex->H' b=none
 there:∀b o,h.get? b=some o->b∉ex->∃o',h'.get? b=some o'
 tups:∀b xs,H b=some (.tup xs)->H' b=some (.tup xs)
 frzs:∀b o u,H b=some (.frz o u)->H' b=some (.frz o u)
 tbls:∀b ps,H b=some (.tbl ps)->∃more,H' b=some (.tbl (ps ++ more))
section
variable{fs fs' ex ex':List Addr}{H H1 H2:Hp}{h h1 h2 h':Heap}{a x e:Addr}{o:HO}
def Un.any(u:Un fs ex H H1 h h1){b:Addr}{ob:Obj}(q:h.get? b=some ob)(n:H b=none)(hx:b∉ex):∃sl,h1.get? b=some {ob with slots:=sl}:=by
 by_cases hb:b∈fs
 ·exact u.slot b ob q n hb hx
 ·exact⟨ob.slots,u.keep b ob q n hb hx⟩
def Un.kept(k:∀b u,h.get? b=some u->h'.get? b=some u):Un fs ex H H h h':=
 ⟨λb ob q _ _ _=>k b ob q,λb ob q _ _ _=>⟨ob.slots,k b ob q⟩,λ_ _ _ n _=>n,λb ob q _=>⟨ob,k b ob q⟩,λ_ _ q=>q,λ_ _ _ q=>q,λ_ ps q=>⟨#[],by rw[q];simp⟩⟩
def Un.refl:Un fs ex H H h h:=Un.kept λ_ _ q=>q
def Un.laid(k:∀b u,h.get? b=some u->h'.get? b=some u)(hp:h.objs.size<=a)(hn:H a=none):Un fs ex H (upd H a o) h h' where
 keep:=λb u q _ _ _=>k b u q
 slot:=λb u q _ _ _=>⟨u.slots,k b u q⟩
 free:=λb u q n _=>by rw[Ba (C1 (C4 (A6 q) hp))];exact n
 there:=λb u q _=>⟨u,k b u q⟩
 tups:=λb xs q=>by rw[Ba (Ei q hn)];exact q
 frzs:=λb u xs q=>by rw[Ba (Ei q hn)];exact q
 tbls:=λb ps q=>⟨#[],by rw[Ba (Ei q hn),q];simp⟩
def Un.write(mu:Mut (H x))(he:e=x\/H e=some (.own x))(k:∀b u,b≠e->h.get? b=some u->h'.get? b=some u)(heo:∃u,h'.get? e=some u):Un fs ex H (upd H x o) h h':=by
 have hx:∀b,H b=none->b≠x:=λb n z=>by subst z;rw[n]at mu;exact mu
 have hb:∀b,H b=none->b≠e:=λb n z=>by
  subst z;rcases he with r|r
  ·exact hx b n r
  ·rw[n]at r;cases r
 have hm:∀b u,H b=some u->¬Mut (some u)->b≠x:=λb u q nm z=>by subst z;rw[q]at mu;exact nm mu
 refine⟨λb u q n _ _=>k b u (hb b n) q,λb u q n _ _=>⟨u.slots,k b u (hb b n) q⟩,λb u q n _=>by rw[Ba (hx b n)];exact n,λb u q _=> ?_,
  λb xs q=>by rw[Ba (hm b _ q λz=>z)];exact q,λb u xs q=>by rw[Ba (hm b _ q λz=>z)];exact q,λb ps q=>⟨#[],by rw[Ba (hm b _ q λz=>z),q];simp⟩⟩
 by_cases hbe:b=e
 ·subst hbe;exact heo
 ·exact⟨u,k b u hbe q⟩
end
def trk(h:Heap)(H:Hp):List Addr:=(List.range h.objs.size).filter λa=>(H a).isSome
def hidT(h:Heap)(H:Hp):Heap:=hideAll h (trk h H)
def ch_0(h:Heap)(H:Hp):(hidT h H).objs.size=h.objs.size:=hideAll_size _ _
def cn_4{h:Heap}{H:Hp}{b:Addr}{o:Obj}(e:h.get? b=some o)(n:H b=none):(hidT h H).get? b=some o:=
 hideAll_get _ e λhm=>by
  have q:(H b).isSome=true:=(Q1.mp hm).2;rw[n]at q;simp at q
def da_7{h:Heap}{H:Hp}{b:Addr}{o:Obj}(e:(hidT h H).get? b=some o):h.get? b=some o/\H b=none:=by
 have e':h.get? b=some o:=of_hideAll (trk h H) e;refine⟨e', ?_⟩;cases q:H b with
 |none=>rfl
 |some x=>
  have hm:b∈trk h H:=Q1.mpr ⟨J8.mpr (A6 e'),by simp[q]⟩;have z:(hidT h H).get? b=none:=hideAll_none (trk h H) hm;rw[z]at e;cases e
def da_8(g h:Heap)(L:Addr):AE:=(List.range h.objs.size).filterMap λa=>if a=L\/(g.get? a).isSome=true then none else(h.get? a).map λo=>(a,o)
def x_7(g h:Heap)(L d:Addr):AE:=(da_8 g h L).filter λp=>decide (p.1≠d)
structure Mod(K:Frag)(mg:AB)(base:Heap):Prop where
 kin:K.In base
 glob:base.Ns mainGlobals mg
 blt:∃mb,base.Ns builtinsNs mb/\∀x:Str,x≠ "__name__" ->mb x=bootBuiltins x
 nolimit:base.NoLimit
 bm:∃bm o,mg "__builtins__" =some (.ref bm)/\bm≠builtinsNs/\base.get? bm=some o/\o.cls=.type "module" /\o.dict=some builtinsNs/\o.data=.plain
def TabH(K:Frag)(H:Hp):Prop:=∀c P,PySem.W.tabIn K "numbers_by_bucket" =some (c,P)->∃ps,H P=some (.tbl ps)
structure Cx where
 prog:Program
 w:World
 K:Frag
 mg:Str->Option Value
 base:Heap
 A:Around
 N:List Str
 s₀:Shared
 H₀:Hp
 env:Env
 outer:List Env
 stack:List Env
 ex:List Addr
 fn:Str->Bool
 calm:Bool
 pn:AE
 xe:Value->Shared->Prop
def frs(l:List Env):List Addr:=l.filterMap (·.frame)
abbrev Cx.fs(X:Cx):List Addr:=frs X.outer
def Vis(sc:Scope)(x:Str):Prop:=sc.names.lookup x=some .local\/sc.names.lookup x=some .cell\/sc.names.lookup x=some .free
def Loc(sc:Scope)(x:Str):Prop:=sc.names.lookup x=some .local\/sc.names.lookup x=some .cell
def Look(env:Env)(h:Heap)(m:AB)(x:Str)(u:Value):Prop:=
 (env.kindOf x=some .local/\m x=some u)\/((env.kindOf x=some .cell\/env.kindOf x=some .free)/\∃c,env.cells.lookup x=some c/\h.IsCell c (some u))
structure Cx.Ok(X:Cx):Prop where
 mod:Mod X.K X.mg X.base
 kind:X.env.scope.kind=.function
 glob:X.env.globals=mainGlobals
 blt:X.env.builtins=builtinsNs
 above:X.s₀.heap.objs.size<=X.env.locals
 inj:∀x y c,X.env.cells.lookup x=some c->X.env.cells.lookup y=some c->x=y
 has:∀x,(X.env.kindOf x=some .cell\/X.env.kindOf x=some .free)->∃c,X.env.cells.lookup x=some c
 cab:∀x c,X.fn x=true->X.env.cells.lookup x=some c->X.s₀.heap.objs.size<=c
 hd:X.calm=true->X.A.handled=none
 frames:X.A.frames=some X.stack
 stk:X.stack=X.outer\/(X.stack=X.env::X.outer/\X.env.frame=some X.env.locals)
 exf:∀b∈X.ex,b≠X.env.locals/\∀x c,X.env.cells.lookup x=some c->c≠b
 bs:∀b o,X.base.get? b=some o->X.s₀.heap.get? b=some o/\X.H₀ b=none
 bsz:X.base.objs.size<=X.s₀.heap.objs.size
 noex:∀b o,X.base.get? b=some o->b∉X.ex
 exfs:∀b∈X.ex,b∉X.fs
 funs:X.s₀.heap.FunFrames X.base X.outer
 frf:∀b∈X.fs,X.H₀ b=none
 tb:TabH X.K X.H₀
structure Inv(X:Cx)(zd:AE)(σ:List (Option V))(H:Hp)(s:Shared):Prop where
 ok:X.Ok
 os:s.os=X.s₀.os
 bare:AllBare s.gens
 base:Un X.fs X.ex X.H₀ H X.s₀.heap s.heap
 loc:∃m,s.heap.Ns X.env.locals m/\∀(i:Nat) (x:Str) (v:V),X.N[i]? =some x->σ[i]? =some (some v)->Vis X.env.scope x->∃u,RelV v u/\Look X.env s.heap m x u
 cell:∀x c,X.env.cells.lookup x=some c->∃v,s.heap.IsCell c v
 free:H X.env.locals=none
 freeC:∀x c,X.env.cells.lookup x=some c->H c=none
 pin:∀p∈X.pn ++ zd,s.heap.get? p.1=some p.2/\H p.1=none/\p.1≠X.env.locals/\p.1∉X.fs/\∀v,p.2.data≠ .cell v
 hok:HOk X.prog X.w H s.heap
 len:σ.length=X.N.length
section
variable{X:Cx}{zd:AE}{σ:List (Option V)}{H H':Hp}{s:Shared}{h':Heap}
def Cx.Ok.nofr(ok:X.Ok){b:Addr}{o:Obj}(e:X.base.get? b=some o):b∉X.fs:=λhb=>by
 have:=(ok.funs.mem hb).1;rw[e]at this;cases this
theorem Inv.bs(I:Inv X zd σ H s):∀b o,X.base.get? b=some o->s.heap.get? b=some o/\H b=none:=λb o e=>
 ⟨I.base.keep b o (I.ok.bs b o e).1 (I.ok.bs b o e).2 (I.ok.nofr e) (I.ok.noex b o e),I.base.free b o (I.ok.bs b o e).1 (I.ok.bs b o e).2 (I.ok.noex b o e)⟩
def Inv.bk(I:Inv X zd σ H s):∀b o,X.base.get? b=some o->s.heap.get? b=some o:=λb o e=>(I.bs b o e).1
theorem Inv.mod(I:Inv X zd σ H s):Mod X.K X.mg X.base:=I.ok.mod
def Inv.kIn(I:Inv X zd σ H s):X.K.In s.heap:=I.ok.mod.kin.keeps I.bk
theorem Inv.nolimit(I:Inv X zd σ H s):s.heap.NoLimit:=I.ok.mod.nolimit.keeps I.bk
def Inv.fr(I:Inv X zd σ H s):∃m,Fr X.base X.env.locals s.heap m:=
 let⟨m,hn,_⟩:=I.loc
 ⟨m,hn,I.bk,C7 I.ok.bsz I.ok.above⟩
theorem Inv.lt(I:Inv X zd σ H s):X.env.locals < s.heap.objs.size:=let⟨_,hn,_⟩:=I.loc;hn.lt
def Inv.sz(I:Inv X zd σ H s):X.s₀.heap.objs.size<=s.heap.objs.size:=C7 I.ok.above (S5 I.lt)
def Inv.nofs(I:Inv X zd σ H s){a:Addr}(h:s.heap.objs.size<=a):a∉X.fs:=λhb=>by
 obtain⟨_,o,ho,_⟩:=I.ok.funs.mem hb;exact absurd (C4 (A6 ho) (C7 I.sz h)) (D7 _)
def Inv.cne(I:Inv X zd σ H s):∀x c,X.env.cells.lookup x=some c->c≠X.env.locals:=λx c e z=>by
 obtain⟨v,o,ho,hd⟩:=I.cell x c e;obtain⟨m,⟨o',es,ep,ho',hd',_⟩,_⟩:=I.loc;rw[z,ho']at ho;cases ho;rw[hd']at hd;cases hd
theorem Inv.funs(I:Inv X zd σ H s):s.heap.FunFrames X.base X.outer:=by
 have all:∀(l:List Env),(∀b∈frs l,b∈X.fs)->X.s₀.heap.FunFrames X.base l->s.heap.FunFrames X.base l:=by
  intro l
  induction l with
  |nil=>intro _ _;trivial
  |cons env r ih=>
   intro hs hl;obtain⟨hk,⟨L,o,hf,hn,ho,hd⟩,hr⟩:=hl;have hL:L∈X.fs:=hs L (by unfold frs;rw[Y4,hf];exact K5);obtain⟨sl,e⟩:=I.base.slot L o ho (I.ok.frf L hL) hL λz=>I.ok.exfs L z hL;exact⟨hk,⟨L,_,hf,hn,e,hd⟩,ih (λb hb=>hs b (by unfold frs;rw[Y4,hf];exact D4 _ hb)) hr⟩
 exact all X.outer (λ_ hb=>hb) I.ok.funs
theorem Inv.stack(I:Inv X zd σ H s):s.heap.FunFrames X.base X.stack:=by
 rcases I.ok.stk with e|⟨e,hf⟩
 ·rw[e];exact I.funs
 ·rw[e];obtain⟨m,hn,_⟩:=I.loc;refine .cons (by rw[I.ok.kind];decide) hf hn ?_ I.funs;exact O8 (C7 I.ok.bsz I.ok.above)
def Inv.stkSub(I:Inv X zd σ H s):∀b∈frs X.stack,b∈X.env.locals::X.fs:=λb hb=>by
 rcases I.ok.stk with e|⟨e,hf⟩
 ·rw[e]at hb;exact D4 _ hb
 ·rw[e]at hb;unfold frs at hb;rw[Y4,hf]at hb;exact hb
def Inv.stkFree(I:Inv X zd σ H s):∀b∈frs X.stack,H b=none:=λb hb=>by
 rcases B8.mp (I.stkSub b hb) with e|hb
 ·rw[e];exact I.free
 ·obtain⟨_,o,ho,_⟩:=I.ok.funs.mem hb;exact I.base.free b o ho (I.ok.frf b hb) λz=>I.ok.exfs b z hb
def Inv.step{g':Array GenState}{t':Nat}{d':Drawn}{ch:List Addr}(I:Inv X zd σ H s)
  (hch:∀b∈ch,(b∈X.ex\/X.s₀.heap.objs.size<=b)/\b≠X.env.locals/\(∀x c,X.env.cells.lookup x=some c->c≠b)/\∀p∈X.pn ++ zd,p.1≠b)
  (keep:∀b o,b≠X.env.locals->b∉X.fs->b∉ch->s.heap.get? b=some o->H b=none->h'.get? b=some o)
  (slot:∀b o,b≠X.env.locals->b∈X.fs->b∉ch->s.heap.get? b=some o->H b=none->∃sl,h'.get? b=some {o with slots:=sl}) (free:∀b o,b∉ch->s.heap.get? b=some o->H b=none->H' b=none)
  (there:∀b o,b∉ch->s.heap.get? b=some o->∃o',h'.get? b=some o')
  (tups:∀b xs,H b=some (.tup xs)->H' b=some (.tup xs)) (frzs:∀b o u,H b=some (.frz o u)->H' b=some (.frz o u)) (tbls:∀b ps,H b=some (.tbl ps)->∃more,H' b=some (.tbl (ps ++ more)))
  (ns:∀m,s.heap.Ns X.env.locals m->h'.Ns X.env.locals m) (hok:HOk X.prog X.w H' h') (hg:AllBare g'):
  Inv X zd σ H' {s with heap:=h',gens:=g',drawn:=d',toks:=t'}:=by
 have neL:∀b o,X.s₀.heap.get? b=some o->b≠X.env.locals:=λb o e=>C1 (C4 (A6 e) I.ok.above);have neC:∀b o,X.s₀.heap.get? b=some o->b∉X.ex->b∉ch:=λb o e hx hb=>by
  rcases(hch b hb).1 with z|z
  ·exact hx z
  ·exact absurd (C4 (A6 e) z) (D7 _)
 have cellK:∀x c,X.env.cells.lookup x=some c->∀v,s.heap.IsCell c v->h'.IsCell c v:=λx c e v ⟨o,ho,hd⟩=>by
  have nch:c∉ch:=λz=>(hch c z).2.2.1 x c e rfl
  by_cases hc:c∈X.fs
  ·obtain⟨sl,q⟩:=slot c o (I.cne x c e) hc nch ho (I.freeC x c e);exact⟨_,q,hd⟩
  ·exact⟨o,keep c o (I.cne x c e) hc nch ho (I.freeC x c e),hd⟩
 refine⟨I.ok,I.os,hg,⟨λb o e n hb hx=> ?_,λb o e n hb hx=> ?_,λb o e n hx=> ?_,λb o e hx=> ?_,λb xs e=>tups b xs (I.base.tups b xs e),λb o xs e=>frzs b o xs (I.base.frzs b o xs e),λb ps e=> ?_⟩, ?_,λx c e=> ?_, ?_,λx c e=> ?_,λp hp=> ?_,hok,I.len⟩
 ·exact keep b o (neL b o e) hb (neC b o e hx) (I.base.keep b o e n hb hx) (I.base.free b o e n hx)
 ·obtain⟨sl,e1⟩:=I.base.slot b o e n hb hx;obtain⟨sl',e2⟩:=slot b _ (neL b o e) hb (neC b o e hx) e1 (I.base.free b o e n hx);exact⟨sl',e2⟩
 ·obtain⟨o',e1⟩:=I.base.there b o e hx;exact free b o' (neC b o e hx) e1 (I.base.free b o e n hx)
 ·obtain⟨o',e1⟩:=I.base.there b o e hx;exact there b o' (neC b o e hx) e1
 ·obtain⟨m1,e1⟩:=I.base.tbls b ps e;obtain⟨m2,e2⟩:=tbls b _ e1;exact⟨m1 ++ m2,by rw[e2,Array.append_assoc]⟩
 ·obtain⟨m,hn,hl⟩:=I.loc;refine⟨m,ns m hn,λi x v e1 e2 e3=> ?_⟩;obtain⟨u,r,l⟩:=hl i x v e1 e2 e3;refine⟨u,r, ?_⟩;rcases l with l|⟨k,c,e,z⟩
  ·exact .inl l
  ·exact .inr ⟨k,c,e,cellK x c e _ z⟩
 ·obtain⟨v,z⟩:=I.cell x c e;exact⟨v,cellK x c e v z⟩
 ·obtain⟨m,⟨o,_,_,ho,_⟩,_⟩:=I.loc;exact free _ o (λz=>(hch _ z).2.1 rfl) ho I.free
 ·obtain⟨v,o,ho,hd⟩:=I.cell x c e;exact free c o (λz=>(hch c z).2.2.1 x c e rfl) ho (I.freeC x c e)
 ·obtain⟨e,n,ne,nf,d⟩:=I.pin p hp;have nch:p.1∉ch:=λz=>(hch p.1 z).2.2.2 p hp rfl;exact⟨keep p.1 p.2 ne nf nch e n,free p.1 p.2 nch e n,ne,nf,d⟩
def Inv.un{t':Nat}(I:Inv X zd σ H s)(u:Un X.fs [] H H' s.heap h')(hok:HOk X.prog X.w H' h'):Inv X zd σ H' {s with heap:=h',toks:=t'}:=by
 obtain⟨m,⟨o,es,ep,ho,r⟩,_⟩:=id I.loc;obtain⟨sl,hL⟩:=u.any ho I.free (by simp);exact I.step (g':=s.gens) (d':=s.drawn) (ch:=[]) (λ_ z=>nomatch z) (λb o _ hb _ e n=>u.keep b o e n hb (by simp)) (λb o _ hb _ e n=>u.slot b o e n hb (by simp)) (λb o _ e n=>u.free b o e n (by simp)) (λb o _ e=>u.there b o e (by simp)) u.tups u.frzs u.tbls (λm' hm=>by
  obtain⟨o',es',ep',ho',r'⟩:=hm;rw[ho]at ho';cases ho';exact⟨_,es',ep',hL,r'⟩) hok I.bare
def Inv.call{g':Array GenState}{t':Nat}{d':Drawn}{ch:List Addr}(I:Inv X zd σ H s)(u:Un (frs X.stack) ch H H' s.heap h')(hok:HOk X.prog X.w H' h')(hg:AllBare g')
  (hch:∀b∈ch,(b∈X.ex\/X.s₀.heap.objs.size<=b)/\b≠X.env.locals/\(∀x c,X.env.cells.lookup x=some c->c≠b)/\∀p∈X.pn ++ zd,p.1≠b):
  Inv X zd σ H' {s with heap:=h',gens:=g',drawn:=d',toks:=t'}:=by
 obtain⟨m,⟨o,es,ep,ho,r⟩,_⟩:=id I.loc;obtain⟨sl,hL⟩:=u.any ho I.free λz=>(hch _ z).2.1 rfl;exact I.step (ch:=ch) hch (λb o hL hb hc e n=>u.keep b o e n (λz=>(B8.mp (I.stkSub b z)).elim hL hb) hc) (λb o _ _ hc e n=>u.any e n hc) (λb o hc e n=>u.free b o e n hc) (λb o hc e=>u.there b o e hc) u.tups u.frzs u.tbls (λm' hm=>by
  obtain⟨o',es',ep',ho',r'⟩:=hm;rw[ho]at ho';cases ho';exact⟨_,es',ep',hL,r'⟩) hok hg
def Inv.turned{t':Nat}{it:Addr}(I:Inv X zd σ H s)(k:∀b o,b≠it->s.heap.get? b=some o->h'.get? b=some o)(hn:H it=none)(hL:it≠X.env.locals)
  (h1:it∈X.ex\/X.s₀.heap.objs.size<=it) (h2:∀x c,X.env.cells.lookup x=some c->c≠it) (h3:∀p∈X.pn ++ zd,p.1≠it):Inv X zd σ H {s with heap:=h',toks:=t'}:=by
 have nit:∀b u,H b=some u->b≠it:=λb u e z=>by rw[z,hn]at e;cases e
 refine I.step (g':=s.gens) (d':=s.drawn) (ch:=[it]) (λb hb=> ?_) (λb o _ _ hc e _=>k b o (λz=>hc (by simp[z])) e) (λb o _ _ hc e _=>⟨o.slots,k b o (λz=>hc (by simp[z])) e⟩) (λ_ _ _ _ n=>n)
  (λb o hc e=>⟨o,k b o (λz=>hc (by simp[z])) e⟩) (λ_ _ e=>e) (λ_ _ _ e=>e) (λb ps e=>⟨#[],by rw[e];simp⟩) (λm hm=> ?_) (λb u e=> ?_) I.bare
 ·have e:b=it:=by simpa using hb
  subst e;exact⟨h1,hL,h2,h3⟩
 ·obtain⟨o,es,ep,ho,r⟩:=hm;exact⟨o,es,ep,k _ o (Ne.symm hL) ho,r⟩
 ·refine(I.hok b u e).stay (λc v hc q=>k c v ?_ q) (λ_ q=>q) λ_ _ q=>q;rcases hc with z|z
  ·rw[z];exact nit b u e
  ·exact nit c _ z
def Inv.tok(I:Inv X zd σ H s)(t:Nat):Inv X zd σ H {s with toks:=t}:=I.un (h':=s.heap) (t':=t) Un.refl I.hok
theorem Inv.kept{t':Nat}(I:Inv X zd σ H s)(k:∀b u,s.heap.get? b=some u->h'.get? b=some u):Inv X zd σ H {s with heap:=h',toks:=t'}:=I.un (Un.kept k) (I.hok.kept k)
theorem Inv.laid{a:Addr}{o:HO}{t':Nat}(I:Inv X zd σ H s)(k:∀b u,s.heap.get? b=some u->h'.get? b=some u)(hp:s.heap.objs.size<=a)(new:ObjOk X.prog X.w (upd H a o) h' a o):
  Inv X zd σ (upd H a o) {s with heap:=h',toks:=t'}:=I.un (Un.laid k hp (I.hok.fresh hp)) (I.hok.laid k hp new)
theorem Inv.write{x e:Addr}{o:HO}{t':Nat}(I:Inv X zd σ H s)(mu:Mut (H x))(he:e=x\/H e=some (.own x))(k:∀b u,b≠e->s.heap.get? b=some u->h'.get? b=some u)(heo:∃u,h'.get? e=some u)
  (new:ObjOk X.prog X.w (upd H x o) h' x o):Inv X zd σ (upd H x o) {s with heap:=h',toks:=t'}:=I.un (Un.write mu he k heo) (I.hok.write mu he k heo new)
def Inv.pins_of{ar:AE}(I:Inv X zd σ H s)(h:∀p∈ar,s.heap.get? p.1=some p.2/\H p.1=none/\p.1≠X.env.locals/\p.1∉X.fs/\∀v,p.2.data≠ .cell v):Inv X ar σ H s:=
 ⟨I.ok,I.os,I.bare,I.base,I.loc,I.cell,I.free,I.freeC,λp hp=>(F6.mp hp).elim (λz=>I.pin p (L9 _ z)) (h p),I.hok,I.len⟩
def at_4{N:List Str}(hN:N.Nodup){i j:Nat}{x:Str}(a:N[i]? =some x)(b:N[j]? =some x):i=j:=by
 obtain⟨h1,e1⟩:=A9.mp a;obtain⟨h2,e2⟩:=A9.mp b;exact(List.getElem_inj hN).mp (e1.trans e2.symm)
def al_1{M:Model}{A:Around}{E:AA}{i:Nat}{x:Str}{v:V}{u:Value}{Q:Unit->Shared->Prop}(I:Inv X zd σ H s)(hN:X.N.Nodup)(hi:X.N[i]? =some x)(hx:Loc X.env.scope x)(r:RelV v u)
  (h:∀s',Inv X zd (σ.set i (some v)) H s'->(∃a,Heap.SameBut a s.heap s'.heap/\(a=X.env.locals\/X.env.cells.lookup x=some a))->Q .unit s') (hf:X.fn x=true\/X.env.scope.names.lookup x=some .local:=by trivial):wpAny M A (storeName X.env x u) Q E s:=by
 obtain⟨m,hn,hl⟩:=id I.loc;have cu:(X.env.scope.kind == .class || (X.env.scope.kind == .module && X.env.locals != X.env.globals))=false:=by rw[I.ok.kind];rfl
 have hiσ:i < σ.length:=by rw[I.len];exact(A9.mp hi).1
 have cne:=I.cne;have tracked:∀{a:Addr} {h':Heap},(∃o,s.heap.get? a=some o/\H a=none)->Heap.SameBut a s.heap h'->HOk X.prog X.w H h':=λ{a h'} ha hs b ob e=>by
  obtain⟨_,_,ay⟩:=ha;refine(I.hok b ob e).stay (λc w' hc q=>(hs.2 c ?_).trans q) (λ_ q=>q) λ_ _ q=>q
  rintro rfl
  rcases hc with rfl|hc
  ·rw[ay]at e;cases e
  ·rw[ay]at hc;cases hc
 rcases hx with hk|hk
 ·refine wpAny_storeName_local hk hn (λh' hn' hs=> ?_) cu;obtain⟨oL,_,_,hoL,_⟩:=id hn;refine h _ ⟨I.ok,I.os,I.bare,⟨λb o e n hb hx=> ?_,λb o e n hb hx=> ?_,I.base.free,λb o e hx=> ?_,I.base.tups,I.base.frzs,I.base.tbls⟩,⟨_,hn',λj y v' e1 e2 e3=> ?_⟩,λy c e=> ?_,I.free,I.freeC,λp hp=> ?_,tracked ⟨oL,hoL,I.free⟩ hs,by simpa using I.len⟩ ⟨_,hs,.inl rfl⟩
  ·exact(hs.2 b (C1 (C4 (A6 e) I.ok.above))).trans (I.base.keep b o e n hb hx)
  ·obtain⟨sl,e1⟩:=I.base.slot b o e n hb hx;exact⟨sl,(hs.2 b (C1 (C4 (A6 e) I.ok.above))).trans e1⟩
  ·obtain⟨o',e1⟩:=I.base.there b o e hx;exact⟨o',(hs.2 b (C1 (C4 (A6 e) I.ok.above))).trans e1⟩
  ·by_cases hj:j=i
   ·subst hj;rw[hi]at e1;cases e1;rw[F9 hiσ]at e2;cases e2;exact⟨u,r,.inl ⟨hk,by simp⟩⟩
   ·rw[C9 (Ne.symm hj)]at e2;obtain⟨u',r',q⟩:=hl j y v' e1 e2 e3;refine⟨u',r', ?_⟩;rcases q with⟨k,e⟩|⟨k,c,e,z⟩
    ·refine .inl ⟨k, ?_⟩;have:y≠x:=λe=>hj (at_4 hN e1 (e▸hi));simp[this,e]
    ·exact .inr ⟨k,c,e,z.sameBut hs (cne y c e)⟩
  ·obtain⟨w',z⟩:=I.cell y c e;exact⟨w',z.sameBut hs (cne y c e)⟩
  ·obtain⟨e,n,ne,nf,d⟩:=I.pin p hp;exact⟨(hs.2 p.1 ne).trans e,n,ne,nf,d⟩
 ·have hfn:X.fn x=true:=by
   rcases hf with z|z
   ·exact z
   ·rw[z]at hk;cases hk
  obtain⟨c,hc⟩:=I.ok.has x (.inl hk);obtain⟨w',z⟩:=I.cell x c hc;refine wpAny_storeName_cell I.ok.kind hk hc z (λh' hc' hs=> ?_);obtain⟨oc,hoc,ir⟩:=id z;refine h {s with heap:=h'} ⟨I.ok,I.os,I.bare,⟨λb o e n hb hx=> ?_,λb o e n hb hx=> ?_,I.base.free,λb o e hx=> ?_,I.base.tups,I.base.frzs,I.base.tbls⟩,⟨m,hn.sameBut hs (Ne.symm (cne x c hc)),λj y v' e1 e2 e3=> ?_⟩,λy c' e=> ?_,I.free,I.freeC,λp hp=> ?_,tracked ⟨oc,hoc,I.freeC x c hc⟩ hs,by simpa using I.len⟩ ⟨c,hs,.inr hc⟩
  ·exact(hs.2 b (C1 (C4 (A6 e) (I.ok.cab x c hfn hc)))).trans (I.base.keep b o e n hb hx)
  ·obtain⟨sl,e1⟩:=I.base.slot b o e n hb hx;exact⟨sl,(hs.2 b (C1 (C4 (A6 e) (I.ok.cab x c hfn hc)))).trans e1⟩
  ·obtain⟨o',e1⟩:=I.base.there b o e hx;exact⟨o',(hs.2 b (C1 (C4 (A6 e) (I.ok.cab x c hfn hc)))).trans e1⟩
  ·by_cases hj:j=i
   ·subst hj;rw[hi]at e1;cases e1;rw[F9 hiσ]at e2;cases e2;exact⟨u,r,.inr ⟨.inl hk,c,hc,hc'⟩⟩
   ·rw[C9 (Ne.symm hj)]at e2;obtain⟨u',r',q⟩:=hl j y v' e1 e2 e3;refine⟨u',r', ?_⟩;rcases q with q|⟨k,c',e,z'⟩
    ·exact .inl q
    ·refine .inr ⟨k,c',e,z'.sameBut hs ?_⟩
     rintro rfl
     exact hj (at_4 hN e1 (I.ok.inj _ _ _ e hc▸hi))
  ·by_cases hcc:c'=c
   ·subst hcc;exact⟨_,hc'⟩
   ·obtain⟨w2,z2⟩:=I.cell y c' e;exact⟨w2,z2.sameBut hs hcc⟩
  ·obtain⟨e,n,ne,nf,d⟩:=I.pin p hp;refine⟨(hs.2 p.1 ?_).trans e,n,ne,nf,d⟩;intro q;rw[q,hoc]at e;have q':oc=p.2:=K2 e;exact d w' (by rw[<-q'];exact ir)
def at_5{M:Model}{A:Around}{E:AA}{i:Nat}{x:Str}{v:V}{u:Value}{Q:Unit->Shared->Prop}(I:Inv X zd σ H s)(hN:X.N.Nodup)(hi:X.N[i]? =some x)(hx:Loc X.env.scope x)(r:RelV v u)
  (h:∀s',Inv X zd (σ.set i (some v)) H s'->Q .unit s') (hf:X.fn x=true\/X.env.scope.names.lookup x=some .local:=by trivial):wpAny M A (storeName X.env x u) Q E s:=
 al_1 I hN hi hx r (λs' I' _=>h s' I') hf
def Inv.call'{s':Shared}{ch:List Addr}(I:Inv X zd σ H s)(ho:s'.os=s.os)(u:Un (frs X.stack) ch H H' s.heap s'.heap)(hok:HOk X.prog X.w H' s'.heap)(hg:AllBare s'.gens)
  (hch:∀b∈ch,(b∈X.ex\/X.s₀.heap.objs.size<=b)/\b≠X.env.locals/\(∀x c,X.env.cells.lookup x=some c->c≠b)/\∀p∈X.pn ++ zd,p.1≠b):Inv X zd σ H' s':=by
 obtain⟨h',g',d',t',o'⟩:=s';have e:o'=s.os:=ho;subst e;exact I.call (g':=g') (t':=t') (d':=d') u hok hg hch
end
abbrev XK:=Value->Option Addr->Hp->Prop
abbrev St:=List (Option V)
abbrev VK:=V->Hp->Prop
abbrev TE:=St->Hp->VK->Prop
abbrev TT:=St->Hp->(Bool->Hp->Prop)->Prop
abbrev TA:=St->Hp->(List V->Hp->Prop)->Prop
structure Ends where
 nx:St->Hp->Prop
 rt:VK
 bk:St->Hp->Prop:=λ_ _=>False
 ct:St->Hp->Prop:=λ_ _=>False
abbrev TS:=Ends->St->Hp->Prop
def EP(X:Cx)(zd:AE)(σ:St)(Q:VK)(u:Value)(s':Shared):Prop:=∃v H',Inv X zd σ H' s'/\RelV v u/\Q v H'
def TP(X:Cx)(zd:AE)(σ:St)(Q:Bool->Hp->Prop)(b:Bool)(s':Shared):Prop:=∃H',Inv X zd σ H' s'/\Q b H'
def AP(X:Cx)(zd:AE)(σ:St)(Q:List V->Hp->Prop)(us:List Value)(s':Shared):Prop:=∃vs H',Inv X zd σ H' s'/\Vals vs us/\Q vs H'
def SP(X:Cx)(zd:AE)(D:Ends)(f:Flow)(s':Shared):Prop:=
 match f with
 | .next=>∃σ' H',Inv X zd σ' H' s'/\D.nx σ' H'
 | .brk=>∃σ' H',Inv X zd σ' H' s'/\D.bk σ' H'
 | .cont=>∃σ' H',Inv X zd σ' H' s'/\D.ct σ' H'
 | .ret u=>∃v σ' H',Inv X zd σ' H' s'/\RelV v u/\D.rt v H'
def PE(X:Cx)(e:Expr)(t:TE):Prop:=
 ∀(zd:AE) (s:Shared) (σ:St) (H:Hp) (Q:VK),Inv X zd σ H s->t σ H Q->wpAny (model X.prog X.w) X.A (eval e X.env) (EP X zd σ Q) X.xe s
def PT(X:Cx)(e:Expr)(t:TT):Prop:=
 ∀(zd:AE) (s:Shared) (σ:St) (H:Hp) (Q:Bool->Hp->Prop),Inv X zd σ H s->t σ H Q->wpAny (model X.prog X.w) X.A (isTrue e X.env (eval e X.env)) (TP X zd σ Q) X.xe s
def PW(X:Cx)(e:Expr)(t:TT):Prop:=
 ∀(whole:Sem Value) (zd:AE) (s:Shared) (σ:St) (H:Hp) (Q:Bool->Hp->Prop),Inv X zd σ H s->t σ H Q->wpAny (model X.prog X.w) X.A (isTrue e X.env whole) (TP X zd σ Q) X.xe s
def PW.pt{X:Cx}{e:Expr}{t:TT}(h:PW X e t):PT X e t:=h _
def PA(X:Cx)(es:List Expr)(t:TA):Prop:=
 ∀(pos:Pos) (zd:AE) (s:Shared) (σ:St) (H:Hp) (Q:List V->Hp->Prop),Inv X zd σ H s->t σ H Q->wpAny (model X.prog X.w) X.A (spliced (backTo pos (starEach es X.env))) (AP X zd σ Q) X.xe s
def PS(X:Cx)(st:Stmt)(t:TS):Prop:=
 ∀(zd:AE) (s:Shared) (σ:St) (H:Hp) (D:Ends),Inv X zd σ H s->t D σ H->wpAny (model X.prog X.w) X.A (exec st X.env) (SP X zd D) X.xe s
def PSs(X:Cx)(st:List Stmt)(t:TS):Prop:=
 ∀(zd:AE) (s:Shared) (σ:St) (H:Hp) (D:Ends),Inv X zd σ H s->t D σ H->wpAny (model X.prog X.w) X.A (execs st X.env) (SP X zd D) X.xe s
def Be{α:Type}{t:Sem α}{Q Q':α->Shared->Prop}{M:Model}{A:Around}{E:AA}{s:Shared}(h:wpAny M A t Q E s)(hQ:∀a s,Q a s->Q' a s):wpAny M A t Q' E s:=D2 h hQ λ_ _ x=>x
section
variable{X:Cx}
def tVar(i:Nat):TE:=λ σ H Q=>∃v,σ[i]? =some (some v)/\Q v H
def tC(v:V):TE:=λ_ H Q=>Q v H
def o_1{i:Nat}{x:Str}{pos:Pos}(hN:X.N[i]? =some x)(hv:Vis X.env.scope x)(hd:AG x:=by decide)(hcd:(x ==("__classdict__" :Str))=false:=by decide):PE X (.Name x pos) (tVar i):=by
 intro zd s σ H Q I h;obtain⟨v,e,h⟩:=h;obtain⟨m,hn,hl⟩:=I.loc;obtain⟨u,r,l⟩:=hl i x v hN e hv;have fin:EP X zd σ Q u s:=⟨v,H,I,r,h⟩;rcases l with⟨hk,hm⟩|⟨hk,c,hc,hcell⟩
 ·exact wpAny_Name (wpAny_loadName_local I.ok.kind hk hn hm fin) hd
 ·rcases hk with hk|hk
  ·exact wpAny_Name (wpAny_loadName_cell I.ok.kind hk hc hcell fin) hd
  ·exact wpAny_Name (wpAny_loadName_free I.ok.kind hk hc hcell fin hcd) hd
def dl_9{i j pos}:PE X (.Constant (.int i) j pos) (tC (.int i)):=λ_ _ _ H _ I h=>wpAny_Constant_int ⟨.int i,H,I.tok _,⟨_,rfl⟩,h⟩
def dt_6{b j pos}:PE X (.Constant (.bool b) j pos) (tC (.bl b)):=λ_ _ _ H _ I h=>Constant_bool ⟨.bl b,H,I,rfl,h⟩
def dm_0{j pos}:PE X (.Constant .none j pos) (tC .non):=λ_ _ _ H _ I h=>Constant_none ⟨.non,H,I,rfl,h⟩
def dm_1{x j pos}:PE X (.Constant (.str x) j pos) (tC (.str x)):=λ_ _ _ H _ I h=>Calls.Constant_str ⟨.str x,H,I.tok _,⟨_,rfl⟩,h⟩
def Gl(X:Cx)(x:Str):Prop:=X.env.kindOf x=some .globalImplicit
def s_3{E:AA}{zd:AE}{s:Shared}{σ:St}{H:Hp}{x:Str}{u:Value}{pos:Pos}{Q:AA}(I:Inv X zd σ H s)(hg:Gl X x)(hm:X.mg x=some u)(h:Q u s)
  (hd:AG x:=by decide):wpAny (model X.prog X.w) X.A (eval (.Name x pos) X.env) Q E s:=
 Y9 I.ok.kind hg (Calls.loadGlobal_global (by rw[I.ok.glob];exact I.mod.glob.keeps I.bk) hm h) hd
def r_3{E:AA}{zd:AE}{s:Shared}{σ:St}{H:Hp}{x:Str}{u:Value}{pos:Pos}{Q:AA}(I:Inv X zd σ H s)(hg:Gl X x)(hm:X.mg x=none)(hv:bootBuiltins x=some u)(h:Q u s)
  (hn:x≠ "__name__" :=by decide) (hd:AG x:=by decide):wpAny (model X.prog X.w) X.A (eval (.Name x pos) X.env) Q E s:=by
 obtain⟨mb,h1,h2⟩:=I.mod.blt;exact Y9 I.ok.kind hg (Calls.loadGlobal_builtin (by rw[I.ok.glob];exact I.mod.glob.keeps I.bk) hm (by rw[I.ok.blt];exact h1.keeps I.bk) ((h2 x hn).trans hv) h) hd
def ar_4{x:Str}{v:V}{u:Value}{pos:Pos}(hg:Gl X x)(hm:X.mg x=some u)(r:RelV v u)(hd:AG x:=by decide):PE X (.Name x pos) (tC v):=
 λ_ _ _ H _ I h=>s_3 I hg hm ⟨v,H,I,r,h⟩ hd
def ca_7{x:Str}{v:V}{u:Value}{pos:Pos}(hg:Gl X x)(hm:X.mg x=none)(hv:bootBuiltins x=some u)(r:RelV v u)(hn:x≠ "__name__" :=by decide)(hd:AG x:=by decide):PE X (.Name x pos) (tC v):=
 λ_ _ _ H _ I h=>r_3 I hg hm hv ⟨v,H,I,r,h⟩ hn hd
variable{a b:Expr}{ta tb:TE}{pos:Pos}
variable{tA tB':TT}{x_7:List Expr}
def tAnd(t u:TT):TT:=λ σ H Q=>t σ H λc H1=>if c=true then u σ H1 Q else Q false H1
def tOr(t u:TT):TT:=λ σ H Q=>t σ H λc H1=>if c=true then Q true H1 else u σ H1 Q
def tNot(t:TT):TT:=λ σ H Q=>t σ H λc H1=>Q (!c) H1
def da_9(ha:PT X a tA):PW X (.BoolOp .And [a] pos) tA:=by
 intro wh zd s σ H Q I h;refine isTrue_and (Be (ha zd s σ H Q I h) λc s1 e=> ?_);cases c with
 |true=>exact isTrue_and_nil e
 |false=>exact e
def dm_2(ha:PT X a tA):PW X (.BoolOp .Or [a] pos) tA:=by
 intro wh zd s σ H Q I h;refine isTrue_or (Be (ha zd s σ H Q I h) λc s1 e=> ?_);cases c with
 |false=>exact isTrue_or_nil e
 |true=>exact e
def dm_3(ha:PT X a tA)(hb:PW X (.BoolOp .And (b::x_7) pos) tB'):PW X (.BoolOp .And (a::b::x_7) pos) (tAnd tA tB'):=by
 intro wh zd s σ H Q I h;refine isTrue_and (Be (ha zd s σ H _ I h) λc s1 ⟨H1,I1,q1⟩=> ?_);cases c with
 |true=>exact hb wh zd s1 σ H1 Q I1 q1
 |false=>exact⟨H1,I1,q1⟩
def dt_7(ha:PT X a tA)(hb:PW X (.BoolOp .Or (b::x_7) pos) tB'):PW X (.BoolOp .Or (a::b::x_7) pos) (tOr tA tB'):=by
 intro wh zd s σ H Q I h;refine isTrue_or (Be (ha zd s σ H _ I h) λc s1 ⟨H1,I1,q1⟩=> ?_);cases c with
 |true=>exact⟨H1,I1,q1⟩
 |false=>exact hb wh zd s1 σ H1 Q I1 q1
def dm_4(ha:PT X a tA):PT X (.UnaryOp .Not a pos) (tNot tA):=by
 intro zd s σ H Q I h;exact isTrue_not (ha zd s σ H (λc H1=>Q (!c) H1) I h)
def dt_8(ta tb:TE):TE:=λ σ H Q=>ta σ H λx H1=>∃c,x=.bl c/\if c=true then tb σ H1 Q else Q (.bl false) H1
def dt_9(ta:TE):TE:=λ σ H Q=>ta σ H λx H1=>∃c,x=.bl c/\Q (.bl (!c)) H1
def dm_5{op}{t:TE}(h:PE X a t):PE X (.BoolOp op [a] pos) t:=λzd s σ H Q I hw=>BoolOp_one (h zd s σ H Q I hw)
def dm_6(ha:PE X a ta)(hb:PE X (.BoolOp .And (b::x_7) pos) tb):PE X (.BoolOp .And (a::b::x_7) pos) (dt_8 ta tb):=by
 intro zd s σ H Q I h;refine BoolOp_and (Be (ha zd s σ H _ I h) λv s1 ⟨x,H1,I1,r1,q1⟩=> ?_);obtain⟨c,rfl,q1⟩:=q1;cases r1;refine Q5 ?_;cases c with
 |true=>exact hb zd s1 σ H1 Q I1 q1
 |false=>exact⟨.bl false,H1,I1,rfl,q1⟩
def dm_7(ha:PE X a ta):PE X (.UnaryOp .Not a pos) (dt_9 ta):=by
 intro zd s σ H Q I h;refine UnaryOp_ (Be (ha zd s σ H _ I h) λv s1 ⟨x,H1,I1,r1,q1⟩=> ?_);obtain⟨c,rfl,q1⟩:=q1;cases r1;exact not_of (Q5 ⟨.bl (!c),H1,I1,rfl,q1⟩)
end
def SqL(K:Frag)(H:Hp)(a:Addr)(xs:List V):Prop:=
 Rd H a (.lst xs)\/
  ∃(o:Obj) (its:Array Value) (n:Nat),K.lookup a=some o/\o.cls=.type "list" /\o.dict=none/\o.data=.seq its n/\its.size<=sizeLine/\Vals xs its.toList
def SqT(K:Frag)(H:Hp)(a:Addr)(xs:List V):Prop:=
 Rd H a (.tup xs)\/
  ∃(o:Obj) (its:Array Value) (n:Nat),K.lookup a=some o/\o.cls=.type "tuple" /\o.data=.seq its n/\its.size<=sizeLine/\Vals xs its.toList
def absV:Value->Option V
 | .none=>some .non
 | .bool b=>some (.bl b)
 | .int i _=>some (.int i)
 | .str x _=>some (.str x)
 | .bytes b _=>some (.byt b)
 | .float b _=>some (.flt b)
 | .ref a=>some (.ref a)
 | .type n=>some (.ty n)
 |_=>none
def RelV.abs{x:V}{u:Value}(r:RelV x u):absV u=some x:=by
 cases x with
 |non=>cases r;rfl
 |bl _=>cases r;rfl
 |int _=>obtain⟨t,rfl⟩:=r;rfl
 |str _=>obtain⟨t,rfl⟩:=r;rfl
 |byt _=>obtain⟨t,rfl⟩:=r;rfl
 |flt _=>obtain⟨t,rfl⟩:=r;rfl
 |ref _=>cases r;rfl
 |ty _=>cases r;rfl
theorem RelV.inj{x y:V}{u:Value}(r:RelV x u)(q:RelV y u):x=y:=K2 (r.abs.symm.trans q.abs)
theorem Vals.inj:∀{xs ys:List V} {us:List Value},Vals xs us->Vals ys us->xs=ys
 |_,_,_,.nil,.nil=>rfl
 |_,_,_,.cons r t,.cons r' t'=>by rw[r.inj r',Vals.inj t t']
section
variable{X:Cx}{zd:AE}{σ:St}{H:Hp}{s:Shared}{a:Addr}{xs ys:List V}
def SqL.of{K:Frag}(h:H a=some (.lst xs)):SqL K H a xs:=.inl (.inl h)
def SqT.of{K:Frag}(h:H a=some (.tup xs)):SqT K H a xs:=.inl (.inl h)
def Inv.list(I:Inv X zd σ H s)(h:SqL X.K H a xs):∃its:List Value,Vals xs its/\PlainL s.heap a its.toArray/\xs.length<=sizeLine:=by
 rcases h with h|⟨o,its,n,hk,hc,hd,hs,hz,r⟩
 ·obtain⟨z,its,n,r,e⟩:=h.ok I.hok;exact⟨its,r,⟨_,n,e,rfl,rfl,rfl⟩,z⟩
 ·refine⟨its.toList,r,⟨o,n,I.kIn a o hk,hc,hd,by simpa using hs⟩, ?_⟩;have e:=r.length;simp only[N8]at e;omega
def Inv.tuple(I:Inv X zd σ H s)(h:SqT X.K H a xs):∃its:List Value,Vals xs its/\IsTup s.heap a its.toArray/\xs.length<=sizeLine:=by
 rcases h with h|⟨o,its,n,hk,hc,hs,hz,r⟩
 ·obtain⟨z,its,r,p⟩:=h.ok I.hok;exact⟨its,r,p,z⟩
 ·refine⟨its.toList,r,⟨o,I.kIn a o hk,hc,n,by simpa using hs⟩, ?_⟩;have e:=r.length;simp only[N8]at e;omega
def Inv.list_inj(I:Inv X zd σ H s)(h:SqL X.K H a xs)(h':SqL X.K H a ys):xs=ys:=by
 obtain⟨its,r,⟨o,n,e,_,_,d⟩,_⟩:=I.list h;obtain⟨its',r',⟨o',n',e',_,_,d'⟩,_⟩:=I.list h';rw[e]at e';cases e';rw[d]at d';injection d' with d1 _
 have:its=its':=by simpa using L6 Array.toList d1
 subst this;exact r.inj r'
def Inv.tuple_inj(I:Inv X zd σ H s)(h:SqT X.K H a xs)(h':SqT X.K H a ys):xs=ys:=by
 obtain⟨its,r,⟨o,e,_,n,d⟩,_⟩:=I.tuple h;obtain⟨its',r',⟨o',e',_,n',d'⟩,_⟩:=I.tuple h';rw[e]at e';cases e';rw[d]at d';injection d' with d1 _
 have:its=its':=by simpa using L6 Array.toList d1
 subst this;exact r.inj r'
end
abbrev Cx.wish(X:Cx)(E:AA):Cx:={X with xe:=E}
abbrev Cx.nox(X:Cx):Cx:=X.wish λ_ _=>False
theorem Cx.Ok.wish{X:Cx}(ok:X.Ok)(E:AA):(X.wish E).Ok:=
 ⟨ok.mod,ok.kind,ok.glob,ok.blt,ok.above,ok.inj,ok.has,ok.cab,ok.hd,ok.frames,ok.stk,ok.exf,ok.bs,ok.bsz,ok.noex,ok.exfs,ok.funs,ok.frf,ok.tb⟩
def Cx.Ok.unwish{X:Cx}{E:AA}(ok:(X.wish E).Ok):X.Ok:=
 ⟨ok.mod,ok.kind,ok.glob,ok.blt,ok.above,ok.inj,ok.has,ok.cab,ok.hd,ok.frames,ok.stk,ok.exf,ok.bs,ok.bsz,ok.noex,ok.exfs,ok.funs,ok.frf,ok.tb⟩
section
variable{X:Cx}{zd:AE}{σ:St}{H:Hp}{s:Shared}{E:AA}
theorem Inv.wish(I:Inv X zd σ H s)(E:AA):Inv (X.wish E) zd σ H s:=⟨I.ok.wish E,I.os,I.bare,I.base,I.loc,I.cell,I.free,I.freeC,I.pin,I.hok,I.len⟩
theorem Inv.unwish(I:Inv (X.wish E) zd σ H s):Inv X zd σ H s:=⟨I.ok.unwish,I.os,I.bare,I.base,I.loc,I.cell,I.free,I.freeC,I.pin,I.hok,I.len⟩
theorem SP.unwish{D:Ends}{f:Flow}{s':Shared}(h:SP (X.wish E) zd D f s'):SP X zd D f s':=by
 cases f with
 |next=>obtain⟨σ',H',I,q⟩:=h;exact⟨σ',H',I.unwish,q⟩
 |brk=>obtain⟨σ',H',I,q⟩:=h;exact⟨σ',H',I.unwish,q⟩
 |cont=>obtain⟨σ',H',I,q⟩:=h;exact⟨σ',H',I.unwish,q⟩
 |ret u=>obtain⟨v,σ',H',I,r,q⟩:=h;exact⟨v,σ',H',I.unwish,r,q⟩
theorem PE.nox{e:Expr}{t:TE}(h:PE X.nox e t):PE X e t:=λzd s σ H Q I hw=>
 D2 (h zd s σ H Q (I.wish _) hw) (λ_ _ ⟨v,H',I',r,q⟩=>⟨v,H',I'.unwish,r,q⟩) λ_ _ z=>False.elim z
end
section
variable{X:Cx}{st:Stmt}{x_7:List Stmt}{t u:TS}{e:Expr}{te:TE}{pos:Pos}
def du_0:TS:=λD σ H=>D.nx σ H
def tSeq(t u:TS):TS:=λD σ H=>t {D with nx:=u D} σ H
def db_0:PSs X [] du_0:=λ_ _ σ H _ I h=>U7 ⟨σ,H,I,h⟩
def cn_6(h1:PS X st t)(h2:PSs X x_7 u):PSs X (st::x_7) (tSeq t u):=by
 intro zd s σ H D I h;refine wpAny_execs_cons (Be (h1 zd s σ H {D with nx:=u D} I h) λf s1 q=> ?_);cases f with
 |next=>
  obtain⟨σ',H',I',q⟩:=q;exact h2 zd s1 σ' H' D I' q
 |ret v=>exact q
 |brk=>exact q
 |cont=>exact q
def ar_5(h1:PS X st t):PSs X [st] t:=by
 intro zd s σ H D I h;refine wpAny_execs_cons (Be (h1 zd s σ H D I h) λf s1 q=> ?_);cases f with
 |next=>exact U7 q
 |ret v=>exact q
 |brk=>exact q
 |cont=>exact q
def Inv.quiet{zd:AE}{σ:St}{H:Hp}{s:Shared}(I:Inv X zd σ H s):interactive X.env=false:=by simp[interactive,I.ok.kind]
def du_1(te:TE):TS:=λD σ H=>te σ H λ_ H1=>D.nx σ H1
def ah_7(he:PE X e te)(hs:swapsWith e none pos.line X.env=pure false:=by rfl):PS X (.Expr e pos) (du_1 te):=by
 intro zd s σ H D I h;exact wpAny_Expr_any (Be (he zd s σ H _ I h) λv s1 ⟨x,H1,I1,r1,q1⟩=>⟨σ,H1,I1,q1⟩) I.quiet hs
def tRet(te:TE):TS:=λD σ H=>te σ H D.rt
def cn_7(he:PE X e te):PS X (.Return (some e) pos) (tRet te):=by
 intro zd s σ H D I h;exact wpAny_Return_some (Be (he zd s σ H _ I h) λv s1 ⟨x,H1,I1,r1,q1⟩=>⟨x,σ,H1,I1,r1,q1⟩)
def tIfS(c:TT)(t u:TS):TS:=λD σ H=>c σ H λb H1=>if b=true then t D σ H1 else u D σ H1
def du_2{c:Expr}{a b:List Stmt}{tc:TT}(hc:PT X c tc)(ha:PSs X a t)(hb:PSs X b u):PS X (.If c a b pos) (tIfS tc t u):=by
 intro zd s σ H D I h;refine wpAny_If (Be (hc zd s σ H _ I h) λd s1 ⟨H1,I1,q1⟩=> ?_);cases d with
 |true=>exact ha zd s1 σ H1 D I1 q1
 |false=>exact hb zd s1 σ H1 D I1 q1
end
abbrev TG:=V->St->Hp->(St->Hp->Prop)->Prop
abbrev TGs:=List V->St->Hp->(St->Hp->Prop)->Prop
def PG(X:Cx)(target:Expr)(t:TG):Prop:=
 ∀(zd:AE) (s:Shared) (σ:St) (H:Hp) (v:V) (u:Value) (Q:St->Hp->Prop),Inv X zd σ H s->RelV v u->t v σ H Q->
  wpAny (model X.prog X.w) X.A (assign target X.env u) (λ_ s'=>∃σ' H',Inv X zd σ' H' s'/\Q σ' H') X.xe s
def PGs(X:Cx)(ts:List Expr)(t:TGs):Prop:=
 ∀(zd:AE) (s:Shared) (σ:St) (H:Hp) (vs:List V) (us:List Value) (Q:St->Hp->Prop),Inv X zd σ H s->Vals vs us->t vs σ H Q->
  wpAny (model X.prog X.w) X.A (assignInOrder ((assignEach ts X.env).map (·.2)) us) (λ_ s'=>∃σ' H',Inv X zd σ' H' s'/\Q σ' H') X.xe s
abbrev TSet:=V->V->V->Hp->(Hp->Prop)->Prop
def PSet(X:Cx)(t:TSet):Prop:=
 ∀(zd:AE) (s:Shared) (σ:St) (H:Hp) (o i v:V) (ov iv u:Value) (Q:Hp->Prop),Inv X zd σ H s->RelV o ov->RelV i iv->RelV v u->t o i v H Q->
  wpAny (model X.prog X.w) X.A (setItem ov iv u) (λ_ s'=>∃H',Inv X zd σ H' s'/\Q H') X.xe s
section
variable{X:Cx}{pos:Pos}
def bb_9(i:Nat):TG:=λv σ H Q=>Q (σ.set i (some v)) H
def ad_4{i:Nat}{x:Str}(hN:X.N.Nodup)(hi:X.N[i]? =some x)(hx:Loc X.env.scope x)(hf:X.fn x=true\/X.env.scope.names.lookup x=some .local:=by trivial):PG X (.Name x pos) (bb_9 i):=by
 intro zd s σ H v u Q I r h;exact ZA1 (at_5 I hN hi hx r (λs' I'=>⟨_,H,I',h⟩) hf)
def gNil:TGs:=λvs σ H Q=>vs= []/\Q σ H
def du_4(t:TG)(u:TGs):TGs:=λvs σ H Q=>∃v r,vs=v::r/\t v σ H λ σ' H'=>u r σ' H' Q
def ca_8:PGs X [] gNil:=by
 intro zd s σ H vs us Q I r h;obtain⟨e,h⟩:=h;subst e;cases r;exact assignInOrder_nil ⟨σ,H,I,h⟩
def ah_8{e:Expr}{es:List Expr}{t:TG}{u:TGs}(h1:PG X e t)(h2:PGs X es u)
  (hs:(assignEach (e::es) X.env).map (·.2)=assign e X.env::(assignEach es X.env).map (·.2):=by rfl):PGs X (e::es) (du_4 t u):=by
 intro zd s σ H vs us Q I r h;obtain⟨v,vr,e1,h⟩:=h;subst e1;cases r with
 |cons r rr=>
  rw[hs];refine assignInOrder_cons (Be (h1 zd s σ H _ _ _ I r h) λ_ s1 ⟨σ1,H1,I1,q1⟩=> ?_);exact h2 zd s1 σ1 H1 _ _ Q I1 rr q1
def gTup(K:Frag)(n:Nat)(t:TGs):TG:=λv σ H Q=>∃a xs,v=.ref a/\SqT K H a xs/\xs.length=n/\t xs σ H Q
def cn_8{es:List Expr}{k:Nat}{t:TGs}{n:Nat}(hc:X.calm=true)(h:PGs X es t)
  (hn:(assignEach es X.env).length=n:=by rfl) (hst:(assignEach es X.env).findIdx? (·.1)=none:=by rfl):PG X (.Tuple es k pos) (gTup X.K n t):=by
 intro zd s σ H v u Q I r hw;obtain⟨a,xs,e1,hq,hl,hw⟩:=hw;subst e1;cases r;obtain⟨its,rv,ht,hz⟩:=I.tuple hq;refine assign_Tuple_tuple (I.ok.hd hc) ht (by simp[hn,<-hl,rv.length]) hst λh' hx=> ?_;have I1:Inv X zd σ H {s with heap:=h'}:=I.kept (t':=s.toks) λb o e=>hx b o (C1 (A6 e)) e;exact h zd _ σ H xs _ Q I1 (by simpa using rv) hw
def gSub(to ti:TE)(t:TSet):TG:=λv σ H Q=>to σ H λo H1=>ti σ H1 λi H2=>t o i v H2 λH3=>Q σ H3
def dm_9{o i:Expr}{to ti:TE}{t:TSet}(ho:PE X o to)(hi:PE X i ti)(hs:PSet X t)
  (ha:∀v,assign (.Subscript o i pos) X.env v=(do
   let ov<-holding [v] (eval o X.env)
   let iv<-holding [v,ov] (eval i X.env)
   standAt pos
   holding [v,ov,iv] (setItem ov iv v)
   release [v,ov,iv] []):=by intro _;rfl):PG X (.Subscript o i pos) (gSub to ti t):=by
 intro zd s σ H v u Q I r h;rw[ha];refine A3 (L4 (Be (ho zd s σ H _ I h) λov s1 ⟨x,H1,I1,r1,q1⟩=> ?_));refine A3 (L4 (Be (hi zd s1 σ H1 _ I1 q1) λiv s2 ⟨y,H2,I2,r2,q2⟩=> ?_));refine A3 (P4 (A3 (L4 (Be (hs zd s2 σ H2 x y v ov iv u _ I2 r1 r2 r q2) λ_ s3 ⟨H3,I3,q3⟩=> ?_))));exact wpAny_release ⟨σ,H3,I3,q3⟩
def tAsg(te:TE)(g:TG):TS:=λD σ H=>te σ H λx H1=>g x σ H1 D.nx
def cn_9{tg e:Expr}{te:TE}{g:TG}(he:PE X e te)(hg:PG X tg g)(hs:swapsWithSole [tg] e pos.line X.env=pure false:=by rfl)(hw:swappedStores [tg] e X.env=pure none:=by rfl)
  (h1:(assignEach [tg] X.env).map (·.2)= [assign tg X.env]:=by rfl):PS X (.Assign [tg] e pos) (tAsg te g):=by
 intro zd s σ H D I h;refine wpAny_Assign_stores (Be (he zd s σ H _ I h) λv s1 ⟨x,H1,I1,r1,q1⟩=> ?_) hs hw;rw[h1];exact Be (hg zd s1 σ H1 x v _ I1 r1 q1) λ_ s2 q=>q
def co_0{i:Nat}{x:Str}{e:Expr}{te:TE}{pos':Pos}(hN:X.N.Nodup)(hi:X.N[i]? =some x)(hx:Loc X.env.scope x)(he:PE X e te)(hs:swapsWith e (some (.Name x pos')) pos.line X.env=pure false:=by rfl)(hf:X.fn x=true\/X.env.scope.names.lookup x=some .local:=by trivial):
  PS X (.Assign [.Name x pos'] e pos) (tAsg te (bb_9 i)):=by
 intro zd s σ H D I h;refine wpAny_Assign_Name (Be (he zd s σ H _ I h) λv s1 ⟨y,H1,I1,r1,q1⟩=> ?_) hs;exact at_5 I1 hN hi hx r1 (λs2 I2=>⟨_,H1,I2,q1⟩) hf
end
section
variable{X:Cx}{pos:Pos}
def dn_0(c:TT)(tb:TS):TS:=λD σ H=>∃W:Nat->St->Hp->Prop,(∃m,W m σ H)/\∀m σ H,W m σ H->
 c σ H λb H1=>if b=true then∃N:St->Hp->Prop,(∀σ' H',N σ' H'->∃m',m' < m/\W m' σ' H')/\tb {D with nx:=N,ct:=N,bk:=D.nx} σ H1 else D.nx σ H1
def co_1{c:Expr}{body:List Stmt}{tc:TT}{tb:TS}(hp:PassesOwn (model X.prog X.w) X.A X.env X.xe)(hc:PT X c tc)(hb:PSs X body tb):PS X (.While c body [] pos) (dn_0 tc tb):=by
 intro zd s σ H D I h;obtain⟨W,⟨m0,w0⟩,turn⟩:=h;refine wpAny_While (codeAny_whileLoop (λn s'=>∃σ' H',Inv X zd σ' H' s'/\W n σ' H') ?_ m0 ⟨σ,H,I,w0⟩)
 rintro n s1 ⟨σ1,H1,I1,w1⟩
 refine Q2 hp (Be (hc zd s1 σ1 H1 _ I1 (turn n σ1 H1 w1)) λb s2 ⟨H2,I2,q2⟩=> ?_);cases b with
 |true=>
  obtain⟨N,hN,q2⟩:=q2;rw[if_pos rfl];refine Q2 hp (Be (hb zd s2 σ1 H2 _ I2 q2) λf s3 q3=> ?_);cases f with
  |next=>
   obtain⟨σ3,H3,I3,n3⟩:=q3;obtain⟨m',hm,w3⟩:=hN σ3 H3 n3;exact⟨m',hm,σ3,H3,I3,w3⟩
  |cont=>
   obtain⟨σ3,H3,I3,n3⟩:=q3;obtain⟨m',hm,w3⟩:=hN σ3 H3 n3;exact⟨m',hm,σ3,H3,I3,w3⟩
  |brk=>exact q3
  |ret v=>exact q3
 |false=>
  rw[if_neg A7];exact U7 ⟨σ1,H2,I2,q2⟩
end
structure It where
 go:Nat->Hp->Prop
 yld:Nat->Hp->V->Hp->Prop
 stop:Nat->Hp->Prop
def Fj(X:Cx)(zd:AE)(H:Hp)(b:Addr):Prop:=
 H b=none/\b≠X.env.locals/\b∉X.fs/\(b∈X.ex\/X.s₀.heap.objs.size<=b)/\(∀x c,X.env.cells.lookup x=some c->c≠b)/\∀p∈X.pn ++ zd,p.1≠b
def Inv.fpOk{X:Cx}{zd:AE}{σ:St}{H H':Hp}{s:Shared}{b:Addr}(I:Inv X zd σ H s)(hb:s.heap.objs.size<=b)(hn:H' b=none):Fj X zd H' b:=by
 refine⟨hn,Y6 (C4 I.lt hb),I.nofs hb,.inr (C7 I.sz hb),λx c e z=> ?_,λp hp z=> ?_⟩
 ·obtain⟨v,q⟩:=I.cell x c e;exact absurd (C4 q.lt (by rw[z];exact hb)) (D7 _)
 ·exact absurd (C4 (A6 (I.pin p hp).1) (by rw[z];exact hb)) (D7 _)
structure Turn(P:Program)(w:World)(K:Frag)(tg:Expr)(J:It)(fp:List Addr)(it:Addr)(tn:Nat->Heap->Prop):Prop where
 mem:it∈fp
 obj:∀i h,tn i h->∀b∈fp,∃o,h.get? b=some o/\∀v,o.data≠ .cell v
 keep:∀i h h',tn i h->(∀b∈fp,∀o,h.get? b=some o->h'.get? b=some o)->tn i h'
 item:∀(X:Cx),X.prog=P->X.w=w->X.K=K->X.calm=true->∀(i:Nat) (zd:AE) (s:Shared) (σ:St) (H:Hp) (E:AA),Inv X zd σ H s->(∀b∈fp,Fj X zd H b)->tn i s.heap->J.go i H->
  wpAny (model P w) X.A (pyNext (.ref it)) (λr s1=>∃u,r=some u/\
   wpAny (model P w) X.A (letOwnedTupleGo tg (.ref it) u) (λ_ s2=>∃x H',Inv X zd σ H' s2/\RelV x u/\J.yld i H x H'/\tn (i + 1) s2.heap/\∀b∈fp,H' b=none) E s1) E s
 done:∀(X:Cx),X.prog=P->X.w=w->X.K=K->X.calm=true->∀(i:Nat) (zd:AE) (s:Shared) (σ:St) (H:Hp) (E:AA),Inv X zd σ H s->(∀b∈fp,Fj X zd H b)->tn i s.heap->J.stop i H->
  wpAny (model P w) X.A (pyNext (.ref it)) (λr s1=>r=none/\Inv X zd σ H s1) E s
 self:∀(A:Around) (i:Nat) (s:Shared) (Q:AA) (E:AA),tn i s.heap->Q (.ref it) s->wpAny (model P w) A (pyIter (.ref it)) Q E s
abbrev TI:=St->Hp->(It->Hp->Prop)->Prop
def PIE(X:Cx)(zd:AE)(σ:St)(tg:Expr)(R:It->Hp->Prop)(itv:Value)(s2:Shared):Prop:=
 ∃(it:Addr) (fp:List Addr) (tn:Nat->Heap->Prop) (J:It) (H':Hp),itv=.ref it/\Inv X zd σ H' s2/\Turn X.prog X.w X.K tg J fp it tn/\tn 0 s2.heap/\(∀b∈fp,Fj X zd H' b)/\R J H'
def PI(X:Cx)(tg iter:Expr)(wi:TI):Prop:=
 ∀(zd:AE) (s:Shared) (σ:St) (H:Hp) (R:It->Hp->Prop),Inv X zd σ H s->wi σ H R->
  wpAny (model X.prog X.w) X.A (eval iter X.env) (λv s1=>wpAny (model X.prog X.w) X.A (pyIter v) (PIE X zd σ tg R) X.xe s1) X.xe s
def bc_0{M:Model}{A:Around}{E:AA}{s:Shared}{tg:Expr}{it:Addr}{u:Value}{o:Obj}{n:String}{vs:Array Value}{Q:Unit->Shared->Prop}(ho:s.heap.get? it=some o)(hc:o.cls=.type n)(hd:o.data=.fields vs)
  (hn: ["enumerate","zip","dict_itemiterator","dict_reverseitemiterator","odict_iterator","itertools.zip_longest","itertools.pairwise"].contains n=false) (hQ:Q .unit s):wpAny M A (letOwnedTupleGo tg (.ref it) u) Q E s:=by
 unfold letOwnedTupleGo;cases tg <;> first
  |exact C5 hQ
  | (cases u <;> first
    |exact C5 hQ
    | (refine A3 (wpAny_load ho ?_)
       rw[hc,hd];show wpAny M A (if(["enumerate","zip","dict_itemiterator","dict_reverseitemiterator","odict_iterator","itertools.zip_longest","itertools.pairwise"].contains n && vs[0]? ==some (rawInt _))=true then _ else _) Q E s;rw[if_neg (by intro h;rw[hn,Bool.false_and]at h;cases h)];exact C5 hQ))
def Itl(K:Frag)(a:Addr):It:=
 ⟨λi H=>∃xs x,SqL K H a xs/\xs[i]? =some x,λi H x H'=>H'=H/\∀xs,SqL K H a xs->xs[i]? =some x,λi H=>∃xs,SqL K H a xs/\xs.length<=i⟩
def Itt(K:Frag)(a:Addr):It:=
 ⟨λi H=>∃xs x,SqT K H a xs/\xs[i]? =some x,λi H x H'=>H'=H/\∀xs,SqT K H a xs->xs[i]? =some x,λi H=>∃xs,SqT K H a xs/\xs.length<=i⟩
def Itr(lo:Int)(n:Nat):It:=⟨λi _=>i < n,λi H x H'=>H'=H/\x=.int (lo + i),λi _=>n<=i⟩
def ad_5{P:Program}{w:World}{K:Frag}{tg:Expr}(a it:Addr):Turn P w K tg (Itl K a) [it] it (λi h=>h.IsListIter it a i) where
 mem:=by simp
 obj:=λi h st b hb=>by
  have e:b=it:=by simpa using hb
  subst e;obtain⟨o,e,c,d⟩:=st;exact⟨o,e,λv z=>by rw[d]at z;cases z⟩
 keep:=λi h h' st k=>st.at λo e=>k it (by simp) o e
 item:=by
  intro X hP hw hK hc i zd s σ H E I hf st hg;subst hP hw hK;obtain⟨xs,x,hq,hx⟩:=hg;obtain⟨its,rv,p,hz⟩:=I.list hq;obtain⟨u,hu,ru⟩:=rv.get hx;obtain⟨f0,f1,f2,f3,f4,f5⟩:=hf it (by simp);refine V6 st p.isList (x:=u) (by simpa using hu) λh' st' sb=> ?_;have I1:Inv X zd σ H {s with heap:=h'}:=I.turned (t':=s.toks) (λb o hb e=>(sb.2 b hb).trans e) f0 f1 f3 f4 f5;obtain⟨o,e,c,d⟩:=id st';exact⟨u,rfl,bc_0 (s:={s with heap:=h'}) e c d ⋯ ⟨x,H,I1,ru,⟨rfl,λys hy=>by rw[I.list_inj hy hq];exact hx⟩,st',λb hb=>(hf b hb).1⟩⟩
 done:=by
  intro X hP hw hK hc i zd s σ H E I hf st hg;subst hP hw hK;obtain⟨xs,hq,hx⟩:=hg;obtain⟨its,rv,p,hz⟩:=I.list hq;obtain⟨f0,f1,f2,f3,f4,f5⟩:=hf it (by simp);have hl:=rv.length;exact wpAny_pyNext_list_end (I.ok.hd hc) st p.isList (by simp;omega) λh' eb=>⟨rfl,I.turned (t':=s.toks) (λb o hb e=>eb b o hb e) f0 f1 f3 f4 f5⟩
 self:=λ_ _ _ _ _ st h=>wpAny_pyIter_listiter st h
def bw_2{P:Program}{w:World}{K:Frag}{tg:Expr}(a it:Addr):Turn P w K tg (Itt K a) [it] it (λi h=>h.IsTupleIter it a i) where
 mem:=by simp
 obj:=λi h st b hb=>by
  have e:b=it:=by simpa using hb
  subst e;obtain⟨o,e,c,d⟩:=st;exact⟨o,e,λv z=>by rw[d]at z;cases z⟩
 keep:=λi h h' st k=>st.at λo e=>k it (by simp) o e
 item:=by
  intro X hP hw hK hc i zd s σ H E I hf st hg;subst hP hw hK;obtain⟨xs,x,hq,hx⟩:=hg;obtain⟨its,rv,p,hz⟩:=I.tuple hq;obtain⟨u,hu,ru⟩:=rv.get hx;obtain⟨f0,f1,f2,f3,f4,f5⟩:=hf it (by simp);refine wpAny_pyNext_tuple_item st (show s.heap.IsTuple a its.toArray from p) (x:=u) (by simpa using hu) λh' st' sb=> ?_;have I1:Inv X zd σ H {s with heap:=h'}:=I.turned (t':=s.toks) (λb o hb e=>(sb.2 b hb).trans e) f0 f1 f3 f4 f5;obtain⟨o,e,c,d⟩:=id st';exact⟨u,rfl,bc_0 (s:={s with heap:=h'}) e c d ⋯ ⟨x,H,I1,ru,⟨rfl,λys hy=>by rw[I.tuple_inj hy hq];exact hx⟩,st',λb hb=>(hf b hb).1⟩⟩
 done:=by
  intro X hP hw hK hc i zd s σ H E I hf st hg;subst hP hw hK;obtain⟨xs,hq,hx⟩:=hg;obtain⟨its,rv,p,hz⟩:=I.tuple hq;obtain⟨f0,f1,f2,f3,f4,f5⟩:=hf it (by simp);have hl:=rv.length;exact wpAny_pyNext_tuple_end (I.ok.hd hc) st (show s.heap.IsTuple a its.toArray from p) (by simp;omega) λh' eb=>⟨rfl,I.turned (t':=s.toks) (λb o hb e=>eb b o hb e) f0 f1 f3 f4 f5⟩
 self:=λ_ _ _ _ _ st h=>wpAny_pyIter_tupleiter st h
def bw_3{P:Program}{w:World}{K:Frag}{tg:Expr}(it:Addr)(lo:Int)(n:Nat):Turn P w K tg (Itr lo n) [it] it (λi h=>IsRangeIter h it (lo + (i:Nat) * 1) ((n:Int) - (i:Nat)) 1) where
 mem:=by simp
 obj:=λi h st b hb=>by
  have e:b=it:=by simpa using hb
  subst e;exact⟨_,st,λv z=>by
   have z':Data.fields _=Data.cell v:=z;cases z'⟩
 keep:=λi h h' st k=>k it (by simp) _ st
 item:=by
  intro X hP hw hK hc i zd s σ H E I hf st hg;subst hP hw hK;obtain⟨f0,f1,f2,f3,f4,f5⟩:=hf it (by simp);have W:=Walks.range (prog:=X.prog) (w:=X.w) (I.ok.hd hc) it lo 1 n;refine W.item i s _ _ hg st λv h' tk hv st' kk=> ?_;obtain⟨t,rfl⟩:=hv;have I1:Inv X zd σ H {s with heap:=h',toks:=tk}:=I.turned (λb o hb e=>kk b o (by simpa using hb) e) f0 f1 f3 f4 f5;refine⟨_,rfl,bc_0 (s:={s with heap:=h',toks:=tk}) (n:= "range_iterator") st' rfl rfl ⋯ ⟨.int (lo + i),H,I1,⟨t, ?_⟩,⟨rfl,rfl⟩,st',λb hb=>(hf b hb).1⟩⟩;rw[Int.mul_one]
 done:=by
  intro X hP hw hK hc i zd s σ H E I hf st hg;subst hP hw hK;obtain⟨f0,f1,f2,f3,f4,f5⟩:=hf it (by simp);exact ZC0 (I.ok.hd hc) st (by have:n<=i:=hg;omega) λh' eb=>⟨rfl,I.turned (t':=s.toks) (λb o hb e=>eb b o hb e) f0 f1 f3 f4 f5⟩
 self:=λ_ _ _ _ _ st h=>ZC1 st h
section
variable{X:Cx}{tg:Expr}
def du_5(K:Frag)(tl:TE):TI:=λ σ H R=>tl σ H λx H1=>∃a,x=.ref a/\(∃xs,SqL K H1 a xs)/\R (Itl K a) H1
def co_2{zd:AE}{σ:St}{H:Hp}{s:Shared}{R:It->Hp->Prop}{E:AA}{lo hi:Int}{t u v:Tok}{tk:Nat}(I:Inv X zd σ H s)(h1: -(2 ^ 62)<=lo)(h2:lo < 2 ^ 62)(h3: -(2 ^ 62)<=hi)(h4:hi < 2 ^ 62)
  (q:R (Itr lo (hi - lo).toNat) H):wpAny (model X.prog X.w) X.A (pyIter (.ref s.heap.objs.size)) (PIE X zd σ tg R) E {s with heap:=s.heap.push {cls:=.type "range",data:=.fields #[.int lo t,.int hi u,.int 1 v]},toks:=tk}:=by
 refine wpAny_pyIter_range (IsRange.new ..) (small_one h1 h2 h3 h4) ?_;have I1:Inv X zd σ H {s with heap:=s.heap.push {cls:=.type "range",data:=.fields #[.int lo t,.int hi u,.int 1 v]},toks:=tk}:=I.kept λb o e=>A5 _ e;refine⟨(s.heap.push {cls:=.type "range",data:=.fields #[.int lo t,.int hi u,.int 1 v]}).objs.size,[(s.heap.push {cls:=.type "range",data:=.fields #[.int lo t,.int hi u,.int 1 v]}).objs.size],_,_,H,rfl,
  I1.kept (t':=tk) λb o e=>A5 _ e,bw_3 _ lo (hi - lo).toNat, ?_,λb hb=> ?_,q⟩
 ·have e1:lo + ((0:Nat):Int) * 1=lo:=by simp
  have e2:(((hi - lo).toNat:Nat):Int) - ((0:Nat):Int)=Builtin.Range.rangeSize lo hi 1:=by rw[rangeSize_one];split <;> omega
  show IsRangeIter _ _ (lo + ((0:Nat):Int) * 1) ((((hi - lo).toNat:Nat):Int) - ((0:Nat):Int)) 1;rw[e1,e2];exact B7 _ rfl
 ·have e:b=(s.heap.push {cls:=.type "range",data:=.fields #[.int lo t,.int hi u,.int 1 v]}).objs.size:=by simpa using hb
  subst e;exact I1.fpOk (A8 _) (I1.hok.fresh (A8 _))
def du_6(ta:TA):TI:=λ σ H R=>ta σ H λvs H1=>∃j:Int,vs= [.int j]/\ -(2 ^ 62)<=j/\j < 2 ^ 62/\R (Itr 0 j.toNat) H1
def ch_2{a:Expr}{ta:TA}{p pos:Pos}(hg:Gl X "range")(hm:X.mg "range" =none)(ha:PA X [a] ta)(hs:starEach [a] X.env= [(false,eval a X.env)]:=by rfl):PI X tg (.Call (.Name "range" p) [a] [] pos) (du_6 ta):=by
 intro zd s σ H R I h;refine Call_ (r_3 I hg hm boot_range (G6 (Be (ha pos zd s σ H _ I h) λus s1 ⟨vs,H1,I1,r1,q1⟩=> ?_) hs rfl));obtain⟨j,e,q1,q2,q⟩:=q1;subst e;cases r1 with
 |cons r rr=>
  cases rr;obtain⟨t,rfl⟩:=r;exact ZE2 (co_2 I1 () () q1 q2 (by simpa using q))
def tFor(wi:TI)(g:TG)(tb:TS):TS:=λD σ H=>wi σ H λJ H1=>∃W:Nat->Nat->St->Hp->Prop,(∃m,W 0 m σ H1)/\∀i m σ H,W i m σ H->
 (J.stop i H/\D.nx σ H)\/(J.go i H/\∃N:St->Hp->Prop,(∀σ' H',N σ' H'->∃m',m' < m/\W (i + 1) m' σ' H')/\∀x H',J.yld i H x H'->g x σ H' λ σ2 H2=>tb {D with nx:=N,ct:=N,bk:=D.nx} σ2 H2)
def al_2(fp:List Addr)(h:Heap):AE:=fp.filterMap λb=>(h.get? b).map λo=>(b,o)
def q_4{fp:List Addr}{h:Heap}{b:Addr}{o:Obj}(hb:b∈fp)(e:h.get? b=some o):(b,o)∈al_2 fp h:=List.mem_filterMap.mpr ⟨b,hb,by rw[e];rfl⟩
def ch_3{fp:List Addr}{h:Heap}{p:Addr×Obj}(hp:p∈al_2 fp h):p.1∈fp/\h.get? p.1=some p.2:=by
 obtain⟨b,hb,e⟩:=List.mem_filterMap.mp hp;cases q:h.get? b with
 |none=>rw[q]at e;cases e
 |some o=>
  rw[q]at e;have e':(b,o)=p:=K2 e;subst e';exact⟨hb,q⟩
def Inv.pinned{zd:AE}{σ:St}{H:Hp}{s:Shared}{fp:List Addr}(I:Inv X zd σ H s)(hf:∀b∈fp,Fj X zd H b)(ho:∀b∈fp,∃o,s.heap.get? b=some o/\∀v,o.data≠ .cell v):Inv X (zd ++ al_2 fp s.heap) σ H s:=
 I.pins_of λp hp=>(F6.mp hp).elim (λz=>I.pin p (B1 _ z)) λz=>by
  obtain⟨hb,e⟩:=ch_3 z;obtain⟨f0,f1,f2,_⟩:=hf p.1 hb;obtain⟨o,e',d⟩:=ho p.1 hb;rw[e]at e';cases e';exact⟨e,f0,f1,f2,d⟩
def Inv.unpinned{zd pl:AE}{σ:St}{H:Hp}{s:Shared}(I:Inv X (zd ++ pl) σ H s):Inv X zd σ H s:=I.pins_of λp hp=>I.pin p (B1 _ (L9 _ hp))
def dn_1{iter:Expr}{body:List Stmt}{wi:TI}{g:TG}{tb:TS}{pos:Pos}(hp:PassesOwn (model X.prog X.w) X.A X.env X.xe)(hc:X.calm=true)(hi:PI X tg iter wi)(hg:PG X tg g)(hb:PSs X body tb)
  (hs:∀x,foldedSetIterable iter X.env x=pure x:=by intro _;rfl):PS X (.For tg iter body [] pos) (tFor wi g tb):=by
 intro zd s σ H D I h;refine wpAny_For (Be (hi zd s σ H _ I h) λv s1 h1=>Be h1 λitv s2 h2=> ?_) hs;obtain⟨it,fp,tn,J,H2,e,I2,T,st2,f2,W,⟨m0,w0⟩,turn⟩:=h2;subst e
 
 have dw:∀{H':Hp},(∀b∈fp,H' b=none)->∀b∈fp,Fj X zd H' b:=λhn b hb=>⟨hn b hb,(f2 b hb).2⟩;refine codeAny_forLoop_any (λn s'=>∃i σ' H',Inv X zd σ' H' s'/\tn i s'.heap/\(∀b∈fp,H' b=none)/\W i n σ' H') ?_ m0 ⟨0,σ,H2,I2,st2,λb hb=>(f2 b hb).1,w0⟩
 rintro n s3 ⟨i,σ3,H3,I3,st3,fr3,w3⟩
 rcases turn i n σ3 H3 w3 with⟨stop,qn⟩|⟨go,N,hN,step⟩
 ·refine Q2 hp (Be (T.done X rfl rfl rfl hc i zd s3 σ3 H3 X.xe I3 (dw fr3) st3 stop) λr s4 ⟨hr,I4⟩=> ?_);subst hr;exact U7 ⟨σ3,H3,I4,qn⟩
 ·refine Q2 hp (Be (T.item X rfl rfl rfl hc i zd s3 σ3 H3 X.xe I3 (dw fr3) st3 go) λr s4 ⟨u,hr,h4⟩=> ?_);subst hr;refine Q2 hp (Be h4 λ_ s5 ⟨x,H5,I5,r5,y5,st5,fr5⟩=> ?_);have I5':=I5.pinned (dw fr5) (T.obj _ _ st5);refine Q2 hp (Be (hg _ s5 σ3 H5 x u _ I5' r5 (step x H5 y5)) λ_ s6 ⟨σ6,H6,I6,q6⟩=> ?_);refine Q2 hp (Be (hb _ s6 σ6 H6 _ I6 q6) λf s7 q7=> ?_);have again:∀{σ7:St} {H7:Hp},Inv X (zd ++ al_2 fp s5.heap) σ7 H7 s7->N σ7 H7->∃m,m < n/\∃i σ' H',Inv X zd σ' H' s7/\tn i s7.heap/\(∀b∈fp,H' b=none)/\W i m σ' H':=λ{σ7 H7} I7 n7=>by
   obtain⟨m',hm,w7⟩:=hN σ7 H7 n7;refine⟨m',hm,i + 1,σ7,H7,I7.unpinned,T.keep _ _ _ st5 λb hb o e=>(I7.pin (b,o) (B1 _ (B1 _ (q_4 hb e)))).1,λb hb=> ?_,w7⟩;obtain⟨o,e,d⟩:=T.obj _ _ st5 b hb;exact(I7.pin (b,o) (B1 _ (B1 _ (q_4 hb e)))).2.1
  cases f with
  |next=>obtain⟨σ7,H7,I7,n7⟩:=q7;exact again I7 n7
  |cont=>obtain⟨σ7,H7,I7,n7⟩:=q7;exact again I7 n7
  |brk=>obtain⟨σ7,H7,I7,q7⟩:=q7;exact⟨σ7,H7,I7.unpinned,q7⟩
  |ret v=>obtain⟨x7,σ7,H7,I7,r7,q7⟩:=q7;exact⟨x7,σ7,H7,I7.unpinned,r7,q7⟩
end
abbrev R2:=V->V->Hp->VK->Prop
def OpR(X:Cx)(f:Value->Value->Sem Value)(r:R2):Prop:=
 ∀(zd:AE) (s:Shared) (σ:St) (H:Hp) (x y:V) (v u:Value) (Q:VK),Inv X zd σ H s->RelV x v->RelV y u->r x y H Q->
  wpAny (model X.prog X.w) X.A (f v u) (EP X zd σ Q) X.xe s
def UnR(X:Cx)(f:Value->Sem Value)(r:V->Hp->VK->Prop):Prop:=
 ∀(zd:AE) (s:Shared) (σ:St) (H:Hp) (x:V) (v:Value) (Q:VK),Inv X zd σ H s->RelV x v->r x H Q->
  wpAny (model X.prog X.w) X.A (f v) (EP X zd σ Q) X.xe s
def CallR(X:Cx)(f:Value)(r:List V->Hp->VK->Prop):Prop:=
 ∀(zd:AE) (s:Shared) (σ:St) (H:Hp) (xs:List V) (us:List Value) (Q:VK),Inv X zd σ H s->Vals xs us->r xs H Q->
  wpAny (model X.prog X.w) X.A (call f us) (EP X zd σ Q) X.xe s
def TruR(X:Cx)(r:V->Hp->(Bool->Hp->Prop)->Prop):Prop:=
 ∀(zd:AE) (s:Shared) (σ:St) (H:Hp) (x:V) (v:Value) (Q:Bool->Hp->Prop),Inv X zd σ H s->RelV x v->r x H Q->
  wpAny (model X.prog X.w) X.A (truthy v) (TP X zd σ Q) X.xe s
def tOp(r:R2)(ta tb:TE):TE:=λ σ H Q=>ta σ H λx H1=>tb σ H1 λy H2=>r x y H2 Q
def tUn(r:V->Hp->VK->Prop)(ta:TE):TE:=λ σ H Q=>ta σ H λx H1=>r x H1 Q
def rI(C:Int->Int->Prop)(g:Int->Int->V):R2:=λx y H Q=>∃i j,x=.int i/\y=.int j/\C i j/\Q (g i j) H
def rI0(g:Int->Int->V):R2:=λx y H Q=>∃i j,x=.int i/\y=.int j/\Q (g i j) H
def rU(g:Int->V):V->Hp->VK->Prop:=λx H Q=>∃i,x=.int i/\Q (g i) H
section
variable{X:Cx}{a b c:Expr}{ta tb tc:TE}{pos:Pos}
def binT(ha:PE X a ta)(hb:PE X b tb){zd:AE}{s:Shared}{σ:St}{H:Hp}{R:V->V->Hp->Prop}(I:Inv X zd σ H s)
  (h:ta σ H λx H1=>tb σ H1 λy H2=>R x y H2) {Q:AA} {f:Value->Value->Sem Value}
  (hf:∀v u s2 x y H2,Inv X zd σ H2 s2->RelV x v->RelV y u->R x y H2->wpAny (model X.prog X.w) X.A (f v u) Q X.xe s2):
  wpAny (model X.prog X.w) X.A (eval a X.env) (λv s₁=>wpAny (model X.prog X.w) X.A (eval b X.env) (λu s₂=>wpAny (model X.prog X.w) X.A (f v u) Q X.xe s₂) X.xe s₁) X.xe s:=by
 refine Be (ha zd s σ H _ I h) λv s1 ⟨x,H1,I1,r1,q1⟩=> ?_;refine Be (hb zd s1 σ H1 _ I1 q1) λu s2 ⟨y,H2,I2,r2,q2⟩=> ?_;exact hf v u s2 x y H2 I2 r1 r2 q2
def dj_6{op:Operator}{r:R2}(ho:OpR X (binaryOp op) r)(ha:PE X a ta)(hb:PE X b tb):PE X (.BinOp a op b pos) (tOp r ta tb):=by
 intro zd s σ H Q I h;exact wpAny_BinOp (binT ha hb I h λv u s2 x y H2 I2 rx ry q=>ho zd s2 σ H2 x y v u Q I2 rx ry q)
def du_7{op:UnaryOp}{r:V->Hp->VK->Prop}(ho:UnR X (unaryOp op) r)(ha:PE X a ta):PE X (.UnaryOp op a pos) (tUn r ta):=by
 intro zd s σ H Q I h;exact UnaryOp_ (Be (ha zd s σ H _ I h) λv s1 ⟨x,H1,I1,r1,q1⟩=>ho zd s1 σ H1 x v Q I1 r1 q1)
def opI{f:Value->Value->Sem Value}{C:Int->Int->Prop}{g:Int->Int->Int}
  (rule:∀(i j:Int) (t u:Tok) (s:Shared) (Q:AA) (E:AA),C i j->Q (.int (g i j) s.toks) {s with toks:=s.toks + 1}->wpAny (model X.prog X.w) X.A (f (.int i t) (.int j u)) Q E s):
  OpR X f (rI C λi j=> .int (g i j)):=by
 intro zd s σ H x y v u Q I rx ry h;obtain⟨i,j,rfl,rfl,hc,q⟩:=h;obtain⟨t,rfl⟩:=rx;obtain⟨t',rfl⟩:=ry;exact rule i j t t' s _ _ hc ⟨.int (g i j),H,I.tok _,⟨_,rfl⟩,q⟩
def opI0{f:Value->Value->Sem Value}{g:Int->Int->Int}
  (rule:∀(i j:Int) (t u:Tok) (s:Shared) (Q:AA) (E:AA),Q (.int (g i j) s.toks) {s with toks:=s.toks + 1}->wpAny (model X.prog X.w) X.A (f (.int i t) (.int j u)) Q E s):
  OpR X f (rI0 λi j=> .int (g i j)):=by
 intro zd s σ H x y v u Q I rx ry h;obtain⟨i,j,rfl,rfl,q⟩:=h;obtain⟨t,rfl⟩:=rx;obtain⟨t',rfl⟩:=ry;exact rule i j t t' s _ _ ⟨.int (g i j),H,I.tok _,⟨_,rfl⟩,q⟩
def opB0{f:Value->Value->Sem Value}{g:Int->Int->Bool}
  (rule:∀(i j:Int) (t u:Tok) (s:Shared) (Q:AA) (E:AA),Q (.bool (g i j)) s->wpAny (model X.prog X.w) X.A (f (.int i t) (.int j u)) Q E s):
  OpR X f (rI0 λi j=> .bl (g i j)):=by
 intro zd s σ H x y v u Q I rx ry h;obtain⟨i,j,rfl,rfl,q⟩:=h;obtain⟨t,rfl⟩:=rx;obtain⟨t',rfl⟩:=ry;exact rule i j t t' s _ _ ⟨.bl (g i j),H,I,rfl,q⟩
def CPow(i j:Int):Prop:=0<=j/\j<=1000000/\i.natAbs < 2 ^ 64
def CMul(i j:Int):Prop:=(-(2 ^ 64) < i/\i < 2 ^ 64)\/(-(2 ^ 64) < j/\j < 2 ^ 64)
def CMul.ok{i j:Int}(h:CMul i j):IntMulOk i j:=by
 rcases h with⟨h1,h2⟩|⟨h1,h2⟩
 ·exact .of_left (intBits_le_64 h1 h2)
 ·exact .of_right (intBits_le_64 h1 h2)
def dn_4:OpR X (binaryOp .Add) (rI0 λi j=> .int (i + j)):=opI0 λ_ _ _ _ _ _ _ q=>add_int q
def dn_5:OpR X (binaryOp .Mult) (rI CMul λi j=> .int (i * j)):=opI λ_ _ _ _ _ _ _ hc q=>mul_int q hc.ok
def dn_6:OpR X (binaryOp .Mod) (rI (λ_ j=>0 < j) λi j=> .int (i % j)):=opI λi j _ _ _ _ _ hc q=>by
 have h1:(0:Int) < j:=hc;exact mod_int' () (by rw[Int.fmod_eq_emod_of_nonneg i ()];exact q)
def dn_7:OpR X (binaryOp .Pow) (rI CPow λi j=> .int (i ^ j.toNat)):=opI λ_ _ _ _ _ _ _ hc q=>pow_int_small hc.1 hc.2.1 hc.2.2 q
def unI{f:Value->Sem Value}{g:Int->Int}
  (rule:∀(i:Int) (t:Tok) (s:Shared) (Q:AA) (E:AA),Q (.int (g i) s.toks) {s with toks:=s.toks + 1}->wpAny (model X.prog X.w) X.A (f (.int i t)) Q E s):
  UnR X f (rU λi=> .int (g i)):=by
 intro zd s σ H x v Q I rx h;obtain⟨i,rfl,q⟩:=h;obtain⟨t,rfl⟩:=rx;exact rule i t s _ _ ⟨.int (g i),H,I.tok _,⟨_,rfl⟩,q⟩
def dn_8:UnR X (unaryOp .USub) (rU λi=> .int (-i)):=unI λ_ _ _ _ _ q=>neg_int q
end
def scal:V->V->Bool
 | .non,.non=>true| .non,.int _=>true| .int _,.non=>true| .non,.bl _=>true| .bl _,.non=>true| .non,.str _=>true| .str _,.non=>true
 | .int _,.int _=>true| .bl _,.bl _=>true| .str _,.str _=>true| .byt _,.byt _=>true
 | .int _,.str _=>true| .str _,.int _=>true| .bl _,.str _=>true| .str _,.bl _=>true
 |_,_=>false
def rEq:R2:=λx y H Q=>scal x y=true/\Q (.bl (decide (x=y))) H
def rNe:R2:=λx y H Q=>scal x y=true/\Q (.bl (!decide (x=y))) H
def ca_9{i j:Int}:decide (V.int i=V.int j)=(i ==j):=by
 rw[P1];simp
def co_3{i j:Bool}:decide (V.bl i=V.bl j)=(i ==j):=by
 rw[P1];simp
def cb_0{i j:Str}:decide (V.str i=V.str j)=(i ==j):=by
 rw[P1];simp
def cb_1{i j:Array UInt8}:decide (V.byt i=V.byt j)=(i.toList ==j.toList):=by
 rw[P1];cases i;cases j;simp
section
variable{X:Cx}{a b c:Expr}{ta tb tc:TE}{pos:Pos}
def Dm{zd:AE}{σ:St}{H:Hp}{s:Shared}{Q:VK}{k k':Bool}(I:Inv X zd σ H s)(q:Q (.bl k) H)(e:k=k'):EP X zd σ Q (.bool k') s:=by
 subst e;exact⟨.bl k,H,I,rfl,q⟩
def dv_0:OpR X (compareOp .Eq) rEq:=by
 intro zd s σ H x y v u Q I rx ry h;obtain⟨hs,q⟩:=h;cases x with
 |non=>
  cases rx;cases y with
  |non=>cases ry;exact PySem.EqNone.eq_none_none (Dm I q (by simp))
  |bl j=>cases ry;exact PySem.EqNone.eq_none_bool (Dm I q (by simp))
  |int j=>obtain⟨t',rfl⟩:=ry;exact PySem.EqNone.eq_none_int (Dm I q (by simp))
  |str j=>obtain⟨t',rfl⟩:=ry;exact PySem.EqNone.eq_none_str (Dm I q (by simp))
  |_=>exact absurd (show false=true from hs) A7
 |bl i=>
  cases rx;cases y with
  |non=>cases ry;exact PySem.EqNone.eq_bool_none (Dm I q (by simp))
  |bl j=>cases ry;exact eq_bool (Dm I q co_3)
  |str j=>obtain⟨t',rfl⟩:=ry;exact PySem.EqMixed.eq_bool_str (Dm I q (by simp))
  |_=>exact absurd (show false=true from hs) A7
 |int i=>
  obtain⟨t,rfl⟩:=rx;cases y with
  |non=>cases ry;exact PySem.EqNone.eq_int_none (Dm I q (by simp))
  |int j=>obtain⟨t',rfl⟩:=ry;exact eq_int (Dm I q ca_9)
  |str j=>obtain⟨t',rfl⟩:=ry;exact PySem.EqMixed.eq_int_str (Dm I q (by simp))
  |_=>exact absurd (show false=true from hs) A7
 |str i=>
  obtain⟨t,rfl⟩:=rx;cases y with
  |non=>cases ry;exact PySem.EqNone.eq_str_none (Dm I q (by simp))
  |bl j=>cases ry;exact PySem.EqMixed.eq_str_bool (Dm I q (by simp))
  |int j=>obtain⟨t',rfl⟩:=ry;exact PySem.EqMixed.eq_str_int (Dm I q (by simp))
  |str j=>obtain⟨t',rfl⟩:=ry;exact eq_str (Dm I q cb_0)
  |_=>exact absurd (show false=true from hs) A7
 |byt i=>
  obtain⟨t,rfl⟩:=rx;cases y with
  |byt j=>obtain⟨t',rfl⟩:=ry;exact eq_bytes (Dm I q cb_1)
  |_=>exact absurd (show false=true from hs) A7
 |_=>cases y <;> exact absurd (show false=true from hs) A7
def dv_1:OpR X (compareOp .NotEq) rNe:=by
 intro zd s σ H x y v u Q I rx ry h;obtain⟨hs,q⟩:=h;cases x with
 |non=>
  cases rx;cases y with
  |non=>cases ry;exact PySem.EqNone.ne_none_none (Dm I q (by simp))
  |bl j=>cases ry;exact PySem.EqNone.ne_none_bool (Dm I q (by simp))
  |int j=>obtain⟨t',rfl⟩:=ry;exact PySem.EqNone.ne_none_int (Dm I q (by simp))
  |str j=>obtain⟨t',rfl⟩:=ry;exact PySem.EqNone.ne_none_str (Dm I q (by simp))
  |_=>exact absurd (show false=true from hs) A7
 |bl i=>
  cases rx;cases y with
  |non=>cases ry;exact PySem.EqNone.ne_bool_none (Dm I q (by simp))
  |bl j=>cases ry;exact ne_bool (Dm I q (L6 not co_3))
  |str j=>obtain⟨t',rfl⟩:=ry;exact PySem.EqMixed.ne_bool_str (Dm I q (by simp))
  |_=>exact absurd (show false=true from hs) A7
 |int i=>
  obtain⟨t,rfl⟩:=rx;cases y with
  |non=>cases ry;exact PySem.EqNone.ne_int_none (Dm I q (by simp))
  |int j=>obtain⟨t',rfl⟩:=ry;exact ne_int (Dm I q (L6 not ca_9))
  |str j=>obtain⟨t',rfl⟩:=ry;exact PySem.EqMixed.ne_int_str (Dm I q (by simp))
  |_=>exact absurd (show false=true from hs) A7
 |str i=>
  obtain⟨t,rfl⟩:=rx;cases y with
  |non=>cases ry;exact PySem.EqNone.ne_str_none (Dm I q (by simp))
  |bl j=>cases ry;exact PySem.EqMixed.ne_str_bool (Dm I q (by simp))
  |int j=>obtain⟨t',rfl⟩:=ry;exact PySem.EqMixed.ne_str_int (Dm I q (by simp))
  |str j=>obtain⟨t',rfl⟩:=ry;exact ne_str (Dm I q (L6 not cb_0))
  |_=>exact absurd (show false=true from hs) A7
 |byt i=>
  obtain⟨t,rfl⟩:=rx;cases y with
  |byt j=>obtain⟨t',rfl⟩:=ry;exact ne_bytes (Dm I q (L6 not cb_1))
  |_=>exact absurd (show false=true from hs) A7
 |_=>cases y <;> exact absurd (show false=true from hs) A7
def dv_2:OpR X (compareOp .Lt) (rI0 λi j=> .bl (decide (i < j))):=opB0 λ_ _ _ _ _ _ _ q=>lt_int q
def dv_3:OpR X (compareOp .LtE) (rI0 λi j=> .bl (decide (i<=j))):=opB0 λ_ _ _ _ _ _ _ q=>le_int q
def dv_4:OpR X (compareOp .Gt) (rI0 λi j=> .bl (decide (j < i))):=opB0 λ_ _ _ _ _ _ _ q=>gt_int q
def ch_4:OpR X (compareOp .In) (λx y H Q=>∃i j,x=.str i/\y=.str j/\Q (.bl (!(Builtin.Str.occurrences j i 0 j.length 1).isEmpty)) H):=by
 intro zd s σ H x y v u Q I rx ry h;obtain⟨i,j,rfl,rfl,q⟩:=h;obtain⟨t,rfl⟩:=rx;obtain⟨t',rfl⟩:=ry;exact in_str (Dm I q rfl)
def dn_9:OpR X (compareOp .Is) (λx y H Q=>y=.non/\Q (.bl (decide (x=.non))) H):=by
 intro zd s σ H x y v u Q I rx ry h;obtain⟨rfl,q⟩:=h;cases ry;refine is_none_gen (Dm I q ?_);cases x <;> first
  |(cases rx;rfl)
  |(obtain⟨t,rfl⟩:=rx;rfl)
def OpR.or{f:Value->Value->Sem Value}{r r':R2}(h:OpR X f r)(h':OpR X f r'):OpR X f (λx y H Q=>r x y H Q\/r' x y H Q):=by
 intro zd s σ H x y v u Q I rx ry q;rcases q with q|q
 ·exact h zd s σ H x y v u Q I rx ry q
 ·exact h' zd s σ H x y v u Q I rx ry q
def Ct(b:Expr){op:CmpOp}(h:op≠ .In:=by decide)(h2:op≠ .NotIn:=by decide):behindInMarks op b=false:=by
 have e1:(op ==CmpOp.In)=false:=by cases op <;> first|rfl|exact absurd rfl h
 have e2:(op ==CmpOp.NotIn)=false:=by cases op <;> first|rfl|exact absurd rfl h2
 cases b <;> simp[behindInMarks,e1,e2]
def db_1{op:CmpOp}{r:R2}(ho:OpR X (compareOp op) r)(ha:PE X a ta)(hb:PE X b tb)(hm:behindInMarks op b=false):PE X (.Compare a [op] [b] pos) (tOp r ta tb):=by
 intro zd s σ H Q I h;exact wpAny_Compare1 (binT ha hb I h λv u s2 x y H2 I2 rx ry q=>ho zd s2 σ H2 x y v u Q I2 rx ry q) hm
def dv_5(t:TE):TT:=λ σ H Q=>t σ H λx H'=>∃k,x=.bl k/\Q k H'
def db_2{op:CmpOp}{r:R2}(ho:OpR X (compareOp op) r)(ha:PE X a ta)(hb:PE X b tb)(hm:behindInMarks op b=false):PT X (.Compare a [op] [b] pos) (dv_5 (tOp r ta tb)):=by
 intro zd s σ H Q I h;refine wpAny_isTrue_Compare1 (Be (ha zd s σ H _ I h) λv s1 ⟨x,H1,I1,r1,q1⟩=>Be (hb zd s1 σ H1 _ I1 q1) λu s2 ⟨y,H2,I2,r2,q2⟩=>
  Be (ho zd s2 σ H2 x y v u _ I2 r1 r2 q2) λc s3 ⟨z,H3,I3,r3,k,e,q3⟩=> ?_) hm
 subst e;cases r3;exact Q5 ⟨H3,I3,q3⟩
def co_4(r r':R2)(ta tb tc:TE):TE:=λ σ H Q=>ta σ H λx H1=>tb σ H1 λy H2=>r x y H2 λz H3=>∃k,z=.bl k/\
 (if k=true then tc σ H3 λw' H4=>r' y w' H4 Q else Q (.bl false) H3)
def co_5{op op':CmpOp}{r r':R2}(ho:OpR X (compareOp op) r)(ho':OpR X (compareOp op') r')(ha:PE X a ta)(hb:PE X b tb)(hc:PE X c tc)
  (hm:lastMarks [op,op'] [b,c]=false:=by with_unfolding_all rfl):PE X (.Compare a [op,op'] [b,c] pos) (co_4 r r' ta tb tc):=by
 intro zd s σ H Q I h;refine Compare_chain (Be (ha zd s σ H _ I h) λv s1 ⟨x,H1,I1,r1,q1⟩=>chain_link (Be (hb zd s1 σ H1 _ I1 q1) λu s2 ⟨y,H2,I2,r2,q2⟩=>
  Be (ho zd s2 σ H2 x y v u _ I2 r1 r2 q2) λd s3 ⟨z,H3,I3,r3,k,e,q3⟩=> ?_)) hm
 subst e;cases r3;refine Q5 ?_;cases k with
 |false=>exact ite_ff ⟨.bl false,H3,I3,rfl,q3⟩
 |true=>exact ite_tt (chain_last (Be (hc zd s3 σ H3 _ I3 q3) λw' s4 ⟨z',H4,I4,r4,q4⟩=>ho' zd s4 σ H4 y z' u w' Q I4 r2 r4 q4))
def TruV(K:Frag)(x:V)(H:Hp)(k:Bool):Prop:=
 match x with
 | .non=>k=false
 | .bl b=>k=b
 | .int i=>k=(i != 0)
 | .str y=>y.length<=sizeLine/\k=((y.length:Int) != 0)
 | .byt y=>y.size<=sizeLine/\k=((y.size:Int) != 0)
 | .ref p=>(∃xs,SqL K H p xs/\k= !xs.isEmpty)\/(∃xs,SqT K H p xs/\k= !xs.isEmpty)\/∃kvs,H p=some (.dK kvs)/\k= !kvs.isEmpty
 |_=>False
def bw_4{κ:Type}{kvs:List (κ×V)}{vs:List (κ×Value)}(r:KV kvs vs):(!vs.isEmpty)= !kvs.isEmpty:=by
 cases r <;> rfl
def at_6{xs:List V}{its:List Value}(r:Vals xs its):(!its.toArray.isEmpty)= !xs.isEmpty:=by
 cases r <;> simp
def ag_4:(sizeLine:Nat) < 2 ^ 63:=by rw[D5];decide
def do_1:TruR X (λx H Q=>∃k,TruV X.K x H k/\Q k H):=by
 intro zd s σ H x v Q I rx h;obtain⟨k,e,q⟩:=h;have hl:=ag_4;have hs:sizeLine=16777216:=D5;cases x with
 |non=>
  cases rx;have e':k=false:=e;subst e';exact truthy_none ⟨H,I,q⟩
 |bl b=>
  cases rx;have e':k=b:=e;subst e';exact Q5 ⟨H,I,q⟩
 |int i=>
  obtain⟨t,rfl⟩:=rx;have e':k=(i != 0):=e;subst e';exact PySem.P.truthy_int ⟨H,I,q⟩
 |str y=>
  obtain⟨t,rfl⟩:=rx;obtain⟨hy,e'⟩:y.length<=sizeLine/\k=((y.length:Int) != 0):=e;subst e';exact PySem.P.truthy_str () ⟨H,I.tok _,q⟩
 |byt y=>
  obtain⟨t,rfl⟩:=rx;obtain⟨hy,e'⟩:y.size<=sizeLine/\k=((y.size:Int) != 0):=e;subst e';exact truthy_bytes () ⟨H,I.tok _,q⟩
 |ref p=>
  cases rx;have e':(∃xs,SqL X.K H p xs/\k= !xs.isEmpty)\/(∃xs,SqT X.K H p xs/\k= !xs.isEmpty)\/∃kvs,H p=some (.dK kvs)/\k= !kvs.isEmpty:=e;rcases e' with⟨xs,hx,e'⟩|⟨xs,hx,e'⟩|⟨kvs,hx,e'⟩
  ·subst e';obtain⟨its,r,pl,hz⟩:=I.list hx;have zk:=r.length;exact wpAny_truthy_list pl.isList (by simp only[C8];omega) ⟨H,I.tok _,by rw[at_6 r];exact q⟩
  ·subst e';obtain⟨its,r,pl,hz⟩:=I.tuple hx;have zk:=r.length;exact truthy_tuple pl (by simp only[C8];omega) ⟨H,I.tok _,by rw[at_6 r];exact q⟩
  ·subst e';obtain⟨hz,hS,vs,r,m⟩:kvs.length<=sizeLine/\(p ==sysModules)=false/\∃vs,KV kvs vs/\s.heap.DictOf (h_7 X.prog X.w) p vs:=I.hok p _ hx;have zk:kvs.length=vs.length:=S6 r;exact wpAny_truthy_dict hS m () ⟨H,I.tok _,by rw[bw_4 r];exact q⟩
 |_=>exact(show False from e).elim
def co_6(ha:PE X a ta)(he:∀whole,isTrue a X.env whole=(do let v<-whole;standAt a.pos;holding [v] (truthy v))):
  PT X a (λ σ H Q=>ta σ H λx H'=>∃k,TruV X.K x H' k/\Q k H'):=by
 intro zd s σ H Q I h;exact isTrue_plain (Be (ha zd s σ H _ I h) λv s1 ⟨x,H1,I1,r1,q1⟩=>do_1 zd s1 σ H1 x v Q I1 r1 q1) (he _)
def bw_5:OpR X (binaryOp .Add) (λx y H Q=>∃i j,x=.str i/\y=.str j/\i.length + j.length<=sizeLine/\Q (.str (i ++ j)) H):=by
 intro zd s σ H x y v u Q I rx ry h;obtain⟨i,j,rfl,rfl,hz,q⟩:=h;obtain⟨t,rfl⟩:=rx;obtain⟨t',rfl⟩:=ry;exact add_str (λt' tk=>⟨.str (i ++ j),H,I.tok _,⟨_,rfl⟩,q⟩) hz
def bo_3{x:V}{us:List Value}(r:Vals [x] us):∃u,us= [u]/\RelV x u:=by
 cases r with
 |cons r1 r2=>cases r2;exact⟨_,rfl,r1⟩
def dj_7{x y:V}{us:List Value}(r:Vals [x,y] us):∃u w',us= [u,w']/\RelV x u/\RelV y w':=by
 cases r with
 |cons r1 r2=>
  cases r2 with
  |cons r3 r4=>cases r4;exact⟨_,_,rfl,r1,r3⟩
def ch_5(hc:X.calm=true):CallR X (.builtin "max") (λxs H Q=>∃i j,xs= [.int i,.int j]/\Q (.int (if j > i then j else i)) H):=by
 intro zd s σ H xs us Q I r h;obtain⟨i,j,rfl,q⟩:=h;obtain⟨u,w',rfl,⟨t,rfl⟩,⟨t',rfl⟩⟩:=dj_7 r;refine max_two_ints (I.ok.hd hc) λh' tk k=>⟨_,H,I.kept k, ?_,q⟩
 by_cases hj:j > i
 ·rw[if_pos hj,if_pos hj];exact⟨_,rfl⟩
 ·rw[if_neg hj,if_neg hj];exact⟨_,rfl⟩
def ch_6(hc:X.calm=true):CallR X (.builtin "min") (λxs H Q=>∃i j,xs= [.int i,.int j]/\Q (.int (if j < i then j else i)) H):=by
 intro zd s σ H xs us Q I r h;obtain⟨i,j,rfl,q⟩:=h;obtain⟨u,w',rfl,⟨t,rfl⟩,⟨t',rfl⟩⟩:=dj_7 r;refine min_two_ints (I.ok.hd hc) λh' tk k=>⟨_,H,I.kept k, ?_,q⟩
 by_cases hj:j < i
 ·rw[if_pos hj,if_pos hj];exact⟨_,rfl⟩
 ·rw[if_neg hj,if_neg hj];exact⟨_,rfl⟩
def bc_1:CallR X (.type "int") (λxs H Q=>(∃i,xs= [.int i]/\Q (.int i) H)\/∃k,xs= [.bl k]/\Q (.int (if k then 1 else 0)) H):=by
 intro zd s σ H xs us Q I r h;rcases h with⟨i,rfl,q⟩|⟨k,rfl,q⟩
 ·obtain⟨u,rfl,t,rfl⟩:=bo_3 r;exact call_int_int ⟨.int i,H,I,⟨_,rfl⟩,q⟩
 ·obtain⟨u,rfl,r1⟩:=bo_3 r;cases r1;exact call_int_bool ⟨.int (if k then 1 else 0),H,I.tok _,⟨_,rfl⟩,q⟩
end
structure ObjM(h:Heap)(x dx C:Addr)(mA:AB):Prop where
 obj:h.get? x=some (instObj C dx)
 ns:h.Ns1 dx mA
 ne:dx≠x
def bc_2{h:Heap}{dx:Addr}{mA:AB}(n:h.Ns1 dx mA):∃od,h.get? dx=some od/\∀name,lookIn name od=some (mA name):=by
 obtain⟨o,es,ep,ho,hd,hk,_,hm⟩:=n;refine⟨o,ho,λname=> ?_⟩;have e:=hm name;unfold nsFind findBy at e;rw[<-Array.find?_toList]at e;unfold lookIn;rw[hd];dsimp only
 split
 ·rename_i y q;rw[q]at e;exact L6 some e
 ·rename_i q;rw[q]at e;have a:es.toList.any (·.refKey)=false:=by
   rw[List.any_eq_false];intro y hy;obtain⟨z,t,gz⟩:=hk y (Array.mem_toList_iff.mp hy);simp[DictEntry.refKey,gz]
  have a':¬es.toList.any (·.refKey)=true:=by rw[a];exact A7
  rw[if_neg a'];exact L6 some e
def ObjM.look{h:Heap}{x dx C:Addr}{mA:AB}(I:ObjM h x dx C mA):∃od,InstAt h x (instObj C dx) C (some od)/\∀name,lookIn name od=some (mA name):=
 let⟨od,ho,hl⟩:=bc_2 I.ns
 ⟨od,⟨I.obj,rfl,rfl,ho⟩,hl⟩
section
variable{prog:Program}{w:World}{A:Around}{E:AA}{s:Shared}{K:Frag}{x dx C f:Addr}{mA:AB}{name:Str}{v:Value}
def db_3{expr:Bool}{Q:AA}(X:K.In s.heap)(I:ObjM s.heap x dx C mA)(hg:plainGet K C name=true)(hh:hasDictIn K C=true)
  (ha:findIn K (.ref C) name=some none) (hv:mA name=some v) (hv':handedIn v=true) (h:Q v {s with toks:=s.toks + 1}):
  wpAny (model prog w) A (getAttr (.ref x) name expr) Q E s:=by
 obtain⟨od,J,hl⟩:=I.look;exact get_value X J (ZD4 hg).1 (findObj_own hh ha rfl (by rw[hl,hv])) hv' h
def co_7{pl:Sem Bool}{Q:Value×List Value->Shared->Prop}(X:K.In s.heap)(I:ObjM s.heap x dx C mA)(hg:plainGet K C name=true)
  (hf:findIn K (.ref C) name=some (some (.ref f))) (ht:isFn K (.ref f)=true) (hv:mA name=none) (h:Q (.ref f,[.ref x]) s):
  wpAny (model prog w) A (getMethod (.ref x) name pl) Q E s:=by
 obtain⟨od,J,hl⟩:=I.look;exact method_fn X J (ZD4 hg).1 (ZD4 hg).2 hf (M0.mp ht) (by show(lookIn name od).map (·.isSome)=some false;rw[hl,hv];rfl) h
def db_4{ns:List Str}{Q:Unit->Shared->Prop}(X:K.In s.heap)(I:ObjM s.heap x dx C mA)
  (hs:findIn K (.ref C) "__setattr__" =some (some (.builtin "object.__setattr__"))) (hp:plainOver K C=true) (ht:takerIn K C name=some none) (hh:hasDictIn K C=true)
  (hw:PySem.Within mA ns) (hsz:ns.length<=sizeLine)
  (h:∀h',ObjM h' x dx C (λy=>if y=name then some v else mA y)->Heap.SameBut dx s.heap h'->Q .unit {s with heap:=h',toks:=s.toks + 2}):
  wpAny (model prog w) A (setAttr (.ref x) name v) Q E s:=by
 obtain⟨od,J,hl⟩:=I.look;refine set_plain X J hs (osa_open (s:={s with toks:=s.toks + 1}) (r:=none) X J hp ht λb=> ?_);obtain⟨cd,hc,hd'⟩:=ZA7 hh;have hx:s.heap.get? x=some ⟨.ref C,some dx,.plain, #[]⟩:=I.obj;refine A3 (C5 (A3 (A3 (ZD5 hx (A3 (ZE1 (s:={s with toks:=s.toks + 1}) (ZD2 X hc) ?_))))));rw[hd'];refine C5 (a:=some dx) (A3 (C5 (A3 ?_)));refine wpAny_nsSet1 (s:={s with toks:=s.toks + 1}) I.ns λh' hn2 hs2=> ?_;obtain⟨oD,esD,epD,hoD,hdD,hcD⟩:=hn2.count (PySem.Within.cons name v hw);refine A3 (wpAny_lookBehind hoD (by rw[hdD];exact pastItsLine_dict (C7 hcD (by rw[C6];omega))) ?_);exact C5 (h _ ⟨(hs2.2 _ (Ne.symm I.ne)).trans I.obj,hn2,I.ne⟩ hs2)
def co_8{R:Result->Shared->Prop}{vs:List Value}{kw:List (Str×Value)}(X:K.In s.heap)(hm:makesIn K C=true)
  (hi:findIn K (.ref C) "__init__" =some (some (.ref f))) (hf:typeIn K (.ref f)=some (.type "function"))
  (h:codeAny (model prog w) (A.under (.builtin "type.__call__" ⟨.ref C::vs,kw⟩)) (.call (.ref f) ⟨.ref (s.heap.objs.size + 1)::vs,kw⟩) (InitBack (s.heap.objs.size + 1) R)
   {s with heap:=(s.heap.push emptyDict).push (instObj C s.heap.objs.size)}):
  codeAny (model prog w) A (.call (.ref C) ⟨vs,kw⟩) R s:=by
 obtain⟨hh,g,d,t,os⟩:=s;exact make_core (makes_of X hm) (U2 X hi) (λself=>bind_fn X self hf) (.inl rfl) h
end
def x_8(f:Str)(v:V):List (Str×V)->List (Str×V)
 | []=> [(f,v)]
 |(g,x)::r=>if g=f then(g,v)::r else(g,x)::x_8 f v r
theorem an_7(f g:Str)(v:V):∀fs:List (Str×V),(x_8 f v fs).lookup g=if g=f then some v else fs.lookup g
 | []=>by
  show List.lookup g [(f,v)]=_
  by_cases h:g=f
  ·have hb:(g ==f)=true:=M0.mpr h;simp only[List.lookup,hb,if_pos h]
  ·have hb:(g ==f)=false:=N7.mpr h;simp only[List.lookup,hb,if_neg h]
 |(k,x)::r=>by
  have ih:=an_7 f g v r;rw[show x_8 f v ((k,x)::r)=(if k=f then(k,v)::r else(k,x)::x_8 f v r) from rfl]
  by_cases hk:k=f
  ·rw[if_pos hk]
   by_cases h:g=k
   ·have hb:(g ==k)=true:=M0.mpr h;simp only[List.lookup,hb,if_pos (h.trans hk)]
   ·have hb:(g ==k)=false:=N7.mpr h;simp only[List.lookup,hb,if_neg (λe:g=f=>h (e.trans hk.symm))]
  ·rw[if_neg hk]
   by_cases h:g=k
   ·have hb:(g ==k)=true:=M0.mpr h;simp only[List.lookup,hb,if_neg (λe:g=f=>hk (h.symm.trans e))]
   ·have hb:(g ==k)=false:=N7.mpr h;simp only[List.lookup,hb];exact ih
theorem al_3(f:Str)(v:V):∀fs:List (Str×V),f∈(x_8 f v fs).map (·.1)/\∀g,g∈fs.map (·.1)->g∈(x_8 f v fs).map (·.1)
 | []=>⟨by simp[x_8],λg h=>by simp at h⟩
 |(k,x)::r=>by
  obtain⟨i1,i2⟩:=al_3 f v r;rw[show x_8 f v ((k,x)::r)=(if k=f then(k,v)::r else(k,x)::x_8 f v r) from rfl]
  by_cases hk:k=f
  ·rw[if_pos hk];subst hk;exact⟨by simp,λg h=>by simpa using h⟩
  ·rw[if_neg hk];refine⟨?_,λg h=> ?_⟩
   ·rw[B2];exact D4 _ i1
   ·rw[B2]at h⊢;rcases B8.mp h with e|e
    ·exact B8.mpr (.inl e)
    ·exact D4 _ (i2 g e)
theorem an_8(f:Str)(v:V):∀fs:List (Str×V),(x_8 f v fs).length<=fs.length + 1
 | []=>by simp[x_8]
 |(k,x)::r=>by
  have ih:=an_8 f v r;rw[show x_8 f v ((k,x)::r)=(if k=f then(k,v)::r else(k,x)::x_8 f v r) from rfl]
  by_cases hk:k=f
  ·rw[if_pos hk,C6,C6];omega
  ·rw[if_neg hk,C6,C6];omega
def RelO.some_of{v:V}{o:Option Value}(r:RelO (some v) o):∃u,o=some u/\RelV v u:=by
 cases o with
 |none=>exact(show False from r).elim
 |some u=>exact⟨u,rfl,r⟩
def RelO.none_of{o:Option Value}(r:RelO none o):o=none:=by
 cases o with
 |none=>rfl
 |some u=>exact(show False from r).elim
def bc_3{v:V}{u:Value}(r:RelV v u):handedIn u=true:=by
 cases v with
 |non=>cases(show u=Value.none from r);rfl
 |bl b=>cases(show u=Value.bool b from r);rfl
 |int i=>obtain⟨t,e⟩:=(show∃t,u=Value.int i t from r);cases e;rfl
 |str x=>obtain⟨t,e⟩:=(show∃t,u=Value.str x t from r);cases e;rfl
 |byt b=>obtain⟨t,e⟩:=(show∃t,u=Value.bytes b t from r);cases e;rfl
 |flt b=>obtain⟨t,e⟩:=(show∃t,u=Value.float b t from r);cases e;rfl
 |ref a=>cases(show u=Value.ref a from r);rfl
 |ty n=>cases(show u=Value.type n from r);rfl
section
variable{P:Program}{w:World}{H H':Hp}{h h':Heap}{a C dx:Addr}{fs fs':List (Str×V)}
def bg_9(hok:HOk P w H h)(e:H a=some (.ins C dx fs)):∃mA,ObjM h a dx C mA/\(∀f,RelO (fs.lookup f) (mA f))/\PySem.Within mA (fs.map (·.1))/\fs.length<=1000/\H dx=some (.own a):=by
 obtain⟨d,z,ne,ob,mA,n,r,q⟩:=(show ObjOk P w H h a (.ins C dx fs) from hok a _ e);exact⟨mA,⟨ob,n,ne⟩,r,q,z,d⟩
end
structure Cls(K:Frag)(C:Addr):Prop where
 pg:plainGet K C Str.empty=true
 hd:hasDictIn K C=true
 po:plainOver K C=true
 sa:findIn K (.ref C) "__setattr__" =some (some (.builtin "object.__setattr__"))
def Cls.get{K:Frag}{C:Addr}(c:Cls K C)(f:Str):plainGet K C f=true:=c.pg
def NoAttr(K:Frag)(C:Addr)(f:Str):Prop:=findIn K (.ref C) f=some none
def NoAttr.taker{K:Frag}{C:Addr}{f:Str}(n:NoAttr K C f):takerIn K C f=some none:=by
 unfold takerIn;rw[show findIn K (.ref C) f=some none from n];rfl
structure Con(K:Frag)(C:Addr)(f:Str)(v:V)(u:Value):Prop where
 at_:findIn K (.ref C) f=some (some u)
 rel:RelV v u
 get:specialIn K u "__get__" =some none
 cp:PySem.W.copiedNames.contains f=false
structure Meth(K:Frag)(C:Addr)(m:Str)(f:Addr):Prop where
 at_:findIn K (.ref C) m=some (some (.ref f))
 fn:isFn K (.ref f)=true
 kp:keepIn K (.ref f)=true
section
variable{X:Cx}{zd:AE}{σ:St}{H:Hp}{s:Shared}{a C dx:Addr}{fs:List (Str×V)}{f:Str}{v:V}{A:Around}{E:AA}
def bw_6{b:Bool}{Q:AA}(I:Inv X zd σ H s)(e:H a=some (.ins C dx fs))(c:Cls X.K C)(n:NoAttr X.K C f)(l:fs.lookup f=some v)
  (h:∀u s',Inv X zd σ H s'->RelV v u->Q u s'):wpAny (model X.prog X.w) A (getAttr (.ref a) f b) Q E s:=by
 obtain⟨mA,O,r,_,_,_⟩:=bg_9 I.hok e;obtain⟨u,hu,ru⟩:=RelO.some_of (v:=v) (o:=mA f) (by rw[<-l];exact r f);exact db_3 I.kIn O (c.get f) c.hd n hu (bc_3 ru) (h u _ (I.tok _) ru)
def bw_7{m:Str}{g:Addr}{pl:Sem Bool}{Q:Value×List Value->Shared->Prop}(I:Inv X zd σ H s)(e:H a=some (.ins C dx fs))(c:Cls X.K C)(k:Meth X.K C m g)(l:fs.lookup m=none)
  (h:Q (.ref g,[.ref a]) s):wpAny (model X.prog X.w) A (getMethod (.ref a) m pl) Q E s:=by
 obtain⟨mA,O,r,_,_,_⟩:=bg_9 I.hok e;have hn:mA m=none:=RelO.none_of (by rw[<-l];exact r m);exact co_7 I.kIn O (c.get m) k.at_ k.fn hn h
def bw_8{y:V}{u:Value}{Q:Unit->Shared->Prop}(I:Inv X zd σ H s)(e:H a=some (.ins C dx fs))(c:Cls X.K C)(n:NoAttr X.K C f)(hl:fs.length < 1000)(ry:RelV y u)
  (h:∀s',Inv X zd σ (upd H a (.ins C dx (x_8 f y fs))) s'->Q .unit s'):wpAny (model X.prog X.w) A (setAttr (.ref a) f u) Q E s:=by
 obtain⟨mA,O,r,wi,_,ho⟩:=bg_9 I.hok e;have hz:(fs.map (·.1)).length<=sizeLine:=by rw[A4,D5];omega
 refine db_4 I.kIn O c.sa c.po n.taker c.hd wi hz λh' O' sb=>h _ ?_;have hd:∃o,h'.get? dx=some o:=let⟨o,_,_,e',_⟩:=O'.ns;⟨o,e'⟩;refine I.write (x:=a) (e:=dx) (by rw[e];exact True.intro) (.inr ho) (λb q hb z=>(sb.2 b hb).trans z) hd ?_;refine⟨by rw[Ba O.ne];exact ho, ?_,O.ne,O'.obj,_,O'.ns,λg=> ?_,λg hg=> ?_⟩
 ·have:=an_8 f y fs;omega
 ·show RelO ((x_8 f y fs).lookup g) (if g=f then some u else mA g);rw[an_7]
  by_cases q:g=f
  ·rw[if_pos q,if_pos q];exact ry
  ·rw[if_neg q,if_neg q];exact r g
 ·by_cases q:g=f
  ·rw[q];exact(al_3 f y fs).1
  ·refine(al_3 f y fs).2 g (wi g λz=>hg ?_);show(if g=f then some u else mA g)=none;rw[if_neg q];exact z
def Inv.made(I:Inv X zd σ H s):Inv X zd σ (upd (upd H s.heap.objs.size (.own (s.heap.objs.size + 1))) (s.heap.objs.size + 1) (.ins C s.heap.objs.size []))
  {s with heap:=(s.heap.push emptyDict).push (instObj C s.heap.objs.size)}:=by
 have e1:(s.heap.push emptyDict).get? s.heap.objs.size=some emptyDict:=B7 s.heap rfl;have e2:((s.heap.push emptyDict).push (instObj C s.heap.objs.size)).get? (s.heap.objs.size + 1)=some (instObj C s.heap.objs.size):=by
  have:=B7 (s.heap.push emptyDict) (o:=instObj C s.heap.objs.size) rfl
  rwa[K9]at this
 have e3:(s.heap.push emptyDict).Ns s.heap.objs.size (λ_=>none):=⟨emptyDict, #[],_,e1,rfl,(λe he=>absurd he (by simp)),λ_=>rfl⟩;have I1:=I.laid (a:=s.heap.objs.size) (o:=.own (s.heap.objs.size + 1)) (h':=s.heap.push emptyDict) (t':=s.toks) (λb u q=>A5 _ q) (A8 _) ⟨_,e1⟩;refine I1.laid (a:=s.heap.objs.size + 1) (o:=.ins C s.heap.objs.size []) (t':=s.toks) (λb u q=>A5 _ q) (Q6 (K9 _ _)) ?_;have ne:s.heap.objs.size≠s.heap.objs.size + 1:=C1 (P7 _);refine⟨by rw[Ba ne,Cb],K0 _,ne,e2,λ_=>none,(Heap.Ns1.of_empty e3).at λo q=>A5 _ q,λ_=>True.intro,λy hy=>absurd rfl hy⟩
def cb_2{prog:Program}{w:World}{env:Env}{e:Expr}{f:Str}{pos:Pos}{s:Shared}{Q:AA}(hb:attributeBase e f env (eval e env)=eval e env)
  (h:wpAny (model prog w) A (eval e env) (λo s₁=>wpAny (model prog w) A (getAttr o f true) Q E s₁) E s):wpAny (model prog w) A (eval (.Attribute e f pos) env) Q E s:=
 Attribute_any_ h (by rw[arm_eval_Attribute,hb])
end
def tFld(K:Frag)(ta:TE)(f:Str):TE:=λ σ H Q=>ta σ H λx H1=>∃a C dx fs v,x=.ref a/\H1 a=some (.ins C dx fs)/\Cls K C/\NoAttr K C f/\fs.lookup f=some v/\Q v H1
def sFld(K:Frag)(ta tv:TE)(f:Str):TS:=λD σ H=>tv σ H λy H1=>ta σ H1 λx H2=>∃a C dx fs,x=.ref a/\H2 a=some (.ins C dx fs)/\Cls K C/\NoAttr K C f/\fs.length < 1000/\
 D.nx σ (upd H2 a (.ins C dx (x_8 f y fs)))
section
variable{X:Cx}{o e value:Expr}{f:Str}{pos pos' zi:Pos}{ta tv:TE}
def do_2(he:PE X e ta)(hb:attributeBase e f X.env (eval e X.env)=eval e X.env):PE X (.Attribute e f pos) (tFld X.K ta f):=by
 intro zd s σ H Q I h;refine cb_2 hb (Be (he zd s σ H _ I h) λu s1 ⟨x,H1,I1,rx,a,C,dx,fs,v,ex,ea,c,n,l,q⟩=> ?_);subst ex;obtain rfl:u=Value.ref a:=rx;exact bw_6 I1 ea c n l λu' s2 I2 ru=>⟨v,H1,I2,ru,q⟩
def do_3(ha:PE X o ta)(hv:PE X value tv)(hs:swapsWith value (some (.Attribute o f pos')) pos.line X.env=pure false):PS X (.Assign [.Attribute o f pos'] value pos) (sFld X.K ta tv f):=by
 intro zd s σ H D I h;refine W4 (Be (hv zd s σ H _ I h) λu s1 ⟨y,H1,I1,ry,q⟩=>Be (ha zd s1 σ H1 _ I1 q) λov s2 ⟨x,H2,I2,rx,a,C,dx,fs,ex,ea,c,n,l,q2⟩=> ?_) hs;subst ex;obtain rfl:ov=Value.ref a:=rx;exact bw_8 I2 ea c n l ry λs3 I3=>⟨σ,_,I3,q2⟩
end
section
variable{X:Cx}{zd:AE}{σ:St}{H:Hp}{s:Shared}{A:Around}{E:AA}{Q:AA}{c:Value}{b:Bool}
inductive TyOf(K:Frag)(H:Hp):V->Value->Prop where
 |non:TyOf K H .non (.type "NoneType")
 |bl (x:Bool):TyOf K H (.bl x) (.type "bool")
 |int (i:Int):TyOf K H (.int i) (.type "int")
 |str (x:Str):TyOf K H (.str x) (.type "str")
 |flt (x:UInt64):TyOf K H (.flt x) (.type "float")
 |lst {a:Addr} {xs:List V} (e:H a=some (.lst xs)):TyOf K H (.ref a) (.type "list")
 |frz {a:Addr} {o:Obj} {xs:List V} (e:H a=some (.frz o (.lst xs))):TyOf K H (.ref a) (.type "list")
 |tup {a:Addr} {xs:List V} (e:H a=some (.tup xs)):TyOf K H (.ref a) (.type "tuple")
 |dK {a:Addr} {kvs:List (Ar×V)} (e:H a=some (.dK kvs)):TyOf K H (.ref a) (.type "dict")
 |dT {a:Addr} {kvs:List (List Ar×V)} (e:H a=some (.dT kvs)):TyOf K H (.ref a) (.type "dict")
 |ins {a C dx:Addr} {fs:List (Str×V)} (e:H a=some (.ins C dx fs)) (cl:Cls K C) (ha:findIn K (.ref C) "__class__" =some (some (.builtin "object.__class__")))
   (hn:specialIn K (.builtin "object.__class__") "__get__" =some (some (.builtin "getset_descriptor.__get__"))) (htk:takesIn K (.builtin "object.__class__")=some true)
   (hm:mroIn K C (.type "object")=some true):TyOf K H (.ref a) (.ref C)
end
structure Room(k:Nat)(A:Around):Prop where
 hd:A.handled=none
 dp:A.depth + 3 * k + 5 < recursionLimit
 un:A.units + 16 * k + 200 < cLine
theorem Room.in1{k:Nat}{A:Around}(r:Room (k + 1) A):Room k A.in1:=
 ⟨r.hd,by have:=r.dp;show A.depth + 3 * k + 5 < _;omega,by have:=r.un;show A.units + 1 + 16 * k + 200 < _;omega⟩
def bw_9{A:Around}{C:Addr}{us:List Value}{kw:List (Str×Value)}:(A.under (.builtin "type.__call__" ⟨.ref C::us,kw⟩)).depth=A.depth + 1:=by
 first|rfl|simp[Around.under,Code.weight,Code.isCreation,Code.isGuard,Code.isCaller,Code.frames,Code.isFrame,guardIds]
def bx_0{A:Around}{C:Addr}{us:List Value}{kw:List (Str×Value)}:(A.under (.builtin "type.__call__" ⟨.ref C::us,kw⟩)).units=A.units + 1:=by
 first|rfl|simp[Around.under,Code.cUnits,Code.frames,Code.isFrame]
theorem Room.depth{k:Nat}{A:Around}(r:Room k A):A.depth < recursionLimit:=by have:=r.dp;omega
def tNil:TA:=λ_ H Q=>Q [] H
def co_9(ta:TE)(tr:TA):TA:=λ σ H Q=>ta σ H λx H1=>tr σ H1 λxs H2=>Q (x::xs) H2
section
variable{X:Cx}{e:Expr}{es:List Expr}{te:TE}{t:TA}{pos:Pos}
def o_2:PA X [] tNil:=λ_ _ _ _ H Q I h=>Q7 ⟨[],H,I,.nil,h⟩
def h_8(ha:PE X e te)(hr:PA X es t)(hs:starEach (e::es) X.env=(false,eval e X.env)::starEach es X.env:=by rfl):PA X (e::es) (co_9 te t):=by
 intro pos zd s σ H Q I h;rw[hs];show wpAny _ _ (spliced ((false,eval e X.env)::backTo pos (starEach es X.env))) _ _ s;refine M7 (Be (ha zd s σ H _ I h) λu s1 ⟨x,H1,I1,r1,q1⟩=> ?_);exact Be (hr pos zd s1 σ H1 _ I1 q1) λus s2 ⟨xs,H2,I2,r2,q2⟩=>⟨x::xs,H2,I2,.cons r1 r2,q2⟩
def tTup(t:TA):TE:=λ σ H Q=>t σ H λxs H1=>xs.length<=sizeLine/\∀p,H1 p=none->Q (.ref p) (upd H1 p (.tup xs))
def tLst(t:TA):TE:=λ σ H Q=>t σ H λxs H1=>xs.length<=sizeLine/\∀p,H1 p=none->Q (.ref p) (upd H1 p (.lst xs))
def cp_0{x1}(h:PA X es t):PE X (.Tuple es x1 pos) (tTup t):=by
 intro zd s σ H Q I hq;refine wpAny_Tuple_spliced (Be (h pos zd s σ H _ I hq) λus s1 ⟨xs,H1,I1,r,z,q⟩=>⟨by rw[<-r.length];exact z, ?_⟩);have hf:H1 s1.heap.objs.size=none:=I1.hok.fresh (A8 _);refine⟨.ref s1.heap.objs.size,upd H1 s1.heap.objs.size (.tup xs),I1.laid (t':=s1.toks) (λb u e=>A5 _ e) (A8 _) ?_,rfl,q _ hf⟩;exact⟨z,us,r,⟨_,B7 _ rfl,rfl,_,rfl⟩⟩
def bx_1(h:PA X es t):PE X (.List es pos) (tLst t):=by
 intro zd s σ H Q I hq;refine wpAny_List_spliced (Be (h pos zd s σ H _ I hq) λus s1 ⟨xs,H1,I1,r,z,q⟩=>⟨by rw[<-r.length];exact z, ?_⟩);have hf:H1 s1.heap.objs.size=none:=I1.hok.fresh (A8 _);refine⟨.ref s1.heap.objs.size,upd H1 s1.heap.objs.size (.lst xs),I1.laid (t':=s1.toks) (λb u e=>A5 _ e) (A8 _) ?_,rfl,q _ hf⟩;exact⟨z,us,0,r,B7 _ rfl⟩
end
abbrev Sp:=List V->Hp->VK->XK->Prop
abbrev CXT:=List Env->Hp->Shared->XK->Value->Shared->Prop
structure Env0(P:Program)(w:World)(K:Frag)(mg:AB)(base:Heap)(A:Around)(outer:List Env)(s:Shared)(H:Hp):Prop where
 frames:A.frames=some outer
 mod:Mod K mg base
 bs:∀b o,base.get? b=some o->s.heap.get? b=some o/\H b=none
 bsz:base.objs.size<=s.heap.objs.size
 funs:s.heap.FunFrames base outer
 frf:∀b∈frs outer,H b=none
 hok:HOk P w H s.heap
 bare:AllBare s.gens
 tb:TabH K H
def CE(outer:List Env)(P:Program)(w:World)(H:Hp)(s:Shared)(Q:VK)(u:Value)(s':Shared):Prop:=
 ∃v H',s'.os=s.os/\AllBare s'.gens/\Un (frs outer) [] H H' s.heap s'.heap/\HOk P w H' s'.heap/\RelV v u/\Q v H'
def CR(CX:CXT)(outer:List Env)(P:Program)(w:World)(H:Hp)(s:Shared)(Q:VK)(E:XK)(r:Result)(s':Shared):Prop:=
 match r with
 | .ok (.ret u)=>CE outer P w H s Q u s'
 | .ok _=>False
 | .error e=>CX outer H s E e s'
structure FnOk(P:Program)(w:World)(K:Frag)(mg:AB)(base:Heap)(CX:CXT)(k:Nat)(f:Addr)(fd:FuncData)(ps:List Str)(sp:Sp):Prop where
 len:∀vs H Q E,sp vs H Q E->vs.length=ps.length
 run:∀(A:Around) (outer:List Env) (s:Shared) (H:Hp) (args:Args) (us:List Value) (vs:List V) (Q:VK) (E:XK),Room k A->Env0 P w K mg base A outer s H->BindsTo s fd args (ps.zip us)->Vals vs us->sp vs H Q E->
  codeAny (model P w) A (.call (.ref f) args) (CR CX outer P w H s Q E) s
def Env0.make{P:Program}{w:World}{K:Frag}{mg:AB}{base:Heap}{A:Around}{outer:List Env}{s:Shared}{H:Hp}(e:Env0 P w K mg base A outer s H)(C:Addr)(us:List Value)(kw:List (Str×Value)):
  Env0 P w K mg base (A.under (.builtin "type.__call__" ⟨.ref C::us,kw⟩)) outer s H:=⟨by first|exact e.frames|(simpa[Around.under,Code.envs,Code.isFrame,pushEnvs] using e.frames),e.mod,e.bs,e.bsz,e.funs,e.frf,e.hok,e.bare,e.tb⟩
theorem Env0.in1{P:Program}{w:World}{K:Frag}{mg:AB}{base:Heap}{A:Around}{outer:List Env}{s:Shared}{H:Hp}(e:Env0 P w K mg base A outer s H):
  Env0 P w K mg base A.in1 outer s H:=⟨e.frames,e.mod,e.bs,e.bsz,e.funs,e.frf,e.hok,e.bare,e.tb⟩
section
variable{X:Cx}{zd:AE}{σ:St}{H:Hp}{s s':Shared}
def Inv.tab(I:Inv X zd σ H s):TabH X.K H:=λc P e=>let⟨_,z⟩:=I.ok.tb c P e;let⟨_,y⟩:=I.base.tbls _ _ z;⟨_,y⟩
def Inv.env0(I:Inv X zd σ H s):Env0 X.prog X.w X.K X.mg X.base X.A X.stack s H:=
 ⟨I.ok.frames,I.ok.mod,I.bs,C7 I.ok.bsz I.sz,I.stack,I.stkFree,I.hok,I.bare,I.tab⟩
def Inv.after{Q:VK}{u:Value}(I:Inv X zd σ H s)(h:CE X.stack X.prog X.w H s Q u s'):EP X zd σ Q u s':=by
 obtain⟨v,H',os,bare,un,hok,r,q⟩:=h;obtain⟨hh,g,d,t,os'⟩:=s';obtain rfl:os'=s.os:=os;exact⟨v,H',I.call (h':=hh) (g':=g) (d':=d) (t':=t) (ch:=[]) un hok bare (λb z=>absurd z (by simp)),r,q⟩
end
def Binds(K:Frag)(fd:FuncData)(ps:List Str)(ds:List Value):Prop:=
 ∀(s:Shared) (us:List Value),K.In s.heap->(us ++ ds).length=ps.length->BindsTo s fd ⟨us,[]⟩ (ps.zip (us ++ ds))
def Binds.all{K:Frag}{fd:FuncData}{ps:List Str}(h:∀us:List Value,us.length=ps.length->bindArgs fd ⟨us,[]⟩=pure (ps.zip us)):Binds K fd ps []:=λs us _ hl=>by
 rw[D3]at hl⊢;exact .of_eq (h us hl)
section
variable{X:Cx}{CX:CXT}{k:Nat}{f C:Addr}{fd:FuncData}{ps:List Str}{sp:Sp}{dvs:List V}{ds:List Value}{E:XK}{x m:Str}{p pos zh:Pos}{e o:Expr}{es:List Expr}{ta:TE}{t:TA}
structure Mk(K:Frag)(C f:Addr):Prop where
 makes:makesIn K C=true
 init:findIn K (.ref C) "__init__" =some (some (.ref f))
 fn:isFn K (.ref f)=true
 kp:keepIn K (.ref C)=true
end
section
variable{X:Cx}{CX:CXT}{k:Nat}{f C:Addr}{fd:FuncData}{ps ks:List Str}{sp:Sp}{E:XK}{x m:Str}{p pos zh ji:Pos}{e o:Expr}{es:List Expr}{kws:List Keyword}{te ta:TE}{t tk:TA}{nm:Option Str}
structure KBinds(K:Frag)(fd:FuncData)(ps ks:List Str)(g:List Value->List Value->List Value)(gV:List V->List V->List V):Prop where
 to:∀(s:Shared) (us ws:List Value),K.In s.heap->(g us ws).length=ps.length->BindsTo s fd ⟨us,ks.zip ws⟩ (ps.zip (g us ws))
 rel:∀{vs:List V} {us:List Value} {zs:List V} {ws:List Value},Vals vs us->Vals zs ws->Vals (gV vs zs) (g us ws)
variable{g:List Value->List Value->List Value}{gV:List V->List V->List V}
end
structure FnScope(N P:List Str)(sc:Scope):Prop where
 kind:sc.kind=.function
 co:sc.isCoroutine=false
 gen:sc.isGenerator=false
 nd:N.Nodup
 pre:N.take P.length=P
 par:∀x∈P,sc.names.lookup x=some .local\/sc.names.lookup x=some .cell
 nofree:∀y∈sc.names,y.2≠ .free
theorem bc_4{kindOf:Str->Option NameKind}{x:Str}:∀{binds:List (Str×Value)} {m:AB},(∀v,(x,v)∉binds)->bindL kindOf binds m x=m x
 | [],_,_=>rfl
 |(n,v)::r,m,h=>by
  unfold bindL;rw[bc_4 λw hw=>h w (D4 _ hw)]
  split
  ·have:x≠n:=by rintro rfl;exact h v K5
   simp[this]
  ·rfl
theorem bc_5{kindOf:Str->Option NameKind}{x:Str}:∀{binds:List (Str×Value)} {m:AB},(∀v,(x,v)∉binds)->bindC kindOf binds m x=m x
 | [],_,_=>rfl
 |(n,v)::r,m,h=>by
  unfold bindC;rw[bc_5 λw hw=>h w (D4 _ hw)]
  split
  ·rfl
  ·have:x≠n:=by rintro rfl;exact h v K5
   simp[this]
theorem bc_6{kindOf:Str->Option NameKind}{x:Str}{v:Value}:∀{P:List Str} {vs:List Value} {i:Nat} {m:AB},P.Nodup->P[i]? =some x->vs[i]? =some v->kindOf x=some .local->
  bindL kindOf (P.zip vs) m x=some v
 | [],_,_,_,_,h,_,_=>by simp at h
 |_::_,[],_,_,_,_,h,_=>by simp at h
 |p::P,w::vs,0,m,nd,h1,h2,hk=>by
  simp at h1 h2;subst h1;subst h2;show bindL kindOf ((p,w)::P.zip vs) m p=_;unfold bindL;rw[bc_4 λv hv=>(K3.mp nd).1 (X8 hv).1,if_pos hk];simp
 |p::P,w::vs,i + 1,m,nd,h1,h2,hk=>by
  show bindL kindOf ((p,w)::P.zip vs) m x=_;unfold bindL;exact bc_6 (i:=i) (K3.mp nd).2 (by simpa using h1) (by simpa using h2) hk
theorem bc_7{kindOf:Str->Option NameKind}{x:Str}{v:Value}:∀{P:List Str} {vs:List Value} {i:Nat} {m:AB},P.Nodup->P[i]? =some x->vs[i]? =some v->kindOf x≠some .local->
  bindC kindOf (P.zip vs) m x=some v
 | [],_,_,_,_,h,_,_=>by simp at h
 |_::_,[],_,_,_,_,h,_=>by simp at h
 |p::P,w::vs,0,m,nd,h1,h2,hk=>by
  simp at h1 h2;subst h1;subst h2;show bindC kindOf ((p,w)::P.zip vs) m p=_;unfold bindC;rw[bc_5 λv hv=>(K3.mp nd).1 (X8 hv).1,if_neg hk];simp
 |p::P,w::vs,i + 1,m,nd,h1,h2,hk=>by
  show bindC kindOf ((p,w)::P.zip vs) m x=_;unfold bindC;exact bc_7 (i:=i) (K3.mp nd).2 (by simpa using h1) (by simpa using h2) hk
def Gm(N:List Str)(vs:List V):St:=vs.map some ++ List.replicate (N.length - vs.length) none
def Fc(CX:CXT)(P:Program)(w:World)(K:Frag)(mg:AB)(base:Heap)(N:List Str)(qual:Str)(scope:Scope)(f:Addr)(cd:Value)(A:Around)(outer:List Env)(s:Shared)(H:Hp)(E:XK):Cx where
 prog:=P
 w:=w
 K:=K
 mg:=mg
 base:=base
 A:=A.deeper (envOfC qual scope s.heap.objs.size f cd)
 N:=N
 s₀:=s
 H₀:=H
 env:=envOfC qual scope s.heap.objs.size f cd
 outer:=outer
 stack:=envOfC qual scope s.heap.objs.size f cd::outer
 ex:=[]
 calm:=true
 fn:=λ_=>true
 pn:=[]
 xe:=λe s'=>wpAny (model P w) (A.deeper (envOfC qual scope s.heap.objs.size f cd)) (leaving (envOfC qual scope s.heap.objs.size f cd) e) (λ_ s''=>CX outer H s E e s'') (λe' s''=>CX outer H s E e' s'') s'
def bo_4{sc:Scope}{n:Nat}{x:Str}(h:sc.names.lookup x=some .cell):∃c,(cellsFrom n sc.names []).lookup x=some c:=by
 have q:=Y8 sc.names n [] (.inl h);exact R5.mp q
def ch_7{CX:CXT}{P:Program}{w:World}{K:Frag}{mg:AB}{base:Heap}{N ps:List Str}{qual:Str}{scope:Scope}{f:Addr}{cd:Value}{A:Around}{outer:List Env}{s s1:Shared}{H:Hp}{E:XK}{us:List Value}{vs:List V}
  (S:FnScope N ps scope) (hd:A.handled=none) (e0:Env0 P w K mg base A outer s H) (hl:vs.length=ps.length) (r:Vals vs us)
  (x:InCallC s s.heap.objs.size (bindL (envOfC qual scope s.heap.objs.size f cd).kindOf (ps.zip us) λ_=>none) (cellsFrom (s.heap.objs.size + 1) scope.names []) (bindC (envOfC qual scope s.heap.objs.size f cd).kindOf (ps.zip us) λ_=>none) s1):
  Inv (Fc CX P w K mg base N qual scope f cd A outer s H E) [] (Gm N vs) H s1:=by
 have hpl:ps.length<=N.length:=by have:=L6 List.length S.pre;rw[M9]at this;omega
 obtain⟨h1,tk,rfl,hk⟩:=x.done;have noA:∀b:Addr,b∉(Fc CX P w K mg base N qual scope f cd A outer s H E).ex:=λb z=>absurd (show b∈([]:List Addr) from z) (by simp);refine⟨⟨e0.mod,S.kind,rfl,rfl,A8 _,λy z c h1 h2=> ?_,λy hy=> ?_,λy c _ h=> ?_,λ_=>hd,X3 e0.frames,.inr ⟨rfl,rfl⟩,λb z=>absurd z (noA b),e0.bs,e0.bsz,λb _ _=>noA b,λb z=>absurd z (noA b),e0.funs,e0.frf,e0.tb⟩,
  rfl,e0.bare,Un.kept hk,⟨_,x.toInCall.ns,λi y v h1 h2 h3=> ?_⟩,λy c h=>⟨_,x.cell y c h⟩,e0.hok.fresh (A8 _),λy c h=> ?_,λp hp=>absurd (show p∈([]:AE) from hp) (by simp),e0.hok.kept hk, ?_⟩
 ·exact name_of_addr x.apart (K6 h1) (K6 h2)
 ·have hy:scope.names.lookup y=some .cell\/scope.names.lookup y=some .free:=hy;rcases hy with hy|hy
  ·exact bo_4 hy
  ·exact absurd rfl (S.nofree _ (K6 hy))
 ·exact S5 (x.above y c (K6 h))
 ·have hi:i < vs.length:=by
   unfold Gm at h2
   by_cases hi:i < vs.length
   ·exact hi
   ·rw[D1 (by simpa using hi)]at h2;rw[E8]at h2
    split at h2 <;> cases h2
  have ha:vs[i]? =some v:=by
   unfold Gm at h2;rw[B3 (by simpa using hi),B4]at h2;cases e:vs[i]? with
   |none=>rw[e]at h2;cases h2
   |some a=>rw[e]at h2;cases h2;rfl
  obtain⟨u,hu,rv⟩:=r.get ha;have hp:ps[i]? =some y:=by
   rw[<-S.pre,List.getElem?_take_of_lt ()];exact h1
  have ndP:ps.Nodup:=by rw[<-S.pre];exact S.nd.sublist (List.take_sublist _ _)
  refine⟨u,rv, ?_⟩;rcases S.par y (E9 hp) with k|k
  ·exact .inl ⟨k,bc_6 ndP hp hu k⟩
  ·obtain⟨c,e⟩:=bo_4 (n:=s.heap.objs.size + 1) k;refine .inr ⟨.inl k,c,e, ?_⟩;have q:=x.cell y c e;rw[bc_7 ndP hp hu (by show scope.names.lookup y≠_;rw[k];decide)]at q;exact q
 ·exact e0.hok.fresh (S5 (x.above y c (K6 h)))
 ·unfold Gm;show _=N.length;rw[B6,A4,J9];omega
section
variable{X:Cx}{x:Str}{p pos:Pos}{e:Expr}{es:List Expr}{t:TA}{id T:String}{r:List V->Hp->VK->Prop}
def tCB(r:List V->Hp->VK->Prop)(t:TA):TE:=λ σ H Q=>t σ H λvs H1=>r vs H1 Q
def aa_6(hc:CallR X (.builtin id) r)(hg:Gl X x)(hm:X.mg x=none)(hv:bootBuiltins x=some (.builtin id))(ha:PA X (e::es) t)(hn:x≠ "__name__" :=by decide)(hdb:AG x:=by decide)
  (he:starEach (e::es) X.env=(false,eval e X.env)::starEach es X.env:=by rfl) (hpl:(backTo pos (starEach es X.env)).any (·.1)=false:=by rfl):PE X (.Call (.Name x p) (e::es) [] pos) (tCB r t):=by
 intro zd s σ H Q I h;refine M8 (r_3 I hg hm hv ?_ hn hdb);exact W9 (Be (ha pos zd s σ H _ I h) λus s1 ⟨vs,H1,I1,r1,q1⟩=>hc zd s1 σ H1 vs us Q I1 r1 q1) he hpl
def ch_8(hc:CallR X (.type T) r)(hg:Gl X x)(hm:X.mg x=none)(hv:bootBuiltins x=some (.type T))(ha:PA X (e::es) t)(hn:x≠ "__name__" :=by decide)(hdb:AG x:=by decide)
  (he:starEach (e::es) X.env=(false,eval e X.env)::starEach es X.env:=by rfl) (hpl:(backTo pos (starEach es X.env)).any (·.1)=false:=by rfl):PE X (.Call (.Name x p) (e::es) [] pos) (tCB r t):=by
 intro zd s σ H Q I h;refine M8 (r_3 I hg hm hv ?_ hn hdb);exact G6 (Be (ha pos zd s σ H _ I h) λus s1 ⟨vs,H1,I1,r1,q1⟩=>hc zd s1 σ H1 vs us Q I1 r1 q1) he hpl
end
end L2
namespace HT
open PySem PyProof.Rows
section
open PySem.SeqAt
open PySem.AutoSeq1 (wpAny_loadPart')
open PySem.MeetsSeq PySem.MeetsSeq2 PySem.MeetsSeq3
end
section
variable{prog:Program}{w:World}{A:Around}{E:AA}{s:Shared}
def sIx(n d:Nat):Option Int->Nat
 |none=>d
 |some v=>if v < 0 then(v + (n:Int)).toNat else min v.toNat n
end
end HT
namespace L2
open PySem PySem.Spec PyProof.Rows
abbrev TO:=St->Hp->(Option Int->Hp->Prop)->Prop
def PO(X:Cx)(e:Option Expr)(t:TO):Prop:=
 ∀(zd:AE) (s:Shared) (σ:St) (H:Hp) (Q:Option Int->Hp->Prop),Inv X zd σ H s->t σ H Q->
  wpAny (model X.prog X.w) X.A (evalPart e X.env) (λu s'=>∃o H',Inv X zd σ H' s'/\IsPart u o/\Q o H') X.xe s
def db_5:TO:=λ_ H Q=>Q none H
def dv_6(t:TE):TO:=λ σ H Q=>t σ H λx H1=>∃i,x=.int i/\Q (some i) H1
section
variable{X:Cx}{e:Expr}{te:TE}{lo hi:Option Expr}{tl th:TO}{pos p2:Pos}
def db_6:PO X none db_5:=by
 intro zd s σ H Q I h;rw[evalPart_none];exact C5 ⟨none,H,I,.none,h⟩
def db_7(h:PE X e te):PO X (some e) (dv_6 te):=by
 intro zd s σ H Q I hw;rw[evalPart_some];refine Be (h zd s σ H _ I hw) λu s1 ⟨x,H1,I1,r1,q1⟩=> ?_;obtain⟨i,rfl,q⟩:=q1;obtain⟨t,rfl⟩:=r1;exact⟨some i,H1,I1,.int i t,q⟩
def SlR(X:Cx)(r:V->Option Int->Option Int->Hp->VK->Prop):Prop:=
 ∀(zd:AE) (s:Shared) (σ:St) (H:Hp) (x:V) (v vl vu:Value) (lo hi:Option Int) (sl:Addr) (Q:VK),Inv X zd σ H s->RelV x v->s.heap.IsSliceOf sl vl vu .none->IsPart vl lo->IsPart vu hi->r x lo hi H Q->
  ∃T id,typeLookup (.type T) "__getitem__" =pure (some (.builtin id))/\s.TypeIs v T/\wpAny (model X.prog X.w) X.A (getItem v (.ref sl)) (EP X zd σ Q) X.xe s
def SlR.or{r r':V->Option Int->Option Int->Hp->VK->Prop}(h:SlR X r)(h':SlR X r'):SlR X (λx lo hi H Q=>r x lo hi H Q\/r' x lo hi H Q):=by
 intro zd s σ H x v vl vu lo hi sl Q I rx hs pl pu q;rcases q with q|q
 ·exact h zd s σ H x v vl vu lo hi sl Q I rx hs pl pu q
 ·exact h' zd s σ H x v vl vu lo hi sl Q I rx hs pl pu q
def tSl(r:V->Option Int->Option Int->Hp->VK->Prop)(te:TE)(tl th:TO):TE:=λ σ H Q=>te σ H λx H1=>tl σ H1 λl H2=>th σ H2 λu H3=>r x l u H3 Q
def cp_1{r:V->Option Int->Option Int->Hp->VK->Prop}(hr:SlR X r)(he:PE X e te)(hl:PO X lo tl)(hu:PO X hi th):PE X (.Subscript e (.Slice lo hi none p2) pos) (tSl r te tl th):=by
 intro zd s σ H Q I h;refine Subscript_ (Be (he zd s σ H _ I h) λv s1 ⟨x,H1,I1,r1,q1⟩=> ?_);refine wpAny_Slice (Be (hl zd s1 σ H1 _ I1 q1) λvl s2 ⟨l,H2,I2,pl,q2⟩=>Be (hu zd s2 σ H2 _ I2 q2) λvu s3 ⟨u,H3,I3,pu,q3⟩=> ?_);rw[evalPart_none];refine C5 ?_;have I4:Inv X zd σ H3 {s3 with heap:=s3.heap.push {cls:=.type "slice",data:=.fields #[vl,vu,.none]}}:=I3.kept (t':=s3.toks) λb ob q=>A5 _ q;obtain⟨T,id,hT,ht,hg⟩:=hr zd {s3 with heap:=s3.heap.push {cls:=.type "slice",data:=.fields #[vl,vu,.none]}} σ H3 x v vl vu l u s3.heap.objs.size Q I4 r1 (Heap.IsSliceOf.new ..) pl pu q3;show wpAny (model X.prog X.w) X.A (subscriptTail e (.Slice lo hi none p2) v (.ref s3.heap.objs.size)) (EP X zd σ Q) X.xe {s3 with heap:=s3.heap.push {cls:=.type "slice",data:=.fields #[vl,vu,.none]}};exact tail_any (ops:=[.ref s3.heap.objs.size,v]) ht hT hg (by with_unfolding_all rfl)
def cutV(xs:List V)(lo hi:Option Int):List V:=(xs.drop (HT.sIx xs.length 0 lo)).take (HT.sIx xs.length xs.length hi - HT.sIx xs.length 0 lo)
def bo_5(xs:List V)(lo hi:Option Int):(cutV xs lo hi).length<=xs.length:=by
 unfold cutV;rw[M9,List.length_drop];omega
end
def ixN(n:Nat)(i:Int):Option Nat:=if 0<=i then(if i < n then some i.toNat else none) else if -(n:Int)<=i then some (i + n).toNat else none
def atI{α:Type}(xs:List α)(i:Int):Option α:=(ixN xs.length i).bind λj=>xs[j]?
def cb_3{n:Nat}{i:Int}{j:Nat}(h:ixN n i=some j):seqIndex? i n=some j/\j < n/\ -(n:Int)<=i/\i < n:=by
 unfold ixN at h
 by_cases h0:0<=i
 ·rw[if_pos h0]at h
  by_cases h1:i < n
  ·rw[if_pos h1]at h;have e:i.toNat=j:=K2 h;exact⟨by rw[seqIndex_of h0 h1,e],by omega,by omega,h1⟩
  ·rw[if_neg h1]at h;cases h
 ·rw[if_neg h0]at h
  by_cases h1: -(n:Int)<=i
  ·rw[if_pos h1]at h;have e:(i + n).toNat=j:=K2 h;exact⟨by rw[ZE3 () h1,e],by omega,h1,by omega⟩
  ·rw[if_neg h1]at h;cases h
def bh_0{α:Type}{xs:List α}{i:Int}{v:α}(h:atI xs i=some v):∃j,seqIndex? i xs.length=some j/\xs[j]? =some v/\j < xs.length/\ -(xs.length:Int)<=i/\i < xs.length:=by
 unfold atI at h;cases e:ixN xs.length i with
 |none=>rw[e]at h;cases h
 |some j=>
  rw[e]at h;obtain⟨h1,h2,h3,h4⟩:=cb_3 e;exact⟨j,h1,h,h2,h3,h4⟩
def bh_1(b:Expr):Prop:=∀o i,subscripted b false o i=operate [o,i] (getItem o i)
def IxR(X:Cx)(r:R2):Prop:=
 ∀(value slice:Expr) (zd:AE) (s:Shared) (σ:St) (H:Hp) (x y:V) (v u:Value) (Q:VK),Inv X zd σ H s->RelV x v->RelV y u->r x y H Q->
  subscripted slice false v u=operate [v,u] (getItem v u)->wpAny (model X.prog X.w) X.A (subscriptTail value slice v u) (EP X zd σ Q) X.xe s
def MtR(X:Cx)(id:String)(r:V->List V->Hp->VK->Prop):Prop:=
 ∀(zd:AE) (s:Shared) (σ:St) (H:Hp) (x:V) (xs:List V) (v:Value) (us:List Value) (Q:VK),Inv X zd σ H s->RelV x v->Vals xs us->r x xs H Q->
  wpAny (model X.prog X.w) X.A (call (.builtin id) (v::us)) (EP X zd σ Q) X.xe s
section
variable{X:Cx}{a b:Expr}{ta tb:TE}{pos:Pos}
def IxR.or{r r':R2}(h:IxR X r)(h':IxR X r'):IxR X (λx y H Q=>r x y H Q\/r' x y H Q):=by
 intro value slice zd s σ H x y v u Q I rx ry q hs;rcases q with q|q
 ·exact h value slice zd s σ H x y v u Q I rx ry q hs
 ·exact h' value slice zd s σ H x y v u Q I rx ry q hs
def MtR.or{id:String}{r r':V->List V->Hp->VK->Prop}(h:MtR X id r)(h':MtR X id r'):MtR X id (λx xs H Q=>r x xs H Q\/r' x xs H Q):=by
 intro zd s σ H x xs v us Q I rx rs q;rcases q with q|q
 ·exact h zd s σ H x xs v us Q I rx rs q
 ·exact h' zd s σ H x xs v us Q I rx rs q
def dj_8{r:R2}(hr:IxR X r)(ha:PE X a ta)(hb:PE X b tb)(hs:bh_1 b):PE X (.Subscript a b pos) (tOp r ta tb):=by
 intro zd s σ H Q I h;exact Subscript_ (binT ha hb I h λv u s2 x y H2 I2 rx ry q=>hr a b zd s2 σ H2 x y v u Q I2 rx ry q (hs _ _))
def rIxL(K:Frag):R2:=λx y H Q=>∃p xs i v,x=.ref p/\y=.int i/\SqL K H p xs/\atI xs i=some v/\Q v H
def rIxT(K:Frag):R2:=λx y H Q=>∃p xs i v,x=.ref p/\y=.int i/\SqT K H p xs/\atI xs i=some v/\Q v H
def rIxS:R2:=λx y H Q=>∃z i c,x=.str z/\y=.int i/\z.length<=sizeLine/\atI z.cps.toList i=some c/\Q (.str ⟨#[c]⟩) H
def ar_6:IxR X (rIxL X.K):=by
 intro value slice zd s σ H x y v u Q I rx ry h hs;obtain⟨p,xs,i,z,rfl,rfl,hq,he,q⟩:=h;cases rx;obtain⟨t,rfl⟩:=ry;obtain⟨its,r,pl,hz⟩:=I.list hq;obtain⟨j,h1,h2,h3,h4,h5⟩:=bh_0 he;obtain⟨w,ew,rw'⟩:=r.get h2;have hl:=r.length;have hn:=ag_4;have fin:EP X zd σ Q w s:=⟨z,H,I,rw',q⟩
 by_cases h0:0<=i
 ·have hj:i.toNat=j:=by
   rw[seqIndex_of h0 h5]at h1;exact K2 h1
  exact item_listR pl.isList h0 () (by rw[hj];simpa using ew) fin hs
 ·have hj:(i + (its.toArray.size:Int)).toNat=j:=by
   rw[ZE3 () h4]at h1;rw[C8,<-hl];exact K2 h1
  exact ZC2 (x:=w) pl.isList.typeIs slot_list_getitem.lookup
   (wpAny_getItem_list_neg (Q:=λr s'=>r=w/\EP X zd σ Q r s') pl.isList () (by rw[C8] <;> omega) () (by rw[hj];simpa using ew) ⟨rfl,fin⟩) hs
def cp_2:IxR X (rIxT X.K):=by
 intro value slice zd s σ H x y v u Q I rx ry h hs;obtain⟨p,xs,i,z,rfl,rfl,hq,he,q⟩:=h;cases rx;obtain⟨t,rfl⟩:=ry;obtain⟨its,r,pl,hz⟩:=I.tuple hq;obtain⟨j,h1,h2,h3,h4,h5⟩:=bh_0 he;obtain⟨w,ew,rw'⟩:=r.get h2;have hl:=r.length;have hn:=ag_4;have fin:EP X zd σ Q w s:=⟨z,H,I,rw',q⟩;exact ZC2 (x:=w) pl.typeIs slot_tuple_getitem.lookup
  (getItem_tuple (j:=j) (Q:=λr s'=>r=w/\EP X zd σ Q r s') pl () () (by rw[C8,<-hl];exact h1) (by simpa using ew) ⟨rfl,fin⟩) hs
def do_5:IxR X rIxS:=by
 intro value slice zd s σ H x y v u Q I rx ry h hs;obtain⟨z,i,c,rfl,rfl,hz,he,q⟩:=h;obtain⟨t,rfl⟩:=rx;obtain⟨t',rfl⟩:=ry;obtain⟨j,h1,h2,h3,h4,h5⟩:=bh_0 he;have hl:z.cps.toList.length=z.length:=by simp[Str.length]
 rw[hl]at h1 h4 h5;have hn:=ag_4;exact tail_any (typeIs_str s z t) slot_str_getitem.lookup (getItem_str (c:=c) (by
  have e1:decide (i < -(2 ^ 63:Int))=false:=E4 ();have e2:decide (i≥2 ^ 63)=false:=E4 ();rw[e1,e2,Bool.or_false]) (by rw[h1];simpa using h2) ⟨.str ⟨#[c]⟩,H,I.tok _,⟨_,rfl⟩,q⟩) hs
def bx_2(its:List Value)(n j:Nat)(u:Value):Obj.mapSeq (·.setIfInBounds j u) {cls:=.type "list",data:=.seq its.toArray n}={cls:=.type "list",data:=.seq (its.set j u).toArray n}:=by
 simp[Obj.mapSeq]
theorem Inv.lst{zd:AE}{σ:St}{H:Hp}{s:Shared}{p:Addr}{xs:List V}(I:Inv X zd σ H s)(h:H p=some (.lst xs)):
  ∃(its:List Value) (n:Nat),Vals xs its/\s.heap.get? p=some {cls:=.type "list",data:=.seq its.toArray n}/\xs.length<=sizeLine:=by
 obtain⟨z,its,n,r,e⟩:=I.hok p _ h;exact⟨its,n,r,e,z⟩
def Inv.lstUpd{zd:AE}{σ:St}{H:Hp}{s:Shared}{p:Addr}{xs ys:List V}{its its':List Value}{n n':Nat}{f:Obj->Obj}(I:Inv X zd σ H s)(h:H p=some (.lst xs))
  (ho:s.heap.get? p=some {cls:=.type "list",data:=.seq its.toArray n}) (hf:f {cls:=.type "list",data:=.seq its.toArray n}={cls:=.type "list",data:=.seq its'.toArray n'}) (r:Vals ys its') (hz:ys.length<=sizeLine) (t:Nat):
  Inv X zd σ (upd H p (.lst ys)) {s with heap:=s.heap.update p f,toks:=t}:=by
 have e:(s.heap.update p f).get? p=some {cls:=.type "list",data:=.seq its'.toArray n'}:=by
  rw[O0 f ho (by rw[hf] <;> rfl),hf]
 refine I.write (x:=p) (e:=p) (by rw[h];trivial) (.inl rfl) (λb u hb q=>(J6 _ _ (Ne.symm hb)).trans q) ⟨_,e⟩ ?_;exact⟨hz,its',n',r,e⟩
def dv_9:V->V->V->Hp->(Hp->Prop)->Prop:=λo i v H Q=>∃p xs k j,o=.ref p/\i=.int k/\H p=some (.lst xs)/\ixN xs.length k=some j/\Q (upd H p (.lst (xs.set j v)))
def cp_3:PSet X dv_9:=by
 intro zd s σ H o i v ov iv u Q I ro ri rv h;obtain⟨p,xs,k,j,rfl,rfl,hp,hj,q⟩:=h;cases ro;obtain⟨t,rfl⟩:=ri;obtain⟨its,n,r,ho,hz⟩:=I.lst hp;obtain⟨h1,h2,h3,h4⟩:=cb_3 hj;have hl:=r.length;have hn:=ag_4;have I':Inv X zd σ (upd H p (.lst (xs.set j v))) {s with heap:=s.heap.update p (Obj.mapSeq (·.setIfInBounds j u))}:=
  I.lstUpd hp ho (bx_2 its n j u) (r.set rv j) (by rw[J7];exact hz) s.toks
 by_cases h0:0<=k
 ·have hk:k.toNat=j:=by
   rw[seqIndex_of h0 h4]at h1;exact K2 h1
  exact ki_setAt ho h0 () (by rw[C8,<-hl];exact h4) (by rw[hk];exact⟨_,I',q⟩)
 ·have hk:(k + (its.toArray.size:Int)).toNat=j:=by
   rw[ZE3 () h3]at h1;rw[C8,<-hl];exact K2 h1
  exact ki_setBack ho () (by rw[C8,<-hl];exact h3) () (by rw[hk];exact⟨_,I',q⟩)
def bh_2(lo hi:Option Int)(n:Nat):(sliceBounds lo hi none n).1=((HT.sIx n 0 lo:Nat):Int)/\(sliceBounds lo hi none n).2.1=((HT.sIx n n hi:Nat):Int)/\(sliceBounds lo hi none n).2.2=1:=by
 refine⟨?_, ?_,rfl⟩
 ·cases lo with
  |none=>simp[sliceBounds,HT.sIx]
  |some i=>
   simp only[sliceBounds,HT.sIx,ZA9,show(1:Int) > 0 by decide,if_true]
   by_cases h:i < 0
   ·simp only[h,if_true] <;> omega
   ·simp only[h,N0] <;> omega
 ·cases hi with
  |none=>simp[sliceBounds,HT.sIx]
  |some i=>
   simp only[sliceBounds,HT.sIx,ZA9,show(1:Int) > 0 by decide,if_true]
   by_cases h:i < 0
   ·simp only[h,if_true] <;> omega
   ·simp only[h,N0] <;> omega
def az_6(its:List Value)(lo hi:Option Int):slicePick its.toArray lo hi none=((its.drop (HT.sIx its.length 0 lo)).take (HT.sIx its.length its.length hi - HT.sIx its.length 0 lo)).toArray:=by
 obtain⟨h1,h2,h3⟩:=bh_2 lo hi its.toArray.size;unfold slicePick;rw[h1,h2,h3];simp only[sliceRange_one,pick_run,C8] <;> rfl
def rSlL(K:Frag):V->Option Int->Option Int->Hp->VK->Prop:=λx lo hi H Q=>∃a xs,x=.ref a/\SqL K H a xs/\∀p,H p=none->Q (.ref p) (upd H p (.lst (cutV xs lo hi)))
def db_8:SlR X (rSlL X.K):=by
 intro zd s σ H x v vl vu lo hi sl Q I rx hs pl pu h;obtain⟨a,xs,rfl,hx,q⟩:=h;cases rx;obtain⟨its,r,ht,hz⟩:=I.list hx;have zk:=r.length;refine⟨"list",_,slot_list_getitem.lookup,ht.isList.typeIs, ?_⟩;refine wpAny_getItem_list_slice ht.isList hs pl pu .none (by simp) ?_ (by rw[C8] <;> omega);rw[az_6,<-zk];refine⟨.ref s.heap.objs.size,_,I.laid (t':=s.toks) (o:=.lst (cutV xs lo hi)) (λb ob q=>A5 _ q) (A8 _) ?_,rfl,q _ (I.hok.fresh (A8 _))⟩;exact⟨C7 (bo_5 xs lo hi) hz,_,0,(r.drop (HT.sIx xs.length 0 lo)).take (HT.sIx xs.length xs.length hi - HT.sIx xs.length 0 lo),B7 _ rfl⟩
def Fw:V->Bool
 | .non=>true
 | .bl _=>true
 | .int _=>true
 | .str _=>true
 |_=>false
def eqV:V->V->Bool
 | .non,.non=>true
 | .bl a,.bl b=>a ==b
 | .bl a,.int b=>(if a then 1 else 0) ==b
 | .int a,.bl b=>a ==(if b then 1 else 0)
 | .int a,.int b=>a ==b
 | .str a,.str b=>a ==b
 |_,_=>false
def do_6{A:Around}{s:Shared}{y x:V}{u v:Value}(ry:RelV y u)(rx:RelV x v)(fy:Fw y=true)(fx:Fw x=true):SeqAt.EqAt A s u v (eqV y x):=by
 cases y with
 |non=>
  cases ry;cases x with
  |non=>cases rx;exact SeqAt.EqAt.same _
  |bl b=>cases rx;exact SeqAt.EqAt.none_bool b
  |int b=>obtain⟨t,rfl⟩:=rx;exact SeqAt.EqAt.none_int b t
  |str b=>obtain⟨t,rfl⟩:=rx;exact SeqAt.EqAt.none_str b t
  |_=>exact absurd (show false=true from fx) A7
 |bl a=>
  cases ry;cases x with
  |non=>cases rx;exact SeqAt.EqAt.bool_none a
  |bl b=>cases rx;exact SeqAt.EqAt.bool_bool a b
  |int b=>obtain⟨t,rfl⟩:=rx;exact SeqAt.EqAt.bool_int a b t
  |str b=>obtain⟨t,rfl⟩:=rx;exact SeqAt.EqAt.bool_str a b t
  |_=>exact absurd (show false=true from fx) A7
 |int a=>
  obtain⟨t',rfl⟩:=ry;cases x with
  |non=>cases rx;exact SeqAt.EqAt.int_none a t'
  |bl b=>cases rx;exact SeqAt.EqAt.int_bool a t' b
  |int b=>obtain⟨t,rfl⟩:=rx;exact SeqAt.EqAt.int_int a t' b t
  |str b=>obtain⟨t,rfl⟩:=rx;exact SeqAt.EqAt.int_str a t' b t
  |_=>exact absurd (show false=true from fx) A7
 |str a=>
  obtain⟨t',rfl⟩:=ry;cases x with
  |non=>cases rx;exact SeqAt.EqAt.str_none a t'
  |bl b=>cases rx;exact SeqAt.EqAt.str_bool a t' b
  |int b=>obtain⟨t,rfl⟩:=rx;exact SeqAt.EqAt.str_int a t' b t
  |str b=>obtain⟨t,rfl⟩:=rx;exact SeqAt.EqAt.str_str a t' b t
  |_=>exact absurd (show false=true from fx) A7
 |_=>exact absurd (show false=true from fy) A7
def eqU(x:V)(u:Value):Bool:=match u with
 | .none=>eqV .non x
 | .bool b=>eqV (.bl b) x
 | .int i _=>eqV (.int i) x
 | .str z _=>eqV (.str z) x
 |_=>false
def cp_4{x y:V}{u:Value}(r:RelV y u)(f:Fw y=true):eqU x u=eqV y x:=by
 cases y with
 |non=>cases r;rfl
 |bl b=>cases r;rfl
 |int i=>obtain⟨t,rfl⟩:=r;rfl
 |str z=>obtain⟨t,rfl⟩:=r;rfl
 |_=>exact absurd (show false=true from f) A7
theorem ah_9{x:V}:∀{xs:List V} {us:List Value},Vals xs us->xs.all Fw=true->us.any (eqU x)=xs.any λy=>eqV y x
 |_,_,.nil,_=>rfl
 |y::xs,u::us,.cons r t,f=>by
  rw[S7,D0]at f;rw[S9,S9,cp_4 r f.1,ah_9 t f.2]
theorem aa_7{A:Around}{s:Shared}{x:V}{v:Value}(rx:RelV x v)(fx:Fw x=true):∀{xs:List V} {us:List Value},Vals xs us->xs.all Fw=true->∀u∈us,SeqAt.EqAt A s u v (eqU x u)
 |_,_,.nil,_=>λu hu=>by cases hu
 |y::xs,u::us,.cons r t,f=>λu' hu=>by
  rw[S7,D0]at f;rcases B8.mp hu with rfl|hu
  ·rw[cp_4 r f.1];exact do_6 r rx f.1 fx
  ·exact aa_7 rx fx t f.2 u' hu
def inV(x:V)(xs:List V):Bool:=xs.any λy=>eqV y x
def rIn(K:Frag)(neg:Bool):R2:=λx y H Q=>∃p xs,y=.ref p/\(SqL K H p xs\/SqT K H p xs)/\Fw x=true/\xs.all Fw=true/\Q (.bl (if neg then !inV x xs else inV x xs)) H
def ci_0:OpR X (compareOp .In) (rIn X.K false):=by
 intro zd s σ H x y v u Q I rx ry h;obtain⟨p,xs,rfl,hq,fx,fs,q⟩:=h;cases ry;rcases hq with hq|hq
 ·obtain⟨its,r,pl,hz⟩:=I.list hq;refine SeqAt.in_listAt (eqU x) pl.isList (λw hw=>aa_7 rx fx r fs w (by simpa using hw)) ⟨.bl _,H,I,rfl, ?_⟩;rw[show its.toArray.any (eqU x)=its.any (eqU x) by simp,ah_9 r fs];exact q
 ·obtain⟨its,r,pl,hz⟩:=I.tuple hq;refine SeqAt.in_tupleAt (eqU x) pl (λw hw=>aa_7 rx fx r fs w (by simpa using hw)) ⟨.bl _,H,I,rfl, ?_⟩;rw[show its.toArray.any (eqU x)=its.any (eqU x) by simp,ah_9 r fs];exact q
def bh_3:OpR X (compareOp .NotIn) (rIn X.K true):=by
 intro zd s σ H x y v u Q I rx ry h;obtain⟨p,xs,rfl,hq,fx,fs,q⟩:=h;cases ry;rcases hq with hq|hq
 ·obtain⟨its,r,pl,hz⟩:=I.list hq;refine SeqAt.notIn_listAt (eqU x) pl.isList (λw hw=>aa_7 rx fx r fs w (by simpa using hw)) ⟨.bl _,H,I,rfl, ?_⟩;rw[show its.toArray.any (eqU x)=its.any (eqU x) by simp,ah_9 r fs];exact q
 ·obtain⟨its,r,pl,hz⟩:=I.tuple hq;refine SeqAt.notIn_tupleAt (eqU x) pl (λw hw=>aa_7 rx fx r fs w (by simpa using hw)) ⟨.bl _,H,I,rfl, ?_⟩;rw[show its.toArray.any (eqU x)=its.any (eqU x) by simp,ah_9 r fs];exact q
def bh_4:OpR X (compareOp .NotIn) (λx y H Q=>∃i j,x=.str i/\y=.str j/\Q (.bl (!(!(Builtin.Str.occurrences j i 0 j.length 1).isEmpty))) H):=by
 intro zd s σ H x y v u Q I rx ry h;obtain⟨i,j,rfl,rfl,q⟩:=h;obtain⟨t,rfl⟩:=rx;obtain⟨t',rfl⟩:=ry;exact notIn_str ⟨.bl _,H,I,rfl,q⟩
def ai_0:CallR X (.builtin "len") (λxs H Q=>∃p ys,xs= [.ref p]/\(SqL X.K H p ys\/SqT X.K H p ys)/\Q (.int ys.length) H):=by
 intro zd s σ H xs us Q I r h;obtain⟨p,ys,rfl,hq,q⟩:=h;obtain⟨u,rfl,rx⟩:=bo_3 r;cases rx;have hn:=ag_4;rcases hq with hq|hq
 ·obtain⟨its,r',pl,hz⟩:=I.list hq;have zk:=r'.length;exact Calls.call_len_list pl.isList (by simp only[C8] <;> omega) ⟨.int ys.length,H,I.tok _,⟨s.toks + 1,by rw[C8,zk]⟩,q⟩
 ·obtain⟨its,r',pl,hz⟩:=I.tuple hq;have zk:=r'.length;exact len_tuple pl (by simp only[C8] <;> omega) ⟨.int ys.length,H,I.tok _,⟨s.toks + 1,by rw[C8,zk]⟩,q⟩
def bh_5:CallR X (.builtin "len") (λxs H Q=>∃z,xs= [.str z]/\z.length<=sizeLine/\Q (.int z.length) H):=by
 intro zd s σ H xs us Q I r h;obtain⟨z,rfl,hz,q⟩:=h;obtain⟨u,rfl,t,rfl⟩:=bo_3 r;have hn:=ag_4;exact len_str () ⟨.int z.length,H,I.tok _,⟨_,rfl⟩,q⟩
def CallR.or{f:Value}{r r':List V->Hp->VK->Prop}(h:CallR X f r)(h':CallR X f r'):CallR X f (λxs H Q=>r xs H Q\/r' xs H Q):=by
 intro zd s σ H xs us Q I rs q;rcases q with q|q
 ·exact h zd s σ H xs us Q I rs q
 ·exact h' zd s σ H xs us Q I rs q
def ai_1:CallR X (.type "list") (λxs H Q=>∃p ys,xs= [.ref p]/\(SqL X.K H p ys\/SqT X.K H p ys)/\∀l,H l=none->Q (.ref l) (upd H l (.lst ys))):=by
 intro zd s σ H xs us Q I r h;obtain⟨p,ys,rfl,hq,q⟩:=h;obtain⟨u,rfl,rx⟩:=bo_3 r;cases rx;have fin:∀(its:List Value),Vals ys its->ys.length<=sizeLine->∀(h':Heap) (c':Nat),(∀b o',s.heap.get? b=some o'->h'.get? b=some o')->
   h'.get? s.heap.objs.size=some {cls:=.type "list",dict:=none,data:=.seq its.toArray c',slots:= #[]}->EP X zd σ Q (.ref s.heap.objs.size) {s with heap:=h'}:=λits r' hz h' c' kp e=>
  ⟨.ref s.heap.objs.size,_,I.laid (t':=s.toks) kp (A8 _) (show ObjOk X.prog X.w _ h' _ (.lst ys) from⟨hz,its,c',r',e⟩),rfl,q _ (I.hok.fresh (A8 _))⟩
 rcases hq with hq|hq
 ·obtain⟨its,r',pl,hz⟩:=I.list hq;have zk:=r'.length;obtain⟨o,ho,hc,n,hd⟩:=pl.isList;exact call_list_seq p (.inl rfl) ho hc hd (λh' c' kp e=>fin its r' hz h' c' kp e) (by simp only[C8] <;> omega)
 ·obtain⟨its,r',pl,hz⟩:=I.tuple hq;have zk:=r'.length;obtain⟨o,ho,hc,n,hd⟩:=pl;exact call_list_seq p (.inr rfl) ho hc hd (λh' c' kp e=>fin its r' hz h' c' kp e) (by simp only[C8] <;> omega)
def tyV(K:Frag)(T:String)(x:V)(H:Hp):Prop:=match x with
 | .str _=>T= "str"
 | .int _=>T= "int"
 | .ref p=>(T= "list" /\∃xs,SqL K H p xs)\/(T= "tuple" /\∃o,K.lookup p=some o/\o.cls=.type "tuple" /\o.dict=none)\/
   (T= "dict" /\((∃kvs,H p=some (.dK kvs))\/∃kvs,H p=some (.dT kvs)))\/(T= "set" /\∃S n,H p=some (.set S n))
 |_=>False
def do_7{zd:AE}{σ:St}{H:Hp}{s:Shared}{T:String}{x:V}{v:Value}(I:Inv X zd σ H s)(r:RelV x v)(ty:tyV X.K T x H):
  s.TypeIs v T/\∀a,v=.ref a->∃ob,s.heap.get? a=some ob/\ob.dict=none:=by
 cases x with
 |str z=>
  obtain⟨t,rfl⟩:=r;cases(show T= "str" from ty);exact⟨typeIs_str s z t,λ_ e=>nomatch e⟩
 |int i=>
  obtain⟨t,rfl⟩:=r;cases(show T= "int" from ty);exact⟨typeIs_int s i t,λ_ e=>nomatch e⟩
 |ref p=>
  cases r;rcases ty with⟨rfl,xs,hq⟩|⟨rfl,o,hk,hc,hd⟩|⟨rfl,hk⟩|⟨rfl,S,n,hk⟩
  ·obtain⟨its,_,pl,_⟩:=I.list hq;refine⟨pl.isList.typeIs,λa e=> ?_⟩;cases e;obtain⟨o,n,e,c,hd,_⟩:=pl;exact⟨o,e,hd⟩
  ·refine⟨⟨o,I.kIn p o hk,hc⟩,λa e=> ?_⟩;cases e;exact⟨o,I.kIn _ o hk,hd⟩
  ·have z:∃o,s.heap.get? p=some o/\o.ExactDict:=by
    rcases hk with⟨kvs,hk⟩|⟨kvs,hk⟩
    ·obtain⟨_,_,_,_,o,_,_,e,ex,_⟩:=I.hok p _ hk;exact⟨o,e,ex⟩
    ·obtain⟨_,_,_,_,o,_,_,e,ex,_⟩:=I.hok p _ hk;exact⟨o,e,ex⟩
   obtain⟨o,e,ex⟩:=z;refine⟨⟨o,e,ex.1⟩,λa e2=> ?_⟩;cases e2;exact⟨o,e,ex.2.1⟩
  ·obtain⟨o,_,_,_,e,ex,_⟩:=I.hok p _ hk;refine⟨⟨o,e,ex.1⟩,λa e2=> ?_⟩;cases e2;exact⟨o,e,ex.2.1⟩
 |_=>exact False.elim ty
def tBM(K:Frag)(T:String)(r:V->List V->Hp->VK->Prop)(to:TE)(t:TA):TE:=λ σ H Q=>to σ H λx H1=>tyV K T x H1/\t σ H1 λxs H2=>r x xs H2 Q
variable{o e:Expr}{es:List Expr}{to:TE}{t:TA}{name:Str}{zh zf:Pos}{T id:String}{r:V->List V->Hp->VK->Prop}
def cb_4(pa:PlainAttrs T)(slot:Slot T name id)(hty:typeOf (.builtin id)=pure (.type "method_descriptor"))(hm:MtR X id r)(ho:PE X o to)(ha:PA X (e::es) t)
  (af:attributeBase o name X.env (eval o X.env)=eval o X.env:=by rfl)
  (az:((backTo zf (starEach (e::es) X.env)).all (λx=> !x.1) && (backToKw zf (keywordEach [] X.env)).all (λx=>x.1.isSome)
   && decide ((e::es).length + ([]:List Keyword).length + (if([]:List Keyword).isEmpty then 0 else 1) < 30))=true:=by rfl)
  (ag:(zh.endLine ==zf.line)=true:=by rfl) (hs:starEach (e::es) X.env=(false,eval e X.env)::starEach es X.env:=by rfl) (aa:(backTo zf (starEach es X.env)).any (·.1)=false:=by rfl):
  PE X (.Call (.Attribute o name zh) (e::es) [] zf) (tBM X.K T r to t):=by
 intro zd s σ H Q I h;refine wpAny_Call_method_late af az ag rfl (Be (ho zd s σ H _ I h) λv s1 ⟨x,H1,I1,r1,ty,q1⟩=> ?_);obtain⟨h1,h2⟩:=do_7 I1 r1 ty;refine⟨T,id,pa,slot,hty,h1,h2, ?_⟩;have hA:=ha zf zd s1 σ H1 _ I1 q1;rw[hs]at hA⊢;refine V7 (by show(false || (backTo zf (starEach es X.env)).any (·.1))=false;rw[aa] <;> rfl) (X4 ?_);exact Be hA λus s2 ⟨vs,H2,I2,r2,q2⟩=>hm zd s2 σ H2 x vs v us Q I2 r1 r2 q2
end
def MtM(X:Cx)(id:String)(r:V->List V->Hp->VK->Prop):Prop:=
 ∀(zd:AE) (s:Shared) (σ:St) (H:Hp) (x:V) (xs:List V) (v:Value) (us:List Value) (Q:VK),Inv X zd σ H s->RelV x v->Vals xs us->r x xs H Q->
  wpAny (model X.prog X.w) X.A (call (.builtin id) (v::us)) (EP X zd σ Q) X.xe s
def Vals.one:∀{x:V} {us:List Value},Vals [x] us->∃u,us= [u]/\RelV x u
 |_,_,.cons r .nil=>⟨_,rfl,r⟩
def Vals.two{x y:V}{us:List Value}(h:Vals [x,y] us):∃u v,us= [u,v]/\RelV x u/\RelV y v:=by
 cases h with
 |cons r t=>
  cases t with
  |cons q t=>
   cases t;exact⟨_,_,rfl,r,q⟩
def Vals.zero:∀{us:List Value},Vals [] us->us= []
 |_,.nil=>rfl
theorem Vals.reverse{xs:List V}{us:List Value}(h:Vals xs us):Vals xs.reverse us.reverse:=by
 induction h with
 |nil=>exact .nil
 |cons r t ih=>rw[List.reverse_cons,List.reverse_cons];exact Vals.append ih (.cons r .nil)
theorem Vals.rep{xs:List V}{us:List Value}(h:Vals xs us):∀k:Nat,Vals (List.replicate k xs).flatten (List.replicate k us).flatten
 |0=> .nil
 |k + 1=>by
  rw[K1,K1,Q8,Q8];exact Vals.append h (Vals.rep h k)
theorem bc_8(its:List Value):∀(k:Nat) (zn:List Value),
  List.foldl (λx1 x2=>x1 ++ x2) zn.toArray (List.replicate k its.toArray)=(zn ++ (List.replicate k its).flatten).toArray
 |0,zn=>by simp
 |k + 1,zn=>by
  have e:zn.toArray ++ its.toArray=(zn ++ its).toArray:=by simp
  have e2:(zn ++ its) ++ (List.replicate k its).flatten=zn ++ (List.replicate (k + 1) its).flatten:=by
   rw[K1,Q8,N1]
  rw[<-e2,<-bc_8 its k (zn ++ its),<-e,K1,U8]
section
variable{X:Cx}{zd:AE}{σ:St}{H:Hp}{s:Shared}{l b:Addr}{xs ys zs:List V}
def Inv.lset{its its':List Value}{n:Nat}{f:Array Value->Array Value}{t':Nat}(I:Inv X zd σ H s)(hH:H l=some (.lst xs))
  (e:s.heap.get? l=some {cls:=.type "list",data:=.seq its.toArray n}) (hf:f its.toArray=its'.toArray) (hv:Vals ys its') (hz:ys.length<=sizeLine):
  Inv X zd σ (upd H l (.lst ys)) {s with heap:=s.heap.update l (Obj.mapSeq f),toks:=t'}:=by
 have q:=PySem.IsL.update e f;rw[hf]at q;refine I.write (x:=l) (e:=l) (by rw[hH];exact trivial) (.inl rfl) (λb' u hb hu=>(J6 s.heap (Obj.mapSeq f) (Ne.symm hb)).trans hu) ⟨_,q⟩ ?_;exact⟨hz,its',_,hv,q⟩
def Inv.lnew{its:List Value}{t':Nat}(I:Inv X zd σ H s)(hv:Vals ys its)(hz:ys.length<=sizeLine):
  Inv X zd σ (upd H s.heap.objs.size (.lst ys)) {s with heap:=s.heap.push {cls:=.type "list",data:=.seq its.toArray},toks:=t'}:=
 I.laid (λ_ _ q=>A5 _ q) (A8 _) ⟨hz,its,0,hv,B7 _ rfl⟩
theorem Inv.fresh(I:Inv X zd σ H s):H s.heap.objs.size=none:=I.hok.fresh (A8 _)
def Inv.lstM(I:Inv X zd σ H s)(hH:H l=some (.lst xs)):xs.length<=sizeLine/\∃(its:List Value) (n:Nat),Vals xs its/\xs.length=its.length/\s.heap.get? l=some {cls:=.type "list",data:=.seq its.toArray n}:=by
 obtain⟨z,its,n,r,e⟩:=I.hok l _ hH;exact⟨z,its,n,r,r.length,e⟩
def cp_5{n:Nat}(h:n<=sizeLine):Builtin.List.listTooLong n=false:=by
 unfold Builtin.List.listTooLong;exact E4 ()
end
section
variable{X:Cx}
def bh_6:V->List V->Hp->VK->Prop:=λx vs H Q=>∃l xs y,x=.ref l/\vs= [y]/\H l=some (.lst xs)/\xs.length < sizeLine/\Q .non (upd H l (.lst (xs ++ [y])))
def w_0:MtM X "list.append" bh_6:=by
 intro zd s σ H x vs v us Q I rx rv h;obtain⟨l,xs,y,rfl,rfl,hH,hz,q⟩:=h;cases rx;obtain⟨u,rfl,ru⟩:=rv.one;obtain⟨z,its,n,r,hl,e⟩:=I.lstM hH;refine call_meets F.slot_list_append ⟨_,e,rfl⟩ F.entry_list_append (F.args_list_append_2 _ _) (PySem.list_append l its.toArray n u (by rw[C8];omega)) ⟨e, ?_⟩;refine⟨.non,_,I.lset (its':=its ++ [u]) hH e (by simp) (r.append (.cons ru .nil)) ?_,rfl,q⟩;rw[B6,M5];omega
def rRep:R2:=λx y H Q=>∃l k xs,x=.ref l/\y=.int k/\H l=some (.lst xs)/\ -(2 ^ 63)<=k/\k < 2 ^ 63/\xs.length * k.toNat<=sizeLine/\
 ∀p,H p=none->Q (.ref p) (upd H p (.lst (List.replicate k.toNat xs).flatten))
def db_9{α:Type}(xs:List α)(k:Nat):(List.replicate k xs).flatten.length=k * xs.length:=by
 induction k with
 |zero=>simp
 |succ k ih=>rw[K1,Q8,B6,ih,ZE4,Nat.add_comm]
def do_8:OpR X (binaryOp .Mult) rRep:=by
 intro zd s σ H x y v u Q I rx ry h;obtain⟨l,k,xs,rfl,rfl,hH,h1,h2,hz,q⟩:=h;cases rx;obtain⟨t,rfl⟩:=ry;obtain⟨z,its,n,r,hl,e⟩:=I.lstM hH;have zk:its.toArray.size * k.toNat<=sizeLine:=by rw[C8,<-hl];exact hz
 have ij:¬its.toArray.size * k.toNat > (2 ^ 63 - 1) / 8:=by
  have:(sizeLine:Nat)<=(2 ^ 63 - 1) / 8:=by decide
  omega
 have ig:¬(!Builtin.List.listFitsIndex k)=true:=by
  rw[fitsIndex_both h1 h2];exact A7
 have cz:¬Builtin.List.listTooLong (its.toArray.size * k.toNat)=true:=by
  rw[cp_5 zk];exact A7
 have je:List.foldl (λx1 x2=>x1 ++ x2) #[] (List.replicate (if its.toArray.isEmpty=true then 0 else k.toNat) its.toArray)=(List.replicate k.toNat its).flatten.toArray:=by
  have f0:∀m:Nat,List.foldl (λx1 x2=>x1 ++ x2) #[] (List.replicate m its.toArray)=(List.replicate m its).flatten.toArray:=λm=>by
   have:=bc_8 its m [];rw[P2]at this;exact this
  rw[f0];cases its with
  |nil=>simp
  |cons a r'=>rw[if_neg (by simp)]
 refine wpAny_binaryOp_repeat_ref (T:= "list") (U:= "int") ⋯ ⟨_,e,rfl⟩ (λs'=>typeIs_int s' k t) noFill_list_mul F.fills_int_mul F.slot_int_rmul repeat_list F.slot_int_index.lookup
  (call_meets F.slot_int_rmul (typeIs_int s k t) F.entry_int_rmul (F.args_int_rmul_2 _ _) (int___rmul___int_list k t l its.toArray n)
   ⟨e,rfl,⟨_,e,rfl⟩,call_meets F.slot_list_mul ⟨_,e,rfl⟩ F.entry_list_mul (F.args_list_mul_2 _ _) (AutoListH.list___mul___list_int_3 l its.toArray n k t ig ij cz) ⟨e, ?_⟩⟩)
 rw[je];exact⟨.ref _,_,I.lnew (t':=s.toks) (r.rep k.toNat) (by rw[db_9,Nat.mul_comm];exact hz),rfl,q _ I.fresh⟩
end
section
variable{prog:Program}{w:World}{A:Around}{E:AA}{s:Shared}
end
section
variable{X:Cx}
end
end L2
namespace Att
open PySem PySem.W PySem.Calls PyProof.Rows
def aq_7{P:Params}{h:Heap}:∀(ns:List Int) (vs:List Value),WellAll P h vs (ns.map WData.int)->IntsAre vs ns:=by
 intro ns
 induction ns with
 |nil=>
  intro vs w;rw[N2]at w;cases w;exact .nil
 |cons n ns ih=>
  intro vs w;rw[B2]at w;cases w with
  |cons a b=>
   cases a;exact .cons _ _ (ih _ b)
def ci_1{l:OpenLaw}{n:Nat}(hn:l.most=some n){P:Params}{h:Heap}{args:List WData}{vals:List Value}
  (cj:l.row.toRowW.claim.pre args=true) (hwl:WellAll P h vals args):
  ∃a vs ns,vals= [Value.ref a]/\args= [WData.list (ns.map WData.int)]/\h.get? a=some {cls:=.type "list",data:=.seq vs.toArray}/\IntsAre vs ns/\ns.length<=n:=by
 have hsh:WShape.hasAll [] args [.list .int]=true:=(pre_splitW cj).1;have hc:l.pre.holds [] {args:=args}=true:=(pre_splitW cj).2;obtain⟨d,r,rfl,h1,h2⟩:=hasAllW_cons hsh;obtain rfl:=hasAllW_nil h2;obtain⟨xs,rfl,h3⟩:=hasW_list h1;obtain⟨ns,rfl⟩:=items_int h3;have zk:ns.length<=n:=by
  unfold OpenLaw.pre at hc;have h4:(WTm.not (.lt (.lit (.int (n:Int))) (.len (.arg 0)))).holds [] {args:=[.list (ns.map .int)]}=true:=by
   have h4:=(holds_andW hc).1;rw[hn]at h4;exact h4
  have h5:=condW_of h4 (w_not (w_lt w_lit (w_len_list (w_arg rfl))));rw[A4]at h5;refine Nat.le_of_not_lt λq=> ?_;have q':(n:Int) < ((ns.length:Nat):Int):=by omega
  first
   |(rw[F1 q']at h5;exact absurd h5 ⋯)
   |(simp at h5;omega)
 cases hwl with
 |cons w1 w2=>
  cases w2;cases w1 with
  |list ho cf=>exact⟨_,_,ns,rfl,rfl,ho,aq_7 ns _ cf,zk⟩
def ci_2(l:OpenLaw)(args:List WData):l.row.toRowW.claim.post args (.bool true) args=true:=
 postW_of (r:=l.row.toRowW) (X:=(true ==true))
  (show WShape.has [] (.bool true) .bool=true by first|rfl|decide|simp[WShape.has,WShape.arms,WShape.armsAll])
  (show(WTm.eq .res (.lit (.bool true))).value [] {args:=args,res:=some (.bool true),after:=args}=some (.bool (true ==true)) from w_eq_bool (w_res rfl) w_lit) rfl
def attach_call{l:OpenLaw}{n:Nat}{q:Program}{loose:List Str}{XP:(AB)->Heap->Prop}{YP:World->Heap->Prop}{d:DefRec}
  (hn:l.most=some n) (hdf:d.params.defaults= [])
  (call:∀(w:World) (s₀ s₁:Shared) (mg mb:AB) (fa:Addr) (o:Obj) (pm cd doc:Value) (a:Addr) (vs:List Value) (ns:List Int),
   Ground q loose [] XP w s₀ mg mb s₁.heap->YP w s₁.heap->
   s₁.heap.get? fa=some o->o.data=.func (docDef d.name d.params d.body d.scope pm cd doc)->s₁.heap.CodeRec cd d.name->mg d.name=some (.ref fa)->
   s₁.heap.get? a=some {cls:=.type "list",data:=.seq vs.toArray}->IntsAre vs ns->ns.length<=n->s₁.gens= #[]->
   codeAny (model l.prog w) callerA (.call (.ref fa) ⟨[.ref a],[]⟩) (λr s'=>r=.ok (.ret (.bool true))/\OldK s₁.heap s'.heap/\s'.os=s₁.os/\AllBare s'.gens) s₁):
  WalkO q loose XP YP l.row.toRowW d [] (λf vs=>PySem.call f vs):=by
 intro w s₀ s₁ mg mb G Y fa o pm cd doc dV kV ho hd hcd hD hmg hg args vals as cj hlay hrd hwl hlo;obtain rfl:dV=.none:=Dflts.none hD hdf;obtain rfl:kV=.none:=Dflts.noKw hD;obtain⟨a,vs,ns,rfl,rfl,bt,hints,zk⟩:=ci_1 hn cj hwl;refine enter_call (Q9 (call w s₀ s₁ mg mb fa o pm cd doc a vs ns G Y ho (fd_plain hd) hcd hmg bt hints zk hg) λr s' hq=> ?_);obtain⟨rfl,h2,h3,h4⟩:=hq;exact⟨.inl ⟨.bool true,.bool true,[],rfl,λ_=>rfl,.bool true,ci_2 l _,λ_=>⟨List.Pairwise.nil,λ_ hm=>(nomatch hm)⟩⟩,h2,h3,h4⟩
section
variable{prog:Program}{w:World}{A:Around}{E:AA}{s:Shared}{K:Frag}
end
end Att
namespace L2
open PySem PySem.Spec PyProof.Rows
theorem bc_9:∀{vs:List Value} {ns:List Int},IntsAre vs ns->Vals (ns.map V.int) vs
 |_,_,.nil=> .nil
 |_,_,.cons n t h=> .cons ⟨t,rfl⟩ (bc_9 h)
def Only(H:Hp):Prop:=∀b,H b=none\/(∃o xs,H b=some (.frz o (.lst xs)))\/H b=some (.tbl #[])
def cp_6{P:Program}{w:World}{K:Frag}{mg mb:AB}{CX:CXT}{k:Nat}{fa a:Addr}{fd:FuncData}{x:Str}{sp:Sp}{s₁:Shared}{vs:List Value}{ns:List Int}
  (KX:K.In s₁.heap) (hns:s₁.heap.Ns mainGlobals mg) (hb:s₁.heap.Ns builtinsNs mb) (hbb:∀x:Str,x≠ "__name__" ->mb x=bootBuiltins x) (jg:s₁.heap.NoLimit) (hg:s₁.gens= #[])
  (ha:s₁.heap.get? a=some {cls:=.type "list",data:=.seq vs.toArray}) (hi:IntsAre vs ns) (hl:ns.length<=sizeLine) (hr:Room k callerA) (hbm:∃bm o,mg "__builtins__" =some (.ref bm)/\bm≠builtinsNs/\s₁.heap.get? bm=some o/\o.cls=.type "module" /\o.dict=some builtinsNs/\o.data=.plain) (hT:∀c P,PySem.W.tabIn K "numbers_by_bucket" =some (c,P)->isCodeTable s₁.heap P/\s₁.heap.get? P=some {cls:=.none,data:=.fields #[]}/\K.lookup P=none)
  (F:∀base:Heap,K.In base->base.Ns mainGlobals mg->FnOk P w K mg base CX k fa fd [x] sp) (ao:∀(s:Shared) (u:Value),BindsTo s fd ⟨[u],[]⟩ [(x,u)])
  (hsp:∀H:Hp,Only H->SqL K H a (ns.map V.int)->sp [.ref a] H (λv _=>v=.bl true) λ_ _ _=>False)
  (hCX:∀H e s',CX [] H s₁ (λ_ _ _=>False) e s'->False):
  codeAny (model P w) callerA (.call (.ref fa) ⟨[.ref a],[]⟩) (λr s'=>r=.ok (.ret (.bool true))/\OldK s₁.heap s'.heap/\s'.os=s₁.os/\AllBare s'.gens) s₁:=by
 have rv:=bc_9 hi;have gw:=hi.length
 
 have core:∀H:Hp,Only H->SqL K H a (ns.map V.int)->HOk P w H s₁.heap->(∀b,H b≠none->b=a\/(H b=some (.tbl #[])/\isCodeTable s₁.heap b/\s₁.heap.get? b=some {cls:=.none,data:=.fields #[]}/\K.lookup b=none))->(H a≠none->K.lookup a=none)->TabH K H->
   codeAny (model P w) callerA (.call (.ref fa) ⟨[.ref a],[]⟩) (λr s'=>r=.ok (.ret (.bool true))/\OldK s₁.heap s'.heap/\s'.os=s₁.os/\AllBare s'.gens) s₁:=by
  intro H hO hS hok hA hK hTH;have ak:∀{b:Addr} {o:Obj},s₁.heap.get? b=some o->H b=none->(hidT s₁.heap H).get? b=some o:=λe n=>cn_4 e n;have noA:∀{b:Addr} {o:Obj} {es:Array DictEntry} {ep:Nat},s₁.heap.get? b=some o->o.data=.dict es ep->H b=none:=λ{b o es ep} e d=>by
   cases q:H b with
   |none=>rfl
   |some u=>
    rcases hA b (by rw[q];simp) with e'|⟨_,_,e',_⟩
    ·subst e';rw[ha]at e;cases e;have d':Data.seq vs.toArray _=Data.dict es ep:=d;cases d'
    ·rw[e']at e;cases e;have d':Data.fields #[]=Data.dict es ep:=d;cases d'
  have nsK:∀{b:Addr} {m:AB},s₁.heap.Ns b m->(hidT s₁.heap H).Ns b m:=λ{b m} ⟨o,es,ep,e,d,r⟩=>⟨o,es,ep,ak e (noA e d),d,r⟩;have hKb:K.In (hidT s₁.heap H):=λb o e=>ak (KX b o e) (by
   cases q:H b with
   |none=>rfl
   |some u=>
    rcases hA b (by rw[q];simp) with e'|⟨_,_,_,e'⟩
    ·subst e';rw[hK (by rw[q];simp)]at e;cases e
    ·rw[e']at e;cases e)
  have hM:Mod K mg (hidT s₁.heap H):=⟨hKb,nsK hns,⟨mb,nsK hb,hbb⟩,let⟨mc,h1,h2⟩:=jg;⟨mc,nsK h1,h2⟩,let⟨bm,o,b1,b2,b3,b4,b5,b6⟩:=hbm;⟨bm,o,b1,b2,ak b3 (by
   cases q:H bm with
   |none=>rfl
   |some u=>
    rcases hA bm (by rw[q];simp) with e'|⟨_,_,e',_⟩
    ·subst e';rw[ha]at b3;cases b3;have d':Data.seq vs.toArray _=Data.plain:=b6;cases d'
    ·rw[e']at b3;cases b3;have d':Data.fields #[]=Data.plain:=b6;cases d'),b4,b5,b6⟩⟩
  have e0:Env0 P w K mg (hidT s₁.heap H) callerA [] s₁ H:=⟨rfl,hM,λb o e=>da_7 e,Q6 (ch_0 _ _),trivial,λb hb=>absurd (show b∈([]:List Addr) from hb) (by simp),hok,.of_eq hg,hTH⟩;refine Q9 ((F _ hKb (nsK hns)).run callerA [] s₁ H ⟨[.ref a],[]⟩ [.ref a] [.ref a] _ _ hr e0 (ao s₁ (.ref a)) (.cons rfl .nil) (hsp H hO hS)) λr s' h=> ?_;cases r with
  |error e=>exact(hCX H e s' h).elim
  |ok fl=>
   cases fl with
   |next=>exact False.elim h
   |brk=>exact False.elim h
   |cont=>exact False.elim h
   |ret u=>
    obtain⟨v,H',os,bare,un,eh,r',q⟩:=h;have q':v=.bl true:=q;subst q';obtain rfl:u=Value.bool true:=r';have old:∀b o,s₁.heap.get? b=some o->s'.heap.get? b=some o\/(isCodeTable s₁.heap b/\o={cls:=.none,data:=.fields #[]}/\∃vs,s'.heap.get? b=some {cls:=.none,data:=.fields vs}):=λb o e=>by
     cases q:H b with
     |none=>exact .inl (un.keep b o e q (by intro z;exact absurd (show b∈([]:List Addr) from z) (by simp)) (by simp))
     |some u=>
      rcases hO b with z|⟨ob,xs,z⟩|z
      ·rw[q]at z;cases z
      ·have z2:=un.frzs b ob _ z;obtain⟨e1,_⟩:=hok b _ z;obtain⟨e2,_⟩:=eh b _ z2;rw[e]at e1;cases e1;exact .inl e2
      ·obtain⟨m,z2⟩:=un.tbls b _ z;obtain⟨vs,e2,_⟩:=eh b _ z2;rcases hA b (by rw[q];simp) with e'|⟨_,c,e',_⟩
       ·subst e';obtain⟨_,e3,_⟩:=hok b _ z;rw[ha]at e3;cases e3
       ·rw[e]at e';cases e';exact .inr ⟨c,rfl,vs,e2⟩
    refine⟨rfl,⟨λb o e=> ?_,λb o e=> ?_⟩,os,bare⟩
    ·rcases old b o e with z|⟨c,rfl,vs,z⟩
     ·exact .inl z
     ·exact .inr (.inl ⟨c,rfl, #[],vs,rfl,by rw[z];simp⟩)
    ·rcases old b o e with z|⟨_,_,vs,z⟩
     ·exact⟨o,z⟩
     ·exact⟨_,z⟩
 have tr:TriplesOk (#[]:Array Value).toList:=trivial;have fm:∀(H:Hp) (b:Addr),s₁.heap.get? b=some {cls:=.none,data:=.fields #[]}->ObjOk P w H s₁.heap b (.tbl #[]):=λH b e=>⟨#[],e,tr,λpos cv q=>by simp[codeAmong]at q⟩
 
 let HT:Hp:=λb=>match PySem.W.tabIn K "numbers_by_bucket" with
  |some (_,P)=>if b=P then some (.tbl #[]) else none
  |none=>none
 have hHT:∀b u,HT b=some u->u=.tbl #[]/\isCodeTable s₁.heap b/\s₁.heap.get? b=some {cls:=.none,data:=.fields #[]}/\K.lookup b=none:=λb u z=>by
  dsimp only[HT]at z;cases q:PySem.W.tabIn K "numbers_by_bucket" with
  |none=>rw[q]at z;cases z
  |some cp=>
   obtain⟨c,p⟩:=cp;rw[q]at z;dsimp only at z
   split at z
   ·rename_i hb;cases z;subst hb;exact⟨rfl,hT c b q⟩
   ·cases z
 have bj:TabH K HT:=λc p e=>⟨#[],by dsimp only[HT];rw[e];dsimp only;rw[if_pos rfl]⟩;have neA:∀b,HT b≠none->b≠a:=λb z e=>by
  cases q:HT b with
  |none=>exact z q
  |some u=>
   have:=(hHT b u q).2.2.1;rw[e,ha]at this;cases this
 have bz:∀b,HT b=none\/HT b=some (.tbl #[]):=λb=>by
  cases q:HT b with
  |none=>exact .inl rfl
  |some u=>rw[(hHT b u q).1];exact .inr rfl
 cases hk:K.lookup a with
 |some o=>
  have e:=KX a o hk;rw[ha]at e;cases e;refine core HT (λb=>(bz b).imp_right .inr) (.inr ⟨_,vs.toArray,_,hk,rfl,rfl,rfl,by rw[C8,gw];exact hl,by simpa using rv⟩) (λb u z=> ?_) (λb z=> ?_) (λz=>absurd rfl (neA a z)) bj
  ·obtain⟨rfl,_,e,_⟩:=hHT b u z;exact fm _ _ e
  ·cases q:HT b with
   |none=>exact absurd q z
   |some u=>obtain⟨rfl,r⟩:=hHT b u q;exact .inr ⟨rfl,r⟩
 |none=>
  refine core (λb=>if b=a then some (.frz {cls:=.type "list",data:=.seq vs.toArray} (.lst (ns.map V.int))) else HT b) (λb=> ?_) (.inl (.inr ⟨{cls:=.type "list",data:=.seq vs.toArray},if_pos rfl⟩)) (λb u z=> ?_) (λb z=> ?_) (λ_=>hk) λc p e=> ?_
  ·by_cases hb:b=a
   ·exact .inr (.inl ⟨_,_,if_pos hb⟩)
   ·rcases bz b with z|z
    ·exact .inl ((if_neg hb).trans z)
    ·exact .inr (.inr ((if_neg hb).trans z))
  ·by_cases hb:b=a
   ·have z':=(if_pos hb).symm.trans z;cases z';subst hb;exact⟨ha,by rw[A4];exact hl,vs,_,rv,ha⟩
   ·have z':=(if_neg hb).symm.trans z;obtain⟨rfl,_,e,_⟩:=hHT b u z';exact fm _ _ e
  ·by_cases hb:b=a
   ·exact .inl hb
   ·have z':HT b≠none:=λq=>z ((if_neg hb).trans q);cases q:HT b with
    |none=>exact absurd q z'
    |some u=>obtain⟨rfl,r⟩:=hHT b u q;exact .inr ⟨if_neg hb,r⟩
  ·obtain⟨ps,z⟩:=bj c p e;exact⟨ps,(if_neg (neA p (by rw[z];simp))).trans z⟩
def dc_0{l:PySem.W.OpenLaw}{n k:Nat}{q:Program}{loose:List Str}{XP:(AB)->Heap->Prop}{YP:World->Heap->Prop}{d:DefRec}{K:Params->Frag}{CX:World->CXT}{sp:World->Sp}{x:Str}
  (hn:l.most=some n) (hn2:n<=sizeLine) (hdf:d.params.defaults= []) (hr:Room k callerA)
  (hY:∀(w:World) (h:Heap),YP w h->(K w.params).In h) (hT:∀(w:World) (h:Heap),YP w h->∀c P,PySem.W.tabIn (K w.params) "numbers_by_bucket" =some (c,P)->isCodeTable h P/\h.get? P=some {cls:=.none,data:=.fields #[]}/\(K w.params).lookup P=none)
  (F:∀(w:World) (mg:AB) (fa:Addr) (h:Heap),(K w.params).In h->h.Ns mainGlobals mg->mg d.name=some (.ref fa)->
   ∃fd:FuncData,(∀(s:Shared) (u:Value),BindsTo s fd ⟨[u],[]⟩ [(x,u)])/\
    ∀base:Heap,(K w.params).In base->base.Ns mainGlobals mg->FnOk l.prog w (K w.params) mg base (CX w) k fa fd [x] (sp w))
  (hsp:∀(w:World) (H:Hp) (a:Addr) (ns:List Int),ns.length<=n->Only H->SqL (K w.params) H a (ns.map V.int)->sp w [.ref a] H (λv _=>v=.bl true) λ_ _ _=>False)
  (hCX:∀(w:World) (H:Hp) (s:Shared) (e:Value) (s':Shared),CX w [] H s (λ_ _ _=>False) e s'->False):
  PySem.W.WalkO q loose XP YP l.row.toRowW d [] (λf vs=>PySem.call f vs):=by
 refine Att.attach_call hn hdf λw s₀ s₁ mg mb fa o pm cd doc a vs ns G Y ho hd hcd hmg bt hints zk hg=> ?_;have KX:=hY w _ Y;obtain⟨fd,hb,hF⟩:=F w mg fa _ KX G.T.g hmg;exact cp_6 KX G.T.g G.T.b G.T.builtins G.T.nolimit hg bt hints (C7 zk hn2) hr G.T.bmain (hT w _ Y) hF hb (λH hO hS=>hsp w H a ns zk hO hS) λH e s'=>hCX w H s₁ e s'
def k_6(s:Stmt):Arguments:=match s with
 | .FunctionDef _ a _ _ _ _ _ _ _ _=>a
 |_=>{posonlyargs:=[],args:=[],vararg:=none,kwonlyargs:=[],kw_defaults:=[],kwarg:=none,defaults:=[]}
def Ey(s:Stmt):List Stmt:=match s with
 | .FunctionDef _ _ b _ _ _ _ _ _ _=>b
 |_=> []
def Bz(s:Stmt):Scope:=match s with
 | .FunctionDef _ _ _ _ _ _ sc _ _ _=>sc
 |_=>{kind:=.function,names:=[],isGenerator:=false,isCoroutine:=false}
abbrev CX0:CXT:=λ_ _ _ _ _ _=>False
abbrev E0:XK:=λ_ _ _=>False
structure Fun(K:Frag)(x qual:Str)(st:Stmt)(f:Addr)(fd:FuncData):Prop where
 ex:∃(oc:Value) (od:Option Addr) (kV doc pm:Value) (an:Option Addr) (zp ct:Value) (osl:Array (Option Value)),
  fd=fnOf x qual (k_6 st) (Ey st) (Bz st) .none kV doc pm an zp ct/\K.lookup f=some ⟨oc,od,.func fd,osl⟩/\codeIn K zp qual=true
 kp:keepIn K (.ref f)=true
section
variable{P:Program}{w:World}{K:Frag}{mg:AB}{base:Heap}
def Fun.binds{x qual:Str}{st:Stmt}{f:Addr}{fd:FuncData}{ps:List Str}(F:Fun K x qual st f fd)
  (h:∀(kV doc pm:Value) (an:Option Addr) (zp ct:Value) (us:List Value),us.length=ps.length->bindArgs (fnOf x qual (k_6 st) (Ey st) (Bz st) .none kV doc pm an zp ct) ⟨us,[]⟩=pure (ps.zip us)):Binds K fd ps []:=by
 obtain⟨oc,od,kV,doc,pm,an,zp,ct,osl,rfl,lk,hcd⟩:=F.ex;exact .all (h kV doc pm an zp ct)
def bx_3{x qual:Str}{st:Stmt}{f:Addr}{oc:Value}{od an:Option Addr}{osl:Array (Option Value)}{kV doc pm zp ct:Value}(l:K.lookup f=some ⟨oc,od,.func (fnOf x qual (k_6 st) (Ey st) (Bz st) .none kV doc pm an zp ct),osl⟩)
  (c:codeIn K zp qual=true) (k:keepIn K (.ref f)=true):Fun K x qual st f (fnOf x qual (k_6 st) (Ey st) (Bz st) .none kV doc pm an zp ct):=⟨⟨oc,od,kV,doc,pm,an,zp,ct,osl,rfl,l,c⟩,k⟩
end
section
variable{X:Cx}
end
def Same(H H':Hp):Prop:=∀b o,H b=some o->H' b=some o
def Same.refl(H:Hp):Same H H:=λ_ _ h=>h
def Same.trans{H H1 H2:Hp}(a:Same H H1)(b:Same H1 H2):Same H H2:=λc o h=>b c o (a c o h)
def Same.free{H H':Hp}(e:Same H H'){l:Addr}(h:H' l=Option.none):H l=Option.none:=by
 cases q:H l with
 |none=>rfl
 |some o=>
  rw[e l o q]at h;cases h
def Same.seq{K:Frag}{H H':Hp}{a:Addr}{xs:List V}(e:Same H H')(h:SqL K H a xs):SqL K H' a xs:=by
 rcases h with(h|⟨o,h⟩)|h
 ·exact .inl (.inl (e _ _ h))
 ·exact .inl (.inr ⟨o,e _ _ h⟩)
 ·exact .inr h
end L2
namespace L3
open PySem PySem.Spec PyProof.Rows L2
variable{K:Frag}{fd:FuncData}{mg:AB}{us:List Value}{base:Heap}{H:Hp}{X:Cx}{pos:Pos}
abbrev Sg:=L2.St
inductive D where
 |non|bl (b:Bool)|int (i:Int)|str (x:Str)|lst (ds:List D)|tup (ds:List D)|dic (kvs:List (Ar×D))
 |exn (c:Str) (ns:List Str) (vs:List D)|obj (c:Str) (ns:List Str) (vs:List D)
structure Xn where
 c:Str
 ns:List Str
 vs:List D
inductive R(α:Type) where
 |ok (a:α)|ex (x:Xn)|no
namespace R
def bind{α β:Type}(r:R α)(k:α->R β):R β:=match r with
 | .ok a=>k a
 | .ex x=> .ex x
 | .no=> .no
@[simp] theorem bind_ok{α β:Type}(a:α)(k:α->R β):(R.ok a).bind k=k a:=rfl
@[simp] theorem bind_ex{α β:Type}(x:Xn)(k:α->R β):(R.ex x).bind k=.ex x:=rfl
@[simp] theorem bind_no{α β:Type}(k:α->R β):(R.no).bind k=.no:=rfl
end R
inductive Tn where
 |sh (d:D)|lst (ts:List Tn)|tup (ts:List Tn)|dic (zm:List (Ar×Tn))|obj (c:Str) (ns:List Str) (ts:List Tn)
mutual
def Tn.d:Tn->D
 | .sh d=>d
 | .lst ts=> .lst (Tn.ds ts)
 | .tup ts=> .tup (Tn.ds ts)
 | .dic zm=> .dic (Tn.ks zm)
 | .obj c ns ts=> .obj c ns (Tn.ds ts)
def Tn.ds:List Tn->List D
 | []=> []
 |t::ts=>t.d::Tn.ds ts
def Tn.ks:List (Ar×Tn)->List (Ar×D)
 | []=> []
 |(k,t)::ts=>(k,t.d)::Tn.ks ts
end
def Tn.of:D->Tn
 | .lst ds=> .lst (ds.map .sh)
 | .dic kvs=> .dic (kvs.map λp=>(p.1,.sh p.2))
 | .obj c ns vs=> .obj c ns (vs.map .sh)
 |d=> .sh d
theorem Tn.ds_sh:∀ds:List D,Tn.ds (ds.map .sh)=ds
 | []=>rfl
 |d::ds=>by
  show(Tn.sh d).d::Tn.ds (ds.map .sh)=_;rw[Tn.ds_sh ds];rfl
theorem Tn.ks_sh:∀kvs:List (Ar×D),Tn.ks (kvs.map λp=>(p.1,Tn.sh p.2))=kvs
 | []=>rfl
 |(k,d)::kvs=>by
  show(k,(Tn.sh d).d)::Tn.ks (kvs.map λp=>(p.1,Tn.sh p.2))=_;rw[Tn.ks_sh kvs];rfl
theorem Tn.ks_fst:∀zm:List (Ar×Tn),(Tn.ks zm).map (·.1)=zm.map (·.1)
 | []=>rfl
 |(k,t)::zm=>by show k::(Tn.ks zm).map (·.1)=_;rw[Tn.ks_fst zm];rfl
theorem Tn.ks_snd:∀zm:List (Ar×Tn),(Tn.ks zm).map (·.2)=Tn.ds (zm.map (·.2))
 | []=>rfl
 |(k,t)::zm=>by show t.d::(Tn.ks zm).map (·.2)=_;rw[Tn.ks_snd zm];rfl
def Tn.of_d(d:D):(Tn.of d).d=d:=by
 cases d with
 |lst ds=>show D.lst (Tn.ds (ds.map .sh))=_;rw[Tn.ds_sh]
 |dic kvs=>show D.dic (Tn.ks (kvs.map λp=>(p.1,.sh p.2)))=_;rw[Tn.ks_sh]
 |obj c ns vs=>show D.obj c ns (Tn.ds (vs.map .sh))=_;rw[Tn.ds_sh]
 |_=>rfl
inductive W where
 |sh (d:D)|ow (d:D)|tr (t:Tn)
def W.d:W->D
 | .sh d=>d
 | .ow d=>d
 | .tr t=>t.d
@[simp] theorem W.d_sh(d:D):(W.sh d).d=d:=rfl
@[simp] theorem W.d_ow(d:D):(W.ow d).d=d:=rfl
@[simp] theorem W.d_tr(t:Tn):(W.tr t).d=t.d:=rfl
def ClsAt(K:Frag)(c:Str)(C:Addr):Prop:=PySem.W.nsIn K mainGlobals c=some (some (.ref C))
def XO(a C:Addr)(dx:Option Addr):HO:=.ext λh=>∃us sl,h.get? a=some ⟨.ref C,dx,.fields us,sl⟩/\us[2]? =some .none
mutual
inductive Has(K:Frag)(G:Hp):V->D->Prop where
 |non:Has K G .non .non
 |bl (b:Bool):Has K G (.bl b) (.bl b)
 |int (i:Int):Has K G (.int i) (.int i)
 |str (x:Str):Has K G (.str x) (.str x)
 |lst {a:Addr} {vs:List V} {ds:List D} (h:SqL K G a vs) (r:HasL K G vs ds):Has K G (.ref a) (.lst ds)
 |tup {a:Addr} {vs:List V} {ds:List D} (h:SqT K G a vs) (r:HasL K G vs ds):Has K G (.ref a) (.tup ds)
 |exn0 {a C:Addr} {o:Obj} {c:Str} (hc:ClsAt K c C) (h:G a=some (.frz o (XO a C none))):Has K G (.ref a) (.exn c [] [])
 |exn1 {a C d:Addr} {o:Obj} {c:Str} {ns:List Str} {us:List V} {vs:List D} (hc:ClsAt K c C) (h:G a=some (.frz o (XO a C (some d)))) (hd:G d=some (.xd (ns.zip us))) (hl:ns.length=us.length) (r:HasL K G us vs):Has K G (.ref a) (.exn c ns vs)
 |dic {a:Addr} {kvs:List (Ar×V)} {kds:List (Ar×D)} (h:Rd G a (.dK kvs)) (hk:kvs.map (·.1)=kds.map (·.1)) (r:HasL K G (kvs.map (·.2)) (kds.map (·.2))):Has K G (.ref a) (.dic kds)
 |obj {a C dx:Addr} {c:Str} {ns:List Str} {us:List V} {vs:List D} (hc:ClsAt K c C) (h:G a=some (.ins C dx (ns.zip us))) (hl:ns.length=us.length) (r:HasL K G us vs):Has K G (.ref a) (.obj c ns vs)
inductive HasL(K:Frag)(G:Hp):List V->List D->Prop where
 |nil:HasL K G [] []
 |cons {v:V} {d:D} {vs:List V} {ds:List D} (h:Has K G v d) (r:HasL K G vs ds):HasL K G (v::vs) (d::ds)
end
abbrev AS:=Addr->Prop
mutual
inductive Ow(K:Frag)(G H:Hp):V->Tn->AS->Prop where
 |sh {v:V} {d:D} {S:AS} (h:Has K G v d):Ow K G H v (.sh d) S
 |lst {a:Addr} {vs:List V} {ts:List Tn} {S S1:AS} (h:H a=some (.lst vs)) (ha:S a) (sub:∀b,S1 b->S b/\b≠a) (r:OwL K G H vs ts S1):Ow K G H (.ref a) (.lst ts) S
 |tup {a:Addr} {vs:List V} {ts:List Tn} {S S1:AS} (h:H a=some (.tup vs)) (ha:S a) (sub:∀b,S1 b->S b/\b≠a) (r:OwL K G H vs ts S1):Ow K G H (.ref a) (.tup ts) S
 |dic {a:Addr} {kvs:List (Ar×V)} {zm:List (Ar×Tn)} {S S1:AS} (h:H a=some (.dK kvs)) (hk:kvs.map (·.1)=zm.map (·.1)) (ha:S a) (sub:∀b,S1 b->S b/\b≠a) (r:OwL K G H (kvs.map (·.2)) (zm.map (·.2)) S1):Ow K G H (.ref a) (.dic zm) S
 |obj {a C dx:Addr} {c:Str} {ns:List Str} {us:List V} {ts:List Tn} {S S1:AS} (hc:ClsAt K c C) (h:H a=some (.ins C dx (ns.zip us))) (hl:ns.length=us.length) (ha:S a) (sub:∀b,S1 b->S b/\b≠a) (r:OwL K G H us ts S1):Ow K G H (.ref a) (.obj c ns ts) S
inductive OwL(K:Frag)(G H:Hp):List V->List Tn->AS->Prop where
 |nil {S:AS}:OwL K G H [] [] S
 |cons {v:V} {t:Tn} {vs:List V} {ts:List Tn} {S S1 S2:AS} (h:Ow K G H v t S1) (r:OwL K G H vs ts S2) (dj:∀b,S1 b->S2 b->False) (s1:∀b,S1 b->S b) (s2:∀b,S2 b->S b):OwL K G H (v::vs) (t::ts) S
end
def Same.rdD{H H':Hp}{a:Addr}{u:HO}(e:Same H H')(h:Rd H a u):Rd H' a u:=by
 rcases h with h|⟨o,h⟩
 ·exact .inl (e _ _ h)
 ·exact .inr ⟨o,e _ _ h⟩
def Same.tupS{H H':Hp}{a:Addr}{xs:List V}(e:Same H H')(h:SqT K H a xs):SqT K H' a xs:=by
 rcases h with(h|⟨o,h⟩)|h
 ·exact .inl (.inl (e _ _ h))
 ·exact .inl (.inr ⟨o,e _ _ h⟩)
 ·exact .inr h
mutual
theorem Has.mono{G G':Hp}(e:Same G G'):∀{v:V} {d:D},Has K G v d->Has K G' v d
 |_,_,.non=> .non
 |_,_,.bl b=> .bl b
 |_,_,.int i=> .int i
 |_,_,.str x=> .str x
 |_,_,.lst h r=> .lst (e.seq h) (HasL.mono e r)
 |_,_,.tup h r=> .tup (Same.tupS e h) (HasL.mono e r)
 |_,_,.exn0 hc h=> .exn0 hc (e _ _ h)
 |_,_,.exn1 hc h hd hl r=> .exn1 hc (e _ _ h) (e _ _ hd) hl (HasL.mono e r)
 |_,_,.dic h hk r=> .dic (Same.rdD e h) hk (HasL.mono e r)
 |_,_,.obj hc h hl r=> .obj hc (e _ _ h) hl (HasL.mono e r)
theorem HasL.mono{G G':Hp}(e:Same G G'):∀{vs:List V} {ds:List D},HasL K G vs ds->HasL K G' vs ds
 |_,_,.nil=> .nil
 |_,_,.cons h r=> .cons (Has.mono e h) (HasL.mono e r)
end
theorem HasL.length{G:Hp}:∀{vs:List V} {ds:List D},HasL K G vs ds->vs.length=ds.length
 |_,_,.nil=>rfl
 |_,_,.cons _ r=>by rw[C6,C6,r.length]
theorem HasL.append{G:Hp}:∀{vs ws:List V} {ds es:List D},HasL K G vs ds->HasL K G ws es->HasL K G (vs ++ ws) (ds ++ es)
 |_,_,_,_,.nil,s=>s
 |_,_,_,_,.cons h r,s=> .cons h (r.append s)
theorem HasL.get{G:Hp}:∀{vs:List V} {ds:List D} {i:Nat} {d:D},HasL K G vs ds->ds[i]? =some d->∃v,vs[i]? =some v/\Has K G v d
 |_,_,_,_,.nil,e=>by simp at e
 |_,_,0,_,.cons h _,e=>by simp at e;subst e;exact⟨_,rfl,h⟩
 |_,_,i + 1,d,.cons _ r,e=>by
  obtain⟨u,h1,h2⟩:=HasL.get (i:=i) (d:=d) r (by simpa using e);exact⟨u,by simpa using h1,h2⟩
theorem HasL.take{G:Hp}:∀{vs:List V} {ds:List D} (n:Nat),HasL K G vs ds->HasL K G (vs.take n) (ds.take n)
 |_,_,0,_=> .nil
 |_,_,_ + 1,.nil=> .nil
 |_,_,n + 1,.cons h r=> .cons h (HasL.take n r)
theorem HasL.drop{G:Hp}:∀{vs:List V} {ds:List D} (n:Nat),HasL K G vs ds->HasL K G (vs.drop n) (ds.drop n)
 |_,_,0,r=>r
 |_,_,_ + 1,.nil=> .nil
 |_,_,n + 1,.cons _ r=>HasL.drop n r
theorem HasL.set{G:Hp}{v:V}{d:D}(h:Has K G v d):∀{vs:List V} {ds:List D} (i:Nat),HasL K G vs ds->HasL K G (vs.set i v) (ds.set i d)
 |_,_,_,.nil=> .nil
 |_,_,0,.cons _ r=> .cons h r
 |_,_,i + 1,.cons q r=> .cons q (HasL.set h i r)
mutual
theorem Ow.mono{G G' H H':Hp}(e:Same G G'):∀{v:V} {d:Tn} {S S':AS},Ow K G H v d S->(∀b o,S b->H b=some o->H' b=some o)->(∀b,S b->S' b)->Ow K G' H' v d S'
 |_,_,_,_,.sh h,_,_=> .sh (h.mono e)
 |_,_,_,_,.lst h ha sub r,f,i=> .lst (f _ _ ha h) (i _ ha) (λb hb=>⟨i b (sub b hb).1,(sub b hb).2⟩) (OwL.mono e r (λb o hb q=>f b o (sub b hb).1 q) λ_ q=>q)
 |_,_,_,_,.tup h ha sub r,f,i=> .tup (f _ _ ha h) (i _ ha) (λb hb=>⟨i b (sub b hb).1,(sub b hb).2⟩) (OwL.mono e r (λb o hb q=>f b o (sub b hb).1 q) λ_ q=>q)
 |_,_,_,_,.dic h hk ha sub r,f,i=> .dic (f _ _ ha h) hk (i _ ha) (λb hb=>⟨i b (sub b hb).1,(sub b hb).2⟩) (OwL.mono e r (λb o hb q=>f b o (sub b hb).1 q) λ_ q=>q)
 |_,_,_,_,.obj hc h hl ha sub r,f,i=> .obj hc (f _ _ ha h) hl (i _ ha) (λb hb=>⟨i b (sub b hb).1,(sub b hb).2⟩) (OwL.mono e r (λb o hb q=>f b o (sub b hb).1 q) λ_ q=>q)
theorem OwL.mono{G G' H H':Hp}(e:Same G G'):∀{vs:List V} {ds:List Tn} {S S':AS},OwL K G H vs ds S->(∀b o,S b->H b=some o->H' b=some o)->(∀b,S b->S' b)->OwL K G' H' vs ds S'
 |_,_,_,_,.nil,_,_=> .nil
 |_,_,_,_,.cons h r dj s1 s2,f,i=> .cons (Ow.mono e h (λb o hb q=>f b o (s1 b hb) q) λ_ q=>q) (OwL.mono e r (λb o hb q=>f b o (s2 b hb) q) λ_ q=>q) dj (λb q=>i b (s1 b q)) λb q=>i b (s2 b q)
end
mutual
theorem Ow.has{G G' H:Hp}(e:Same G G'):∀{v:V} {d:Tn} {S:AS},Ow K G H v d S->(∀b o,S b->H b=some o->G' b=some o)->Has K G' v d.d
 |_,_,_,.sh h,_=>h.mono e
 |_,_,_,.lst h ha sub r,f=> .lst (SqL.of (f _ _ ha h)) (OwL.has e r λb o hb q=>f b o (sub b hb).1 q)
 |_,_,_,.tup h ha sub r,f=> .tup (SqT.of (f _ _ ha h)) (OwL.has e r λb o hb q=>f b o (sub b hb).1 q)
 |_,_,_,.dic h hk ha sub r,f=> .dic (.inl (f _ _ ha h)) (by rw[Tn.ks_fst];exact hk) (by rw[Tn.ks_snd];exact OwL.has e r λb o hb q=>f b o (sub b hb).1 q)
 |_,_,_,.obj hc h hl ha sub r,f=> .obj hc (f _ _ ha h) hl (OwL.has e r λb o hb q=>f b o (sub b hb).1 q)
theorem OwL.has{G G' H:Hp}(e:Same G G'):∀{vs:List V} {ds:List Tn} {S:AS},OwL K G H vs ds S->(∀b o,S b->H b=some o->G' b=some o)->HasL K G' vs (Tn.ds ds)
 |_,_,_,.nil,_=> .nil
 |_,_,_,.cons h r dj s1 s2,f=> .cons (Ow.has e h λb o hb q=>f b o (s1 b hb) q) (OwL.has e r λb o hb q=>f b o (s2 b hb) q)
end
theorem OwL.of{G H:Hp}:∀{vs:List V} {ds:List D} {S:AS},HasL K G vs ds->OwL K G H vs (ds.map .sh) S
 |_,_,_,.nil=> .nil
 |_,_,_,.cons h r=> .cons (S1:=λ_=>False) (S2:=λ_=>False) (.sh h) (OwL.of r) (λ_ z _=>z) (λ_ z=>z.elim) λ_ z=>z.elim
theorem OwL.off{G H:Hp}:∀{vs:List V} {ds:List D} {S:AS},OwL K G H vs (ds.map .sh) S->HasL K G vs ds
 |_,[],_,h=>by cases h;exact .nil
 |_,d::ds,_,h=>by
  cases h with
  |cons h r dj s1 s2=>
   cases h with
   |sh h=>exact .cons h (OwL.off r)
theorem OwL.length{G H:Hp}:∀{vs:List V} {ds:List Tn} {S:AS},OwL K G H vs ds S->vs.length=ds.length
 |_,_,_,.nil=>rfl
 |_,_,_,.cons _ r _ _ _=>by rw[C6,C6,r.length]
def Ow.list{G H:Hp}{a:Addr}{vs:List V}{ds:List D}{S:AS}(h:H a=some (.lst vs))(ha:S a)(r:HasL K G vs ds):Ow K G H (.ref a) (Tn.of (.lst ds)) S:=
 .lst (S1:=λ_=>False) h ha (λ_ z=>z.elim) (.of r)
def Ow.list_of{G H:Hp}{v:V}{ds:List D}{S:AS}(t:Ow K G H v (Tn.of (.lst ds)) S):∃a vs,v=.ref a/\S a/\H a=some (.lst vs)/\HasL K G vs ds:=by
 cases t with
 |lst h ha sub r=>exact⟨_,_,rfl,ha,h,r.off⟩
def cp_7(kds:List (Ar×D)):(kds.map λp=>(p.1,Tn.sh p.2)).map (·.2)=(kds.map (·.2)).map Tn.sh:=by
 rw[L7,L7];rfl
def cb_5(kds:List (Ar×D)):(kds.map λp=>(p.1,Tn.sh p.2)).map (·.1)=kds.map (·.1):=by
 rw[L7];rfl
def Ow.dict{G H:Hp}{a:Addr}{kvs:List (Ar×V)}{kds:List (Ar×D)}{S:AS}(h:H a=some (.dK kvs))(hk:kvs.map (·.1)=kds.map (·.1))(ha:S a)(r:HasL K G (kvs.map (·.2)) (kds.map (·.2))):Ow K G H (.ref a) (Tn.of (.dic kds)) S:=
 .dic (S1:=λ_=>False) h (by rw[cb_5];exact hk) ha (λ_ z=>z.elim) (by rw[cp_7];exact .of r)
def Ow.dict_of{G H:Hp}{v:V}{kds:List (Ar×D)}{S:AS}(t:Ow K G H v (Tn.of (.dic kds)) S):∃a kvs,v=.ref a/\S a/\H a=some (.dK kvs)/\kvs.map (·.1)=kds.map (·.1)/\HasL K G (kvs.map (·.2)) (kds.map (·.2)):=by
 generalize e:Tn.of (.dic kds)=t' at t;cases t with
 |dic h hk ha sub r=>
  injection e with e
  subst e;rw[cp_7]at r;rw[cb_5]at hk;exact⟨_,_,rfl,ha,h,hk,r.off⟩
 |_=>cases e
structure Step(G H G' H':Hp):Prop where
 hh:Same H H'
 gh:Same G' H'
 gg:Same G G'
 nw:∀b,G b=none->H b≠none->G' b=none
theorem Step.refl{G H:Hp}(h:Same G H):Step G H G H:=⟨Same.refl _,h,Same.refl _,λ_ e _=>e⟩
theorem Step.trans{G H G1 H1 G2 H2:Hp}(a:Step G H G1 H1)(b:Step G1 H1 G2 H2):Step G H G2 H2:=
 ⟨a.hh.trans b.hh,b.gh,a.gg.trans b.gg,λc e n=>b.nw c (a.nw c e n) λz=>n (a.hh.free z)⟩
def j_6{p:Addr}(h:H p=none)(o:HO):Same H (upd H p o):=λb u q=>by rw[Ba (Ei q h)];exact q
def cp_8{G H:Hp}(h:Same G H)(p:Addr)(o:HO):Same (upd G p o) (upd H p o):=λb u q=>by
 by_cases e:b=p
 ·subst e;rw[Cb]at q⊢;exact q
 ·rw[Ba e]at q⊢;exact h b u q
def Step.new{G H:Hp}(h:Same G H){p:Addr}(e:H p=none)(o:HO):Step G H (L2.upd G p o) (L2.upd H p o):=
 ⟨j_6 e o,cp_8 h p o,j_6 (h.free e) o,λb n z=>by
  by_cases q:b=p
  ·subst q;exact absurd e z
  ·rw[Ba q];exact n⟩
def Step.own{G H:Hp}(h:Same G H){p:Addr}(e:H p=none)(o:HO):Step G H G (L2.upd H p o):=
 ⟨j_6 e o,h.trans (j_6 e o),Same.refl _,λ_ n _=>n⟩
open Classical in
def Dk(G H:Hp)(S:AS):Hp:=λb=>if S b then H b else G b
def WP(K:Frag)(G H:Hp)(w:W)(Q:VK):Prop:=match w with
 | .sh d=>∀v G' H',Step G H G' H'->Has K G' v d->Q v H'
 | .ow d=>∀v S G' H',Step G H G' H'->(∀a,S a->H a=none/\G' a=none/\H' a≠none)->Ow K G' H' v (Tn.of d) S->Q v H'
 | .tr t=>∀v S G' H',Step G H G' H'->(∀a,S a->H a=none/\G' a=none/\H' a≠none)->Ow K G' H' v t S->Q v H'
structure EXT where
 p:Xn->Hp->Hp->Prop
 mono:∀x G H G' H',Step G H G' H'->p x G H->p x G' H'
def EX0:EXT:=⟨λ_ _ _=>False,λ_ _ _ _ _ _ h=>h⟩
abbrev Bb:=Sg->EXT
def Ed:Bb:=λ_=>EX0
def Out(K:Frag)(EX:EXT)(G H:Hp)(r:R W)(Q:VK):Prop:=match r with
 | .ok w=>WP K G H w Q
 | .ex x=>EX.p x G H
 | .no=>False
section
variable{K:Frag}{EX:EXT}{G H G' H':Hp}{Q Q':VK}{w:W}
def WP.mono(s:Step G H G' H')(h:WP K G H w Q):WP K G' H' w Q:=by
 cases w with
 |sh d=>exact λv G2 H2 s2 r=>h v G2 H2 (s.trans s2) r
 |ow d=>exact λv S G2 H2 s2 fr t=>h v S G2 H2 (s.trans s2) (λa ha=>⟨s.hh.free (fr a ha).1,(fr a ha).2⟩) t
 |tr d=>exact λv S G2 H2 s2 fr t=>h v S G2 H2 (s.trans s2) (λa ha=>⟨s.hh.free (fr a ha).1,(fr a ha).2⟩) t
theorem Out.mono{r:R W}(s:Step G H G' H')(h:Out K EX G H r Q):Out K EX G' H' r Q:=by
 cases r with
 |ok w=>exact WP.mono s h
 |ex x=>exact EX.mono _ _ _ _ _ s h
 |no=>exact h
def WP.join{v:V}{t:Tn}{S:AS}(h:∀v G' H',Step G H G' H'->Has K G' v t.d->Q v H')(s:Step G H G' H')(fr:∀a,S a->H a=none/\G' a=none/\H' a≠none)(t:Ow K G' H' v t S):Q v H':=by
 have sg:Same G' (Dk G' H' S):=λb o q=>by
  unfold Dk
  split
  ·rename_i hb;rw[(fr b hb).2.1]at q;cases q
  ·exact q
 refine h v (Dk G' H' S) H' ⟨s.hh,λb o q=> ?_,s.gg.trans sg,λb n z=> ?_⟩ (t.has sg λb o hb q=> ?_)
 ·unfold Dk at q
  split at q
  ·exact q
  ·exact s.gh b o q
 ·unfold Dk
  split
  ·rename_i hb;exact absurd (fr b hb).1 z
  ·exact s.nw b n z
 ·unfold Dk;rw[if_pos hb];exact q
def WP.intro(h:∀v G' H',Step G H G' H'->Has K G' v w.d->Q v H'):WP K G H w Q:=by
 cases w with
 |sh d=>exact h
 |ow d=>exact λv S G' H' s fr t=>WP.join (t:=Tn.of d) (by rw[Tn.of_d];exact h) s fr t
 |tr d=>exact λv S G' H' s fr t=>WP.join h s fr t
theorem WP.sh(h:WP K G H (.sh w.d) Q):WP K G H w Q:=WP.intro h
def WP.use{d:D}{v:V}(h:WP K G H (.sh d) Q)(s:Same G H)(r:Has K G v d):Q v H:=h v G H (Step.refl s) r
end
inductive ExcAt(K:Frag)(G:Hp):Value->Option Addr->Xn->Prop where
 |bare {C:Addr} {c:Str} (hc:ClsAt K c C):ExcAt K G (.ref C) none ⟨c,[],[]⟩
 |with_ {C d:Addr} {c:Str} {ns:List Str} {us:List V} {vs:List D} (hc:ClsAt K c C) (hd:G d=some (.xd (ns.zip us))) (hl:ns.length=us.length) (r:HasL K G us vs):ExcAt K G (.ref C) (some d) ⟨c,ns,vs⟩
def EXof(K:Frag)(E:XK):EXT:=⟨λx G H=>∀cls dx G' H',Step G H G' H'->ExcAt K G' cls dx x->E cls dx H',λ_ _ _ _ _ s h cls dx G2 H2 s2=>h cls dx G2 H2 (s.trans s2)⟩
def EXE(K:Frag)(EX:EXT):XK:=λcls dx H=>∃x G,Same G H/\ExcAt K G cls dx x/\EX.p x G H
def EXE.of{E:XK}{cls:Value}{dx:Option Addr}(h:EXE K (EXof K E) cls dx H):E cls dx H:=by
 obtain⟨x,G,s,e,q⟩:=h;exact q cls dx G H (Step.refl s) e
def EXof.in{EX:EXT}{G H:Hp}{x:Xn}(q:EX.p x G H):(EXof K (EXE K EX)).p x G H:=λ_ _ G' H' st e=>⟨x,G',st.gh,e,EX.mono _ _ _ _ _ st q⟩
abbrev DE:=List (Option D)
abbrev FE:=DE->R W
abbrev FT:=DE->R Bool
abbrev FA:=DE->R (List D)
structure HasS(K:Frag)(G:Hp)(σ:Sg)(δ:DE):Prop where
 len:σ.length=δ.length
 get:∀(i:Nat) (d:D),δ[i]? =some (some d)->∃v,σ[i]? =some (some v)/\Has K G v d
theorem HasS.mono{G G':Hp}{σ:Sg}{δ:DE}(e:Same G G')(h:HasS K G σ δ):HasS K G' σ δ:=⟨h.len,λi d q=>by
 obtain⟨v,e1,r⟩:=h.get i d q;exact⟨v,e1,r.mono e⟩⟩
def tD(K:Frag)(EX:Bb)(f:FE):TE:=λ σ H Q=>∃G δ,Same G H/\HasS K G σ δ/\Out K (EX σ) G H (f δ) Q
def tDt(K:Frag)(EX:Bb)(f:FT):TT:=λ σ H Q=>∃G δ,Same G H/\HasS K G σ δ/\match f δ with
 | .ok b=>∀G' H',Step G H G' H'->Q b H'
 | .ex x=>(EX σ).p x G H
 | .no=>False
def tDa(K:Frag)(EX:Bb)(f:FA):TA:=λ σ H Q=>∃G δ,Same G H/\HasS K G σ δ/\match f δ with
 | .ok ds=>∀vs G' H',Step G H G' H'->HasL K G' vs ds->Q vs H'
 | .ex x=>(EX σ).p x G H
 | .no=>False
abbrev ED(X:Cx)(EX:Bb)(e:Expr)(f:FE):Prop:=PE X e (tD X.K EX f)
abbrev TD(X:Cx)(EX:Bb)(e:Expr)(f:FT):Prop:=PT X e (tDt X.K EX f)
abbrev AD(X:Cx)(EX:Bb)(es:List Expr)(f:FA):Prop:=PA X es (tDa X.K EX f)
def PE.imp{e:Expr}{t t':TE}(h:PE X e t)(i:∀σ H Q,t' σ H Q->t σ H Q):PE X e t':=λzd s σ H Q I q=>h zd s σ H Q I (i σ H Q q)
def PT.imp{e:Expr}{t t':TT}(h:PT X e t)(i:∀σ H Q,t' σ H Q->t σ H Q):PT X e t':=λzd s σ H Q I q=>h zd s σ H Q I (i σ H Q q)
def PW.imp{e:Expr}{t t':TT}(h:PW X e t)(i:∀σ H Q,t' σ H Q->t σ H Q):PW X e t':=λwh zd s σ H Q I q=>h wh zd s σ H Q I (i σ H Q q)
def PA.imp{e:List Expr}{t t':TA}(h:PA X e t)(i:∀σ H Q,t' σ H Q->t σ H Q):PA X e t':=λpos zd s σ H Q I q=>h pos zd s σ H Q I (i σ H Q q)
def PS.imp{e:Stmt}{t t':TS}(h:PS X e t)(i:∀D σ H,t' D σ H->t D σ H):PS X e t':=λzd s σ H D I q=>h zd s σ H D I (i D σ H q)
def PSs.imp{e:List Stmt}{t t':TS}(h:PSs X e t)(i:∀D σ H,t' D σ H->t D σ H):PSs X e t':=λzd s σ H D I q=>h zd s σ H D I (i D σ H q)
section
variable{K:Frag}{EX:Bb}{G H:Hp}{σ:Sg}{δ:DE}{Q:VK}
def tD.seq{f:FE}{k:W->R W}{P:VK}(g:Same G H)(s:HasS K G σ δ)(h:Out K (EX σ) G H ((f δ).bind k) Q)
  (i:∀w v G' H',f δ=.ok w->Step G H G' H'->Has K G' v w.d->Out K (EX σ) G' H' (k w) Q->P v H'):tD K EX f σ H P:=by
 refine⟨G,δ,g,s, ?_⟩;cases e:f δ with
 |ok w=>
  rw[e]at h;exact WP.intro λv G' H' st r=>i w v G' H' e st r (Out.mono st h)
 |ex x=>rw[e]at h;exact h
 |no=>rw[e]at h;exact h
abbrev AF:=List D->R W
def tDa.seq{f:FA}{k:AF}{P:List V->Hp->Prop}(g:Same G H)(s:HasS K G σ δ)(h:Out K (EX σ) G H ((f δ).bind k) Q)
  (i:∀ds vs G' H',f δ=.ok ds->Step G H G' H'->HasL K G' vs ds->Out K (EX σ) G' H' (k ds) Q->P vs H'):tDa K EX f σ H P:=by
 refine⟨G,δ,g,s, ?_⟩;cases e:f δ with
 |ok w=>
  rw[e]at h;exact λvs G' H' st r=>i w vs G' H' e st r (Out.mono st h)
 |ex x=>rw[e]at h;exact h
 |no=>rw[e]at h;exact h
end
def x_9{EX:EXT}{G H:Hp}{Q:VK}{ds:List D}{vs:List V}(o:Out K EX G H (.ok (.ow (.lst ds))) Q)(g:Same G H)(r:HasL K G vs ds):∀p,H p=none->Q (.ref p) (upd H p (.lst vs)):=
 λp hp=>o (.ref p) (λb=>b=p) G _ (Step.own g hp _) (λa e=>by subst e;exact⟨hp,g.free hp,by rw[Cb];simp⟩) (.list Cb rfl r)
end L3
namespace L3
open PySem PySem.Spec PyProof.Rows L2
variable{K:Frag}{fd:FuncData}{mg:AB}{us:List Value}{base:Heap}{H:Hp}{X:Cx}{pos:Pos}
def HdOk(A:Around)(h:Heap):Prop:=A.handled=none\/∃(x:Addr) (o:Obj) (us:Array Value),A.handled=some (.ref x)/\h.get? x=some o/\o.data=.fields us/\us[2]? =some .none
def HdOk.kept{A:Around}{h h':Heap}(z:HdOk A h)(k:∀(x:Addr) (o:Obj),A.handled=some (.ref x)->h.get? x=some o->h'.get? x=some o):HdOk A h':=by
 rcases z with z|⟨x,o,us,e,g,r⟩
 ·exact .inl z
 ·exact .inr ⟨x,o,us,e,k x o e g,r⟩
def bh_7:entryFor table "proto.unchain" =some Builtin.«proto.unchain»:=entryFor_of_tree ∅
section
variable{prog:Program}{w:World}{A:Around}{E:AA}{s:Shared}
def bh_8{x:Addr}{o:Obj}{us:Array Value}{v sl:Value}{Q:AA}(g:s.heap.get? x=some o)(d:o.data=.fields us)(c:us[2]? =some .none)(q:Q .none s):
  wpAny (model prog w) A (runValue (.builtin "proto.unchain" ⟨[v,.ref x,sl,.bool false],[]⟩)) Q E s:=by
 refine wpAny_runValue (X9 bh_7 ?_);unfold Builtin.«proto.unchain»;refine A3 (R0 g d c ?_)
 wp_walk
 exact q
def bo_6{α:Type}{e:Addr}{oe:Obj}{ue:Array Value}{Q:α->Shared->Prop}(hd:HdOk A s.heap)(ge:s.heap.get? e=some oe)(de:oe.data=.fields ue)(z:2 < ue.size)(ne:A.handled≠some (.ref e))
  (h:∀h' o',h'.get? e=some o'->o'.cls=oe.cls->(∀b o,b≠e->s.heap.get? b=some o->h'.get? b=some o)->h'.objs.size=s.heap.objs.size->E (.ref e) {s with heap:=h'}):wpAny (model prog w) A (raiseNew (.ref e):Sem α) Q E s:=by
 rcases hd with hd|⟨x,o,us,hx,g,d,c⟩
 ·exact wpAny_raiseNew_none hd (by simpa using h s.heap oe ge rfl (λ_ _ _ q=>q) rfl)
 ·unfold raiseNew;refine A3 (wpAny_handled ?_);rw[hx];have nx:(Value.ref x != Value.ref e)=true:=by
   have:x≠e:=λq=>ne (by rw[hx,q]);simp[bne,this]
  simp only[nx,if_true];refine A3 (L4 (bh_8 g d c ?_));unfold updateField;refine A3 (A3 (wpAny_load ge ?_));rw[de];simp only[z,if_true];refine wpAny_update ge (wpAny_throw ?_);refine h _ _ (O0 _ ge (T3 (V1 de _))) (Obj.cls_mapFields ..) (λb o hb q=> ?_) ?_
  ·exact((N9 s.heap e _).2 b hb).trans q
  ·simp
def dc_1{α:Type}{Q:α->Shared->Prop}(hd:HdOk A s.heap)
  (h:∀h' e,(∃o,h'.get? e=some o/\o.cls=.type "StopIteration")->(∀b o,s.heap.get? b=some o->h'.get? b=some o)->E (.ref e) {s with heap:=h'}):wpAny (model prog w) A (newExc (.type "StopIteration") [] >>=λe=>(raiseNew e:Sem α)) Q E s:=by
 refine A3 ?_;unfold newExc newTuple;refine A3 (O9 ?_ (by size_fits));refine A3 (P5 (a:=Value.none) (by simp only[firstArgMember];rfl) (O9 ?_ (by size_fits)));have k:∀(h:Heap) (o1 o2:Obj) (b:Addr) (o:Obj),h.get? b=some o->((h.push o1).push o2).get? b=some o:=λh o1 o2 b o q=>A5 _ (A5 _ q);have nw:∀(h:Heap) (o1:Obj),h.get? (h.push o1).objs.size=none:=λh o1=>O8 (by simp);refine bo_6 (hd.kept λx o _ g=>k _ _ _ x o g) (B7 _ rfl) rfl (show 2 < 6 by decide) (λz=> ?_) λh' o' g' c' k' _=> ?_
 ·rcases hd with q|⟨x,o,us,q,g,_⟩
  ·rw[q]at z;cases z
  ·rw[q]at z;injection z with z;injection z with z;rw[z,nw]at g;cases g
 ·exact h h' _ ⟨o',g',c'⟩ λb o q=>k' b o (λz=>by rw[z,nw]at q;cases q) (k _ _ _ b o q)
def an_9{it l:Addr}{i:Nat}{items:Array Value}{Q:Option Value->Shared->Prop}(hd:HdOk A s.heap)(nx:A.handled≠some (.ref it))(hit:s.heap.IsListIter it l i)(hl:s.heap.IsList l items)(hx:items[i]? =none)
  (q:∀h',Heap.ExtBut it s.heap h'->Q none {s with heap:=h'}):wpAny (model prog w) A (pyNext (.ref it)) Q E s:=by
 obtain⟨o,g,c,d⟩:=id hit;obtain⟨ol,gl,_,n,dl⟩:=hl;unfold pyNext;refine A3 (X2 (wpAny_callSpecial?_slot hit.typeIs slot_listiter_next (wpAny_call_entry slot_listiter_next hit.typeIs entry_listiter_next ?_ (args_listiter_next _))));refine(show wpAny _ _ (field (.ref it) 0 >>=_) _ _ s from A3 (R0 g d (x:=.ref l) rfl ?_));refine(show wpAny _ _ (if(Value.ref l ==Value.none)=true then _ else _) _ _ s from ?_);rw[if_neg (show¬(Value.ref l ==Value.none)=true from λz=>A7 z)];refine(show wpAny _ _ (field (.ref it) 1 >>=_) _ _ s from A3 (R0 g d (x:=.int i 0) rfl ?_));refine(show wpAny _ _ (seqItems? (.ref l) >>=_) _ _ s from A3 (wpAny_seqItems gl dl ?_));simp only[N3,hx];refine A3 (wpAny_rule (A3 (Z0 g d (by simp) ?_)));have sb:=N9 s.heap it (Obj.mapFields (·.setIfInBounds 0 .none));refine dc_1 (A:=A.in1) (hd.kept (A:=A) λx o e z=>(sb.2 x (λz=>nx (by rw[e,z]))).trans z) λh' e ⟨o',g',c'⟩ k=> ?_;refine A3 (wpAny_isInstance (T:= "StopIteration") (b:=true) ⟨o',g',c'⟩ isSubtype_stop (C5 (q _ λb o hb z=>k b o ((sb.2 b hb).trans z))))
end
structure Tr(h:Heap)(a C:Addr)(dx:Option Addr)(fl:Value)(T:Addr):Prop where
 ob:∃o us,h.get? a=some o/\o.cls=.ref C/\o.dict=dx/\o.data=.fields us/\us[1]? =some (.ref T)/\us[2]? =some .none
 ne:T≠a
 tb:∃o us,h.get? T=some o/\o.data=.fields us/\us[3]? =some fl
structure KeepX(xs fr:List Addr)(h h':Heap):Prop where
 same:∀b o,b∉xs->b∉fr->h.get? b=some o->h'.get? b=some o
 slot:∀b o,b∉xs->h.get? b=some o->∃sl,h'.get? b=some {o with slots:=sl}
def KeepX.trans{xs ys fr:List Addr}{h1 h2 h3:Heap}(a:KeepX xs fr h1 h2)(b:KeepX ys fr h2 h3):KeepX (xs ++ ys) fr h1 h3:=
 ⟨λc o n m e=>b.same c o (λz=>n (B1 _ z)) m (a.same c o (λz=>n (L9 _ z)) m e),λc o n e=>by
  obtain⟨sl,e1⟩:=a.slot c o (λz=>n (L9 _ z)) e;obtain⟨sl',e2⟩:=b.slot c _ (λz=>n (B1 _ z)) e1;exact⟨sl',e2⟩⟩
def KeepX.of_same{xs fr:List Addr}{h h':Heap}(k:∀b o,b∉xs->h.get? b=some o->h'.get? b=some o):KeepX xs fr h h':=
 ⟨λb o n _ e=>k b o n e,λb o n e=>⟨o.slots,k b o n e⟩⟩
def cp_9(o:Obj)(f:Array Value->Array Value):(o.mapFields f).dict=o.dict:=by
 obtain⟨c,d,dt,sl⟩:=o;cases dt <;> rfl
section
variable{M:Model}{A:Around}{E:AA}{s:Shared}{env:Env}{outer:List Env}{base:Heap}{L a C:Addr}{dx:Option Addr}{Q:Unit->Shared->Prop}
def cb_6{o:Obj}{us:Array Value}{head:Value}{b:Bool}(hfr:A.frames=some (env::outer))(hl:s.heap.FunFrames base (env::outer))(hf:env.frame=some L)
  (he:s.heap.get? a=some o) (hc:o.cls=.ref C) (hx:o.dict=dx) (hd:o.data=.fields us) (hz:1 < us.size) (c2:us[2]? =some .none)
  (h:∀h' T,s.heap.objs.size<=T->KeepX [a] (frs (env::outer)) s.heap h'->Tr h' a C dx (rawInt L) T->Q .unit {s with heap:=h'}):
  wpAny M A (do let fv<-frameOf env;let pl<-entryPlaceOf L b;let en<-EntryCells.newEntry head fv .none (rawInt L) .none pl;setField (.ref a) 1 en) Q E s:=by
 have nfr:a∉frs (env::outer):=λhm=>by
  obtain⟨_,u,hu,hn⟩:=hl.mem hm;rw[he]at hu;cases hu;exact hn us hd
 refine A3 (wpAny_frameOf_fun hfr hl hf λh1 so=> ?_);refine A3 (wpAny_entryPlaceOf λpl hpl=> ?_);unfold EntryCells.newEntry newFields;refine A3 (O9 ?_ (hpl.sizeOk5 _ _ _ _ _));have e1:h1.get? a=some o:=(so.2.1 a nfr).trans he;generalize hT:({cls:=.type "traceback",dict:=none,data:=.fields ([head,.ref L,.none,rawInt L,.none] ++ (if pl.isEmpty then List.replicate 6 Value.none else pl)).toArray}:Obj)=oT;have eT:oT.data=.fields ([head,.ref L,.none,rawInt L,.none] ++ (if pl.isEmpty then List.replicate 6 Value.none else pl)).toArray:=by rw[<-hT]
 have e2:(h1.push oT).get? a=some o:=A5 oT e1;refine Z0 e2 hd hz ?_;have sz:h1.objs.size=s.heap.objs.size:=so.1;have ltA:a < s.heap.objs.size:=A6 he;have neT:h1.objs.size≠a:=λz=>absurd ltA (by rw[<-z,sz];exact D7 _);have d3:=V1 hd (·.setIfInBounds 1 (Value.ref h1.objs.size));refine h _ h1.objs.size (by rw[sz];exact A8 _) ⟨λb u n m e=> ?_,λb u n e=> ?_⟩ ⟨⟨_,_,O0 _ e2 (T3 d3),(Obj.cls_mapFields _ _).trans hc,(cp_9 _ _).trans hx,d3, ?_, ?_⟩,neT,⟨oT,_, ?_,eT, ?_⟩⟩
 ·have nb:a≠b:=λz=>n (by simp[z]);rw[J6 _ _ nb];exact A5 oT ((so.2.1 b m).trans e)
 ·have nb:a≠b:=λz=>n (by simp[z]);obtain⟨sl,es⟩:=so.2.2 b u e;exact⟨sl,by rw[J6 _ _ nb];exact A5 oT es⟩
 ·simp[hz]
 ·rw[<-c2];simp
 ·rw[J6 _ _ (Ne.symm neT)];exact B7 h1 (T3 eT)
 ·first|(simp;done)|(rcases hpl with rfl|⟨_,_,_,_,_,_,_,rfl⟩ <;> simp)
def bx_4{o:Obj}{us:Array Value}(hfr:A.frames=some (env::outer))(hl:s.heap.FunFrames base (env::outer))(hf:env.frame=some L)
  (he:s.heap.get? a=some o) (hc:o.cls=.ref C) (hx:o.dict=dx) (hd:o.data=.fields us) (h1:us[1]? =some .none) (c2:us[2]? =some .none)
  (h:∀h' T,s.heap.objs.size<=T->KeepX [a] (frs (env::outer)) s.heap h'->Tr h' a C dx (rawInt L) T->Q .unit {s with heap:=h'}):wpAny M A (noteFrame (.ref a) env) Q E s:=by
 unfold noteFrame;simp only[hf];refine A3 (R0 he hd h1 ?_);rw[if_neg ⋯];exact cb_6 hfr hl hf he hc hx hd (P8.mp h1).1 c2 h
def bd_0{T0:Addr}(hfr:A.frames=some (env::outer))(hl:s.heap.FunFrames base (env::outer))(hf:env.frame=some L)(t:Tr s.heap a C dx .none T0)
  (h:∀h' T,s.heap.objs.size<=T->KeepX [a,T0] (frs (env::outer)) s.heap h'->Tr h' a C dx (rawInt L) T->Q .unit {s with heap:=h'}):wpAny M A (noteFrame (.ref a) env) Q E s:=by
 obtain⟨⟨o,us,he,hc,hx,hd,h1,c2⟩,ne,⟨oT,ws,hT,hdT,h3⟩⟩:=t;unfold noteFrame;simp only[hf];refine A3 (R0 he hd h1 ?_);rw[if_pos (show(Value.ref T0 != Value.none)=true from by simp)];refine A3 (R0 hT hdT h3 ?_);rw[if_neg (show¬((Value.none ==rawInt L)=true) from by simp[rawInt])];refine A3 (Z0 hT hdT (P8.mp h3).1 ?_);have oth:∀b,b≠T0->(s.heap.update T0 (Obj.mapFields (·.setIfInBounds 3 Value.none))).get? b=s.heap.get? b:=λb hb=>J6 _ _ (Ne.symm hb);have jc:∀b u,s.heap.get? b=some u->(∀zs,u.data≠ .fields zs)->b≠T0:=λb u hb hn q=>by
  subst q;rw[hT]at hb;cases hb;exact hn ws hdT
 refine cb_6 (s:={s with heap:=s.heap.update T0 (Obj.mapFields (·.setIfInBounds 3 Value.none))}) hfr (hl.of_keeps λb u hb hn=>⟨u,(oth b (jc b u hb hn)).trans hb,rfl⟩) hf ((oth a (Ne.symm ne)).trans he) hc hx hd (P8.mp h1).1 c2 λh' T n k tr=>h h' T ?_ ?_ tr
 ·have zz:(s.heap.update T0 (Obj.mapFields (·.setIfInBounds 3 Value.none))).objs.size=s.heap.objs.size:=Heap.size_update _ _ _;rw[<-zz];exact n
 ·have na:∀b,b∉ [a,T0]->b∉ [a]:=λb nb z=>nb (by rw[D8.mp z];exact K5);have nT:∀b,b∉ [a,T0]->b≠T0:=λb nb z=>nb (by rw[z];simp);exact⟨λb u nb m e=>k.same b u (na b nb) m ((oth b (nT b nb)).trans e),λb u nb e=>k.slot b u (na b nb) ((oth b (nT b nb)).trans e)⟩
def u_3{T:Addr}{fl:Value}(t:Tr s.heap a C dx fl T)(h:∀h',(∀b o,b∉ [T]->s.heap.get? b=some o->h'.get? b=some o)->Tr h' a C dx .none T->Q .unit {s with heap:=h'}):wpAny M A (setFlight (.ref a) none) Q E s:=by
 obtain⟨⟨o,us,he,hc,hx,hd,h1,c2⟩,ne,⟨oT,ws,hT,hdT,h3⟩⟩:=t;have sz3:3 < ws.size:=(P8.mp h3).1;unfold setFlight;refine A3 (R0 he hd h1 ?_);rw[if_pos (show(Value.ref T != Value.none)=true from by simp)];refine Z0 hT hdT sz3 (h _ (λb u n e=> ?_) ⟨⟨o,us, ?_,hc,hx,hd,h1,c2⟩,ne,⟨_,_,O0 _ hT (T3 (V1 hdT _)),V1 hdT _, ?_⟩⟩)
 ·rw[J6 _ _ (λz=>n (by simp[z]))];exact e
 ·rw[J6 _ _ ne];exact he
 ·simp[sz3]
end
def CXr(P:Program)(w:World):CXT:=λouter H s E e s'=>∃a C dx T H',e=.ref a/\s'.os=s.os/\AllBare s'.gens/\Un (frs outer) [] H H' s.heap s'.heap/\HOk P w H' s'.heap/\
 Tr s'.heap a C dx .none T/\H' a=none/\H' T=none/\s.heap.objs.size<=a/\s.heap.objs.size<=T/\E (.ref C) dx H'
section
variable{X:Cx}{zd:AE}{σ:Sg}{H H':Hp}{s s':Shared}
def Inv.settle{ch:List Addr}{h2:Heap}(I:Inv X zd σ H s)(I':Inv X zd σ H' s')(n:∀b∈ch,s.heap.objs.size<=b/\H' b=none)(k:KeepX ch (frs X.stack) s'.heap h2):Inv X zd σ H' {s' with heap:=h2}:=by
 have trk:∀b u,H' b=some u->b∉ch/\b∉frs X.stack:=λb u e=>⟨λz=>(by rw[(n b z).2]at e;cases e),λz=>(by rw[I'.stkFree b z]at e;cases e)⟩;refine I'.step (g':=s'.gens) (d':=s'.drawn) (t':=s'.toks) (ch:=ch) (λb hb=> ?_) (λb o h1 h2 h3 e _=>k.same b o h3 (λz=> ?_) e) (λb o _ _ h3 e _=>k.slot b o h3 e) (λ_ _ _ _ z=>z) (λb o h3 e=> ?_) (λ_ _ z=>z) (λ_ _ _ z=>z) (λb ps z=>⟨#[],by rw[z];simp⟩) (λm hm=> ?_) (λb u e=> ?_) I'.bare
 ·have lb:=(n b hb).1;refine⟨.inr (C7 I.sz lb),λz=> ?_,λx c e z=> ?_,λp hp z=> ?_⟩
  ·exact absurd (C4 I.lt lb) (by rw[z];exact D7 _)
  ·obtain⟨v,hv⟩:=I.cell x c e;exact absurd (C4 hv.lt lb) (by rw[z];exact D7 _)
  ·exact absurd (C4 (A6 (I.pin p hp).1) lb) (by rw[z];exact D7 _)
 ·rcases B8.mp (I'.stkSub b z) with z|z
  ·exact h1 z
  ·exact h2 z
 ·obtain⟨sl,q⟩:=k.slot b o h3 e;exact⟨_,q⟩
 ·obtain⟨o,es,ep,ho,r⟩:=hm;have nl:X.env.locals∉ch:=λz=>absurd (C4 I.lt (n _ z).1) (D7 _);obtain⟨sl,q⟩:=k.slot _ o nl ho;exact⟨_,es,ep,q,r⟩
 ·refine(I'.hok b u e).stay (λc v hc q=> ?_) (λ_ z=>z) λ_ _ z=>z;rcases hc with rfl|hc
  ·exact k.same c v (trk c u e).1 (trk c u e).2 q
  ·exact k.same c v (trk c _ hc).1 (trk c _ hc).2 q
def Inv.raised{E:XK}{e:Value}(I:Inv X zd σ H s)(c:CXr X.prog X.w X.stack H s E e s'):∃a C dx T H',e=.ref a/\Inv X zd σ H' s'/\Tr s'.heap a C dx .none T/\H' a=none/\H' T=none/\s.heap.objs.size<=a/\s.heap.objs.size<=T/\E (.ref C) dx H':=by
 obtain⟨a,C,dx,T,H',e1,os,br,un,hok,tr,n1,n2,z1,z2,q⟩:=c;exact⟨a,C,dx,T,H',e1,I.call' (ch:=[]) os un hok br (λb z=>absurd z (by simp)),tr,n1,n2,z1,z2,q⟩
end
section
variable{cm:Bool}{P:Program}{w:World}{K:Frag}{mg:AB}{base:Heap}{N:List Str}{qual:Str}{scope:Scope}{f:Addr}{cd:Value}{A:Around}{outer:List Env}{s0:Shared}{H0:Hp}{E E':XK}
def ci_3{zd:AE}{σ:Sg}{s s':Shared}{e:Value}(I:Inv ({Fc (CXr P w) P w K mg base N qual scope f cd A outer s0 H0 E with calm:=cm}:Cx) zd σ H s)
  (c:CXr P w ({Fc (CXr P w) P w K mg base N qual scope f cd A outer s0 H0 E with calm:=cm}:Cx).stack H s E' e s') (i:∀cls dx H',E' cls dx H'->E cls dx H'):({Fc (CXr P w) P w K mg base N qual scope f cd A outer s0 H0 E with calm:=cm}:Cx).xe e s':=by
 obtain⟨a,C,dx,T,H',rfl,I',tr,n1,n2,z1,z2,q⟩:=Inv.raised I c;show wpAny (model P w) _ (leaving _ _) _ _ s';unfold leaving;refine A3 (bd_0 I'.ok.frames I'.stack rfl tr λh1 T2 z3 k1 t1=> ?_);refine u_3 t1 λh2 k2 t2=> ?_;have zT2:H' T2=none:=I'.hok.fresh z3;have J:Inv ({Fc (CXr P w) P w K mg base N qual scope f cd A outer s0 H0 E with calm:=cm}:Cx) zd σ H' {s' with heap:=h2}:=by
  refine Inv.settle (ch:=[a,T] ++ [T2]) I I' (λb hb=> ?_) (k1.trans (KeepX.of_same k2));have:b=a\/b=T\/b=T2:=by simpa using hb
  rcases this with rfl|rfl|rfl
  ·exact⟨z1,n1⟩
  ·exact⟨z2,n2⟩
  ·exact⟨C7 (C7 (A8 _) z1) (C7 (S5 (A6 tr.ob.choose_spec.choose_spec.1)) z3),zT2⟩
 exact⟨a,C,dx,T2,H',rfl,J.os,J.bare,J.base,J.hok,t2,n1,zT2,C7 I.sz z1,C7 I'.sz z3,i _ _ _ q⟩
def bh_9{zd:AE}{σ:Sg}{H H':Hp}{s s':Shared}{a C:Addr}{dx:Option Addr}{o:Obj}{us:Array Value}(I:Inv ({Fc (CXr P w) P w K mg base N qual scope f cd A outer s0 H0 E with calm:=cm}:Cx) zd σ H s)
  (I':Inv ({Fc (CXr P w) P w K mg base N qual scope f cd A outer s0 H0 E with calm:=cm}:Cx) zd σ H' s') (he:s'.heap.get? a=some o) (hc:o.cls=.ref C) (hx:o.dict=dx) (hd:o.data=.fields us) (h1:us[1]? =some .none) (c2:us[2]? =some .none) (n1:H' a=none) (z1:s.heap.objs.size<=a) (q:E (.ref C) dx H'):
  ({Fc (CXr P w) P w K mg base N qual scope f cd A outer s0 H0 E with calm:=cm}:Cx).xe (.ref a) s':=by
 show wpAny (model P w) _ (leaving _ _) _ _ s';unfold leaving;refine A3 (bx_4 I'.ok.frames I'.stack rfl he hc hx hd h1 c2 λh1 T2 z3 k1 t1=> ?_);refine u_3 t1 λh2 k2 t2=> ?_;have zT2:H' T2=none:=I'.hok.fresh z3;have J:Inv ({Fc (CXr P w) P w K mg base N qual scope f cd A outer s0 H0 E with calm:=cm}:Cx) zd σ H' {s' with heap:=h2}:=by
  refine Inv.settle (ch:=[a] ++ [T2]) I I' (λb hb=> ?_) (k1.trans (KeepX.of_same k2));have:b=a\/b=T2:=by simpa using hb
  rcases this with rfl|rfl
  ·exact⟨z1,n1⟩
  ·exact⟨C7 z1 (C7 (S5 (A6 he)) z3),zT2⟩
 exact⟨a,C,dx,T2,H',rfl,J.os,J.bare,J.base,J.hok,t2,n1,zT2,C7 I.sz z1,C7 I'.sz z3,q⟩
end
section
variable{prog:Program}{w:World}{A:Around}{E:AA}{h:Heap}{g:Array GenState}{d:Drawn}{t:Nat}{os:OsState}
variable{nm q:Str}{C N:Addr}{bs bm bmB:List Value}{bw:Bool}{sn:List Str}{sub:List Value}{ab:Bool}{col:Option Bool}{dd:Option Addr}{k0 k1 k2 k3 k5:Option Value}{B newId ah:String}
def ci_4(FB:ExcBaseFacts B newId ah bmB)(T:OwnTail h bmB bm){mN:AB}{fI:Addr}{oI:Obj}{Q:PySem.Fin->Shared->Prop}
  (hC:h.get? C=some (excClassObj nm q C N bs bm bw sn sub ab col dd k0 k1 k2 k3 k5 newId)) (hn:h.Ns N mN) (hi:mN "__init__" =some (.ref fI)) (ho:h.get? fI=some oI) (hf:oI.cls=.type "function")
  (z:∀h' e,Heap.MadeExcOf h h' e (.ref C) us->h.objs.size<=e->wpAny (model prog w) A (call (.ref fI) (.ref e::us)) (λr s'=>r=.none/\Q (.done (.ret (.ref e))) s') E ⟨h',g,d,t,os⟩) (hu:us.length<=sizeLine):
  wpAny (model prog w) A (Builtin.«type.__call__» ⟨.ref C::us,[]⟩) Q E ⟨h,g,d,t,os⟩:=by
 wp_walk using N4 hC,wpAny_madeBy_exc hC
 refine Z8 (V2 _ FB.quiet) (wpAny_check_new_subT FB T hC ?_);refine codeAny_exc_new_subT FB T hC ?_ hu;show wpAny _ _ _ _ _ _;generalize e1:({cls:=.type "tuple",data:=.seq us.toArray}:Obj)=o1;generalize e2:({cls:=.ref C,data:=.fields #[.ref h.objs.size,.none,.none,.none,.bool false,.none]}:Obj)=o2;have up:∀b o,h.get? b=some o->((h.push o1).push o2).get? b=some o:=λb o e=>A5 _ (A5 _ e);have ge:((h.push o1).push o2).get? (h.objs.size + 1)=some o2:=by
  have:=B7 (h.push o1) (o:=o2) (by rw[<-e2];rfl)
  rwa[K9]at this
 have gt:((h.push o1).push o2).get? h.objs.size=some o1:=A5 _ (B7 h (by rw[<-e1];rfl));have hC1:=up _ _ hC;have hn1:((h.push o1).push o2).Ns N mN:=hn.keeps up;have cl:o2.cls=.ref C:=by rw[<-e2]
 have hcC:List.contains (Value.ref C::bm) (.ref C)=true:=T4.mpr (.head _);unfold isInstance
 repeat (first|(with_reducible refine N4 ge ?_;rw[cl])|(with_reducible refine Y5 hC1 ?_;rw[hcC])|wp_step)
 change wpAny _ _ (mroOf (.ref C) >>=λl=>lookupAlong l _) _ _ _;refine A3 (wpAny_mroOf_exc hC1 ?_);rw[lookupAlong_cons];refine A3 (wpAny_classOwn_exc hC1 hn1 ?_);rw[hi];refine C5 (L4 (A3 ?_));unfold bindSpecial;refine A3 (wpAny_typeOf (T:= "function") ⟨_,up _ _ ho,hf⟩ ?_);rw[if_pos ⋯];refine C5 (A3 (D2 (z _ (h.objs.size + 1) ⟨up,O8 (P6 _),h.objs.size,by rw[e2];exact ge,O8 (A8 _),by rw[e1];exact gt⟩ (P6 _)) (λr s' hr=> ?_) λ_ _ x=>x));obtain⟨rfl,hQ⟩:=hr
 wp_walk
 exact hQ
def cq_0(FB:ExcBaseFacts B newId ah bmB)(T:OwnTail h bmB bm){mN:AB}{fI:Addr}{oI:Obj}{Q:AA}
  (hC:h.get? C=some (excClassObj nm q C N bs bm bw sn sub ab col dd k0 k1 k2 k3 k5 newId)) (hn:h.Ns N mN) (hi:mN "__init__" =some (.ref fI)) (ho:h.get? fI=some oI) (hf:oI.cls=.type "function")
  (z:∀h' e,Heap.MadeExcOf h h' e (.ref C) us->h.objs.size<=e->wpAny (model prog w) (A.under (.builtin "type.__call__" ⟨.ref C::us,[]⟩)) (call (.ref fI) (.ref e::us)) (λr s'=>r=.none/\Q (.ref e) s') E ⟨h',g,d,t,os⟩) (hu:us.length<=sizeLine):
  wpAny (model prog w) A (call (.ref C) us) Q E ⟨h,g,d,t,os⟩:=by
 have f1:=tc_lookup;have f2:=tc_bind (.ref C);have Dj:Shared.TypeIs ⟨h,g,d,t,os⟩ (.ref C) "type" :=⟨_,hC,rfl⟩;refine R6 (ZD1 (?_:wpAny _ _ (callAny (.ref C) _) _ _ _))
 wp_walk using N4 hC
 refine⟨rfl, ?_⟩;exact ZB0 (V2 _ nofun) entry_typeCall (Z9 hC (ci_4 FB T hC hn hi ho hf (λh' e hm hz=>z h' e hm hz) hu))
def bd_1{M:Model}{env:Env}{s:Shared}{x:Sem Value}{Q:Flow->Shared->Prop}(hb:bm.contains (.type "BaseException")=true)(hh:A.handled=none)
  (z:wpAny M A x (λv s1=>∃e t dx,v=.ref e/\s1.heap.get? C=some (excClassObj nm q C N bs bm bw sn sub ab col dd k0 k1 k2 k3 k5 newId)/\
   s1.heap.get? e=some {cls:=.ref C,dict:=dx,data:=.fields #[.ref t,.none,.none,.none,.bool false,.none]}/\E (.ref e) s1) E s):wpAny M A (raiseStmt env (some x) none) Q E s:=by
 have hcB:(Value.ref C::bm).contains (.type "BaseException")=true:=by rw[P9,hb,ZE5]
 unfold raiseStmt;refine A3 (D2 z (λv s1 z1=> ?_) λ_ _ y=>y);obtain⟨e,t,dx,rfl,hC,he,hE⟩:=z1;obtain⟨hp,g,d,tk,os⟩:=s1
 repeat (first|with_reducible refine N4 he ?_|with_reducible refine N4 hC ?_|(with_reducible refine Y5 hC ?_;rw[hcB])|wp_step)
 exact wpAny_raiseNew_none hh hE
end
section
variable{X:Cx}{EX:Bb}{a b c:Expr}{f g h:FE}{pos:Pos}
def Ab(i:Nat):FE:=λ δ=>match δ[i]? with
 |some (some d)=> .ok (.sh d)
 |_=> .no
def eC(d:D):FE:=λ_=> .ok (.sh d)
def Ad(i:Nat){x:Str}(hN:X.N[i]? =some x:=by rfl)(hv:Vis X.env.scope x:=by trivial)(hd:AG x:=by decide)
  (hcd:(x ==("__classdict__" :Str))=false:=by decide):ED X EX (.Name x pos) (Ab i):=
 PE.imp (o_1 hN hv hd hcd) λ σ H Q ⟨G,δ,g,s,o⟩=>by
  unfold Ab at o
  split at o
  ·rename_i d e;obtain⟨v,e1,r⟩:=s.get i d e;exact⟨v,e1,WP.use o g r⟩
  ·exact o.elim
def w_1{e:Expr}{v:V}{d:D}(he:PE X e (tC v))(hd:∀G,Has X.K G v d):ED X EX e (eC d):=
 PE.imp he λ σ H Q ⟨G,δ,g,s,o⟩=>WP.use o g (hd G)
def Aj{i:Int}{j pos}:ED X EX (.Constant (.int i) j pos) (eC (.int i)):=w_1 dl_9 λ_=> .int i
def Ge{b:Bool}{j pos}:ED X EX (.Constant (.bool b) j pos) (eC (.bl b)):=w_1 dt_6 λ_=> .bl b
def q_5{j pos}:ED X EX (.Constant .none j pos) (eC .non):=w_1 dm_0 λ_=> .non
def m_0{x:Str}{j pos}:ED X EX (.Constant (.str x) j pos) (eC (.str x)):=w_1 dm_1 λ_=> .str x
def y_0{x:Str}{i:Int}{t:Tok}(hg:Gl X x)(hm:X.mg x=some (.int i t))(hd:AG x:=by decide):ED X EX (.Name x pos) (eC (.int i)):=w_1 (ar_4 (v:=.int i) hg hm ⟨t,rfl⟩ hd) λ_=> .int i
def cb_7{x:Str}{z:Str}{t:Tok}(hg:Gl X x)(hm:X.mg x=some (.str z t))(hd:AG x:=by decide):ED X EX (.Name x pos) (eC (.str z)):=w_1 (ar_4 (v:=.str z) hg hm ⟨t,rfl⟩ hd) λ_=> .str z
def rD(K:Frag)(r:D->D->R W):R2:=λx y H Q=>∃(EX:EXT) (G:Hp) (a b:D),Same G H/\Has K G x a/\Has K G y b/\Out K EX G H (r a b) Q
abbrev Fg(X:Cx)(f:Value->Value->Sem Value)(r:D->D->R W):Prop:=OpR X f (rD X.K r)
def Ae(r:D->D->R W)(f g:FE):FE:=λ δ=>(f δ).bind λa=>(g δ).bind λb=>r a.d b.d
def two{r:D->D->R W}{σ:Sg}{Q:VK}(q:tD K EX (Ae r f g) σ H Q):tOp (rD K r) (tD K EX f) (tD K EX g) σ H Q:=by
 obtain⟨G,δ,g0,s0,o⟩:=q;exact tD.seq g0 s0 o λw v G1 H1 _ st1 r1 o1=>tD.seq st1.gh (s0.mono st1.gg) o1 λw2 v2 G2 H2 _ st2 r2 o2=>⟨_,G2,w.d,w2.d,st2.gh,r1.mono st2.gg,r2,o2⟩
def Aq{op:Operator}{r:D->D->R W}(ho:Fg X (binaryOp op) r)(ha:ED X EX a f)(hb:ED X EX b g):ED X EX (.BinOp a op b pos) (Ae r f g):=
 PE.imp (dj_6 ho ha hb) λ_ _ _ q=>two q
def y_1{op:CmpOp}{r:D->D->R W}(ho:Fg X (compareOp op) r)(ha:ED X EX a f)(hb:ED X EX b g)(hm:behindInMarks op b=false):ED X EX (.Compare a [op] [b] pos) (Ae r f g):=
 PE.imp (db_1 ho ha hb hm) λ_ _ _ q=>two q
def Dy:D->R Bool
 | .bl b=> .ok b
 |_=> .no
def Ao(f:FE):FT:=λ δ=>(f δ).bind λw=>Dy w.d
def dc_2{σ:Sg}{Q:Bool->Hp->Prop}(q:tDt K EX (Ao f) σ H Q):tD K EX f σ H λx H'=>∃k,x=.bl k/\Q k H':=by
 obtain⟨G,δ,g0,s0,o⟩:=q;refine⟨G,δ,g0,s0, ?_⟩;unfold Ao at o;cases e:f δ with
 |ok w=>
  rw[e]at o;simp only[R.bind_ok]at o;refine WP.intro λv G' H' st r=> ?_;revert r o;cases w.d with
  |bl k=>intro o r;cases r;exact⟨k,rfl,o G' H' st⟩
  |_=>intro o _;exact False.elim o
 |ex x=>rw[e]at o;exact o
 |no=>rw[e]at o;exact o
def Cv{op:CmpOp}{r:D->D->R W}(ho:Fg X (compareOp op) r)(ha:ED X EX a f)(hb:ED X EX b g)(hm:behindInMarks op b=false):TD X EX (.Compare a [op] [b] pos) (Ao (Ae r f g)):=
 PT.imp (db_2 ho ha hb hm) λ σ H Q q=>two (dc_2 q)
def u_8(r r':D->D->R W)(f g h:FE):FE:=λ δ=>(f δ).bind λa=>(g δ).bind λb=>(r a.d b.d).bind λz=>(Dy z.d).bind λk=>
 if k=true then(h δ).bind λc=>r' b.d c.d else .ok (.sh (.bl false))
def dw_0{r r':D->D->R W}{σ:Sg}{Q:VK}(q:tD K EX (u_8 r r' f g h) σ H Q):co_4 (rD K r) (rD K r') (tD K EX f) (tD K EX g) (tD K EX h) σ H Q:=by
 obtain⟨G,δ,g0,s0,o⟩:=q;refine tD.seq g0 s0 o λw v G1 H1 _ st1 r1 o1=>tD.seq st1.gh (s0.mono st1.gg) o1 λw2 v2 G2 H2 _ st2 r2 o2=>⟨EX σ,G2,w.d,w2.d,st2.gh,r1.mono st2.gg,r2, ?_⟩;revert o2;cases r w.d w2.d with
 |ok z=>
  intro o2;refine WP.intro λv3 G3 H3 st3 r3=> ?_;have o2:Out K (EX σ) G2 H2 ((Dy z.d).bind λk=>if k=true then(h δ).bind λc=>r' w2.d c.d else .ok (.sh (.bl false))) Q:=o2;revert r3 o2;cases z.d with
  |bl k=>
   intro r3 o2;cases r3;refine⟨k,rfl, ?_⟩;cases k with
   |true=>
    rw[if_pos rfl];have o3:Out K (EX σ) G2 H2 ((h δ).bind λc=>r' w2.d c.d) Q:=o2;exact tD.seq st3.gh (s0.mono (st1.gg.trans (st2.gg.trans st3.gg))) (o3.mono st3) λw4 v4 G4 H4 _ st4 r4 o4=>⟨_,G4,w2.d,w4.d,st4.gh,r2.mono (st3.gg.trans st4.gg),r4,o4⟩
   |false=>
    rw[if_neg A7];have o3:WP K G2 H2 (.sh (.bl false)) Q:=o2;exact(o3.mono st3).use st3.gh (.bl false)
  |_=>intro _ o2;exact False.elim o2
 |ex x=>exact λo2=>o2
 |no=>exact λo2=>o2
def bo_7{op op':CmpOp}{r r':D->D->R W}(ho:Fg X (compareOp op) r)(ho':Fg X (compareOp op') r')(ha:ED X EX a f)(hb:ED X EX b g)(hc:ED X EX c h)
  (hm:lastMarks [op,op'] [b,c]=false:=by with_unfolding_all rfl):ED X EX (.Compare a [op,op'] [b,c] pos) (u_8 r r' f g h):=
 PE.imp (co_5 ho ho' ha hb hc hm) λ_ _ _ q=>dw_0 q
abbrev TW(X:Cx)(EX:Bb)(e:Expr)(f:FT):Prop:=PW X e (tDt X.K EX f)
variable{p q:FT}{x_7:List Expr}
def tAndF(p q:FT):FT:=λ δ=>(p δ).bind λb=>if b=true then q δ else .ok false
def Dt(p q:FT):FT:=λ δ=>(p δ).bind λb=>if b=true then .ok true else q δ
def Ci(p:FT):FT:=λ δ=>(p δ).bind λb=> .ok (!b)
def dc_3(ha:TD X EX a p):TW X EX (.BoolOp .And [a] pos) p:=da_9 ha
def aa_8(ha:TD X EX a p):TW X EX (.BoolOp .Or [a] pos) p:=dm_2 ha
def tDt.two{σ:Sg}{Q:Bool->Hp->Prop}{k:Bool->DE->R Bool}{P:Bool->Hp->Prop}(h:tDt K EX (λ δ=>(p δ).bind λb=>k b δ) σ H Q)
  (i:∀b H',tDt K EX (k b) σ H' Q->P b H'):tDt K EX p σ H P:=by
 obtain⟨G,δ,g0,s0,o⟩:=h;refine⟨G,δ,g0,s0, ?_⟩;cases e:p δ with
 |ok b=>
  simp only[e,R.bind_ok]at o;refine λG' H' st=>i b H' ⟨G',δ,st.gh,s0.mono st.gg, ?_⟩;cases e2:k b δ with
  |ok c=>rw[e2]at o;exact λG2 H2 st2=>o G2 H2 (st.trans st2)
  |ex x=>rw[e2]at o;exact(EX σ).mono _ _ _ _ _ st o
  |no=>rw[e2]at o;exact o
 |ex x=>simp only[e,R.bind_ex]at o;exact o
 |no=>simp only[e,R.bind_no]at o
def tDt.now{σ:Sg}{Q:Bool->Hp->Prop}{c:Bool}(h:tDt K EX (λ_=> .ok c) σ H Q):Q c H:=by
 obtain⟨G,δ,g0,s0,o⟩:=h;exact o G H (Step.refl g0)
def dp_0(ha:TD X EX a p)(hb:TW X EX (.BoolOp .And (b::x_7) pos) q):TW X EX (.BoolOp .And (a::b::x_7) pos) (tAndF p q):=
 PW.imp (dm_3 ha hb) λ σ H Q h=>tDt.two (k:=λb δ=>if b=true then q δ else .ok false) h λb H' h'=>by
  cases b with
  |true=>rw[if_pos rfl];exact h'
  |false=>rw[if_neg A7];exact tDt.now h'
def ai_2(ha:TD X EX a p)(hb:TW X EX (.BoolOp .Or (b::x_7) pos) q):TW X EX (.BoolOp .Or (a::b::x_7) pos) (Dt p q):=
 PW.imp (dt_7 ha hb) λ σ H Q h=>tDt.two (k:=λb δ=>if b=true then .ok true else q δ) h λb H' h'=>by
  cases b with
  |true=>rw[if_pos rfl];exact tDt.now h'
  |false=>rw[if_neg A7];exact h'
def td_w{e:Expr}(h:TW X EX e p):TD X EX e p:=h.pt
def aa_9(ha:TD X EX a p):TD X EX (.UnaryOp .Not a pos) (Ci p):=
 PT.imp (dm_4 ha) λ σ H Q h=>tDt.two (k:=λb _=> .ok (!b)) h λb H' h'=>tDt.now h'
def eAnd(f g:FE):FE:=λ δ=>(f δ).bind λa=>(Dy a.d).bind λk=>if k=true then g δ else .ok (.sh (.bl false))
def eOr(f g:FE):FE:=λ δ=>(f δ).bind λa=>(Dy a.d).bind λk=>if k=true then .ok (.sh (.bl true)) else g δ
def eNot(f:FE):FE:=λ δ=>(f δ).bind λa=>(Dy a.d).bind λk=> .ok (.sh (.bl (!k)))
def bi_1{op}(h:ED X EX a f):ED X EX (.BoolOp op [a] pos) f:=dm_5 h
def tD.boolThen{σ:Sg}{Q:VK}{k:Bool->DE->R W}{P:Bool->Hp->Prop}(h:tD K EX (λ δ=>(f δ).bind λa=>(Dy a.d).bind λc=>k c δ) σ H Q)
  (i:∀c H',tD K EX (k c) σ H' Q->P c H'):tD K EX f σ H λx H'=>∃c,x=.bl c/\P c H':=by
 obtain⟨G,δ,g0,s0,o⟩:=h;refine tD.seq g0 s0 o λw v G1 H1 _ st1 r1 o1=> ?_;revert r1 o1;cases w.d with
 |bl c=>intro r1 o1;cases r1;exact⟨c,rfl,i c H1 ⟨G1,δ,st1.gh,s0.mono st1.gg,o1⟩⟩
 |_=>intro _ o1;exact False.elim o1
def tD.now{σ:Sg}{Q:VK}{v:V}{d:D}(h:tD K EX (λ_=> .ok (.sh d)) σ H Q)(r:∀G,Has K G v d):Q v H:=by
 obtain⟨G,δ,g0,s0,o⟩:=h;exact WP.use o g0 (r G)
def at_8(ha:ED X EX a f)(hb:ED X EX (.BoolOp .And (b::x_7) pos) g):ED X EX (.BoolOp .And (a::b::x_7) pos) (eAnd f g):=
 PE.imp (dm_6 ha hb) λ σ H Q h=>tD.boolThen (k:=λk δ=>if k=true then g δ else .ok (.sh (.bl false))) h λc H' h'=>by
  cases c with
  |true=>rw[if_pos rfl];exact h'
  |false=>rw[if_neg A7];exact tD.now h' λ_=> .bl false
def dp_1(ha:ED X EX a f):ED X EX (.UnaryOp .Not a pos) (eNot f):=
 PE.imp (dm_7 ha) λ σ H Q h=>tD.boolThen (k:=λk _=> .ok (.sh (.bl (!k)))) h λc H' h'=>tD.now h' λ_=> .bl (!c)
def eIf(p:FT)(f g:FE):FE:=λ δ=>(p δ).bind λk=>if k=true then f δ else g δ
def Cd:D->R Bool
 | .non=> .ok false
 | .bl b=> .ok b
 | .int i=> .ok (i != 0)
 | .str x=>if x.length<=16777216 then .ok ((x.length:Int) != 0) else .no
 | .lst ds=> .ok (!ds.isEmpty)
 | .tup ds=> .ok (!ds.isEmpty)
 |_=> .no
def Bf(f:FE):FT:=λ δ=>(f δ).bind λw=>Cd w.d
def bo_8{G:Hp}{vs:List V}{ds:List D}(r:HasL K G vs ds):(!ds.isEmpty)= !vs.isEmpty:=by cases r <;> rfl
def dp_2{G H:Hp}{v:V}{d:D}{k:Bool}(g:Same G H)(r:Has K G v d)(e:Cd d=.ok k):TruV K v H k:=by
 cases r with
 |non=>cases e;rfl
 |bl b=>cases e;rfl
 |int i=>cases e;rfl
 |str x=>
  have e:(if x.length<=16777216 then R.ok ((x.length:Int) != 0) else .no)=.ok k:=e
  split at e
  ·rename_i hz;cases e;exact⟨by rw[D5];exact hz,rfl⟩
  ·cases e
 |lst h r=>cases e;exact .inl ⟨_,g.seq h,bo_8 r⟩
 |tup h r=>cases e;exact .inr (.inl ⟨_,Same.tupS g h,bo_8 r⟩)
 |exn0 _ _=>cases e
 |exn1 _ _ _ _ _=>cases e
 |dic _ _ _=>cases e
 |obj _ _ _ _=>cases e
def h_5(ha:ED X EX a f)(he:∀whole,isTrue a X.env whole=(do let v<-whole;standAt a.pos;holding [v] (truthy v)):=by intro _;rfl):TD X EX a (Bf f):=
 PT.imp (co_6 ha he) λ σ H Q ⟨G,δ,g0,s0,o⟩=>by
  refine⟨G,δ,g0,s0, ?_⟩;unfold Bf at o;cases e:f δ with
  |ok w=>
   rw[e]at o;simp only[R.bind_ok]at o;refine WP.intro λv G' H' st r=> ?_;cases e2:Cd w.d with
   |ok k=>rw[e2]at o;exact⟨k,dp_2 st.gh r e2,o G' H' st⟩
   |ex x=>rw[e2]at o;exfalso;revert e2;cases w.d <;> simp only[Cd] <;> intro e2 <;> first|cases e2|(split at e2 <;> cases e2)
   |no=>rw[e2]at o;exact o.elim
  |ex x=>rw[e]at o;exact o
  |no=>rw[e]at o;exact o
variable{e:Expr}{es:List Expr}{fa:FA}
def Ac:FA:=λ_=> .ok []
def Aa(f:FE)(fa:FA):FA:=λ δ=>(f δ).bind λw=>(fa δ).bind λds=> .ok (w.d::ds)
def Ap:AD X EX [] Ac:=PA.imp o_2 λ σ H Q ⟨G,δ,g0,s0,o⟩=>o [] G H (Step.refl g0) .nil
def Ag(ha:ED X EX e f)(hr:AD X EX es fa)(hs:starEach (e::es) X.env=(false,eval e X.env)::starEach es X.env:=by rfl):AD X EX (e::es) (Aa f fa):=
 PA.imp (h_8 ha hr hs) λ σ H Q ⟨G,δ,g0,s0,o⟩=>by
  refine⟨G,δ,g0,s0, ?_⟩;unfold Aa at o;cases e1:f δ with
  |ok w=>
   rw[e1]at o;simp only[R.bind_ok]at o;refine WP.intro λv G' H' st r=>⟨G',δ,st.gh,s0.mono st.gg, ?_⟩;cases e2:fa δ with
   |ok ds=>rw[e2]at o;exact λvs G2 H2 st2 r2=>o (v::vs) G2 H2 (st.trans st2) (.cons (r.mono st2.gg) r2)
   |ex x=>rw[e2]at o;exact(EX σ).mono _ _ _ _ _ st o
   |no=>rw[e2]at o;exact o
  |ex x=>rw[e1]at o;exact o
  |no=>rw[e1]at o;exact o
def Fa(fa:FA):FE:=λ δ=>(fa δ).bind λds=>if ds.length<=16777216 then .ok (.sh (.tup ds)) else .no
def Aw(fa:FA):FE:=λ δ=>(fa δ).bind λds=>if ds.length<=16777216 then .ok (.ow (.lst ds)) else .no
def at_9{x1}(ha:AD X EX es fa):ED X EX (.Tuple es x1 pos) (Fa fa):=
 PE.imp (cp_0 ha) λ σ H Q ⟨G,δ,g0,s0,o⟩=>tDa.seq g0 s0 o λds vs G' H' _ st r o'=>by
  split at o'
  ·rename_i hz;refine⟨by rw[r.length,D5];exact hz,λp hp=>o' (.ref p) _ _ (Step.new st.gh hp _) (.tup (SqT.of Cb) (r.mono (j_6 (st.gh.free hp) _)))⟩
  ·exact o'.elim
def Dg(ha:AD X EX es fa):ED X EX (.List es pos) (Aw fa):=
 PE.imp (bx_1 ha) λ σ H Q ⟨G,δ,g0,s0,o⟩=>tDa.seq g0 s0 o λds vs G' H' _ st r o'=>by
  split at o'
  ·rename_i hz;refine⟨by rw[r.length,D5];exact hz,λp hp=>x_9 o' st.gh r p hp⟩
  ·exact o'.elim
def rDc(K:Frag)(fn:AF):List V->Hp->VK->Prop:=λvs H Q=>∃(EX:EXT) (G:Hp) (ds:List D),Same G H/\HasL K G vs ds/\Out K EX G H (fn ds) Q
abbrev Gf(X:Cx)(v:Value)(fn:AF):Prop:=CallR X v (rDc X.K fn)
def Ak(fn:AF)(fa:FA):FE:=λ δ=>(fa δ).bind fn
def cb_8{fn:AF}{σ:Sg}{Q:VK}(q:tD K EX (Ak fn fa) σ H Q):tCB (rDc K fn) (tDa K EX fa) σ H Q:=by
 obtain⟨G,δ,g0,s0,o⟩:=q;exact tDa.seq g0 s0 o λds vs G' H' _ st r o'=>⟨_,G',ds,st.gh,r,o'⟩
variable{x:Str}{pp:Pos}{id T:String}{fn:AF}
def Du(hc:Gf X (.builtin id) fn)(hg:Gl X x)(hm:X.mg x=none)(hv:bootBuiltins x=some (.builtin id))(ha:AD X EX (e::es) fa)(hn:x≠ "__name__" :=by decide)(hdb:AG x:=by decide)
  (he:starEach (e::es) X.env=(false,eval e X.env)::starEach es X.env:=by rfl) (hpl:(backTo pos (starEach es X.env)).any (·.1)=false:=by rfl):ED X EX (.Call (.Name x pp) (e::es) [] pos) (Ak fn fa):=
 PE.imp (aa_6 hc hg hm hv ha hn hdb he hpl) λ_ _ _ q=>cb_8 q
def ad_6(hc:Gf X (.type T) fn)(hg:Gl X x)(hm:X.mg x=none)(hv:bootBuiltins x=some (.type T))(ha:AD X EX (e::es) fa)(hn:x≠ "__name__" :=by decide)(hdb:AG x:=by decide)
  (he:starEach (e::es) X.env=(false,eval e X.env)::starEach es X.env:=by rfl) (hpl:(backTo pos (starEach es X.env)).any (·.1)=false:=by rfl):ED X EX (.Call (.Name x pp) (e::es) [] pos) (Ak fn fa):=
 PE.imp (ch_8 hc hg hm hv ha hn hdb he hpl) λ_ _ _ q=>cb_8 q
def Bw:D->D->R W
 | .lst ds,.int i=>match atI ds i with|some d=> .ok (.sh d)|none=> .no
 | .tup ds,.int i=>match atI ds i with|some d=> .ok (.sh d)|none=> .no
 | .str z,.int i=>if z.length<=16777216 then(match atI z.cps.toList i with|some c=> .ok (.sh (.str ⟨#[c]⟩))|none=> .no) else .no
 |_,_=> .no
theorem HasL.atI{G:Hp}{vs:List V}{ds:List D}{i:Int}{d:D}(r:HasL K G vs ds)(h:L2.atI ds i=some d):∃v,L2.atI vs i=some v/\Has K G v d:=by
 unfold L2.atI at h⊢;rw[r.length];cases e:ixN ds.length i with
 |none=>rw[e]at h;cases h
 |some j=>rw[e]at h;exact r.get h
def ix_d:IxR X (rD X.K Bw):=by
 intro value slice zd s σ H x y v u Q I rx ry h hs;obtain⟨EX,G,a,b,g,ra,rb,o⟩:=h;cases rb with
 |int i=>
  cases ra with
  |lst h r=>
   simp only[Bw]at o
   split at o
   ·rename_i d e;obtain⟨v,e1,r1⟩:=HasL.atI r e;exact ar_6 value slice zd s σ H _ _ _ _ Q I rx ry ⟨_,_,i,v,rfl,rfl,g.seq h,e1,WP.use o g r1⟩ hs
   ·exact o.elim
  |tup h r=>
   simp only[Bw]at o
   split at o
   ·rename_i d e;obtain⟨v,e1,r1⟩:=HasL.atI r e;exact cp_2 value slice zd s σ H _ _ _ _ Q I rx ry ⟨_,_,i,v,rfl,rfl,Same.tupS g h,e1,WP.use o g r1⟩ hs
   ·exact o.elim
  |str z=>
   simp only[Bw]at o
   split at o
   ·rename_i hz
    split at o
    ·rename_i c e;exact do_5 value slice zd s σ H _ _ _ _ Q I rx ry ⟨z,i,c,rfl,rfl,by rw[D5];exact hz,e,WP.use o g (.str _)⟩ hs
    ·exact o.elim
   ·exact o.elim
  |_=>exact False.elim o
 |_=>cases ra <;> exact False.elim o
def p_6(ha:ED X EX a f)(hb:ED X EX b g)(hs:bh_1 b:=by intro _ _;rfl):ED X EX (.Subscript a b pos) (Ae Bw f g):=
 PE.imp (dj_8 ix_d ha hb hs) λ_ _ _ q=>two q
end
end L3
namespace L2
open PySem PySem.Spec PyProof.Rows
section
variable{κ:Type} [DecidableEq κ]
def Dc(kvs:List (κ×V))(k:κ):Option V:=(kvs.find? λkv=>decide (kv.1=k)).map (·.2)
def Ga(kvs:List (κ×V))(k:κ)(v:V):List (κ×V):=
 if(kvs.any λkv=>decide (kv.1=k))=true then kvs.map (λkv=>if kv.1=k then(kv.1,v) else kv) else kvs ++ [(k,v)]
def j_7{p:κ×V}{r:List (κ×V)}{k:κ}(e:p.1=k):Dc (p::r) k=some p.2:=by simp[Dc,M6,e]
def i_8{p:κ×V}{r:List (κ×V)}{k:κ}(e:¬p.1=k):Dc (p::r) k=Dc r k:=by simp[Dc,M6,e]
theorem ab_0(k:κ):∀kvs:List (κ×V),(kvs.any λkv=>decide (kv.1=k))=(Dc kvs k).isSome
 | []=>rfl
 |p::r=>by
  rw[S9]
  by_cases e:p.1=k
  ·simp only[j_7 e,F1 e,Bool.true_or,Option.isSome_some]
  ·rw[i_8 e,E4 e,Bool.false_or];exact ab_0 k r
theorem bo_9(k j:κ)(y:V):∀kvs:List (κ×V),Dc (kvs.map λkv=>if kv.1=k then(kv.1,y) else kv) j=(Dc kvs j).map λx=>if j=k then y else x
 | []=>rfl
 |p::r=>by
  have ih:=bo_9 k j y r;rw[B2]
  by_cases h:p.1=k
  ·rw[if_pos h]
   by_cases e:p.1=j
   ·rw[j_7 (p:=(p.1,y)) e,j_7 e,M3,if_pos (e.symm.trans h)]
   ·rw[i_8 (p:=(p.1,y)) e,i_8 e,ih]
  ·rw[if_neg h]
   by_cases e:p.1=j
   ·rw[j_7 (p:=p) e,j_7 e,M3,if_neg (λz=>h (e.trans z))]
   ·rw[i_8 (p:=p) e,i_8 e,ih]
theorem bd_2(k j:κ)(y:V):∀kvs:List (κ×V),Dc kvs k=none->Dc (kvs ++ [(k,y)]) j=if j=k then some y else Dc kvs j
 | [],_=>by
  by_cases e:k=j
  ·rw[if_pos e.symm];exact j_7 (p:=(k,y)) e
  ·rw[if_neg (λz=>e z.symm)];exact i_8 (p:=(k,y)) e
 |p::r,hn=>by
  rw[O5];have hk:¬p.1=k:=λz=>by rw[j_7 z]at hn;cases hn
  rw[i_8 hk]at hn;have ih:=bd_2 k j y r hn
  by_cases e:p.1=j
  ·rw[j_7 e,j_7 e,if_neg (λz=>hk (e.trans z))]
  ·rw[i_8 e,i_8 e,ih]
def cq_1(kvs:List (κ×V))(k j:κ)(y:V):Dc (Ga kvs k y) j=if j=k then some y else Dc kvs j:=by
 unfold Ga
 by_cases a:(kvs.any λkv=>decide (kv.1=k))=true
 ·rw[if_pos a,bo_9];rw[ab_0]at a
  by_cases e:j=k
  ·obtain⟨x,hx⟩:=R5.mp a;rw[if_pos e,e,hx,M3,if_pos rfl]
  ·rw[if_neg e];cases Dc kvs j with
   |none=>rfl
   |some x=>rw[M3,if_neg e]
 ·rw[if_neg a];refine bd_2 k j y kvs ?_;rw[ab_0]at a;cases q:Dc kvs k with
  |none=>rfl
  |some x=>rw[q]at a;exact(a rfl).elim
def ab_1(kvs:List (κ×V))(k:κ)(v:V):(Ga kvs k v).length<=kvs.length + 1:=by
 unfold Ga
 split
 ·rw[A4];omega
 ·rw[B6,C6,P3];omega
def RelO.isSome_eq{o:Option V}{u:Option Value}(r:RelO o u):o.isSome=u.isSome:=by
 cases o with
 |none=>cases u with
  |none=>rfl
  |some _=>exact(show False from r).elim
 |some _=>cases u with
  |none=>exact(show False from r).elim
  |some _=>rfl
theorem RelO.getD{o:Option V}{u:Option Value}{d:V}{d':Value}(r:RelO o u)(rd:RelV d d'):RelV (o.getD d) (u.getD d'):=by
 cases o with
 |none=>cases u with
  |none=>exact rd
  |some _=>exact(show False from r).elim
 |some _=>cases u with
  |none=>exact(show False from r).elim
  |some _=>exact r
def KV.val{kvs:List (κ×V)}{vs:List (κ×Value)}(r:KV kvs vs)(k:κ):RelO (Dc kvs k) (valueAt vs k):=by
 unfold KV at r
 induction r with
 |nil=>exact True.intro
 | @cons p q ps qs h t ih=>
  obtain⟨h1,h2⟩:=h
  by_cases e:p.1=k
  ·have e':q.1=k:=h1.symm.trans e;have b:valueAt (q::qs) k=some q.2:=by simp[valueAt,M6,e']
   rw[j_7 e,b];exact h2
  ·have e':¬q.1=k:=λz=>e (h1.trans z);have b:valueAt (q::qs) k=valueAt qs k:=by simp[valueAt,M6,e']
   rw[i_8 e,b];exact ih
theorem KV.any{kvs:List (κ×V)}{vs:List (κ×Value)}(r:KV kvs vs)(k:κ):(kvs.any λkv=>decide (kv.1=k))=vs.any λkv=>decide (kv.1=k):=by
 unfold KV at r
 induction r with
 |nil=>rfl
 |cons h t ih=>rw[S9,S9,ih,h.1]
def KV.repl{kvs:List (κ×V)}{vs:List (κ×Value)}(r:KV kvs vs)(k:κ){y:V}{u:Value}(ry:RelV y u):
  KV (kvs.map λkv=>if kv.1=k then(kv.1,y) else kv) (vs.map λkv=>if kv.1=k then(kv.1,u) else kv):=by
 unfold KV at r⊢
 induction r with
 |nil=>exact .nil
 | @cons p q ps qs h t ih=>
  rw[B2,B2];refine .cons ?_ ih;obtain⟨h1,h2⟩:=h
  by_cases e:p.1=k
  ·rw[if_pos e,if_pos (h1.symm.trans e)];exact⟨h1,ry⟩
  ·rw[if_neg e,if_neg (λz=>e (h1.trans z))];exact⟨h1,h2⟩
def KV.put{kvs:List (κ×V)}{vs:List (κ×Value)}(r:KV kvs vs)(k:κ){y:V}{u:Value}(ry:RelV y u):KV (Ga kvs k y) (stored vs k u):=by
 unfold Ga stored;rw[r.any k]
 by_cases e:(vs.any λkv=>decide (kv.1=k))=true
 ·rw[if_pos e,if_pos e];exact r.repl k ry
 ·rw[if_neg e,if_neg e];exact Paired.snoc r ⟨rfl,ry⟩
theorem KV.length{kvs:List (κ×V)}{vs:List (κ×Value)}(r:KV kvs vs):kvs.length=vs.length:=S6 r
end
def bd_3{P:Program}{w:World}{k:Ar}{u:Value}(r:RelV (kV k) u):(h_7 P w).is k u=true:=by
 cases k with
 |inl i=>obtain⟨t,e⟩:=(show∃t,u=Value.int i t from r);subst e;exact bo_1 P w i t
 |inr x=>obtain⟨t,e⟩:=(show∃t,u=Value.str x t from r);subst e;exact bo_2 P w x t
theorem bd_4{P:Program}{w:World}:∀{ks:List Ar} {us:List Value},Vals (ks.map kV) us->ItemsAre (h_7 P w) ks us
 | [],_,r=>by rw[N2]at r;cases r;exact .nil
 |k::ks,_,r=>by
  rw[B2]at r;cases r with
  |cons h t=>exact .cons (bd_3 h) (bd_4 t)
abbrev KT(H:Hp):List (List Ar×V)->List (List Ar×Addr×Value)->Prop:=Paired λp q=>p.1=q.1/\H q.2.1=some (.tup (p.1.map kV))/\RelV p.2 q.2.2
def KT.val{kvs:List (List Ar×V)}{xs:List (List Ar×Addr×Value)}(r:KT H kvs xs)(k:List Ar):RelO (Dc kvs k) ((atKey xs k).map (·.2)):=by
 induction r with
 |nil=>exact True.intro
 | @cons p q ps qs h t ih=>
  obtain⟨h1,_,h2⟩:=h
  by_cases e:p.1=k
  ·have e':q.1=k:=h1.symm.trans e;have b:atKey (q::qs) k=some q.2:=by simp[atKey,M6,e']
   rw[j_7 e,b];exact h2
  ·have e':¬q.1=k:=λz=>e (h1.trans z);have b:atKey (q::qs) k=atKey qs k:=by simp[atKey,M6,e']
   rw[i_8 e,b];exact ih
def KT.repl{kvs:List (List Ar×V)}{xs:List (List Ar×Addr×Value)}(r:KT H kvs xs)(k:List Ar){y:V}{u:Value}(ry:RelV y u):
  KT H (kvs.map λkv=>if kv.1=k then(kv.1,y) else kv) (xs.map (putAt k u)):=by
 induction r with
 |nil=>exact .nil
 | @cons p q ps qs h t ih=>
  rw[B2,B2];refine .cons ?_ ih;obtain⟨h1,h2,h3⟩:=h;unfold putAt
  by_cases e:p.1=k
  ·rw[if_pos e,if_pos (h1.symm.trans e)];exact⟨h1,h2,ry⟩
  ·rw[if_neg e,if_neg (λz=>e (h1.trans z))];exact⟨h1,h2,h3⟩
def KT.put{kvs:List (List Ar×V)}{xs:List (List Ar×Addr×Value)}(r:KT H kvs xs)(k:List Ar){b:Addr}{y:V}{u:Value}(hb:H b=some (.tup (k.map kV)))(ry:RelV y u):
  KT H (Ga kvs k y) (storedH xs k b u):=by
 have e:(kvs.any λkv=>decide (kv.1=k))=(atKey xs k).isSome:=by
  rw[ab_0,(r.val k).isSome_eq,ZA2]
 unfold Ga storedH;rw[e]
 by_cases q:(atKey xs k).isSome=true
 ·rw[if_pos q,if_pos q];exact r.repl k ry
 ·rw[if_neg q,if_neg q];exact Paired.snoc r ⟨rfl,hb,ry⟩
def KT.keeps{H H':Hp}{kvs:List (List Ar×V)}{xs:List (List Ar×Addr×Value)}(r:KT H kvs xs)(ht:∀b ys,H b=some (.tup ys)->H' b=some (.tup ys)):KT H' kvs xs:=
 Paired.mapP r λ_ _ z=>⟨z.1,ht _ _ z.2.1,z.2.2⟩
section
variable{P:Program}{w:World}{H:Hp}{h:Heap}{a:Addr}
def dj_9{u:HO}(ok:HOk P w H h)(e:Rd H a u):ObjOk P w H h a u:=e.ok ok
def au_0{kvs:List (Ar×V)}(ok:HOk P w H h)(e:Rd H a (.dK kvs)):kvs.length<=sizeLine/\(a ==sysModules)=false/\∃vs,KV kvs vs/\h.DictOf (h_7 P w) a vs:=
 show ObjOk P w H h a (.dK kvs) from dj_9 ok e
def dk_0{kvs:List (Ar×V)}(ok:HOk P w H h)(e:H a=some (.dK kvs)):kvs.length<=sizeLine/\(a ==sysModules)=false/\∃vs,KV kvs vs/\h.DictOf (h_7 P w) a vs:=au_0 ok (.inl e)
def au_1{ks:List Ar}(ok:HOk P w H h)(e:H a=some (.tup (ks.map kV))):(tupleKind (h_7 P w)).is h ks a:=by
 obtain⟨_,its,r,o,h1,h2,n,h3⟩:=(show ObjOk P w H h a (.tup (ks.map kV)) from ok a _ e);exact⟨o,its.toArray,n,h1,h2,h3,by simpa using bd_4 r⟩
def bd_5{kvs:List (List Ar×V)}(ok:HOk P w H h)(e:Rd H a (.dT kvs)):kvs.length<=sizeLine/\(a ==sysModules)=false/\
  ∃xs,KT H kvs xs/\h.DictOfH (tupleKind (h_7 P w)) a xs:=by
 obtain⟨z,y,xs,r,o,es,ep,h1,h2,h3,h4,h5⟩:=(show ObjOk P w H h a (.dT kvs) from dj_9 ok e);refine⟨z,y,xs,r,o,es,ep,h1,h2,h3,h4,λx hx=> ?_,h5⟩;have all:∀{l:List (List Ar×V)} {m:List (List Ar×Addr×Value)},KT H l m->∀x∈m,(tupleKind (h_7 P w)).is h x.1 x.2.1:=by
  intro l m q
  induction q with
  |nil=>intro x hx;exact nomatch hx
  | @cons p q ps qs hq t ih=>
   intro x hx;rcases B8.mp hx with e|hx
   ·subst e;exact au_1 ok (by rw[<-hq.1];exact hq.2.1)
   ·exact ih x hx
 exact all r x hx
def dw_1{kvs:List (List Ar×V)}(ok:HOk P w H h)(e:H a=some (.dT kvs)):kvs.length<=sizeLine/\(a ==sysModules)=false/\
  ∃xs,KT H kvs xs/\h.DictOfH (tupleKind (h_7 P w)) a xs:=bd_5 ok (.inl e)
end
def DGet(H:Hp)(a:Addr)(y:V)(r:Option V):Prop:=
 (∃kvs k,Rd H a (.dK kvs)/\y=kV k/\r=Dc kvs k)\/∃kvs k b,Rd H a (.dT kvs)/\y=.ref b/\H b=some (.tup (k.map kV))/\r=Dc kvs k
def DPut(H:Hp)(a:Addr)(y v:V)(H':Hp):Prop:=
 (∃kvs k,H a=some (.dK kvs)/\y=kV k/\kvs.length < sizeLine/\H'=upd H a (.dK (Ga kvs k v)))\/
 ∃kvs k b,H a=some (.dT kvs)/\y=.ref b/\H b=some (.tup (k.map kV))/\kvs.length < sizeLine/\H'=upd H a (.dT (Ga kvs k v))
def DGet.t{a b:Addr}{kvs:List (List Ar×V)}{k:List Ar}(e:H a=some (.dT kvs))(eb:H b=some (.tup (k.map kV))):DGet H a (.ref b) (Dc kvs k):=.inr ⟨kvs,k,b,.inl e,rfl,eb,rfl⟩
theorem DPut.k{a:Addr}{kvs:List (Ar×V)}{k:Ar}{v:V}(e:H a=some (.dK kvs))(hl:kvs.length < sizeLine):DPut H a (kV k) v (upd H a (.dK (Ga kvs k v))):=.inl ⟨kvs,k,e,rfl,hl,rfl⟩
def DPut.t{a b:Addr}{kvs:List (List Ar×V)}{k:List Ar}{v:V}(e:H a=some (.dT kvs))(eb:H b=some (.tup (k.map kV)))(hl:kvs.length < sizeLine):
  DPut H a (.ref b) v (upd H a (.dT (Ga kvs k v))):=.inr ⟨kvs,k,b,e,rfl,eb,hl,rfl⟩
section
variable{X:Cx}{zd:AE}{σ:St}{H:Hp}{s:Shared}{a:Addr}{y v:V}{u r:Value}{o:Option V}{A:Around}{E:AA}
def Inv.big(I:Inv X zd σ H s):sysModules < s.heap.objs.size:=by
 have h:mainGlobals < s.heap.objs.size:=(I.mod.glob.keeps I.bk).lt;exact Nat.lt_trans ⋯ h
def ci_5{Q:AA}(hu:A.units + 1 < cLine)(I:Inv X zd σ H s)(g:DGet H a y (some v))(ry:RelV y u)(h:∀w' s',Inv X zd σ H s'->RelV v w'->Q w' s'):
  wpAny (model X.prog X.w) A (getItem (.ref a) u) Q E s:=by
 rcases g with⟨kvs,k,e,ey,l⟩|⟨kvs,k,b,e,ey,eb,l⟩
 ·subst ey;obtain⟨z,hd,vs,rel,dd⟩:=au_0 I.hok e;obtain⟨w',hw,rw'⟩:=RelO.some_of (v:=v) (o:=valueAt vs k) (by rw[l];exact rel.val k);exact wpAny_getItem_of (bd_3 ry) dd.mapOf hw (h w' _ (I.tok _) rw')
 ·subst ey;cases(show u=Value.ref b from ry);obtain⟨z,hd,xs,rel,dd⟩:=bd_5 I.hok e;obtain⟨w',hw,rw'⟩:=RelO.some_of (v:=v) (o:=(atKey xs k).map (·.2)) (by rw[l];exact rel.val k);obtain⟨p,hp,hp2⟩:=N5.mp hw;refine wpAny_getItem_heap (V3 hu) (au_1 I.hok eb) dd hp ?_;rw[hp2];exact h w' _ (I.tok _) rw'
def d_in{Q:AA}(hu:A.units + 1 < cLine)(I:Inv X zd σ H s)(g:DGet H a y o)(ry:RelV y u)(h:∀s',Inv X zd σ H s'->Q (.bool o.isSome) s'):
  wpAny (model X.prog X.w) A (compareOp .In u (.ref a)) Q E s:=by
 rcases g with⟨kvs,k,e,ey,l⟩|⟨kvs,k,b,e,ey,eb,l⟩
 ·subst ey;obtain⟨z,hd,vs,rel,dd⟩:=au_0 I.hok e;refine wpAny_in_of (bd_3 ry) hd dd.mapOf ?_;rw[<-(rel.val k).isSome_eq,<-l];exact h _ (I.tok _)
 ·subst ey;cases(show u=Value.ref b from ry);obtain⟨z,hd,xs,rel,dd⟩:=bd_5 I.hok e;refine wpAny_in_heap (V3 hu) (au_1 I.hok eb) hd dd ?_;have q:=(rel.val k).isSome_eq;rw[ZA2]at q;rw[<-q,<-l];exact h _ (I.tok _)
def bi_2{h':Heap}{t':Nat}{ob:HO}(I:Inv X zd σ H s)(mu:Mut (H a))(hs:Heap.SameBut a s.heap h')(he:∃q,h'.get? a=some q)(new:ObjOk X.prog X.w (upd H a ob) h' a ob):
  Inv X zd σ (upd H a ob) {s with heap:=h',toks:=t'}:=
 I.write (x:=a) (e:=a) mu (.inl rfl) (λb q hb z=>(hs.2 b hb).trans z) he new
def cq_2{P:Program}{w:World}{H':Hp}{h':Heap}{kvs:List (Ar×V)}{vs:List (Ar×Value)}(z:kvs.length<=sizeLine)(hd:(a ==sysModules)=false)(rel:KV kvs vs)(dd:h'.DictOf (h_7 P w) a vs):
  ObjOk P w H' h' a (.dK kvs):=⟨z,hd,vs,rel,dd⟩
def ci_6{H':Hp}{Q:Unit->Shared->Prop}(hu:A.units + 1 < cLine)(I:Inv X zd σ H s)(g:DPut H a y v H')(ry:RelV y u)(rv:RelV v r)(h:∀s',Inv X zd σ H' s'->Q .unit s'):
  wpAny (model X.prog X.w) A (setItem (.ref a) u r) Q E s:=by
 rcases g with⟨kvs,k,e,ey,l,eH⟩|⟨kvs,k,b,e,ey,eb,l,eH⟩
 ·subst ey eH;obtain⟨z,hd,vs,rel,dd⟩:=dk_0 I.hok e;have hz:vs.length<=sizeLine:=by rw[<-rel.length];exact z
  have hl:(Ga kvs k v).length<=sizeLine:=by have:=ab_1 kvs k v;omega
  refine wpAny_setItem_pairs (hsz:=hz) (bd_3 ry) dd λh' dd' hs=>h _ ?_;have he:∃q,h'.get? a=some q:=let⟨q,_,_,hq,_⟩:=dd';⟨q,hq⟩;exact bi_2 I (by rw[e];exact True.intro) hs he (cq_2 hl hd (rel.put k rv) dd')
 ·subst ey eH;cases(show u=Value.ref b from ry);obtain⟨z,hd,xs,rel,dd⟩:=dw_1 I.hok e;have hz:xs.length<=sizeLine:=by rw[<-S6 rel];exact z
  have hl:(Ga kvs k v).length<=sizeLine:=by have:=ab_1 kvs k v;omega
  refine wpAny_setItem_heap (hsz:=hz) (V3 hu) (au_1 I.hok eb) dd λh' dd' hs=>h _ ?_;obtain⟨q,es,ep,hq,h2,h3,h4,_,h5⟩:=dd';refine bi_2 I (by rw[e];exact True.intro) hs ⟨q,hq⟩ ⟨hl,hd,_,(rel.put k eb rv).keeps λc ys ec=> ?_,q,es,ep,hq,h2,h3,h4,h5⟩;rw[Ba (dt_5 ec e (λz=>nomatch z))];exact ec
end
section
variable{X:Cx}{zd:AE}{σ:St}{H:Hp}{s:Shared}{a:Addr}{kvs:List (Ar×V)}{k:Ar}{u:Value}{A:Around}{E:AA}
end
def NoSl(i:Expr):Prop:=∀ov iv,subscripted i false ov iv=operate [ov,iv] (getItem ov iv)
def dc_4{prog:Program}{w:World}{A:Around}{E:AA}{s:Shared}{env:Env}{value slice:Expr}{T id:String}{Q:AA}
  (hl:typeLookup (.type T) "__getitem__" =pure (some (.builtin id))) (hs:NoSl slice)
  (h:wpAny (model prog w) A (eval value env) (λo s₁=>wpAny (model prog w) A (eval slice env) (λi s₂=>s₂.TypeIs o T/\wpAny (model prog w) A (getItem o i) Q E s₂) E s₁) E s):
  wpAny (model prog w) A (eval (.Subscript value slice pos) env) Q E s:=by
 refine Subscript_ (D2 h (λo s₁ h₁=>D2 h₁ (λi s₂ h₂=> ?_) λ_ _ x=>x) λ_ _ x=>x);obtain⟨hT,h₂⟩:=h₂;unfold subscriptTail;refine A3 ?_;rw[getitemInPython_of_ne hT.not_modules];refine A3 (wpAny_specialOf hT hl ?_);have fin:wpAny (model prog w) A (subscripted slice false o i) (λr s₃=>wpAny (model prog w) A (letTemporaryGo value o r >>=λ_=>pure r) Q E s₃) E s₂:=by
  rw[hs o i];exact wpAny_operating (D2 h₂ (λr s₃ h₃=>A3 (wpAny_letTemporaryGo (C5 h₃))) λ_ _ x=>x)
 first
  |exact C5 (A3 fin)
  |exact A3 (C5 (A3 fin))
  |exact A3 fin
def bp_0{zd:AE}{σ:St}{s:Shared}{a:Addr}{y:V}{o:Option V}(I:Inv X zd σ H s)(g:DGet H a y o):s.TypeIs (.ref a) "dict" :=by
 rcases g with⟨kvs,k,e,_,_⟩|⟨kvs,k,b,e,_,_,_⟩
 ·obtain⟨_,_,vs,_,dd⟩:=au_0 I.hok e;exact dd.typeIs
 ·obtain⟨_,_,xs,_,dd⟩:=bd_5 I.hok e;exact dd.typeIs
def dw_2(td ty:TE):TE:=λ σ H Q=>td σ H λx H1=>ty σ H1 λy H2=>∃a v,x=.ref a/\DGet H2 a y (some v)/\Q v H2
def dw_3(td ty tv:TE):TS:=λD σ H=>tv σ H λv H1=>td σ H1 λx H2=>ty σ H2 λy H3=>∃a H4,x=.ref a/\DPut H3 a y v H4/\D.nx σ H4
section
variable{X:Cx}{o i e value:Expr}{pos pos' zi:Pos}{td ty tv:TE}
def dc_5(hu:X.A.units + 1 < cLine)(ho:PE X o td)(hi:PE X i ty)(hs:NoSl i):PE X (.Subscript o i pos) (dw_2 td ty):=by
 intro zd s σ H Q I h;refine dc_4 PySem.F.slot_dict_getitem.lookup hs (Be (ho zd s σ H _ I h) λu s1 ⟨x,H1,I1,rx,q1⟩=>Be (hi zd s1 σ H1 _ I1 q1) λiv s2 ⟨y,H2,I2,ry,a,v,ex,g,q2⟩=> ?_);subst ex;obtain rfl:u=Value.ref a:=rx;exact⟨bp_0 I2 g,ci_5 hu I2 g ry λw' s3 I3 rw'=>⟨v,H2,I3,rw',q2⟩⟩
def dc_6(hu:X.A.units + 1 < cLine)(ho:PE X o td)(hi:PE X i ty)(hv:PE X value tv)(hs:swapsWith value (some (.Subscript o i pos')) pos.line X.env=pure false):
  PS X (.Assign [.Subscript o i pos'] value pos) (dw_3 td ty tv):=by
 intro zd s σ H D I h;refine wpAny_Assign_Subscript (Be (hv zd s σ H _ I h) λr s1 ⟨v,H1,I1,rv,q1⟩=>Be (ho zd s1 σ H1 _ I1 q1) λu s2 ⟨x,H2,I2,rx,q2⟩=>Be (hi zd s2 σ H2 _ I2 q2) λiv s3 ⟨y,H3,I3,ry,a,H4,ex,g,q3⟩=> ?_) hs;subst ex;obtain rfl:u=Value.ref a:=rx;exact ci_6 hu I3 g ry rv λs4 I4=>⟨σ,H4,I4,q3⟩
end
def cq_3{P:Program}{w:World}(h:Heap)(hb:sysModules < h.objs.size):ObjOk P w H (h.push {cls:=.type "dict",data:=.dict #[]}) h.objs.size (.dK []):=
 ⟨K0 _,N7.mpr (Ne.symm (C1 hb)),[],.nil,Heap.DictOf.new h⟩
def dp_4:TE:=λ_ H Q=>∀p,H p=none->Q (.ref p) (upd H p (.dK []))
section
variable{X:Cx}{pos:Pos}
def cq_4:PE X (.Dict [] [] pos) dp_4:=λzd s σ H Q I h=>
 wpAny_Dict_empty ⟨.ref s.heap.objs.size,_,I.laid (a:=s.heap.objs.size) (o:=.dK []) (t':=s.toks) (λ_ _ q=>A5 _ q) (A8 _) (cq_3 s.heap I.big),rfl,h _ (I.hok.fresh (A8 _))⟩
end
structure M1(X:Cx)(o:Expr)(m:Str)(zh:Pos)(e:Expr)(zf:Pos):Prop where
 base:attributeBase o m X.env (eval o X.env)=eval o X.env
 few:((backTo zf (starEach [e] X.env)).all (λx=> !x.1) && (backToKw zf (keywordEach [] X.env)).all (λx=>x.1.isSome)
  && decide (([e]:List Expr).length + ([]:List Keyword).length + (if([]:List Keyword).isEmpty then 0 else 1) < 30))=true
 line:(zh.endLine ==zf.line)=true
 trees:backTo zf (starEach [e] X.env)= [(false,eval e X.env)]
structure M2(X:Cx)(o:Expr)(m:Str)(zh:Pos)(e f:Expr)(zf:Pos):Prop where
 base:attributeBase o m X.env (eval o X.env)=eval o X.env
 few:((backTo zf (starEach [e,f] X.env)).all (λx=> !x.1) && (backToKw zf (keywordEach [] X.env)).all (λx=>x.1.isSome)
  && decide (([e,f]:List Expr).length + ([]:List Keyword).length + (if([]:List Keyword).isEmpty then 0 else 1) < 30))=true
 line:(zh.endLine ==zf.line)=true
 trees:backTo zf (starEach [e,f] X.env)= [(false,eval e X.env),(false,eval f X.env)]
def IsD(H:Hp)(a:Addr):Prop:=(∃kvs,Rd H a (.dK kvs))\/∃kvs,Rd H a (.dT kvs)
def cq_5{zd:AE}{σ:St}{s:Shared}{a:Addr}(I:Inv X zd σ H s)(d:IsD H a):
  s.TypeIs (.ref a) "dict" /\(∀b,Value.ref a=.ref b->∃ob,s.heap.get? b=some ob/\ob.dict=none)/\(a ==sysModules)=false:=by
 rcases d with⟨kvs,e⟩|⟨kvs,e⟩
 ·obtain⟨_,hd,vs,_,dd⟩:=au_0 I.hok e;refine⟨dd.typeIs,λb q=> ?_,hd⟩;cases q;obtain⟨ob,_,_,h1,h2,_⟩:=dd;exact⟨ob,h1,h2.2.1⟩
 ·obtain⟨_,hd,xs,_,dd⟩:=bd_5 I.hok e;refine⟨dd.typeIs,λb q=> ?_,hd⟩;cases q;obtain⟨ob,_,_,h1,h2,_⟩:=dd;exact⟨ob,h1,h2.2.1⟩
section
variable{X:Cx}{zd:AE}{σ:St}{H:Hp}{s:Shared}{a:Addr}{y d:V}{u r:Value}{o:Option V}{A:Around}{E:AA}
def dp_5{Q:AA}(hu:A.units + 1 < cLine)(I:Inv X zd σ H s)(g:DGet H a y o)(ry:RelV y u)(rd:RelV d r)(h:∀w' s',Inv X zd σ H s'->RelV (o.getD d) w'->Q w' s'):
  wpAny (model X.prog X.w) A (call (.builtin "dict.get") [.ref a,u,r]) Q E s:=by
 rcases g with⟨kvs,k,e,ey,l⟩|⟨kvs,k,b,e,ey,eb,l⟩
 ·subst ey;obtain⟨z,hd,vs,rel,dd⟩:=au_0 I.hok e;refine ZE6 W5 dd.typeIs ZC3 (ZB1 _ _ _) (meets_dict_get_default (h_7 X.prog X.w) a (bd_3 ry) hd r) ⟨_,dd.mapOf,h _ _ (I.tok _) ?_⟩;rw[l];exact(rel.val k).getD rd
 ·subst ey;cases(show u=Value.ref b from ry);obtain⟨z,hd,xs,rel,dd⟩:=bd_5 I.hok e;refine ZE6 W5 dd.typeIs ZC3 (ZB1 _ _ _) (meetsH_dict_get_default (tupleKind (h_7 X.prog X.w)) a b hd r) ⟨V3 hu,k,xs,au_1 I.hok eb,dd,h _ _ (I.tok _) ?_⟩;rw[l];exact(rel.val k).getD rd
end
def dp_6(td ty tx:TE):TE:=λ σ H Q=>td σ H λx H1=>∃a,x=.ref a/\IsD H1 a/\ty σ H1 λy H2=>tx σ H2 λz H3=>∃o,DGet H3 a y o/\Q (o.getD z) H3
section
variable{X:Cx}{o e f:Expr}{zh zf:Pos}{td ty tx:TE}
def cq_6(hu:X.A.units + 1 < cLine)(ho:PE X o td)(he:PE X e ty)(hf:PE X f tx)(m:M2 X o "get" zh e f zf):PE X (.Call (.Attribute o "get" zh) [e,f] [] zf) (dp_6 td ty tx):=by
 intro zd s σ H Q I h;refine wpAny_Call_method m.base m.few m.line ZB2 W5 PySem.F.type_dict_get (Be (ho zd s σ H _ I h) λu s1 ⟨x,H1,I1,rx,a,ex,d,q1⟩=> ?_);subst ex;obtain rfl:u=Value.ref a:=rx;obtain⟨t1,t2,_⟩:=cq_5 I1 d;refine⟨t1,t2, ?_⟩;rw[m.trees];refine V7 rfl (X4 (M7 (Be (he zd s1 σ H1 _ I1 q1) λiv s2 ⟨y,H2,I2,ry,q2⟩=>
  M7 (Be (hf zd s2 σ H2 _ I2 q2) λfv s3 ⟨z,H3,I3,rz,ov,g,q3⟩=>Q7 ?_))))
 exact dp_5 hu I3 g ry rz λw' s4 I4 rw'=>⟨_,H3,I4,rw',q3⟩
end
section
variable{X:Cx}{zd:AE}{σ:St}{H:Hp}{s:Shared}{a:Addr}{kvs:List (Ar×V)}{A:Around}{E:AA}
end
section
variable{X:Cx}{zd:AE}{σ:St}{H:Hp}{s:Shared}{a:Addr}{y:V}{u:Value}{A:Around}{E:AA}
end
section
variable{X:Cx}
end
section
variable{κ:Type} [DecidableEq κ]
end
end L2
namespace L3
open PySem PySem.Spec PyProof.Rows L2
variable{K:Frag}{fd:FuncData}{mg:AB}{us:List Value}{base:Heap}{H:Hp}{X:Cx}{pos:Pos}
section
variable{X:Cx}
def Cu{EX:EXT}{G H:Hp}{Q:VK}{d:D}{v:V}(o:Out K EX G H (.ok (.sh d)) Q)(g:Same G H)(r:Has K G v d):Q v H:=WP.use o g r
def dw_4(K:Frag):R2:=λx y H Q=>∃l b xs zs,x=.ref l/\y=.ref b/\SqL K H l xs/\SqL K H b zs/\xs.length + zs.length<=sizeLine/\∀p,H p=none->Q (.ref p) (upd H p (.lst (xs ++ zs)))
def dc_7:OpR X (binaryOp .Add) (dw_4 X.K):=by
 intro zd s σ H x y v u Q I rx ry h;obtain⟨l,b,xs,zs,rfl,rfl,hH,hB,hz,q⟩:=h;cases rx;cases ry;obtain⟨its,r,⟨o,n,e,c,dd,dat⟩,z⟩:=I.list hH;obtain⟨its2,r2,⟨o2,n2,e2,c2,dd2,dat2⟩,z2⟩:=I.list hB;have hl:=r.length;have hl2:=r2.length;obtain⟨cls,dd',data,sl⟩:=o;obtain⟨jh,jk,data2,sl2⟩:=o2;simp only at c dd dat c2 dd2 dat2;subst c dd dat c2 dd2 dat2;refine concat_meets ⟨_,e,rfl⟩ ⟨_,e2,rfl⟩ noFill_list_add seq_list_add PySem.F.slot_list_add PySem.F.entry_list_add (PySem.F.args_list_add_2 _ _) (list_addW l b its.toArray its2.toArray n n2 none none sl sl2 (by rw[C8,C8];omega)) ⟨e,e2, ?_⟩;have ea:its.toArray ++ its2.toArray=(its ++ its2).toArray:=by simp
 rw[ea];exact⟨.ref _,_,I.lnew (t':=s.toks) (r.append r2) (by rw[B6];omega),rfl,q _ I.fresh⟩
def Az:D->D->R W
 | .int i,.int j=> .ok (.sh (.int (i + j)))
 | .str x,.str y=>if x.length + y.length<=16777216 then .ok (.sh (.str (x ++ y))) else .no
 | .lst a,.lst b=>if a.length + b.length<=16777216 then .ok (.ow (.lst (a ++ b))) else .no
 |_,_=> .no
def Bt:Fg X (binaryOp .Add) Az:=by
 intro zd s σ H x y v u Q I rx ry h;obtain⟨EX,G,a,b,g,ra,rb,o⟩:=h;cases ra with
 |int i=>
  cases rb with
  |int j=>exact dn_4 zd s σ H _ _ _ _ Q I rx ry ⟨i,j,rfl,rfl,Cu o g (.int _)⟩
  |_=>exact False.elim o
 |str x=>
  cases rb with
  |str y=>
   simp only[Az]at o
   split at o
   ·rename_i hz;exact bw_5 zd s σ H _ _ _ _ Q I rx ry ⟨x,y,rfl,rfl,by rw[D5];exact hz,Cu o g (.str _)⟩
   ·exact o.elim
  |_=>exact False.elim o
 |lst h1 r1=>
  cases rb with
  |lst h2 r2=>
   simp only[Az]at o
   split at o
   ·rename_i hz;exact dc_7 zd s σ H _ _ _ _ Q I rx ry ⟨_,_,_,_,rfl,rfl,g.seq h1,g.seq h2,by rw[r1.length,r2.length,D5];exact hz,x_9 o g (r1.append r2)⟩
   ·exact o.elim
  |_=>exact False.elim o
 |_=>cases rb <;> exact False.elim o
def intD(C:Int->Int->Bool)(f:Int->Int->Int):D->D->R W
 | .int i,.int j=>if C i j=true then .ok (.sh (.int (f i j))) else .no
 |_,_=> .no
def ai_3{fn:Value->Value->Sem Value}{C:Int->Int->Bool}{P:Int->Int->Prop}{f:Int->Int->Int}(h:OpR X fn (rI P λi j=> .int (f i j)))(hC:∀i j,C i j=true->P i j):Fg X fn (intD C f):=by
 intro zd s σ H x y v u Q I rx ry q;obtain⟨EX,G,a,b,g,ra,rb,o⟩:=q;cases ra with
 |int i=>
  cases rb with
  |int j=>
   simp only[intD]at o
   split at o
   ·rename_i hc;exact h zd s σ H _ _ _ _ Q I rx ry ⟨i,j,rfl,rfl,hC i j hc,Cu o g (.int _)⟩
   ·exact o.elim
  |_=>exact False.elim o
 |_=>cases rb <;> exact False.elim o
def Ej:D->D->R W:=intD (λ_ _=>true) (λi j=>i - j)
def Gc(i j:Int):Bool:=decide (i.natAbs < 18446744073709551616\/j.natAbs < 18446744073709551616)
def El:D->D->R W:=intD Gc (λi j=>i * j)
def divC(_ j:Int):Bool:=decide (0 < j/\j.natAbs < 1361129467683753853853498429727072845824)
def Ck:D->D->R W:=intD divC (λi j=>i / j)
def modC(_ j:Int):Bool:=decide (0 < j)
def Br:D->D->R W:=intD modC (λi j=>i % j)
def powC(i j:Int):Bool:=decide (0<=j/\j.natAbs<=1000000/\i.natAbs < 18446744073709551616)
def Fh:D->D->R W:=intD powC (λi j=>i ^ j.toNat)
def y_2:Fg X (binaryOp .Sub) Ej:=ai_3 (P:=λ_ _=>True) (opI λ_ _ _ _ _ _ _ _ q=>sub_int q) λ_ _ _=>trivial
def Fk:Fg X (binaryOp .Mult) El:=ai_3 dn_5 λi j h=>by
 have h:=F5 h;rcases h with h|h
 ·exact .inl ⟨by omega,by omega⟩
 ·exact .inr ⟨by omega,by omega⟩
def Eu:Fg X (binaryOp .FloorDiv) Ck:=ai_3 (P:=λ_ j=>0 < j/\j.natAbs < 1361129467683753853853498429727072845824) (opI λi j _ _ _ _ _ hc q=>by
 have h1:(0:Int) < j:=hc.1;have h2:=hc.2;refine floordiv_int () ?_ (.inl (PyProof.noPylong_of_log2 ?_))
 ·rw[Int.fdiv_eq_ediv_of_nonneg i ()];exact q
 ·have:j.natAbs < 2 ^ 130:=by
   have e:(2:Nat) ^ 130=1361129467683753853853498429727072845824:=by decide
   omega
  have l:j.natAbs.log2 < 130:=(Nat.log2_lt ()).mpr this;omega) λi j h=>F5 h
def Cm:Fg X (binaryOp .Mod) Br:=ai_3 dn_6 λi j h=>F5 h
def dc_9{i j:Int}(h:powC i j=true):CPow i j:=by
 obtain⟨h1,h2,h3⟩:=F5 h;refine⟨h1,by omega, ?_⟩;have e:(2:Nat) ^ 64=18446744073709551616:=by decide
 omega
def ai_4:Fg X (binaryOp .Pow) Fh:=ai_3 dn_7 λi j h=>dc_9 h
def cmpD(f:Int->Int->Bool):D->D->R W
 | .int i,.int j=> .ok (.sh (.bl (f i j)))
 |_,_=> .no
def bi_4{fn:Value->Value->Sem Value}{f:Int->Int->Bool}(h:OpR X fn (rI0 λi j=> .bl (f i j))):Fg X fn (cmpD f):=by
 intro zd s σ H x y v u Q I rx ry q;obtain⟨EX,G,a,b,g,ra,rb,o⟩:=q;cases ra with
 |int i=>
  cases rb with
  |int j=>exact h zd s σ H _ _ _ _ Q I rx ry ⟨i,j,rfl,rfl,Cu o g (.bl _)⟩
  |_=>exact False.elim o
 |_=>cases rb <;> exact False.elim o
def ltD:D->D->R W:=cmpD λi j=>decide (i < j)
def leD:D->D->R W:=cmpD λi j=>decide (i<=j)
def gtD:D->D->R W:=cmpD λi j=>decide (j < i)
def au_3:Fg X (compareOp .Lt) ltD:=bi_4 dv_2
def bi_5:Fg X (compareOp .LtE) leD:=bi_4 dv_3
def bi_6:Fg X (compareOp .Gt) gtD:=bi_4 dv_4
mutual
def Ea:D->PyData
 | .non=> .none
 | .bl b=> .bool b
 | .int i=> .int i
 | .str x=> .str x
 | .lst ds=> .list (Fp ds)
 | .tup ds=> .tuple (Fp ds)
 | .dic _=> .dict []
 | .exn _ _ _=> .dict []
 | .obj _ _ _=> .dict []
def Fp:List D->List PyData
 | []=> []
 |d::ds=>Ea d::Fp ds
end
mutual
theorem Has.reads(hK:X.K=K){zd:AE}{σ:Sg}{s:Shared}(I:Inv X zd σ H s){G:Hp}(g:Same G H):∀{v:V} {d:D} {u:Value},(Ea d).canLay0=true->Has K G v d->RelV v u->∃as,Reads s.heap u (Ea d) as
 |_,_,_,_,.non,r=>by cases r;exact⟨_,.none⟩
 |_,_,_,_,.bl b,r=>by cases r;exact⟨_,.bool b⟩
 |_,_,_,_,.int i,r=>by obtain⟨t,rfl⟩:=r;exact⟨_,.int i t⟩
 |_,_,_,_,.str x,r=>by obtain⟨t,rfl⟩:=r;exact⟨_,.str x t⟩
 |_,_,_,c,.lst h r,q=>by
  cases q;obtain⟨its,rv,⟨o,n,e,c',_,dat⟩,_⟩:=I.list (by rw[hK];exact g.seq h);obtain⟨as,z⟩:=HasL.reads hK I g c r rv;exact⟨_,.list e c' dat z⟩
 |_,_,_,c,.tup h r,q=>by
  cases q;obtain⟨its,rv,⟨o,e,c',n,dat⟩,_⟩:=I.tuple (by rw[hK];exact Same.tupS g h);obtain⟨as,z⟩:=HasL.reads hK I g c r rv;exact⟨_,.tuple e c' dat z⟩
 |_,_,_,c,.exn0 _ _,_=>absurd c A7
 |_,_,_,c,.exn1 _ _ _ _ _,_=>absurd c A7
 |_,_,_,c,.dic _ _ _,_=>absurd c A7
 |_,_,_,c,.obj _ _ _ _,_=>absurd c A7
theorem HasL.reads(hK:X.K=K){zd:AE}{σ:Sg}{s:Shared}(I:Inv X zd σ H s){G:Hp}(g:Same G H):∀{vs:List V} {ds:List D} {us:List Value},PyData.canLayAll0 (Fp ds)=true->HasL K G vs ds->Vals vs us->∃as,ReadsAll s.heap us (Fp ds) as
 |_,_,_,_,.nil,r=>by cases r;exact⟨_,.nil⟩
 |_,_,_,c,.cons h t,r=>by
  cases r with
  |cons r1 r2=>
   have c':(PyData.canLay0 (Ea _) && PyData.canLayAll0 (Fp _))=true:=c;rw[D0]at c';obtain⟨a1,z1⟩:=Has.reads hK I g c'.1 h r1;obtain⟨a2,z2⟩:=HasL.reads hK I g c'.2 t r2;exact⟨_,.cons z1 z2⟩
end
def eqC(a b:D):Bool:=(Ea a).canLay0 && (Ea b).canLay0 && decide ((Ea a).depth<=60)
def eqvD(a b:D):Bool:=(Ea a).eqv (Ea b)
def Cj(a b:D):R W:=match a,b with
 | .str x,.str y=> .ok (.sh (.bl (decide (x=y))))
 |a,b=>if eqC a b=true then .ok (.sh (.bl (eqvD a b))) else .no
def neD(a b:D):R W:=match a,b with
 | .str x,.str y=> .ok (.sh (.bl (!decide (x=y))))
 |a,b=>if eqC a b=true then .ok (.sh (.bl (!eqvD a b))) else .no
def bp_2(x y:Str):decide (V.str x=V.str y)=decide (x=y):=by
 by_cases e:x=y
 ·subst e;simp
 ·rw[E4 e,E4 (λz=>e (by injection z))]
def Fv(hu:X.A.units + 64 < cLine):Fg X (compareOp .Eq) Cj:=by
 intro zd s σ H x y v u Q I rx ry q;obtain⟨EX,G,a,b,g,ra,rb,o⟩:=q;unfold Cj at o
 split at o
 ·rename_i x y;cases ra;cases rb;exact dv_0 zd s σ H _ _ _ _ Q I rx ry ⟨rfl,by rw[bp_2];exact Cu o g (.bl _)⟩
 ·split at o
  ·rename_i hc;unfold eqC at hc;rw[D0,D0]at hc;obtain⟨⟨h1,h2⟩,h3⟩:=hc;have h3:=F5 h3;obtain⟨as,za⟩:=Has.reads rfl I g h1 ra rx;obtain⟨bs,zb⟩:=Has.reads rfl I g h2 rb ry;refine PySem.SeqAt.compareEq_reads za zb h1 h2 ?_ ⟨.bl _,H,I,rfl,Cu o g (.bl _)⟩;have:=Nat.min_le_left (Ea a).depth (Ea b).depth;omega
  ·exact o.elim
def dp_7(hu:X.A.units + 64 < cLine):Fg X (compareOp .NotEq) neD:=by
 intro zd s σ H x y v u Q I rx ry q;obtain⟨EX,G,a,b,g,ra,rb,o⟩:=q;unfold neD at o
 split at o
 ·rename_i x y;cases ra;cases rb;exact dv_1 zd s σ H _ _ _ _ Q I rx ry ⟨rfl,by rw[bp_2];exact Cu o g (.bl _)⟩
 ·split at o
  ·rename_i hc;unfold eqC at hc;rw[D0,D0]at hc;obtain⟨⟨h1,h2⟩,h3⟩:=hc;have h3:=F5 h3;obtain⟨as,za⟩:=Has.reads rfl I g h1 ra rx;obtain⟨bs,zb⟩:=Has.reads rfl I g h2 rb ry;refine PySem.SeqAt.compareNe_reads za zb h1 h2 ?_ ⟨.bl _,H,I,rfl,Cu o g (.bl _)⟩;have:=Nat.min_le_left (Ea a).depth (Ea b).depth;omega
  ·exact o.elim
def Bk:D->Bool
 | .non=>true
 | .bl _=>true
 | .int _=>true
 | .str _=>true
 |_=>false
def flV:D->V
 | .bl b=> .bl b
 | .int i=> .int i
 | .str x=> .str x
 |_=> .non
def Has.fl{G:Hp}{v:V}{d:D}(r:Has K G v d)(f:Bk d=true):v=flV d/\Fw v=true:=by
 cases r with
 |non=>exact⟨rfl,rfl⟩
 |bl b=>exact⟨rfl,rfl⟩
 |int i=>exact⟨rfl,rfl⟩
 |str x=>exact⟨rfl,rfl⟩
 |lst _ _=>cases f
 |tup _ _=>cases f
 |exn0 _ _=>cases f
 |exn1 _ _ _ _ _=>cases f
 |dic _ _ _=>cases f
 |obj _ _ _ _=>cases f
def Has.ofFl{G G':Hp}{v:V}{d:D}(r:Has K G v d)(f:Bk d=true):Has K G' v d:=by
 cases r with
 |non=>exact .non
 |bl b=>exact .bl b
 |int i=>exact .int i
 |str x=>exact .str x
 |lst _ _=>cases f
 |tup _ _=>cases f
 |exn0 _ _=>cases f
 |exn1 _ _ _ _ _=>cases f
 |dic _ _ _=>cases f
 |obj _ _ _ _=>cases f
theorem HasL.fl{G:Hp}:∀{vs:List V} {ds:List D},HasL K G vs ds->ds.all Bk=true->vs=ds.map flV/\vs.all Fw=true
 |_,_,.nil,_=>⟨rfl,rfl⟩
 |_,_,.cons h r,f=>by
  rw[S7,D0]at f;obtain⟨e1,e2⟩:=h.fl f.1;obtain⟨e3,e4⟩:=HasL.fl r f.2;exact⟨by rw[B2,<-e1,<-e3],by rw[S7,e2,e4];rfl⟩
def eqF(a b:D):Bool:=eqV (flV a) (flV b)
def Dv(d:D)(ds:List D):Bool:=ds.any λy=>eqF y d
def cb_9(d:D)(ds:List D):inV (flV d) (ds.map flV)=Dv d ds:=by
 unfold inV Dv;rw[List.any_map];rfl
def inD(neg:Bool):D->D->R W
 | .str i,.str j=> .ok (.sh (.bl (if neg then !(!(Builtin.Str.occurrences j i 0 j.length 1).isEmpty) else !(Builtin.Str.occurrences j i 0 j.length 1).isEmpty)))
 |d,.lst ds=>if(Bk d && ds.all Bk)=true then .ok (.sh (.bl (if neg then !Dv d ds else Dv d ds))) else .no
 |d,.tup ds=>if(Bk d && ds.all Bk)=true then .ok (.sh (.bl (if neg then !Dv d ds else Dv d ds))) else .no
 |_,_=> .no
def cc_0{EX:EXT}{G H:Hp}{x y:V}{d:D}{e:D}{Q:VK}{neg:Bool}(g:Same G H)(ra:Has X.K G x d)(rb:Has X.K G y e)(hd:∀i j,d=.str i->e=.str j->False)(o:Out X.K EX G H (inD neg d e) Q):rIn X.K neg x y H Q:=by
 cases rb with
 |lst h r=>
  rename_i ds;have o':Out X.K EX G H (if(Bk d && ds.all Bk)=true then .ok (.sh (.bl (if neg then !Dv d ds else Dv d ds))) else .no) Q:=by
   cases d <;> exact o
  split at o'
  ·rename_i f;rw[D0]at f;obtain⟨e1,e2⟩:=ra.fl f.1;obtain⟨e3,e4⟩:=r.fl f.2;refine⟨_,_,rfl,.inl (g.seq h),e2,e4, ?_⟩;rw[e1,e3,cb_9];exact Cu o' g (.bl _)
  ·exact o'.elim
 |tup h r=>
  rename_i ds;have o':Out X.K EX G H (if(Bk d && ds.all Bk)=true then .ok (.sh (.bl (if neg then !Dv d ds else Dv d ds))) else .no) Q:=by
   cases d <;> exact o
  split at o'
  ·rename_i f;rw[D0]at f;obtain⟨e1,e2⟩:=ra.fl f.1;obtain⟨e3,e4⟩:=r.fl f.2;refine⟨_,_,rfl,.inr (Same.tupS g h),e2,e4, ?_⟩;rw[e1,e3,cb_9];exact Cu o' g (.bl _)
  ·exact o'.elim
 |str j=>
  cases d with
  |str i=>exact(hd i j rfl rfl).elim
  |_=>exact False.elim o
 |_=>cases d <;> exact False.elim o
def cq_7:Fg X (compareOp .In) (inD false):=by
 intro zd s σ H x y v u Q I rx ry q;obtain⟨EX,G,a,b,g,ra,rb,o⟩:=q
 by_cases hs:∃i j,a=.str i/\b=.str j
 ·obtain⟨i,j,rfl,rfl⟩:=hs;cases ra;cases rb;exact ch_4 zd s σ H _ _ _ _ Q I rx ry ⟨i,j,rfl,rfl,Cu o g (.bl _)⟩
 ·exact ci_0 zd s σ H _ _ _ _ Q I rx ry (cc_0 g ra rb (λi j e1 e2=>hs ⟨i,j,e1,e2⟩) o)
def bd_6:Fg X (compareOp .NotIn) (inD true):=by
 intro zd s σ H x y v u Q I rx ry q;obtain⟨EX,G,a,b,g,ra,rb,o⟩:=q
 by_cases hs:∃i j,a=.str i/\b=.str j
 ·obtain⟨i,j,rfl,rfl⟩:=hs;cases ra;cases rb;exact bh_4 zd s σ H _ _ _ _ Q I rx ry ⟨i,j,rfl,rfl,Cu o g (.bl _)⟩
 ·exact bh_3 zd s σ H _ _ _ _ Q I rx ry (cc_0 g ra rb (λi j e1 e2=>hs ⟨i,j,e1,e2⟩) o)
def Df:List D->R W
 | [.str x]=>if x.length<=16777216 then .ok (.sh (.int x.length)) else .no
 | [.lst ds]=> .ok (.sh (.int ds.length))
 | [.tup ds]=> .ok (.sh (.int ds.length))
 |_=> .no
def Fs:Gf X (.builtin "len") Df:=by
 intro zd s σ H vs us Q I rv q;obtain⟨EX,G,ds,g,r,o⟩:=q;cases r with
 |nil=>exact False.elim o
 |cons h t=>
  cases t with
  |cons _ _=>cases h <;> exact False.elim o
  |nil=>
   cases h with
   |str x=>
    simp only[Df]at o
    split at o
    ·rename_i hz;exact bh_5 zd s σ H _ _ Q I rv ⟨x,rfl,by rw[D5];exact hz,Cu o g (.int _)⟩
    ·exact o.elim
   |lst h r=>exact ai_0 zd s σ H _ _ Q I rv ⟨_,_,rfl,.inl (g.seq h),by rw[r.length];exact Cu o g (.int _)⟩
   |tup h r=>exact ai_0 zd s σ H _ _ Q I rv ⟨_,_,rfl,.inr (Same.tupS g h),by rw[r.length];exact Cu o g (.int _)⟩
   |_=>exact False.elim o
def maxD:List D->R W
 | [.int i,.int j]=> .ok (.sh (.int (if j > i then j else i)))
 |_=> .no
def minD:List D->R W
 | [.int i,.int j]=> .ok (.sh (.int (if j < i then j else i)))
 |_=> .no
def bp_3{G:Hp}{vs:List V}{ds:List D}(r:HasL K G vs ds){P:Prop}(h:∀i j,vs= [.int i,.int j]->ds= [.int i,.int j]->P)(n:(∀i j,ds≠ [.int i,.int j])->P):P:=by
 by_cases e:∃i j,ds= [.int i,.int j]
 ·obtain⟨i,j,rfl⟩:=e;cases r with
  |cons a t=>
   cases t with
   |cons b t2=>
    cases t2;cases a;cases b;exact h i j rfl rfl
 ·exact n λi j z=>e ⟨i,j,z⟩
def dd_1{ds:List D}(h:∀i j,ds≠ [.int i,.int j]):maxD ds=.no:=by
 unfold maxD
 split
 ·rename_i i j;exact absurd rfl (h i j)
 ·rfl
def dd_2{ds:List D}(h:∀i j,ds≠ [.int i,.int j]):minD ds=.no:=by
 unfold minD
 split
 ·rename_i i j;exact absurd rfl (h i j)
 ·rfl
def al_5(hc:X.calm=true):Gf X (.builtin "max") maxD:=by
 intro zd s σ H vs us Q I rv q;obtain⟨EX,G,ds,g,r,o⟩:=q;refine bp_3 r (λi j e1 e2=> ?_) λn=> ?_
 ·subst e1 e2;exact ch_5 hc zd s σ H _ _ Q I rv ⟨i,j,rfl,Cu o g (.int _)⟩
 ·rw[dd_1 n]at o;exact o.elim
def al_6(hc:X.calm=true):Gf X (.builtin "min") minD:=by
 intro zd s σ H vs us Q I rv q;obtain⟨EX,G,ds,g,r,o⟩:=q;refine bp_3 r (λi j e1 e2=> ?_) λn=> ?_
 ·subst e1 e2;exact ch_6 hc zd s σ H _ _ Q I rv ⟨i,j,rfl,Cu o g (.int _)⟩
 ·rw[dd_2 n]at o;exact o.elim
def Gi:List D->R W
 | [.int i]=> .ok (.sh (.int i))
 | [.bl k]=> .ok (.sh (.int (if k then 1 else 0)))
 |_=> .no
def ag_6:Gf X (.type "int") Gi:=by
 intro zd s σ H vs us Q I rv q;obtain⟨EX,G,ds,g,r,o⟩:=q;cases r with
 |nil=>exact False.elim o
 |cons h t=>
  cases t with
  |cons _ _=>cases h <;> exact False.elim o
  |nil=>
   cases h with
   |int i=>exact bc_1 zd s σ H _ _ Q I rv (.inl ⟨i,rfl,Cu o g (.int _)⟩)
   |bl k=>exact bc_1 zd s σ H _ _ Q I rv (.inr ⟨k,rfl,Cu o g (.int _)⟩)
   |_=>exact False.elim o
def au_4:List D->R W
 | [.lst ds]=> .ok (.ow (.lst ds))
 | [.tup ds]=> .ok (.ow (.lst ds))
 |_=> .no
def bp_4:Gf X (.type "list") au_4:=by
 intro zd s σ H vs us Q I rv q;obtain⟨EX,G,ds,g,r,o⟩:=q;cases r with
 |nil=>exact False.elim o
 |cons h t=>
  cases t with
  |cons _ _=>cases h <;> exact False.elim o
  |nil=>
   cases h with
   |lst h r=>exact ai_1 zd s σ H _ _ Q I rv ⟨_,_,rfl,.inl (g.seq h),x_9 o g r⟩
   |tup h r=>exact ai_1 zd s σ H _ _ Q I rv ⟨_,_,rfl,.inr (Same.tupS g h),x_9 o g r⟩
   |_=>exact False.elim o
end
structure RoomC(c:Bool)(k:Nat)(A:Around):Prop where
 hd:c=true->A.handled=none
 dp:A.depth + 3 * k + 5 < recursionLimit
 un:A.units + 16 * k + 200 < cLine
def RoomC.mono{c:Bool}{j k:Nat}{A:Around}(r:RoomC c k A)(h:j<=k):RoomC c j A:=⟨r.hd,by have:=r.dp;omega,by have:=r.un;omega⟩
theorem RoomC.deeper{c:Bool}{k:Nat}{A:Around}(r:RoomC c (k + 1) A)(env:Env):RoomC c k (A.deeper env):=
 ⟨r.hd,by have:=r.dp;show A.depth + 1 + 3 * k + 5 < _;omega,by have:=r.un;show A.units + 3 + 16 * k + 200 < _;omega⟩
def RoomC.make{c:Bool}{k:Nat}{A:Around}(r:RoomC c (k + 1) A)(C:Addr)(us:List Value)(kw:List (Str×Value)):RoomC c k (A.under (.builtin "type.__call__" ⟨.ref C::us,kw⟩)):=
 ⟨r.hd,by have:=r.dp;rw[bw_9];omega,by have:=r.un;rw[bx_0];omega⟩
def RoomC.loose{c:Bool}{k:Nat}{A:Around}(r:RoomC c k A):RoomC false k A:=⟨λz=>absurd z A7,r.dp,r.un⟩
theorem RoomC.mark{c:Bool}{k:Nat}{A:Around}(r:RoomC c k A)(h:Option Value):RoomC false k (A.mark h):=⟨λz=>absurd z A7,r.dp,r.un⟩
def RoomC.of{k:Nat}{A:Around}(r:Room k A):RoomC true k A:=⟨λ_=>r.hd,r.dp,r.un⟩
structure FnX(P:Program)(w:World)(K:Frag)(mg:AB)(base:Heap)(c:Bool)(k:Nat)(f:Addr)(fd:FuncData)(ps:List Str)(sp:Sp):Prop where
 len:∀vs H Q E,sp vs H Q E->vs.length=ps.length
 run:∀(A:Around) (outer:List Env) (s:Shared) (H:Hp) (args:Args) (us:List Value) (vs:List V) (Q:VK) (E:XK),RoomC c k A->Env0 P w K mg base A outer s H->BindsTo s fd args (ps.zip us)->Vals vs us->sp vs H Q E->
  codeAny (model P w) A (.call (.ref f) args) (CR (CXr P w) outer P w H s Q E) s
abbrev Di(c:Bool)(P:Program)(w:World)(K:Frag)(mg:AB)(base:Heap)(N:List Str)(qual:Str)(scope:Scope)(f:Addr)(cd:Value)(A:Around)(outer:List Env)(s:Shared)(H:Hp)(E:XK):Cx:=
 {Fc (CXr P w) P w K mg base N qual scope f cd A outer s H E with calm:=c}
def au_5{c:Bool}{P:Program}{w:World}{N ps:List Str}{qual:Str}{scope:Scope}{f:Addr}{cd:Value}{A:Around}{outer:List Env}{s s1:Shared}{E:XK}{vs:List V}
  (S:FnScope N ps scope) (hd:c=true->A.handled=none) (e0:Env0 P w K mg base A outer s H) (hl:vs.length=ps.length) (r:Vals vs us)
  (x:InCallC s s.heap.objs.size (bindL (envOfC qual scope s.heap.objs.size f cd).kindOf (ps.zip us) λ_=>none) (cellsFrom (s.heap.objs.size + 1) scope.names []) (bindC (envOfC qual scope s.heap.objs.size f cd).kindOf (ps.zip us) λ_=>none) s1):
  Inv (Di c P w K mg base N qual scope f cd A outer s H E) [] (Gm N vs) H s1:=by
 have I:=ch_7 (CX:=CXr P w) (E:=E) (qual:=qual) (f:=f) (cd:=cd) (A:={A with handled:=none}) S rfl ⟨e0.frames,e0.mod,e0.bs,e0.bsz,e0.funs,e0.frf,e0.hok,e0.bare,e0.tb⟩ hl r x;exact⟨⟨I.ok.mod,I.ok.kind,I.ok.glob,I.ok.blt,I.ok.above,I.ok.inj,I.ok.has,I.ok.cab,hd,X3 e0.frames,I.ok.stk,I.ok.exf,I.ok.bs,I.ok.bsz,I.ok.noex,I.ok.exfs,I.ok.funs,I.ok.frf,I.ok.tb⟩,
  I.os,I.bare,I.base,I.loc,I.cell,I.free,I.freeC,I.pin,I.hok,I.len⟩
def cq_8{c:Bool}{P:Program}{w:World}{k:Nat}{f:Addr}{name qual:Str}{params:Arguments}{body:List Stmt}{scope:Scope}{dV kV doc pm zp ct oc:Value}{an od:Option Addr}
  {osl:Array (Option Value)} {N ps:List Str} {sp:Sp} (lk:K.lookup f=some ⟨oc,od,.func (fnOf name qual params body scope dV kV doc pm an zp ct),osl⟩) (hcd:codeIn K zp qual=true) (S:FnScope N ps scope)
  (len:∀vs H Q E,sp vs H Q E->vs.length=ps.length)
  (zj:∀(A:Around) (outer:List Env) (s:Shared) (H:Hp) (vs:List V) (Q:VK) (E:XK),RoomC c k (A.deeper (envOfC qual scope s.heap.objs.size f zp))->sp vs H Q E->
   ∃t,PSs (Di c P w K mg base N qual scope f zp A outer s H E) body t/\t {nx:=λ_ H'=>Q .non H',rt:=Q} (Gm N vs) H):
  FnX P w K mg base c (k + 1) f (fnOf name qual params body scope dV kV doc pm an zp ct) ps sp:=by
 refine⟨len,λA outer s H args us vs Q E hr e0 hb r hsp=> ?_⟩;have hl:=len _ _ _ _ hsp;have KX:K.In s.heap:=e0.mod.kin.keeps λb o e=>(e0.bs b o e).1;have lim:s.heap.NoLimit:=e0.mod.nolimit.keeps λb o e=>(e0.bs b o e).1;have bg:∀y∈ps.zip us,scope.names.lookup y.1=some .local\/(scope.names.lookup y.1=some .cell/\((cellsFrom (s.heap.objs.size + 1) scope.names []).lookup y.1).isSome=true):=λ⟨n,v⟩ hy=>by
  rcases S.par n (X8 hy).1 with q|q
  ·exact .inl q
  ·exact .inr ⟨q,Y8 _ _ _ (.inl q)⟩
 have dp:A.depth < recursionLimit:=by have:=hr.dp;omega
 refine codeAny_call_function dp (KX _ _ lk) rfl S.co S.gen rfl (codeRec_of KX hcd) (hb _ _ _ _ ?_);refine Z1 S.kind bg λenv he s1 x=> ?_;subst he;refine⟨lim.keeps x.toInCall.keep,codeAny_func ?_⟩;obtain⟨t,ht,hq⟩:=zj A outer s H vs Q E (hr.deeper _) hsp;have I:Inv (Di c P w K mg base N qual scope f zp A outer s H E) [] (Gm N vs) H s1:=au_5 S hr.hd e0 hl r x;refine D2 (ht [] s1 (Gm N vs) H _ I hq) (λfl s' hs=> ?_) λe s' hs=>hs;have fin:∀{σ':Sg} {H':Hp} {v:V} {u:Value},Inv (Di c P w K mg base N qual scope f zp A outer s H E) [] σ' H' s'->RelV v u->Q v H'->CE outer P w H s Q u s':=
  λ{σ' H' v u} J rv q=>⟨v,H',J.os,J.bare,J.base,J.hok,rv,q⟩
 cases fl with
 |ret u=>
  obtain⟨v,σ',H',J,rv,q⟩:=hs;exact fin J rv q
 |next=>
  obtain⟨σ',H',J,q⟩:=hs;exact fin (v:=V.non) (u:=Value.none) J rfl q
 |brk=>
  obtain⟨_,_,_,q⟩:=hs;exact False.elim q
 |cont=>
  obtain⟨_,_,_,q⟩:=hs;exact False.elim q
def Fun.okX{c:Bool}{P:Program}{w:World}{x qual:Str}{st:Stmt}{f:Addr}{N ps:List Str}{k:Nat}{sp:Sp}(F:Fun K x qual st f fd)(S:FnScope N ps (Bz st))(len:∀vs H Q E,sp vs H Q E->vs.length=ps.length)
  (zj:∀(zp:Value) (A:Around) (outer:List Env) (s:Shared) (H:Hp) (vs:List V) (Q:VK) (E:XK),RoomC c k (A.deeper (envOfC qual (Bz st) s.heap.objs.size f zp))->sp vs H Q E->
   ∃t,PSs (Di c P w K mg base N qual (Bz st) f zp A outer s H E) (Ey st) t/\t {nx:=λ_ H'=>Q .non H',rt:=Q} (Gm N vs) H):FnX P w K mg base c (k + 1) f fd ps sp:=by
 obtain⟨oc,od,kV,doc,pm,an,zp,ct,osl,rfl,lk,hcd⟩:=F.ex;exact cq_8 lk hcd S len λA outer s H vs Q E hr hsp=>zj zp A outer s H vs Q E hr hsp
def Lk(X:Cx)(EX:Bb):Prop:=∀(zd:AE) (σ:Sg) (H:Hp) (s:Shared) (e:Value) (s':Shared),Inv X zd σ H s->CXr X.prog X.w X.stack H s (EXE X.K (EX σ)) e s'->X.xe e s'
def n_9:Lk X Ed:=λzd σ H s e s' I c=>by
 obtain⟨a,C,dx,T,H',_,_,_,_,_,_,_,_,_,_,x,G,_,_,q⟩:=c;exact False.elim q
def bi_9{c:Bool}{P:Program}{w:World}{N:List Str}{qual:Str}{scope:Scope}{f:Addr}{cd:Value}{A:Around}{outer:List Env}{s:Shared}{E:XK}:
  Lk (Di c P w K mg base N qual scope f cd A outer s H E) (λ_=>EXof K E):=λzd σ H s e s' I h=>ci_3 I h λcls dx H' q=>q.of
def Bx(K:Frag)(n:Nat)(F:AF):Sp:=λvs H Q E=>vs.length=n/\∃G ds,Same G H/\HasL K G vs ds/\Out K (EXof K E) G H (F ds) Q
def Au(n:Nat)(F:AF)(fa:FA):FE:=λ δ=>(fa δ).bind λds=>if ds.length=n then F ds else .no
def FnD(P:Program)(w:World)(K:Frag)(mg:AB)(base:Heap)(c:Bool)(x:Str)(k:Nat)(ps:List Str)(F:AF):Prop:=
 ∃f fd,FnX P w K mg base c k f fd ps (Bx K ps.length F)/\mg x=some (.ref f)/\keepIn K (.ref f)=true/\Binds K fd ps []
section
variable{X:Cx}{EX:Bb}{e:Expr}{es:List Expr}{fa:FA}{x:Str}{pp pos:Pos}{c:Bool}{k k':Nat}{ps:List Str}{F:AF}
def bj_0{zd:AE}{σ:Sg}{s:Shared}{Q:VK}{vs:List V}{f:Addr}{sp:Sp}(F:FnX X.prog X.w X.K X.mg X.base c k f fd ps sp)(hr:RoomC c k X.A)(hb:Binds X.K fd ps [])(lk:Lk X EX)
  (I:Inv X zd σ H s) (r:Vals vs us) (h:sp vs H Q (EXE X.K (EX σ))):wpAny (model X.prog X.w) X.A (call (.ref f) us) (EP X zd σ Q) X.xe s:=by
 have hl:us.length=ps.length:=by rw[<-r.length];exact F.len _ _ _ _ h
 have hb':=hb s us I.kIn (by rw[D3];exact hl);rw[D3]at hb';refine R6 (Q9 (F.run X.A X.stack s H ⟨us,[]⟩ us vs Q _ hr I.env0 hb' r h) λr s' hq=> ?_);cases r with
 |error e=>exact lk zd σ H s e s' I hq
 |ok fl=>
  cases fl with
  |ret u=>exact I.after hq
  |next=>exact False.elim hq
  |brk=>exact False.elim hq
  |cont=>exact False.elim hq
def Bu(hr:RoomC c k' X.A)(lk:Lk X EX)(h:FnD X.prog X.w X.K X.mg X.base c x k ps F)(ha:AD X EX (e::es) fa)(hk:k<=k':=by decide)(hg:Gl X x:=by rfl)(hdb:AG x:=by decide)
  (he:starEach (e::es) X.env=(false,eval e X.env)::starEach es X.env:=by rfl) (hpl:(backTo pos (starEach es X.env)).any (·.1)=false:=by rfl):
  ED X EX (.Call (.Name x pp) (e::es) [] pos) (Au ps.length F fa):=by
 obtain⟨f,fd,ok,hm,kp,hb⟩:=h;intro zd s σ H Q I q;obtain⟨G,δ,g0,s0,o⟩:=q;refine M8 (s_3 I hg hm ?_ hdb);have ta:tDa X.K EX fa σ H λvs H1=>Bx X.K ps.length F vs H1 Q (EXE X.K (EX σ)):=by
  refine tDa.seq g0 s0 o λds vs G' H' _ st r o'=> ?_
  split at o'
  ·rename_i hl;refine⟨by rw[r.length];exact hl,G',ds,st.gh,r, ?_⟩;cases q:F ds with
   |ok w=>rw[q]at o';exact o'
   |ex x=>rw[q]at o';exact EXof.in o'
   |no=>rw[q]at o';exact o'.elim
  ·exact o'.elim
 refine W8 (h₀:=X.base) I.ok.mod.kin kp (Be (ha pos zd s σ H _ I ta) λus s1 ⟨vs,H1,I1,r,q⟩=>⟨I1.kIn, ?_⟩) he hpl;exact bj_0 ok (hr.mono hk) hb lk I1 r q
end
inductive Sl where
 |no|sh (d:D)|ow (d:D)|tr (t:Tn)|lk (d:D)|lt (t:Tn)
abbrev SE:=List Sl
inductive Fl where
 |nx (Δ:SE)|rt (w:W)|bk (Δ:SE)|ct (Δ:SE)|ex (x:Xn) (Δ:SE)|rv (d:D) (Δ:SE)|no
abbrev FS:=SE->Fl
def Sl.pub:Sl->Option D
 | .sh d=>some d
 |_=>none
def Sl.any:Sl->Option D
 | .sh d=>some d
 | .ow d=>some d
 | .tr t=>some t.d
 | .lk d=>some d
 | .lt t=>some t.d
 | .no=>none
def Sl.give:Sl->Sl
 | .ow d=> .sh d
 | .tr t=> .sh t.d
 |s=>s
def Sl.own:Sl->Option Tn
 | .ow d=>some (Tn.of d)
 | .tr t=>some t
 | .lk d=>some (Tn.of d)
 | .lt t=>some t
 |_=>none
def Bg(Δ:SE):DE:=Δ.map Sl.pub
def Ax(Δ:SE):DE:=Δ.map Sl.any
def gall(Δ:SE):SE:=Δ.map Sl.give
abbrev OS:=Nat->AS
structure HB where
 h:Hp
 b:Nat->Addr
structure Ev(K:Frag)(H0:HB)(G0 G H:Hp)(σ:Sg)(Δ:SE)(A:OS):Prop where
 st:Step G0 H0.h G H
 len:σ.length=Δ.length
 sh:∀(i:Nat) (d:D),Δ[i]? =some (.sh d)->∃v,σ[i]? =some (some v)/\Has K G v d
 ow:∀(i:Nat) (s:Sl) (t:Tn),Δ[i]? =some s->s.own=some t->∃v,σ[i]? =some (some v)/\Ow K G H v t (A i)
 out:∀(i:Nat) (a:Addr),A i a->G a=none/\H0.h a=none/\H a≠none
 dj:∀(i j:Nat) (a:Addr),A i a->A j a->i=j
 lk:∀(i:Nat) (d:D),Δ[i]? =some (.lk d)->σ[i]? =some (some (.ref (H0.b i)))
 lt:∀(i:Nat) (t:Tn),Δ[i]? =some (.lt t)->σ[i]? =some (some (.ref (H0.b i)))
def Db(G H:Hp)(A:OS):Hp:=Dk G H λb=>∃i,A i b
structure MStep(S:AS)(G H G' H':Hp):Prop where
 hh:∀b o,¬S b->H b=some o->H' b=some o
 al:∀b,H b≠none->H' b≠none
 gh:Same G' H'
 gg:Same G G'
 nw:∀b,G b=none->H b≠none->G' b=none
structure MStep2(S:AS)(G H G' H':Hp):Prop where
 hh:∀b o,¬S b->H b=some o->H' b=some o
 gh:Same G' H'
 gg:Same G G'
 nw:∀b,¬S b->G b=none->H b≠none->G' b=none
def MStep.weak{S:AS}{G H G' H':Hp}(m:MStep S G H G' H'):MStep2 S G H G' H':=⟨m.hh,m.gh,m.gg,λb _=>m.nw b⟩
def Step.m{S:AS}{G H G' H':Hp}(s:Step G H G' H'):MStep S G H G' H':=⟨λb o _ q=>s.hh b o q,λb n z=>n (s.hh.free z),s.gh,s.gg,s.nw⟩
def MStep.andThen{S:AS}{G H G1 H1 G2 H2:Hp}(a:MStep S G H G1 H1)(b:Step G1 H1 G2 H2):MStep S G H G2 H2:=
 ⟨λc o n q=>b.hh c o (a.hh c o n q),λc n z=>a.al c n (b.hh.free z),b.gh,a.gg.trans b.gg,λc e n=>b.nw c (a.nw c e n) (a.al c n)⟩
def MStep.write{S:AS}{G H:Hp}(g:Same G H){a:Addr}(hs:S a)(n:G a=none)(o:HO):MStep S G H G (L2.upd H a o):=
 ⟨λb o' nb q=>by rw[Ba (λz=>nb (by rw[z];exact hs))];exact q,λb nb=>by
  by_cases z:b=a
  ·subst z;rw[Cb];simp
  ·rw[Ba z];exact nb,λb o' q=>by
  by_cases z:b=a
  ·subst z;rw[n]at q;cases q
  ·rw[Ba z];exact g b o' q,Same.refl _,λ_ e _=>e⟩
def Gh(A:OS)(i:Nat)(S:AS):OS:=λj=>if j=i then S else A j
def j_8{A:OS}{i:Nat}{S:AS}:Gh A i S i=S:=if_pos rfl
def j_5{A:OS}{i j:Nat}{S:AS}(h:j≠i):Gh A i S j=A j:=if_neg h
section
variable{K:Frag}{H0:HB}{G0 G H G' H':Hp}{σ:Sg}{Δ:SE}{A:OS}
def Ev.gsh(E:Ev K H0 G0 G H σ Δ A):HasS K G σ (Bg Δ):=⟨by rw[E.len];unfold Bg;rw[A4],λi d q=>by
 unfold Bg at q;rw[B4]at q;cases e:Δ[i]? with
 |none=>rw[e]at q;cases q
 |some z=>
  rw[e]at q;cases z with
  |sh d'=>cases q;exact E.sh i d e
  |_=>cases q⟩
def Ev.aH(E:Ev K H0 G0 G H σ Δ A):Same (Db G H A) H:=λb o q=>by
 unfold Db Dk at q
 split at q
 ·exact q
 ·exact E.st.gh b o q
def Ev.aG(E:Ev K H0 G0 G H σ Δ A):Same G (Db G H A):=λb o q=>by
 unfold Db Dk
 split
 ·rename_i hb;obtain⟨i,hb⟩:=hb;rw[(E.out i b hb).1]at q;cases q
 ·exact q
def Ev.aStep(E:Ev K H0 G0 G H σ Δ A):Step G0 H0.h (Db G H A) H:=
 ⟨E.st.hh,E.aH,E.st.gg.trans E.aG,λb n z=>by
  unfold Db Dk
  split
  ·rename_i hb;obtain⟨i,hb⟩:=hb;exact absurd (E.out i b hb).2.1 z
  ·exact E.st.nw b n z⟩
def Ev.aIn{A:OS}{G H:Hp}{i:Nat}{b:Addr}{o:HO}(hb:A i b)(q:H b=some o):Db G H A b=some o:=by
 unfold Db Dk;rw[if_pos ⟨i,hb⟩];exact q
def Ev.gall(E:Ev K H0 G0 G H σ Δ A):HasS K (Db G H A) σ (Ax Δ):=⟨by rw[E.len];unfold Ax;rw[A4],λi d q=>by
 unfold Ax at q;rw[B4]at q;cases e:Δ[i]? with
 |none=>rw[e]at q;cases q
 |some z=>
  rw[e]at q;cases z with
  |sh d'=>
   cases q;obtain⟨v,e1,r⟩:=E.sh i d e;exact⟨v,e1,r.mono E.aG⟩
  |ow d'=>
   cases q;obtain⟨v,e1,t⟩:=E.ow i _ _ e rfl;have r:=t.has E.aG λb o hb q=>Ev.aIn hb q;rw[Tn.of_d]at r;exact⟨v,e1,r⟩
  |tr t'=>
   cases q;obtain⟨v,e1,t⟩:=E.ow i _ _ e rfl;exact⟨v,e1,t.has E.aG λb o hb q=>Ev.aIn hb q⟩
  |lk d'=>
   cases q;obtain⟨v,e1,t⟩:=E.ow i _ _ e rfl;have r:=t.has E.aG λb o hb q=>Ev.aIn hb q;rw[Tn.of_d]at r;exact⟨v,e1,r⟩
  |lt t'=>
   cases q;obtain⟨v,e1,t⟩:=E.ow i _ _ e rfl;exact⟨v,e1,t.has E.aG λb o hb q=>Ev.aIn hb q⟩
  |no=>cases q⟩
def Ev.grow(E:Ev K H0 G0 G H σ Δ A)(s:Step G H G' H'):Ev K H0 G0 G' H' σ Δ A:=
 ⟨E.st.trans s,E.len,λi d e=>let⟨v,e1,r⟩:=E.sh i d e;⟨v,e1,r.mono s.gg⟩,λi z d e z'=>let⟨v,e1,t⟩:=E.ow i z d e z';⟨v,e1,t.mono s.gg (λb o _ q=>s.hh b o q) λ_ q=>q⟩,
  λi a ha=>let⟨h1,h2,h3⟩:=E.out i a ha;⟨s.nw a h1 h3,h2,λz=>h3 (s.hh.free z)⟩,E.dj,E.lk,E.lt⟩
def Ev.keep(E:Ev K H0 G0 G H σ Δ A)(s:Same H H'):Ev K H0 G0 G H' σ Δ A:=
 E.grow ⟨s,E.st.gh.trans s,Same.refl _,λ_ n _=>n⟩
def Fx{α:Type}{l:List α}{i j:Nat}{x y:α}(h:(l.set i x)[j]? =some y):(i=j/\y=x)\/(i≠j/\l[j]? =some y):=by
 by_cases e:i=j
 ·subst e;rw[List.getElem?_set]at h;simp only[if_true]at h
  split at h
  ·exact .inl ⟨rfl,(K2 h).symm⟩
  ·cases h
 ·rw[C9 e]at h;exact .inr ⟨e,h⟩
def bx_5{α:Type}{l:List α}{i:Nat}{x y:α}(h:(l.set i x)[i]? =some y):i < l.length:=by
 by_cases hh:i < l.length
 ·exact hh
 ·rw[D9 (by rw[J7];omega)]at h;cases h
def Ev.put(E:Ev K H0 G0 G H σ Δ A){i:Nat}{v:V}{d:D}(r:Has K G v d):Ev K H0 G0 G H (σ.set i (some v)) (Δ.set i (.sh d)) A:=by
 refine⟨E.st,by rw[J7,J7];exact E.len,λj d' e=> ?_,λj z d' e zo=> ?_,E.out,E.dj,λj d' e=> ?_,λj d' e=> ?_⟩
 ·rcases Fx e with⟨rfl,q⟩|⟨n,q⟩
  ·cases q;exact⟨v,by rw[F9 (by rw[E.len];exact bx_5 e)],r⟩
  ·obtain⟨v',e1,r'⟩:=E.sh j d' q;exact⟨v',by rw[C9 n];exact e1,r'⟩
 ·rcases Fx e with⟨rfl,q⟩|⟨n,q⟩
  ·subst q;cases zo
  ·obtain⟨v',e1,t⟩:=E.ow j z d' q zo;exact⟨v',by rw[C9 n];exact e1,t⟩
 ·rcases Fx e with⟨rfl,q⟩|⟨n,q⟩
  ·cases q
  ·rw[C9 n];exact E.lk j d' q
 ·rcases Fx e with⟨rfl,q⟩|⟨n,q⟩
  ·cases q
  ·rw[C9 n];exact E.lt j d' q
def Ev.putO(E:Ev K H0 G0 G H σ Δ A){i:Nat}{v:V}{z:Sl}{d:Tn}{S:AS}(fr:∀a,S a->H0.h a=none/\G a=none/\H a≠none)(zo:z.own=some d)(zl:∀d,z≠ .lk d)(t:Ow K G H v d S)(nw:∀j a,A j a->¬S a)(zt:∀d,z=.lt d->v=.ref (H0.b i):=by intro _ z;cases z):
  Ev K H0 G0 G H (σ.set i (some v)) (Δ.set i z) (Gh A i S):=by
 refine⟨E.st,by rw[J7,J7];exact E.len,λj d' e'=> ?_,λj z' d' e' zo'=> ?_,λj a ha=> ?_,λj j' a h1 h2=> ?_,λj d' e'=> ?_,λj d' e'=> ?_⟩
 ·rcases Fx e' with⟨rfl,q⟩|⟨nn,q⟩
  ·subst q;cases zo
  ·obtain⟨v',e1,r'⟩:=E.sh j d' q;exact⟨v',by rw[C9 nn];exact e1,r'⟩
 ·rcases Fx e' with⟨rfl,q⟩|⟨nn,q⟩
  ·subst q;rw[zo]at zo';cases zo';exact⟨v,by rw[F9 (by rw[E.len];exact bx_5 e')],by rw[j_8];exact t⟩
  ·obtain⟨v',e1,x⟩:=E.ow j z' d' q zo';exact⟨v',by rw[C9 nn];exact e1,by rw[j_5 (Ne.symm nn)];exact x⟩
 ·by_cases z:j=i
  ·subst z;rw[j_8]at ha;obtain⟨a1,a2,a3⟩:=fr a ha;exact⟨a2,a1,a3⟩
  ·rw[j_5 z]at ha;exact E.out j a ha
 ·by_cases z:j=i
  ·by_cases z':j'=i
   ·rw[z,z']
   ·rw[z,j_8]at h1;rw[j_5 z']at h2;exact absurd h1 (nw j' a h2)
  ·by_cases z':j'=i
   ·rw[j_5 z]at h1;rw[z',j_8]at h2;exact absurd h2 (nw j a h1)
   ·rw[j_5 z]at h1;rw[j_5 z']at h2;exact E.dj j j' a h1 h2
 ·rcases Fx e' with⟨rfl,q⟩|⟨nn,q⟩
  ·exact absurd q.symm (zl d')
  ·rw[C9 nn];exact E.lk j d' q
 ·rcases Fx e' with⟨rfl,q⟩|⟨nn,q⟩
  ·rw[F9 (by rw[E.len];exact bx_5 e'),zt d' q.symm]
  ·rw[C9 nn];exact E.lt j d' q
def Ev.step2(E:Ev K H0 G0 G H σ Δ A){i:Nat}{v:V}{z:Sl}{d':Tn}{S:AS}(zo:z.own=some d')(zl:∀d,z≠ .lk d)(zt:∀d,z=.lt d->σ[i]? =some (some (.ref (H0.b i))))(ms:MStep2 (A i) G H G' H')(s:σ[i]? =some (some v))(fr:∀a,S a->(A i a\/H a=none)/\G' a=none/\H' a≠none)(t:Ow K G' H' v d' S):
  Ev K H0 G0 G' H' σ (Δ.set i z) (Gh A i S):=by
 have st:Step G0 H0.h G' H':=⟨λb o q=>ms.hh b o (λhb=>by rw[(E.out i b hb).2.1]at q;cases q) (E.st.hh b o q),ms.gh,E.st.gg.trans ms.gg,
  λb n z=>ms.nw b (λhb=>z (E.out i b hb).2.1) (E.st.nw b n z) λq=>z (E.st.hh.free q)⟩
 refine⟨st,by rw[J7];exact E.len,λj d2 e'=> ?_,λj z' d2 e' zo'=> ?_,λj a ha=> ?_,λj j' a h1 h2=> ?_,λj d2 e'=> ?_,λj d2 e'=> ?_⟩
 ·rcases Fx e' with⟨rfl,q⟩|⟨nn,q⟩
  ·subst q;cases zo
  ·obtain⟨v',e1,r'⟩:=E.sh j d2 q;exact⟨v',e1,r'.mono ms.gg⟩
 ·rcases Fx e' with⟨rfl,q⟩|⟨nn,q⟩
  ·subst q;rw[zo]at zo';cases zo';exact⟨v,s,by rw[j_8];exact t⟩
  ·obtain⟨v',e1,x⟩:=E.ow j z' d2 q zo';rw[j_5 (Ne.symm nn)];exact⟨v',e1,x.mono ms.gg (λb o hb q=>ms.hh b o (λhi=>nn (E.dj i j b hi hb)) q) λ_ q=>q⟩
 ·by_cases z:j=i
  ·subst z;rw[j_8]at ha;obtain⟨a1,a2,a3⟩:=fr a ha;refine⟨a2, ?_,a3⟩;rcases a1 with a1|a1
   ·exact(E.out j a a1).2.1
   ·exact E.st.hh.free a1
  ·rw[j_5 z]at ha;obtain⟨h1,h2,h3⟩:=E.out j a ha;have hn:¬A i a:=λhb=>z (E.dj j i a ha hb);refine⟨ms.nw a hn h1 h3,h2,λq=> ?_⟩;cases e:H a with
   |none=>exact h3 e
   |some o=>rw[ms.hh a o hn e]at q;cases q
 ·have own:∀k,k≠i->A k a->¬S a:=λk nk hk hs=>by
   rcases(fr a hs).1 with q|q
   ·exact nk (E.dj k i a hk q)
   ·exact(E.out k a hk).2.2 q
  by_cases z:j=i
  ·by_cases z':j'=i
   ·rw[z,z']
   ·rw[z,j_8]at h1;rw[j_5 z']at h2;exact absurd h1 (own j' z' h2)
  ·by_cases z':j'=i
   ·rw[j_5 z]at h1;rw[z',j_8]at h2;exact absurd h2 (own j z h1)
   ·rw[j_5 z]at h1;rw[j_5 z']at h2;exact E.dj j j' a h1 h2
 ·rcases Fx e' with⟨rfl,q⟩|⟨nn,q⟩
  ·exact absurd q.symm (zl d2)
  ·exact E.lk j d2 q
 ·rcases Fx e' with⟨rfl,q⟩|⟨nn,q⟩
  ·exact zt d2 q.symm
  ·exact E.lt j d2 q
def Ev.step(E:Ev K H0 G0 G H σ Δ A){i:Nat}{v:V}{z:Sl}{d':Tn}{S:AS}(zo:z.own=some d')(zl:∀d,z≠ .lk d)(ms:MStep (A i) G H G' H')(s:σ[i]? =some (some v))(fr:∀a,S a->(A i a\/H a=none)/\G' a=none/\H' a≠none)(t:Ow K G' H' v d' S)(zt:∀d,z≠ .lt d:=by intro _ z;cases z):
  Ev K H0 G0 G' H' σ (Δ.set i z) (Gh A i S):=E.step2 zo zl (λd e=>absurd e (zt d)) ms.weak s fr t
def Ev.writeL(E:Ev K H0 G0 G H σ Δ A){i:Nat}{a:Addr}{vs:List V}{ds:List D}(s:σ[i]? =some (some (.ref a)))(m:A i a)(r:HasL K G vs ds):Ev K H0 G0 G (upd H a (.lst vs)) σ (Δ.set i (.ow (.lst ds))) (Gh A i (A i)):=
 have ms:=MStep.write E.st.gh m (E.out i a m).1 (.lst vs)
 E.step rfl (λ_ z=>by cases z) ms s (λb hb=>⟨.inl hb,(E.out i b hb).1,ms.al b (E.out i b hb).2.2⟩) (Ow.list Cb m r)
def Ev.writeD(E:Ev K H0 G0 G H σ Δ A){i:Nat}{a:Addr}{kvs:List (Ar×V)}{kds:List (Ar×D)}(s:σ[i]? =some (some (.ref a)))(m:A i a)(hk:kvs.map (·.1)=kds.map (·.1))(r:HasL K G (kvs.map (·.2)) (kds.map (·.2))):Ev K H0 G0 G (upd H a (.dK kvs)) σ (Δ.set i (.ow (.dic kds))) (Gh A i (A i)):=
 have ms:=MStep.write E.st.gh m (E.out i a m).1 (.dK kvs)
 E.step rfl (λ_ z=>by cases z) ms s (λb hb=>⟨.inl hb,(E.out i b hb).1,ms.al b (E.out i b hb).2.2⟩) (Ow.dict Cb hk m r)
end
def give1(Δ:SE)(j:Nat):SE:=match Δ[j]? with
 |some s=>Δ.set j s.give
 |none=>Δ
def gsome(js:List Nat)(Δ:SE):SE:=js.foldl give1 Δ
section
variable{K:Frag}{H0:HB}{G0 G H:Hp}{σ:Sg}{Δ:SE}{A:OS}
def ab_2{α:Type}{l:List α}{j:Nat}{x:α}(h:l[j]? =some x):l.set j x=l:=by
 apply P0;intro i
 by_cases e:j=i
 ·subst e;have hlt:j < l.length:=(A9.mp h).1;rw[F9 hlt,h]
 ·rw[C9 e]
def Ev.give3(E:Ev K H0 G0 G H σ Δ A){j:Nat}{z:Sl}{t:Tn}(e:Δ[j]? =some z)(zo:z.own=some t):Same G (Dk G H (A j))/\Ev K H0 G0 (Dk G H (A j)) H σ (Δ.set j (.sh t.d)) (Gh A j λ_=>False):=by
   obtain⟨v,s1,t⟩:=E.ow j z t e zo;have sg:Same G (Dk G H (A j)):=λb o q=>by
    unfold Dk
    split
    ·rename_i hb;rw[(E.out j b hb).1]at q;cases q
    ·exact q
   have gh:Same (Dk G H (A j)) H:=λb o q=>by
    unfold Dk at q
    split at q
    ·exact q
    ·exact E.st.gh b o q
   refine⟨sg,⟨E.st.hh,gh,E.st.gg.trans sg,λb h1 h2=> ?_⟩,by rw[J7];exact E.len,λi d' e'=> ?_,λi z' d' e' zo'=> ?_,λi b hb=> ?_,λi i' b h1 h2=> ?_,λi d' e'=> ?_,λi d' e'=> ?_⟩
   ·unfold Dk
    split
    ·rename_i hb;exact absurd (E.out j b hb).2.1 h2
    ·exact E.st.nw b h1 h2
   ·rcases Fx e' with⟨rfl,q⟩|⟨n,q⟩
    ·cases q;refine⟨v,s1,t.has sg λb o hb q=> ?_⟩;unfold Dk;rw[if_pos hb];exact q
    ·obtain⟨v',e1,r⟩:=E.sh i d' q;exact⟨v',e1,r.mono sg⟩
   ·rcases Fx e' with⟨rfl,q⟩|⟨n,q⟩
    ·subst q;cases zo'
    ·obtain⟨v',e1,t'⟩:=E.ow i z' d' q zo';rw[j_5 (Ne.symm n)];exact⟨v',e1,t'.mono sg (λb o _ q=>q) λ_ q=>q⟩
   ·by_cases z:i=j
    ·subst z;rw[j_8]at hb;exact hb.elim
    ·rw[j_5 z]at hb;obtain⟨k1,k2,k3⟩:=E.out i b hb;refine⟨?_,k2,k3⟩;unfold Dk;rw[if_neg λq=>z (E.dj i j b hb q)];exact k1
   ·by_cases z:i=j
    ·subst z;rw[j_8]at h1;exact h1.elim
    ·by_cases z':i'=j
     ·subst z';rw[j_8]at h2;exact h2.elim
     ·rw[j_5 z]at h1;rw[j_5 z']at h2;exact E.dj i i' b h1 h2
   ·rcases Fx e' with⟨rfl,q⟩|⟨n,q⟩
    ·cases q
    ·exact E.lk i d' q
   ·rcases Fx e' with⟨rfl,q⟩|⟨n,q⟩
    ·cases q
    ·exact E.lt i d' q
def Ev.give2(E:Ev K H0 G0 G H σ Δ A){j:Nat}{z:Sl}{t:Tn}(e:Δ[j]? =some z)(zo:z.own=some t):∃G' A',Same G G'/\Ev K H0 G0 G' H σ (Δ.set j (.sh t.d)) A':=⟨_,_,E.give3 e zo⟩
theorem Ev.give1(E:Ev K H0 G0 G H σ Δ A)(j:Nat):∃G' A',Same G G'/\Ev K H0 G0 G' H σ (L3.give1 Δ j) A':=by
 unfold L3.give1;cases e:Δ[j]? with
 |none=>exact⟨G,A,Same.refl _,E⟩
 |some s=>
  cases s with
  |no=>exact⟨G,A,Same.refl _,by show Ev K H0 G0 G H σ (Δ.set j .no) A;rw[ab_2 e];exact E⟩
  |sh d=>exact⟨G,A,Same.refl _,by show Ev K H0 G0 G H σ (Δ.set j (.sh d)) A;rw[ab_2 e];exact E⟩
  |ow d=>
   have:=E.give2 e (t:=Tn.of d) rfl;rw[Tn.of_d]at this;exact this
  |tr t=>exact E.give2 e rfl
  |lk d=>exact⟨G,A,Same.refl _,by show Ev K H0 G0 G H σ (Δ.set j (.lk d)) A;rw[ab_2 e];exact E⟩
  |lt t=>exact⟨G,A,Same.refl _,by show Ev K H0 G0 G H σ (Δ.set j (.lt t)) A;rw[ab_2 e];exact E⟩
theorem Ev.gsome:∀(js:List Nat) {G:Hp} {Δ:SE} {A:OS},Ev K H0 G0 G H σ Δ A->∃G' A',Same G G'/\Ev K H0 G0 G' H σ (L3.gsome js Δ) A'
 | [],G,Δ,A,E=>⟨G,A,Same.refl _,E⟩
 |j::js,G,Δ,A,E=>by
  obtain⟨G1,A1,s1,E1⟩:=E.give1 j;obtain⟨G2,A2,s2,E2⟩:=Ev.gsome js E1;exact⟨G2,A2,s1.trans s2,E2⟩
end
def Fin(K:Frag)(EX:Bb)(H0:HB)(G0 G1:Hp)(D:Ends):Fl->Prop
 | .nx Δ=>∀σ G H O,Ev K H0 G0 G H σ Δ O->Same G1 G->D.nx σ H
 | .bk Δ=>∀σ G H O,Ev K H0 G0 G H σ Δ O->Same G1 G->D.bk σ H
 | .ct Δ=>∀σ G H O,Ev K H0 G0 G H σ Δ O->Same G1 G->D.ct σ H
 | .rt w=>WP K G0 H0.h w D.rt
 | .rv d Δ=>∀v σ G H O,Ev K H0 G0 G H σ Δ O->Same G1 G->Has K G v d->D.rt v H
 | .ex x Δ=>∀σ G H O,Ev K H0 G0 G H σ Δ O->Same G1 G->(EX σ).p x G H
 | .no=>False
def Fin.mono{EX:Bb}{H0:HB}{G0 G1 G2:Hp}{D:Ends}{r:Fl}(s:Same G1 G2)(h:Fin K EX H0 G0 G1 D r):Fin K EX H0 G0 G2 D r:=by
 cases r with
 |nx Δ=>exact λ σ G H O E q=>h σ G H O E (s.trans q)
 |bk Δ=>exact λ σ G H O E q=>h σ G H O E (s.trans q)
 |ct Δ=>exact λ σ G H O E q=>h σ G H O E (s.trans q)
 |rt w=>exact h
 |rv d Δ=>exact λv σ G H O E q=>h v σ G H O E (s.trans q)
 |ex x Δ=>exact λ σ G H O E q=>h σ G H O E (s.trans q)
 |no=>exact h
def tS(K:Frag)(EX:Bb)(g:FS):TS:=λD σ H=>∃H0 G0 G Δ O,Ev K H0 G0 G H σ Δ O/\Fin K EX H0 G0 G D (g Δ)
abbrev SD(X:Cx)(EX:Bb)(st:Stmt)(g:FS):Prop:=PS X st (tS X.K EX g)
abbrev BD(X:Cx)(EX:Bb)(st:List Stmt)(g:FS):Prop:=PSs X st (tS X.K EX g)
section
variable{X:Cx}{EX:Bb}{st:Stmt}{sts:List Stmt}{g h:FS}{pos:Pos}{e:Expr}{f:FE}{p:FT}
def Ay:FS:=λ Δ=> .nx Δ
def Af(g h:FS):FS:=λ Δ=>match g Δ with
 | .nx Δ'=>h Δ'
 |r=>r
def Cr:BD X EX [] Ay:=PSs.imp db_0 λD σ H ⟨H0,G0,G,Δ,O,E,q⟩=>q σ G H O E (Same.refl _)
def At(h1:SD X EX st g):BD X EX [st] g:=ar_5 h1
def Av(h1:SD X EX st g)(h2:BD X EX sts h):BD X EX (st::sts) (Af g h):=
 PSs.imp (cn_6 h1 h2) λD σ H ⟨H0,G0,G,Δ,O,E,q⟩=>by
  refine⟨H0,G0,G,Δ,O,E, ?_⟩;unfold Af at q;cases e:g Δ with
  |nx Δ'=>rw[e]at q;exact λ σ' G' H' O' E' sm=>⟨H0,G0,G',Δ',O',E',Fin.mono sm q⟩
  |bk Δ'=>rw[e]at q;exact q
  |ct Δ'=>rw[e]at q;exact q
  |rt w=>rw[e]at q;exact q
  |rv d Δ'=>rw[e]at q;exact q
  |ex x Δ'=>rw[e]at q;exact q
  |no=>rw[e]at q;exact q
def exG(js:List Nat)(f:FE)(Δ:SE):Fl:=match f (Bg (gsome js Δ)) with
 | .ex x=> .ex x (gsome js Δ)
 |_=> .no
def exT(js:List Nat)(p:FT)(Δ:SE):Fl:=match p (Bg (gsome js Δ)) with
 | .ex x=> .ex x (gsome js Δ)
 |_=> .no
def bp_5{H0:HB}{G0 G G1 H:Hp}{σ:Sg}{Δ:SE}{O:OS}{D:Ends}{js:List Nat}{Q:VK}(E:Ev K H0 G0 G H σ Δ O)(sg:Same G1 G)(q:Fin K EX H0 G0 G1 D (exG js f Δ)):tD K EX f σ H Q:=by
 obtain⟨G',O',s',E'⟩:=E.gsome js;refine⟨G',Bg (gsome js Δ),E'.st.gh,E'.gsh, ?_⟩;unfold exG at q;cases e:f (Bg (gsome js Δ)) with
 |ok w=>rw[e]at q;exact q.elim
 |ex x=>rw[e]at q;exact q σ G' H O' E' (sg.trans s')
 |no=>rw[e]at q;exact q.elim
def cq_9{H0:HB}{G0 G G1 H:Hp}{σ:Sg}{Δ:SE}{O:OS}{D:Ends}{js:List Nat}{Q:Bool->Hp->Prop}(E:Ev K H0 G0 G H σ Δ O)(sg:Same G1 G)(q:Fin K EX H0 G0 G1 D (exT js p Δ)):tDt K EX p σ H Q:=by
 obtain⟨G',O',s',E'⟩:=E.gsome js;refine⟨G',Bg (gsome js Δ),E'.st.gh,E'.gsh, ?_⟩;unfold exT at q;cases e:p (Bg (gsome js Δ)) with
 |ok w=>rw[e]at q;exact q.elim
 |ex x=>rw[e]at q;exact q σ G' H O' E' (sg.trans s')
 |no=>rw[e]at q;exact q.elim
def As(js:List Nat)(f:FE):FS:=λ Δ=>match f (Ax Δ) with
 | .ok w=> .rt w
 | .ex _=>exG js f Δ
 | .no=> .no
def By(js:List Nat)(he:ED X EX e f):SD X EX (.Return (some e) pos) (As js f):=
 PS.imp (cn_7 he) λD σ H ⟨H0,G0,G,Δ,O,E,q⟩=>by
  unfold As at q;cases e1:f (Ax Δ) with
  |ok w=>
   rw[e1]at q;exact⟨Db G H O,Ax Δ,E.aH,E.gall,by rw[e1];exact WP.mono E.aStep q⟩
  |ex x=>rw[e1]at q;exact bp_5 E (Same.refl _) q
  |no=>rw[e1]at q;exact q.elim
def Cf(i:Nat):FS:=λ Δ=>match Δ[i]? with
 |some (.sh d)=> .rt (.sh d)
 |some (.ow d)=> .rt (.ow d)
 |some (.tr t)=> .rt (.tr t)
 |_=> .no
def p_8(i:Nat){x:Str}{pos pos':Pos}(hN:X.N[i]? =some x:=by rfl)(hv:Vis X.env.scope x:=by trivial)(hd:AG x:=by decide)
  (hcd:(x ==("__classdict__" :Str))=false:=by decide):SD X EX (.Return (some (.Name x pos)) pos') (Cf i):=
 PS.imp (cn_7 (o_1 hN hv hd hcd)) λD σ H ⟨H0,G0,G,Δ,O,E,q⟩=>by
  unfold Cf at q
  split at q
  ·rename_i d e;obtain⟨v,e1,r⟩:=E.sh i d e;exact⟨v,e1,(WP.mono (w:=.sh d) (Q:=D.rt) E.st q).use E.st.gh r⟩
  ·rename_i d e;obtain⟨v,e1,t⟩:=E.ow i _ _ e rfl;exact⟨v,e1,q v (O i) G H E.st (λa ha=>let⟨h1,h2,h3⟩:=E.out i a ha;⟨h2,h1,h3⟩) t⟩
  ·rename_i d e;obtain⟨v,e1,t⟩:=E.ow i _ _ e rfl;exact⟨v,e1,q v (O i) G H E.st (λa ha=>let⟨h1,h2,h3⟩:=E.out i a ha;⟨h2,h1,h3⟩) t⟩
  ·exact q.elim
def Ek(i:Nat)(Δ:SE):R W->Fl
 | .ok (.sh d)=> .nx (Δ.set i (.sh d))
 | .ok (.ow d)=> .nx (Δ.set i (.ow d))
 | .ok (.tr t)=> .nx (Δ.set i (.tr t))
 | .ex x=> .ex x Δ
 | .no=> .no
def Ah(i:Nat)(js:List Nat)(f:FE):FS:=λ Δ=>match f (Bg Δ) with
 | .ok (.sh d)=> .nx (Δ.set i (.sh d))
 | .ok (.ow d)=> .nx (Δ.set i (.ow d))
 | .ok (.tr t)=> .nx (Δ.set i (.tr t))
 | .ex x=> .ex x Δ
 | .no=>match f (Ax Δ) with
  | .ex _=>Ek i (gsome js Δ) (f (Bg (gsome js Δ)))
  | .no=> .no
  | .ok w=>if Bk w.d=true then .nx (Δ.set i (.sh w.d)) else Ek i (gsome js Δ) (f (Bg (gsome js Δ)))
def ar_7{H0:HB}{G0 G G1 H:Hp}{σ:Sg}{Δ:SE}{O:OS}{D:Ends}{i:Nat}(E:Ev K H0 G0 G H σ Δ O)(sg:Same G1 G)
  (q:Fin K EX H0 G0 G1 D (Ek i Δ (f (Bg Δ)))):tAsg (tD K EX f) (bb_9 i) D σ H:=by
 refine⟨G,Bg Δ,E.st.gh,E.gsh, ?_⟩;unfold Ek at q;cases e1:f (Bg Δ) with
 |ok w=>
  rw[e1]at q;cases w with
  |sh d=>exact λv G' H' st r=>q _ G' H' O ((E.grow st).put r) (sg.trans st.gg)
  |ow d=>
   intro v S G' H' st fr t;exact q _ G' H' _ ((E.grow st).putO (λa ha=>⟨E.st.hh.free (fr a ha).1,(fr a ha).2⟩) rfl (λ_ z=>by cases z) t λj a hj hs=>(E.out j a hj).2.2 (fr a hs).1) (sg.trans st.gg)
  |tr d=>
   intro v S G' H' st fr t;exact q _ G' H' _ ((E.grow st).putO (λa ha=>⟨E.st.hh.free (fr a ha).1,(fr a ha).2⟩) rfl (λ_ z=>by cases z) t λj a hj hs=>(E.out j a hj).2.2 (fr a hs).1) (sg.trans st.gg)
 |ex x=>rw[e1]at q;exact q σ G H O E sg
 |no=>rw[e1]at q;exact q
def au_6{D:Ends}{σ:Sg}{i:Nat}{js:List Nat}(q:tS K EX (Ah i js f) D σ H):tAsg (tD K EX f) (bb_9 i) D σ H:=by
 obtain⟨H0,G0,G,Δ,O,E,q⟩:=q;unfold Ah at q;cases e1:f (Bg Δ) with
 |ok w=>
  rw[e1]at q;refine ar_7 E (Same.refl _) ?_;unfold Ek;rw[e1];cases w <;> exact q
 |ex x=>
  rw[e1]at q;refine ar_7 E (Same.refl _) ?_;unfold Ek;rw[e1];exact q
 |no=>
  rw[e1]at q;cases e2:f (Ax Δ) with
  |ok w=>
   simp only[e2]at q
   split at q
   ·rename_i fl;refine⟨Db G H O,Ax Δ,E.aH,E.gall, ?_⟩;rw[e2];exact WP.intro λv G' H' st r=>q _ G H' O ((E.keep st.hh).put (r.ofFl fl)) (Same.refl _)
   ·obtain⟨G',O',sg,E'⟩:=E.gsome js;exact ar_7 E' sg q
  |ex x=>
   simp only[e2]at q;obtain⟨G',O',sg,E'⟩:=E.gsome js;exact ar_7 E' sg q
  |no=>simp only[e2]at q;exact q.elim
def Bq{i:Nat}(js:List Nat){x:Str}{pos':Pos}(he:ED X EX e f)(hN:X.N.Nodup)(hi:X.N[i]? =some x:=by rfl)(hx:Loc X.env.scope x:=by trivial)(hs:swapsWith e (some (.Name x pos')) pos.line X.env=pure false:=by rfl)
  (hf:X.fn x=true\/X.env.scope.names.lookup x=some .local:=by trivial):SD X EX (.Assign [.Name x pos'] e pos) (Ah i js f):=
 PS.imp (co_0 hN hi hx he hs hf) λD σ H q=>au_6 q
def Cc(js:List Nat)(f:FE):FS:=λ Δ=>match f (Ax Δ) with
 | .ok _=> .nx Δ
 | .ex _=>exG js f Δ
 | .no=> .no
def y_3(js:List Nat)(he:ED X EX e f)(hs:swapsWith e none pos.line X.env=pure false:=by rfl):SD X EX (.Expr e pos) (Cc js f):=
 PS.imp (ah_7 he hs) λD σ H ⟨H0,G0,G,Δ,O,E,q⟩=>by
  unfold Cc at q;cases e1:f (Ax Δ) with
  |ok w=>
   rw[e1]at q;exact⟨Db G H O,Ax Δ,E.aH,E.gall,by rw[e1];exact WP.intro λv G' H' st r=>q σ G H' O (E.keep st.hh) (Same.refl _)⟩
  |ex x=>rw[e1]at q;exact bp_5 E (Same.refl _) q
  |no=>rw[e1]at q;exact q.elim
def Bs(js:List Nat)(p:FT)(g h:FS):FS:=λ Δ=>match p (Ax Δ) with
 | .ok b=>if b=true then g Δ else h Δ
 | .ex _=>exT js p Δ
 | .no=> .no
def bd_7{H0:HB}{G0 G H:Hp}{σ:Sg}{Δ:SE}{O:OS}{D:Ends}{k:Bool->Fl}{P:Bool->Hp->Prop}{js:List Nat}(E:Ev K H0 G0 G H σ Δ O)
  {G1:Hp} (sg:Same G1 G) (q:Fin K EX H0 G0 G1 D (match p (Ax Δ) with| .ok b=>k b| .ex _=>exT js p Δ| .no=> .no)) (i:∀b H',p (Ax Δ)=.ok b->Ev K H0 G0 G H' σ Δ O->Fin K EX H0 G0 G1 D (k b)->P b H'):tDt K EX p σ H P:=by
 cases e1:p (Ax Δ) with
 |ok b=>rw[e1]at q;exact⟨Db G H O,Ax Δ,E.aH,E.gall,by rw[e1];exact λG' H' st=>i b H' e1 (E.keep st.hh) q⟩
 |ex x=>rw[e1]at q;exact cq_9 E sg q
 |no=>rw[e1]at q;exact q.elim
def Cp(js:List Nat){c:Expr}{as bs:List Stmt}(hc:TD X EX c p)(ha:BD X EX as g)(hb:BD X EX bs h):SD X EX (.If c as bs pos) (Bs js p g h):=
 PS.imp (du_2 hc ha hb) λD σ H ⟨H0,G0,G,Δ,O,E,q⟩=>bd_7 (k:=λb=>if b=true then g Δ else h Δ) E (Same.refl _) q λb H' _ E' q'=>by
  cases b with
  |true=>rw[if_pos rfl];exact⟨H0,G0,G,Δ,O,E',q'⟩
  |false=>rw[if_neg A7];exact⟨H0,G0,G,Δ,O,E',q'⟩
def n_4(js:List Nat)(p:FT)(g:FS):Nat->FS
 |0=>λ_=> .no
 |n + 1=>λ Δ=>match p (Ax Δ) with
  | .ok b=>if b=true then(match g Δ with
    | .nx Δ'=>n_4 js p g n Δ'
    | .ct Δ'=>n_4 js p g n Δ'
    | .bk Δ'=> .nx Δ'
    |r=>r) else .nx Δ
  | .ex _=>exT js p Δ
  | .no=> .no
def cr_0(js:List Nat)(n:Nat){c:Expr}{body:List Stmt}(hp:PassesOwn (model X.prog X.w) X.A X.env X.xe)(hc:TD X EX c p)(hb:BD X EX body g):SD X EX (.While c body [] pos) (n_4 js p g n):=
 PS.imp (co_1 hp hc hb) λD σ H ⟨H0,G0,G1,Δ,O,E,q⟩=>by
  refine⟨λm σ H=>∃G Δ O,Ev X.K H0 G0 G H σ Δ O/\Same G1 G/\Fin X.K EX H0 G0 G1 D (n_4 js p g m Δ),⟨n,G1,Δ,O,E,Same.refl _,q⟩, ?_⟩
  rintro m σ H ⟨G,Δ,O,E,sg,q⟩
  cases m with
  |zero=>exact False.elim q
  |succ m=>
   refine bd_7 (k:=λb=>if b=true then(match g Δ with| .nx Δ'=>n_4 js p g m Δ'| .ct Δ'=>n_4 js p g m Δ'| .bk Δ'=> .nx Δ'|r=>r) else .nx Δ) E sg q λb H' _ E' q'=> ?_;cases b with
   |false=>rw[if_neg A7];exact q' σ G H' O E' sg
   |true=>
    rw[if_pos rfl];rw[if_pos rfl]at q';refine⟨λ σ' H'=>∃G Δ O,Ev X.K H0 G0 G H' σ' Δ O/\Same G1 G/\Fin X.K EX H0 G0 G1 D (n_4 js p g m Δ),λ σ' H' w=>⟨m,P7 _,w⟩,H0,G0,G,Δ,O,E', ?_⟩;cases e1:g Δ with
    |nx Δ'=>rw[e1]at q';exact λ σ' G' H' O' E2 s2=>⟨G',Δ',O',E2,sg.trans s2,q'⟩
    |ct Δ'=>rw[e1]at q';exact λ σ' G' H' O' E2 s2=>⟨G',Δ',O',E2,sg.trans s2,q'⟩
    |bk Δ'=>rw[e1]at q';exact Fin.mono (r:=.nx Δ') sg q'
    |rt w=>rw[e1]at q';exact q'
    |rv d Δ'=>rw[e1]at q';exact Fin.mono (r:=.rv d Δ') sg q'
    |ex x Δ'=>rw[e1]at q';exact Fin.mono (r:=.ex x Δ') sg q'
    |no=>rw[e1]at q';exact q'
end
def An(n:Nat)(ds:List D):SE:=ds.map Sl.sh ++ List.replicate (n - ds.length) .no
def Al(n:Nat)(g:FS)(ds:List D):R W:=match g (An n ds) with
 | .nx _=> .ok (.sh .non)
 | .rt w=> .ok w
 | .ex x _=> .ex x
 |_=> .no
def au_7{G H:Hp}{vs:List V}{ds:List D}{N:List Str}(g:Same G H)(r:HasL K G vs ds):Ev K ⟨H,λ_=>0⟩ G G H (Gm N vs) (An N.length ds) (λ_ _=>False):=by
 refine⟨Step.refl g, ?_,λi d e=> ?_,λi z d e zo=> ?_,λ_ _ ha=>ha.elim,λ_ _ _ ha=>ha.elim,λi d e=> ?_,λi d e=> ?_⟩
 ·unfold Gm An;simp only[B6,A4,J9,r.length]
 ·unfold An at e
  by_cases hi:i < ds.length
  ·rw[B3 (by rw[A4];exact hi),B4]at e;cases q:ds[i]? with
   |none=>rw[q]at e;cases e
   |some d'=>
    rw[q]at e;cases e;obtain⟨v,e1,h⟩:=r.get q;refine⟨v, ?_,h⟩;unfold Gm;rw[B3 (by rw[A4,r.length];exact hi),B4,e1];rfl
  ·rw[D1 (by rw[A4];omega),E8]at e
   split at e <;> cases e
 ·exfalso;unfold An at e
  by_cases hi:i < ds.length
  ·rw[B3 (by rw[A4];exact hi),B4]at e;cases q:ds[i]? with
   |none=>rw[q]at e;cases e
   |some d'=>rw[q]at e;cases e;cases zo
  ·rw[D1 (by rw[A4];omega),E8]at e
   split at e
   ·cases e;cases zo
   ·cases e
 ·exfalso;unfold An at e
  by_cases hi:i < ds.length
  ·rw[B3 (by rw[A4];exact hi),B4]at e;cases q:ds[i]? with
   |none=>rw[q]at e;cases e
   |some d'=>rw[q]at e;cases e
  ·rw[D1 (by rw[A4];omega),E8]at e
   split at e <;> cases e
 ·exfalso;unfold An at e
  by_cases hi:i < ds.length
  ·rw[B3 (by rw[A4];exact hi),B4]at e;cases q:ds[i]? with
   |none=>rw[q]at e;cases e
   |some d'=>rw[q]at e;cases e
  ·rw[D1 (by rw[A4];omega),E8]at e
   split at e <;> cases e
def fn_D{c:Bool}{P:Program}{w:World}{x qual:Str}{st:Stmt}{f:Addr}{N ps:List Str}{k:Nat}{g:FS}(F:Fun K x qual st f fd)(S:FnScope N ps (Bz st))
  (zj:∀(zp:Value) (A:Around) (outer:List Env) (s:Shared) (H:Hp) (E:XK),RoomC c k (A.deeper (envOfC qual (Bz st) s.heap.objs.size f zp))->
   BD (Di c P w K mg base N qual (Bz st) f zp A outer s H E) (λ_=>EXof K E) (Ey st) g):FnX P w K mg base c (k + 1) f fd ps (Bx K ps.length (Al N.length g)):=by
 refine Fun.okX F S (λvs H Q E h=>h.1) λzp A outer s H vs Q E hr h=>⟨_,zj zp A outer s H E hr, ?_⟩;obtain⟨hl,G,ds,g0,r,o⟩:=h;refine⟨⟨H,λ_=>0⟩,G,G,_,_,au_7 g0 r, ?_⟩;unfold Al at o;cases e:g (An N.length ds) with
 |nx Δ=>rw[e]at o;exact λ σ G' H' O E' _=>(WP.mono (w:=.sh .non) (Q:=Q) E'.st o).use E'.st.gh .non
 |rt w=>rw[e]at o;exact o
 |rv d Δ=>rw[e]at o;exact o.elim
 |ex x Δ=>rw[e]at o;exact λ σ G' H' O E' _=>(EXof K E).mono _ _ _ _ _ E'.st o
 |bk Δ=>rw[e]at o;exact o.elim
 |ct Δ=>rw[e]at o;exact o.elim
 |no=>rw[e]at o;exact o
def cr_1{c:Bool}{P:Program}{w:World}{x:Str}{st:Stmt}{f:Addr}{ps:List Str}{k:Nat}{Fn:AF}(F:Fun K x x st f fd)(hm:mg x=some (.ref f))(hb:Binds K fd ps [])
  (ok:FnX P w K mg base c k f fd ps (Bx K ps.length Fn)):FnD P w K mg base c x k ps Fn:=⟨f,fd,ok,hm,F.kp,hb⟩
def cr_2(x:Str):It:=⟨λi _=>i < x.cps.size,λi H v H'=>H'=H/\∃c,x.cps[i]? =some c/\v=.str ⟨#[c]⟩,λi _=>i=x.cps.size⟩
def bx_6{P:Program}{w:World}{tg:Expr}{it:Addr}{n:Nat}{Pv:Nat->Value->Prop}{St:Nat->Heap->Prop}{J:It}
  (W:∀A':Around,A'.handled=none->Walks P w A' it [it] [it] n Pv St)
  (bt:∀i h,St i h->∃o nm vs,h.get? it=some o/\o.cls=.type nm/\o.data=.fields vs/\ ["enumerate","zip","dict_itemiterator","dict_reverseitemiterator","odict_iterator","itertools.zip_longest","itertools.pairwise"].contains nm=false)
  (dg:∀(i:Nat) (h h':Heap),St i h->(∀b∈ [it],∀o,h.get? b=some o->h'.get? b=some o)->St i h') (cy:∀(A:Around) (i:Nat) (s:Shared) (Q E:AA),St i s.heap->Q (.ref it) s->wpAny (model P w) A (pyIter (.ref it)) Q E s)
  (hgo:∀i H,J.go i H->i < n) (hst:∀i H,J.stop i H->i=n) (hy:∀i H u,Pv i u->∃x,RelV x u/\J.yld i H x H):Turn P w K tg J [it] it St where
 mem:=by simp
 obj:=λi h st b hb=>by
  have e:b=it:=by simpa using hb
  subst e;obtain⟨o,nm,vs,e,c,d,_⟩:=bt i h st;exact⟨o,e,λv z=>by rw[d]at z;cases z⟩
 keep:=dg
 item:=by
  intro X hP hw hK hc i zd s σ H E I hf st hg;subst hP hw hK;obtain⟨f0,f1,f2,f3,f4,f5⟩:=hf it (by simp);refine(W X.A (I.ok.hd hc)).item i s _ _ (hgo i H hg) st λv h' tk hv st' kk=> ?_;have I1:Inv X zd σ H {s with heap:=h',toks:=tk}:=I.turned (λb o hb e=>kk b o (by simpa using hb) e) f0 f1 f3 f4 f5;obtain⟨x,rx,yx⟩:=hy i H v hv;obtain⟨o,nm,vs,e,c,d,hn⟩:=bt (i + 1) h' st';exact⟨v,rfl,bc_0 (s:={s with heap:=h',toks:=tk}) e c d hn ⟨x,H,I1,rx,yx,st',λb hb=>(hf b hb).1⟩⟩
 done:=by
  intro X hP hw hK hc i zd s σ H E I hf st hg;subst hP hw hK;obtain⟨f0,f1,f2,f3,f4,f5⟩:=hf it (by simp);obtain rfl:=hst i H hg;exact(W X.A (I.ok.hd hc)).done s _ _ st λh' tk kk=>⟨rfl,I.turned (λb o hb e=>kk b o (by simpa using hb) e) f0 f1 f3 f4 f5⟩
 self:=cy
def ItD(K:Frag)(G1:Hp)(J:It)(ds:List D):Prop:=∀G H,Same G1 G->Same G H->∀i,
 (∀d,ds[i]? =some d->J.go i H/\∀x H',J.yld i H x H'->∃G',Step G H G' H'/\Has K G' x d)/\(ds.length=i->J.stop i H)
abbrev FI:=DE->R (List D)
def tI(K:Frag)(EX:Bb)(fi:FI):TI:=λ σ H Q=>∃G δ,Same G H/\HasS K G σ δ/\match fi δ with
 | .ok ds=>∀J G' H',Step G H G' H'->ItD K G' J ds->Q J H'
 | .ex x=>(EX σ).p x G H
 | .no=>False
abbrev ID(X:Cx)(EX:Bb)(tg iter:Expr)(fi:FI):Prop:=PI X tg iter (tI X.K EX fi)
def PI.imp{tg e:Expr}{t t':TI}(h:PI X tg e t)(i:∀σ H Q,t' σ H Q->t σ H Q):PI X tg e t':=λzd s σ H Q I q=>h zd s σ H Q I (i σ H Q q)
section
variable{X:Cx}{EX:Bb}{tg e a b:Expr}{f:FE}{fa:FA}{p pos:Pos}
def tDa.seqI{G H:Hp}{σ:Sg}{δ:DE}{k:List D->R (List D)}{Q:It->Hp->Prop}{P:List V->Hp->Prop}(g:Same G H)(s:HasS K G σ δ)
  (h:match(fa δ).bind k with| .ok ds=>∀J G' H',Step G H G' H'->ItD K G' J ds->Q J H'| .ex x=>(EX σ).p x G H| .no=>False)
  (i:∀ds vs G' H',Step G H G' H'->HasL K G' vs ds->(match k ds with| .ok ds=>∀J G2 H2,Step G' H' G2 H2->ItD K G2 J ds->Q J H2| .ex x=>(EX σ).p x G' H'| .no=>False)->P vs H'):tDa K EX fa σ H P:=by
 refine⟨G,δ,g,s, ?_⟩;cases e:fa δ with
 |ok ds=>
  rw[e]at h;simp only[R.bind_ok]at h;refine λvs G' H' st r=>i ds vs G' H' st r ?_;cases e2:k ds with
  |ok ds'=>rw[e2]at h;exact λJ G2 H2 st2 it=>h J G2 H2 (st.trans st2) it
  |ex x=>rw[e2]at h;exact(EX σ).mono _ _ _ _ _ st h
  |no=>rw[e2]at h;exact h
 |ex x=>rw[e]at h;exact h
 |no=>rw[e]at h;exact h
def Ch(lo:Int)(n:Nat):List D:=(List.range n).map λ(k:Nat)=>D.int (lo + (k:Int))
def ci_7{lo:Int}{n i:Nat}{d:D}(h:(Ch lo n)[i]? =some d):i < n/\d=.int (lo + (i:Int)):=by
 unfold Ch at h;rw[B4]at h
 by_cases hi:i < n
 ·rw[F3 hi]at h;cases h;exact⟨hi,rfl⟩
 ·rw[D9 (by rw[K4];omega)]at h;cases h
def l_2(lo:Int)(n:Nat):(Ch lo n).length=n:=by unfold Ch;rw[A4,K4]
def ci_8{G:Hp}(lo:Int)(n:Nat):ItD K G (Itr lo n) (Ch lo n):=λG' H _ g i=>by
 refine⟨λd e=> ?_,λe=> ?_⟩
 ·obtain⟨hi,rfl⟩:=ci_7 e;refine⟨hi,λx H' y=> ?_⟩;obtain⟨e1,e2⟩:=y;subst e1 e2;exact⟨G',Step.refl g,.int _⟩
 ·rw[l_2]at e;exact Q6 e
def Dw:List D->R (List D)
 | [.int j]=>if j.natAbs < 4611686018427387904 then .ok (Ch 0 j.toNat) else .no
 |_=> .no
def Bh(k:List D->R (List D))(fa:FA):FI:=λ δ=>(fa δ).bind k
def n_0(hm:X.mg "range" =none)(ha:AD X EX [a] fa)(hg:Gl X "range" :=by rfl)(hs:starEach [a] X.env= [(false,eval a X.env)]:=by rfl):ID X EX tg (.Call (.Name "range" p) [a] [] pos) (Bh Dw fa):=
 PI.imp (ch_2 hg hm ha hs) λ σ H Q ⟨G,δ,g0,s0,o⟩=>tDa.seqI g0 s0 o λds vs G' H' st r o'=>by
  cases r with
  |nil=>exact False.elim o'
  |cons h t=>
   cases t with
   |cons _ _=>cases h <;> exact False.elim o'
   |nil=>
    cases h with
    |int j=>
     by_cases hc:j.natAbs < 4611686018427387904
     ·rw[show Dw [.int j]=.ok (Ch 0 j.toNat) from if_pos hc]at o';exact⟨j,rfl,by omega,by omega,o' _ G' H' (Step.refl st.gh) (ci_8 0 j.toNat)⟩
     ·rw[show Dw [.int j]=.no from if_neg hc]at o';exact o'.elim
    |_=>exact False.elim o'
def r_8(x:Str):List D:=x.cps.toList.map λc=> .str ⟨#[c]⟩
def Fo:D->R (List D)
 | .lst ds=> .ok ds
 | .tup ds=> .ok ds
 | .str x=> .ok (r_8 x)
 |_=> .no
def Cg(f:FE):FI:=λ δ=>(f δ).bind λw=>Fo w.d
def iAny(K:Frag)(tl:TE):TI:=λ σ H Q=>tl σ H λx H1=>
 (∃a,x=.ref a/\(∃xs,SqL K H1 a xs)/\Q (Itl K a) H1)\/(∃a,x=.ref a/\(∃xs,SqT K H1 a xs)/\Q (Itt K a) H1)\/(∃z,x=.str z/\Q (cr_2 z) H1)
def dp_8{l:Expr}{tl:TE}(hl:PE X l tl):PI X tg l (iAny X.K tl):=by
 intro zd s σ H Q I h;refine Be (hl zd s σ H _ I h) λv s1 ⟨x,H1,I1,r1,q1⟩=> ?_;rcases q1 with⟨a,e,⟨xs,hq⟩,q⟩|⟨a,e,⟨xs,hq⟩,q⟩|⟨z,e,q⟩
 ·subst e;cases r1;obtain⟨its,rv,p,hz⟩:=I1.list hq;refine T6 p.isList ?_;refine⟨s1.heap.objs.size,[s1.heap.objs.size],_,_,H1,rfl,I1.kept (t':=s1.toks) λb o e=>A5 _ e,ad_5 a _,⟨_,B7 _ rfl,rfl,rfl⟩,λb hb=> ?_,q⟩;have e:b=s1.heap.objs.size:=by simpa using hb
  subst e;exact I1.fpOk (A8 _) (I1.hok.fresh (A8 _))
 ·subst e;cases r1;obtain⟨its,rv,p,hz⟩:=I1.tuple hq;refine wpAny_pyIter_tuple (show s1.heap.IsTuple a its.toArray from p) ?_;refine⟨s1.heap.objs.size,[s1.heap.objs.size],_,_,H1,rfl,I1.kept (t':=s1.toks) λb o e=>A5 _ e,bw_2 a _,⟨_,B7 _ rfl,rfl,rfl⟩,λb hb=> ?_,q⟩;have e:b=s1.heap.objs.size:=by simpa using hb
  subst e;exact I1.fpOk (A8 _) (I1.hok.fresh (A8 _))
 ·subst e;obtain⟨t,rfl⟩:=r1;have fin:∀(nm:String) (St:Nat->Heap->Prop),(∀i h,St i h↔h.IsStrIter s1.heap.objs.size nm z t i)->(∀A':Around,A'.handled=none->Walks X.prog X.w A' s1.heap.objs.size [s1.heap.objs.size] [s1.heap.objs.size] z.cps.size (SignAt z) St)->
    ["enumerate","zip","dict_itemiterator","dict_reverseitemiterator","odict_iterator","itertools.zip_longest","itertools.pairwise"].contains nm=false->
    (∀(A:Around) (i:Nat) (s:Shared) (Q E:AA),s.heap.IsStrIter s1.heap.objs.size nm z t i->Q (.ref s1.heap.objs.size) s->wpAny (model X.prog X.w) A (pyIter (.ref s1.heap.objs.size)) Q E s)->
    PIE X zd σ tg Q (.ref s1.heap.objs.size) {s1 with heap:=s1.heap.push {cls:=.type nm,data:=.fields #[.str z t,.int 0 0]}}:=by
   intro nm St hS W hn hslf;refine⟨s1.heap.objs.size,[s1.heap.objs.size],St,cr_2 z,H1,rfl,I1.kept (t':=s1.toks) λb o e=>A5 _ e,
    bx_6 W (λi h st=> ?_) (λi h h' st k=> ?_) (λA i s Q E st h=>hslf A i s Q E ((hS _ _).mp st) h) (λi H g=>g) (λi H g=> ?_) (λi H u hu=> ?_),(hS _ _).mpr ⟨_,B7 _ rfl,rfl,rfl⟩,λb hb=> ?_,q⟩
   ·obtain⟨o,ho,hc,hd⟩:=(hS _ _).mp st;exact⟨o,nm,_,ho,hc,hd,hn⟩
   ·obtain⟨o,ho,r⟩:=(hS _ _).mp st;exact(hS _ _).mpr ⟨o,k _ (by simp) o ho,r⟩
   ·exact g
   ·obtain⟨c,u',e1,e2⟩:=hu;subst e2;exact⟨.str ⟨#[c]⟩,⟨u',rfl⟩,rfl,c,e1,rfl⟩
   ·have e:b=s1.heap.objs.size:=by simpa using hb
    subst e;exact I1.fpOk (A8 _) (I1.hok.fresh (A8 _))
  cases ha:z.cps.all (· < 128)
  ·exact wpAny_pyIter_wide ha (fin "str_iterator" _ (λ_ _=>Iff.rfl) (λA' hA=>Walks.strWide hA _ z t) ⋯ λA i s Q E st h=>wpAny_pyIter_striter_wide st h)
  ·exact wpAny_pyIter_ascii ha (fin "str_ascii_iterator" _ (λ_ _=>Iff.rfl) (λA' hA=>Walks.strAscii hA _ z t) ⋯ λA i s Q E st h=>wpAny_pyIter_striter_ascii st h)
def bp_6{G:Hp}{a:Addr}{vs:List V}{ds:List D}(h:SqL K G a vs)(r:HasL K G vs ds):ItD K G (Itl K a) ds:=λG' H g1 g i=>by
 refine⟨λd e=> ?_,λe=> ?_⟩
 ·obtain⟨v,e1,hv⟩:=r.get e;refine⟨⟨vs,v,(g1.trans g).seq h,e1⟩,λx H' y=> ?_⟩;obtain⟨e2,y⟩:=y;subst e2;have e3:=y vs ((g1.trans g).seq h);rw[e1]at e3;cases e3;exact⟨G',Step.refl g,hv.mono g1⟩
 ·exact⟨vs,(g1.trans g).seq h,by rw[r.length];exact Q6 e⟩
def dd_3{G:Hp}{a:Addr}{vs:List V}{ds:List D}(h:SqT K G a vs)(r:HasL K G vs ds):ItD K G (Itt K a) ds:=λG' H g1 g i=>by
 refine⟨λd e=> ?_,λe=> ?_⟩
 ·obtain⟨v,e1,hv⟩:=r.get e;refine⟨⟨vs,v,Same.tupS (g1.trans g) h,e1⟩,λx H' y=> ?_⟩;obtain⟨e2,y⟩:=y;subst e2;have e3:=y vs (Same.tupS (g1.trans g) h);rw[e1]at e3;cases e3;exact⟨G',Step.refl g,hv.mono g1⟩
 ·exact⟨vs,Same.tupS (g1.trans g) h,by rw[r.length];exact Q6 e⟩
def dd_4{G:Hp}(z:Str):ItD K G (cr_2 z) (r_8 z):=λG' H g1 g i=>by
 refine⟨λd e=> ?_,λe=> ?_⟩
 ·unfold r_8 at e;rw[B4]at e;cases q:z.cps.toList[i]? with
  |none=>rw[q]at e;cases e
  |some c=>
   rw[q]at e;cases e;have hi:i < z.cps.size:=by
    have:=(A9.mp q).1;simpa using this
   refine⟨hi,λx H' y=> ?_⟩;obtain⟨e2,c',e3,e4⟩:=y;subst e2 e4;have:z.cps.toList[i]? =some c':=by simpa using e3
   rw[q]at this;cases this;exact⟨G',Step.refl g,.str _⟩
 ·unfold r_8 at e;rw[A4]at e;show i=z.cps.size;simp at e;omega
def r_9(he:ED X EX e f):ID X EX tg e (Cg f):=
 PI.imp (dp_8 he) λ σ H Q ⟨G,δ,g0,s0,o⟩=>by
  refine⟨G,δ,g0,s0, ?_⟩;unfold Cg at o;cases e1:f δ with
  |ok w=>
   rw[e1]at o;simp only[R.bind_ok]at o;refine WP.intro λv G' H' st r=> ?_;revert r o;cases w.d with
   |lst ds=>
    intro o r;cases r with
    |lst h r=>exact .inl ⟨_,rfl,⟨_,st.gh.seq h⟩,o _ G' H' st (bp_6 h r)⟩
   |tup ds=>
    intro o r;cases r with
    |tup h r=>exact .inr (.inl ⟨_,rfl,⟨_,Same.tupS st.gh h⟩,o _ G' H' st (dd_3 h r)⟩)
   |str z=>
    intro o r;cases r;exact .inr (.inr ⟨z,rfl,o _ G' H' st (dd_4 z)⟩)
   |_=>intro o _;exact False.elim o
  |ex x=>rw[e1]at o;exact o
  |no=>rw[e1]at o;exact o
end
abbrev FG:=D->SE->R SE
def tG(K:Frag)(EX:Bb)(fg:FG):TG:=λv σ H Q=>∃H0 G0 G Δ O d,Ev K H0 G0 G H σ Δ O/\Has K G v d/\match fg d Δ with
 | .ok Δ'=>∀σ' G' H' O',Ev K H0 G0 G' H' σ' Δ' O'->Same G G'->Q σ' H'
 | .ex _=>False
 | .no=>False
def PG.imp{tg:Expr}{t t':TG}(h:PG X tg t)(i:∀v σ H Q,t' v σ H Q->t v σ H Q):PG X tg t':=λzd s σ H v u Q I r q=>h zd s σ H v u Q I r (i v σ H Q q)
abbrev GD(X:Cx)(EX:Bb)(tg:Expr)(fg:FG):Prop:=PG X tg (tG X.K EX fg)
section
variable{X:Cx}{EX:Bb}{pos:Pos}
def gV(i:Nat):FG:=λd Δ=> .ok (Δ.set i (.sh d))
def k_7{i:Nat}{x:Str}(hN:X.N.Nodup)(hi:X.N[i]? =some x:=by rfl)(hx:Loc X.env.scope x:=by trivial)
  (hf:X.fn x=true\/X.env.scope.names.lookup x=some .local:=by trivial):GD X EX (.Name x pos) (gV i):=
 PG.imp (ad_4 hN hi hx hf) λv σ H Q ⟨H0,G0,G,Δ,O,d,E,r,q⟩=>q _ G H O (E.put r) (Same.refl _)
def gV2(i j:Nat):FG:=λd Δ=>match d with
 | .tup [a,b]=> .ok ((Δ.set i (.sh a)).set j (.sh b))
 |_=> .no
def bj_1{i j k:Nat}{x y:Str}{p1 p2:Pos}(hc:X.calm=true)(hN:X.N.Nodup)(hi:X.N[i]? =some x:=by rfl)(hj:X.N[j]? =some y:=by rfl)(hx:Loc X.env.scope x:=by trivial)(hy:Loc X.env.scope y:=by trivial)
  (hf:X.fn x=true\/X.env.scope.names.lookup x=some .local:=by trivial) (hf2:X.fn y=true\/X.env.scope.names.lookup y=some .local:=by trivial)
  (hn:(assignEach [.Name x p1,.Name y p2] X.env).length=2:=by rfl) (hst:(assignEach [.Name x p1,.Name y p2] X.env).findIdx? (·.1)=none:=by rfl)
  (hs:(assignEach [.Name x p1,.Name y p2] X.env).map (·.2)=assign (.Name x p1) X.env::(assignEach [.Name y p2] X.env).map (·.2):=by rfl) (hs2:(assignEach [.Name y p2] X.env).map (·.2)=assign (.Name y p2) X.env::(assignEach [] X.env).map (·.2):=by rfl):
  GD X EX (.Tuple [.Name x p1,.Name y p2] k pos) (gV2 i j):=
 PG.imp (cn_8 hc (ah_8 (ad_4 hN hi hx hf) (ah_8 (ad_4 hN hj hy hf2) ca_8 hs2) hs) hn hst) λv σ H Q ⟨H0,G0,G,Δ,O,d,E,r,q⟩=>by
  cases r with
  |tup h r=>
   cases r with
   |nil=>exact False.elim q
   |cons r1 r=>
    cases r with
    |nil=>exact False.elim q
    |cons r2 r=>
     cases r with
     |nil=>exact⟨_,_,rfl,Same.tupS E.st.gh h,rfl,_,_,rfl,_,_,rfl,rfl,q _ G H O ((E.put r1).put r2) (Same.refl _)⟩
     |cons _ _=>exact False.elim q
  |_=>exact False.elim q
def Ca(fg:FG)(g:FS):List D->FS
 | []=>λ Δ=> .nx Δ
 |d::ds=>λ Δ=>match fg d Δ with
  | .ok Δ1=>(match g Δ1 with
   | .nx Δ2=>Ca fg g ds Δ2
   | .ct Δ2=>Ca fg g ds Δ2
   | .bk Δ2=> .nx Δ2
   |r=>r)
  | .ex _=> .no
  | .no=> .no
def Bv(js:List Nat)(fi:FI)(fg:FG)(g:FS):FS:=λ Δ=>match fi (Bg Δ) with
 | .ok ds=>Ca fg g ds Δ
 | .ex x=> .ex x Δ
 | .no=>match fi (Bg (gsome js Δ)) with
  | .ok ds=>Ca fg g ds (gsome js Δ)
  | .ex x=> .ex x (gsome js Δ)
  | .no=> .no
def w_2{α:Type}{l:List α}{i:Nat}(h:i < l.length):∃x,l[i]? =some x/\l.drop i=x::l.drop (i + 1):=⟨l[i],by simp[h],ZA0 h⟩
def bd_8{fg:FG}{g:FS}{H0:HB}{G0 G1 H1:Hp}{J:It}{ds:List D}{Δ:SE}{O:OS}{σ:Sg}{D:Ends}(E:Ev K H0 G0 G1 H1 σ Δ O)(it:ItD K G1 J ds)(q:Fin K EX H0 G0 G1 D (Ca fg g ds Δ)):
  ∃W:Nat->Nat->Sg->Hp->Prop,(∃m,W 0 m σ H1)/\∀i m σ H,W i m σ H->
   (J.stop i H/\D.nx σ H)\/(J.go i H/\∃N:Sg->Hp->Prop,(∀σ' H',N σ' H'->∃m',m' < m/\W (i + 1) m' σ' H')/\∀x H',J.yld i H x H'->tG K EX fg x σ H' λ σ2 H2=>tS K EX g {D with nx:=N,ct:=N,bk:=D.nx} σ2 H2):=by
 refine⟨λi m σ H=>m=ds.length - i/\i<=ds.length/\∃G Δ O,Ev K H0 G0 G H σ Δ O/\Same G1 G/\Fin K EX H0 G0 G1 D (Ca fg g (ds.drop i) Δ),⟨ds.length,by simp,K0 _,G1,Δ,O,E,Same.refl _,q⟩, ?_⟩
 rintro i m σ H ⟨rfl,hi,G,Δ,O,E,sg,q⟩
 obtain⟨i1,i2⟩:=it G H sg E.st.gh i
 by_cases hlt:i < ds.length
 ·obtain⟨d,e1,e2⟩:=w_2 hlt;obtain⟨go,yl⟩:=i1 d e1;refine .inr ⟨go,λ σ' H'=>∃G Δ O,Ev K H0 G0 G H' σ' Δ O/\Same G1 G/\Fin K EX H0 G0 G1 D (Ca fg g (ds.drop (i + 1)) Δ),λ σ' H' w=>⟨ds.length - (i + 1),by omega,rfl,hlt,w⟩,λx H' y=> ?_⟩;obtain⟨G',st,hx⟩:=yl x H' y;rw[e2]at q;refine⟨H0,G0,G',Δ,O,d,E.grow st,hx, ?_⟩;have q':Fin K EX H0 G0 G1 D (match fg d Δ with
   | .ok Δ1=>(match g Δ1 with
    | .nx Δ2=>Ca fg g (ds.drop (i + 1)) Δ2
    | .ct Δ2=>Ca fg g (ds.drop (i + 1)) Δ2
    | .bk Δ2=> .nx Δ2
    |r=>r)
   | .ex _=> .no
   | .no=> .no):=q
  cases e3:fg d Δ with
  |ok Δ1=>
   rw[e3]at q';intro σ2 G2 H2 O2 E2 s2;have s12:Same G1 G2:=sg.trans (st.gg.trans s2);refine⟨H0,G0,G2,Δ1,O2,E2, ?_⟩;cases e4:g Δ1 with
   |nx Δ2=>simp only[e4]at q';exact λ σ3 G3 H3 O3 E3 s3=>⟨G3,Δ2,O3,E3,s12.trans s3,q'⟩
   |ct Δ2=>simp only[e4]at q';exact λ σ3 G3 H3 O3 E3 s3=>⟨G3,Δ2,O3,E3,s12.trans s3,q'⟩
   |bk Δ2=>simp only[e4]at q';exact λ σ3 G3 H3 O3 E3 s3=>q' σ3 G3 H3 O3 E3 (s12.trans s3)
   |rt w=>simp only[e4]at q';exact q'
   |rv d Δ2=>simp only[e4]at q';exact λv σ3 G3 H3 O3 E3 s3=>q' v σ3 G3 H3 O3 E3 (s12.trans s3)
   |ex x Δ2=>simp only[e4]at q';exact λ σ3 G3 H3 O3 E3 s3=>q' σ3 G3 H3 O3 E3 (s12.trans s3)
   |no=>simp only[e4]at q';exact q'
  |ex x=>rw[e3]at q';exact q'
  |no=>rw[e3]at q';exact q'
 ·have e:ds.length=i:=by omega
  refine .inl ⟨i2 e, ?_⟩;rw[V8 ()]at q;exact q σ G H O E sg
def k_8{tg iter:Expr}{body:List Stmt}{fi:FI}{fg:FG}{g:FS}(js:List Nat)(hp:PassesOwn (model X.prog X.w) X.A X.env X.xe)(hc:X.calm=true)(hi:ID X EX tg iter fi)(hg:GD X EX tg fg)(hb:BD X EX body g)
  (hs:∀x,foldedSetIterable iter X.env x=pure x:=by intro _;rfl):SD X EX (.For tg iter body [] pos) (Bv js fi fg g):=
 PS.imp (dn_1 hp hc hi hg hb hs) λD σ H ⟨H0,G0,G,Δ,O,E,q⟩=>by
  unfold Bv at q;cases e1:fi (Bg Δ) with
  |ok ds=>
   rw[e1]at q;refine⟨G,Bg Δ,E.st.gh,E.gsh, ?_⟩;rw[e1];exact λJ G' H' st it=>bd_8 (E.grow st) it (Fin.mono st.gg q)
  |ex x=>
   rw[e1]at q;exact⟨G,Bg Δ,E.st.gh,E.gsh,by rw[e1];exact q σ G H O E (Same.refl _)⟩
  |no=>
   rw[e1]at q;obtain⟨G1,O1,sg,E1⟩:=E.gsome js;refine⟨G1,Bg (gsome js Δ),E1.st.gh,E1.gsh, ?_⟩;cases e2:fi (Bg (gsome js Δ)) with
   |ok ds=>
    simp only[e2]at q;exact λJ G' H' st it=>bd_8 (E1.grow st) it (Fin.mono (sg.trans st.gg) q)
   |ex x=>simp only[e2]at q;exact q σ G1 H O1 E1 sg
   |no=>simp only[e2]at q;exact q
def sApp(i:Nat)(f:FE):FS:=λ Δ=>match Δ[i]? with
 |some (.ow (.lst ds))=>if ds.length < 16777216 then(match f (Bg Δ) with
   | .ok w=> .nx (Δ.set i (.ow (.lst (ds ++ [w.d]))))
   | .ex x=> .ex x Δ
   | .no=>match f (Ax Δ) with
    | .ok w=>if Bk w.d=true then .nx (Δ.set i (.ow (.lst (ds ++ [w.d])))) else .no
    |_=> .no) else .no
 |_=> .no
def dp_9{i:Nat}{x:Str}{e:Expr}{f:FE}{p1 zh zf:Pos}(he:ED X EX e f)(hN:X.N[i]? =some x:=by rfl)(hv:Vis X.env.scope x:=by trivial)(hd:AG x:=by decide)
  (hcd:(x ==("__classdict__" :Str))=false:=by decide) (hsw:swapsWith (.Call (.Attribute (.Name x p1) "append" zh) [e] [] zf) none pos.line X.env=pure false:=by rfl)
  (af:attributeBase (.Name x p1) "append" X.env (eval (.Name x p1) X.env)=eval (.Name x p1) X.env:=by rfl)
  (az:((backTo zf (starEach [e] X.env)).all (λx=> !x.1) && (backToKw zf (keywordEach [] X.env)).all (λx=>x.1.isSome)
   && decide ([e].length + ([]:List Keyword).length + (if([]:List Keyword).isEmpty then 0 else 1) < 30))=true:=by rfl)
  (ag:(zh.endLine ==zf.line)=true:=by rfl) (hs:starEach [e] X.env=(false,eval e X.env)::starEach [] X.env:=by rfl) (aa:(backTo zf (starEach [] X.env)).any (·.1)=false:=by rfl):
  SD X EX (.Expr (.Call (.Attribute (.Name x p1) "append" zh) [e] [] zf) pos) (sApp i f):=
 PS.imp (ah_7 (cb_4 V4 U4 U5 w_0 (o_1 hN hv hd hcd) (h_8 he o_2 hs) af az ag hs aa) hsw) λD σ H ⟨H0,G0,G,Δ,O,E,q⟩=>by
  unfold sApp at q
  split at q
  ·rename_i ds e1
   split at q
   ·rename_i hz;obtain⟨v0,s1,t⟩:=E.ow i _ _ e1 rfl;obtain⟨a,vs,rfl,m,hH,rl⟩:=t.list_of
    ·skip
     refine⟨.ref a,s1,.inl ⟨rfl,_,SqL.of hH⟩, ?_⟩;have fin:∀{G' H':Hp} {v:V} {d:L3.D},Ev X.K H0 G0 G' H' σ Δ O->Same G G'->H' a=some (.lst vs)->HasL X.K G' vs ds->Has X.K G' v d->Fin X.K EX H0 G0 G D (.nx (Δ.set i (.ow (.lst (ds ++ [d])))))->
       bh_6 (.ref a) [v] H' λ_ H1=>D.nx σ H1:=λ{G' H' v d} E' sg hH' r' hv' q'=>
      ⟨a,vs,v,rfl,rfl,hH',by rw[r'.length,D5];exact hz,q' σ G' _ _ (E'.writeL s1 m (r'.append (.cons hv' .nil))) sg⟩
     cases e2:f (Bg Δ) with
     |ok w=>
      simp only[e2]at q;refine⟨G,Bg Δ,E.st.gh,E.gsh, ?_⟩;rw[e2];exact WP.intro λv G' H' st r=>fin (E.grow st) st.gg (st.hh _ _ hH) (rl.mono st.gg) r q
     |ex x=>
      simp only[e2]at q;exact⟨G,Bg Δ,E.st.gh,E.gsh,by rw[e2];exact q σ G H O E (Same.refl _)⟩
     |no=>
      simp only[e2]at q;refine⟨Db G H O,Ax Δ,E.aH,E.gall, ?_⟩;cases e3:f (Ax Δ) with
      |ok w=>
       simp only[e3]at q
       split at q
       ·rename_i fl;exact WP.intro λv G' H' st r=>fin (E.keep st.hh) (Same.refl _) (st.hh _ _ hH) rl (r.ofFl fl) q
       ·exact q.elim
      |ex x=>simp only[e3]at q;exact q.elim
      |no=>simp only[e3]at q;exact q
   ·exact q.elim
  ·exact q.elim
end
def m_2(X:Cx)(scope:Scope)(cl:List (Str×Addr))(N':List Str)(C:Addr)(s0:Shared)(H0:Hp)(fp:List Addr)(pn:AE):Cx where
 prog:=X.prog
 w:=X.w
 K:=X.K
 mg:=X.mg
 base:=X.base
 A:=X.A
 N:=N'
 s₀:=s0
 H₀:=H0
 env:=compEnvC scope cl C X.env
 outer:=X.stack
 stack:=X.stack
 ex:=fp
 fn:=λ_=>false
 calm:=X.calm
 pn:=pn
 xe:=λ_ _=>False
abbrev Ft:=D->DE->R DE
def tGc(K:Frag)(EX:Bb)(fg:Ft):TG:=λv σ H Q=>∃G δ d,Same G H/\HasS K G σ δ/\Has K G v d/\match fg d δ with
 | .ok δ'=>∀σ',HasS K G σ' δ'->HasS K G σ' δ->Q σ' H
 | .ex x=>(EX σ).p x G H
 | .no=>False
abbrev GC(X:Cx)(EX:Bb)(tg:Expr)(fg:Ft):Prop:=PG X tg (tGc X.K EX fg)
def CTs(X:Cx)(EX:Bb)(ifs:List Expr)(p:FT):Prop:=
 ∀(zd:AE) (s:Shared) (σ:Sg) (H:Hp) (Q:Bool->Hp->Prop),Inv X zd σ H s->tDt X.K EX p σ H Q->
  wpAny (model X.prog X.w) X.A (forIn ifs true λc r=>if r=true then do let ok<-isTrue c X.env (eval c X.env);pure (ForInStep.yield ok) else pure (ForInStep.yield r)) (TP X zd σ Q) X.xe s
section
variable{X:Cx}{EX:Bb}{pos:Pos}
def gC(i:Nat):Ft:=λd δ=>match δ[i]? with
 |some none=> .ok (δ.set i (some d))
 |_=> .no
def HasS.put{G:Hp}{σ:Sg}{δ:DE}{v:V}{d:D}(h:HasS K G σ δ)(r:Has K G v d)(i:Nat):HasS K G (σ.set i (some v)) (δ.set i (some d)):=by
 refine⟨by rw[J7,J7];exact h.len,λj d' e=> ?_⟩;rcases Fx e with⟨rfl,q⟩|⟨n,q⟩
 ·cases q;have hlt:i < δ.length:=by
   by_cases hh:i < δ.length
   ·exact hh
   ·rw[D9 (by rw[J7];omega)]at e;cases e
  exact⟨v,by rw[F9 (by rw[h.len];exact hlt)],r⟩
 ·obtain⟨v',e1,r'⟩:=h.get j d' q;exact⟨v',by rw[C9 n];exact e1,r'⟩
def dd_6{i:Nat}{x:Str}(hN:X.N.Nodup)(hi:X.N[i]? =some x:=by rfl)(hx:Loc X.env.scope x:=by trivial)
  (hf:X.fn x=true\/X.env.scope.names.lookup x=some .local:=by trivial):GC X EX (.Name x pos) (gC i):=
 PG.imp (ad_4 hN hi hx hf) λv σ H Q ⟨G,δ,d,g,s,r,q⟩=>by
  unfold gC at q;cases e:δ[i]? with
  |none=>rw[e]at q;exact q.elim
  |some o=>
   rw[e]at q;cases o with
   |some _=>exact q.elim
   |none=>
    refine q _ (s.put r i) ⟨by rw[J7];exact s.len,λj d' e'=> ?_⟩;obtain⟨v',e1,r'⟩:=s.get j d' e';refine⟨v', ?_,r'⟩;rw[C9]
    ·exact e1
    ·rintro rfl
     rw[e]at e';cases e'
def y_4:CTs X EX [] (λ_=> .ok true):=λzd s σ H Q I ⟨G,δ,g,h,q⟩=>wpAny_tests_nil ⟨H,I,q G H (Step.refl g)⟩
def cr_3{c:Expr}{p:FT}(h:TD X EX c p):CTs X EX [c] p:=λzd s σ H Q I q=>wpAny_tests_one (h zd s σ H Q I q)
def q_2(fg:Ft)(p:FT)(f:FE)(δ:DE):List D->R (List D)
 | []=> .ok []
 |d::ds=>(fg d δ).bind λ δ1=>(p δ1).bind λb=>if b=true then(f δ1).bind λw=>(q_2 fg p f δ ds).bind λrs=> .ok (w.d::rs) else q_2 fg p f δ ds
def R.calm{α:Type}:R α->R α
 | .ok w=> .ok w
 |_=> .no
@[simp] theorem R.calm_ok{α:Type}(a:α):(R.ok a).calm=.ok a:=rfl
@[simp] theorem R.calm_ex{α:Type}(x:Xn):(R.ex x:R α).calm=.no:=rfl
@[simp] theorem R.calm_no{α:Type}:(R.no:R α).calm=.no:=rfl
def Cl(m:Nat)(fi:FI)(fg:Ft)(p:FT)(f:FE):FE:=λ δ=>((fi δ).bind λds=>if ds.length<=16777216 then(q_2 fg p f (δ ++ List.replicate m none) ds).bind λrs=> .ok (.ow (.lst rs)) else .no).calm
def R.calm_never{α:Type}{r:R α}{x:Xn}(h:r.calm=.ex x):False:=by
 cases r <;> cases h
def au_8{m:Nat}{fi:FI}{fg:Ft}{p:FT}{f:FE}{δ:DE}{x:Xn}(h:Cl m fi fg p f δ=.ex x):False:=R.calm_never h
@[reducible] def dq_0(prog:Program)(w:World)(A:Around)(env:Env)(tg elt:Expr)(ifs:List Expr)(it zn:Value)(bad:AA)(fin more:Shared->Prop):Option Value->Shared->Prop
 |none=>fin
 |some v=>wpAny (model prog w) A (letOwnedTupleGo tg it v) (λ_=>wpAny (model prog w) A (assign tg env v) (λ_=>
   wpAny (model prog w) A (forIn ifs true λc r=>if r=true then do let ok<-isTrue c env (eval c env);pure (ForInStep.yield ok) else pure (ForInStep.yield r)) (λok=>
    if ok=true then wpAny (model prog w) A (eval elt env) (λx=>wpAny (model prog w) A (call (.builtin "list.append") [zn,x]) (λ_=>more) bad) bad else more) bad) bad) bad
def au_9{prog:Program}{w:World}{A:Around}{R:Result->Shared->Prop}{s:Shared}{elt target iter:Expr}{ifs:List Expr}{scope:Scope}{it zn:Value}{env:Env}(I:Nat->Shared->Prop)
  (turn:∀n s,I n s->wpAny (model prog w) A (pyNext it) (dq_0 prog w A env target elt ifs it zn (notedBy (model prog w) A env λe=>R (.error e)) (R (.ok .next)) λs'=>∃m,m < n/\I m s') (notedBy (model prog w) A env λe=>R (.error e)) s)
  (n:Nat) (h:I n s):codeAny (model prog w) A (.compLoop (.ListComp elt [⟨target,iter,ifs,0⟩] scope pos) 0 it zn env) R s:=by
 refine codeAny_loop rfl I (λk t hk=>wpAny_noted (env:=env) (m:=compTurn (.ListComp elt [⟨target,iter,ifs,0⟩] scope pos) 0 it zn env) (compTurn_list .. ▸ ?_)) n h;refine A3 (P4 (A3 (Be (turn k t hk) ?_)))
 rintro (_|v) t1 g1
 ·exact C5 g1
 refine A3 (Be g1 λ_ t2 g2=>A3 (Be g2 λ_ t3 g3=>A3 (Be g3 ?_)))
 rintro (_|_) t4 g4
 ·exact C5 ⟨rfl,g4⟩
 ·exact A3 (A3 (Be g4 λ_ t5 g5=>A3 (Be g5 λ_ t6 g6=>C5 (C5 ⟨rfl,g6⟩))))
structure CompN(X:Cx)(scope:Scope)(cl:List (Str×Addr))(N':List Str):Prop where
 clos:closureFor scope X.env=pure cl
 cell:∀y∈scope.names,y.2≠ .cell
 kind:scope.kind=.function
 names:∀y∈scope.names,y.2=.local->scope.names.lookup y.1=some .local
 sub:∀x c,cl.lookup x=some c->X.env.cells.lookup x=some c
 has:∀x,((relabel scope X.env).names.lookup x=some .cell\/(relabel scope X.env).names.lookup x=some .free)->∃c,cl.lookup x=some c
 old:∀(i:Nat) (x:Str),N'[i]? =some x->i < X.N.length->Vis (relabel scope X.env) x->X.N[i]? =some x/\(X.env.scope.names.lookup x=some .cell\/X.env.scope.names.lookup x=some .free)/\(∃c,cl.lookup x=some c)/\((relabel scope X.env).names.lookup x=some .cell\/(relabel scope X.env).names.lookup x=some .free)
def Ds(cells:List (Str×Addr)):List (Str×NameKind)->List (Str×Addr)->List (Str×Addr)
 | [],zn=>zn
 |(x,k)::r,zn=>Ds cells r (if k=.free then(x,(cells.lookup x).getD 0)::zn else zn)
def af_5{scope:Scope}{env:Env}(h:∀p∈scope.names,p.2=.free->∃c,env.cells.lookup p.1=some c):closureFor scope env=pure (Ds env.cells scope.names []):=by
 have all:∀(names:List (Str×NameKind)) (zn:List (Str×Addr)),(∀p∈names,p.2=.free->∃c,env.cells.lookup p.1=some c)->
   (forIn names zn λ(x:Str×NameKind) (r:List (Str×Addr))=>if(x.2 == .free)=true then do let a<-cellOf env x.1;pure (ForInStep.yield ((x.1,a)::r)) else pure (ForInStep.yield r):Sem (List (Str×Addr)))=pure (Ds env.cells names zn):=by
  intro names
  induction names with
  |nil=>intro zn _;rfl
  |cons p r ih=>
   intro zn hp;obtain⟨x,k⟩:=p;rw[List.forIn_cons]
   by_cases hk:k=.free
   ·subst hk;obtain⟨c,e⟩:=hp (x,.free) K5 rfl;have e1:cellOf env x=pure c:=by unfold cellOf;rw[show env.cells.lookup x=some c from e]
    simp only[O6,if_true,e1,pure_bind];rw[ih _ λq hq=>hp q (D4 _ hq)];show _=pure (Ds env.cells r (if NameKind.free=.free then(x,(env.cells.lookup x).getD 0)::zn else zn));rw[if_pos rfl,show env.cells.lookup x=some c from e];rfl
   ·have hb:(k ==NameKind.free)=false:=by simpa using hk
    simp only[hb,E7,N0,pure_bind];rw[ih _ λq hq=>hp q (D4 _ hq)];show _=pure (Ds env.cells r (if k=.free then(x,(env.cells.lookup x).getD 0)::zn else zn));rw[if_neg hk]
 unfold closureFor;have:=all scope.names [] h;simpa using this
theorem av_0{cells:List (Str×Addr)}{q:Str×Addr}:∀{names:List (Str×NameKind)} {zn:List (Str×Addr)},q∈Ds cells names zn->q∈zn\/((q.1,NameKind.free)∈names/\q.2=(cells.lookup q.1).getD 0)
 | [],zn,h=> .inl h
 |(x,k)::r,zn,h=>by
  rcases av_0 (names:=r) h with h|⟨h1,h2⟩
  ·split at h
   ·rename_i hk;rcases B8.mp h with rfl|h
    ·exact .inr ⟨by rw[hk];exact K5,rfl⟩
    ·exact .inl h
   ·exact .inl h
  ·exact .inr ⟨D4 _ h1,h2⟩
theorem bp_7{cells:List (Str×Addr)}{x:Str}:∀{names:List (Str×NameKind)} {zn:List (Str×Addr)},(zn.lookup x).isSome=true->((Ds cells names zn).lookup x).isSome=true
 | [],zn,h=>h
 |(y,k)::r,zn,h=>by
  refine bp_7 (names:=r) ?_
  split
  ·rw[F8]
   split
   ·rfl
   ·exact h
  ·exact h
theorem av_1{cells:List (Str×Addr)}{x:Str}:∀{names:List (Str×NameKind)} {zn:List (Str×Addr)},(x,NameKind.free)∈names->((Ds cells names zn).lookup x).isSome=true
 |(y,k)::r,zn,h=>by
  rcases B8.mp h with h|h
  ·cases h;refine bp_7 (names:=r) ?_;rw[if_pos rfl,F8];simp
  ·exact av_1 (names:=r) h
theorem t_3{env:Env}:∀(names:List (Str×NameKind)) (x:Str),
  (names.map λ(n,k)=>if(k ==NameKind.free && env.scope.kind == .function && env.kindOf n ==some .cell) then(n,NameKind.cell) else(n,k)).lookup x=(names.lookup x).map λk=>if(k ==NameKind.free && env.scope.kind == .function && env.kindOf x ==some .cell)=true then NameKind.cell else k
 | [],x=>rfl
 |(n,k)::r,x=>by
  have ih:=t_3 (env:=env) r x;show List.lookup x ((if(k ==NameKind.free && env.scope.kind == .function && env.kindOf n ==some .cell)=true then(n,NameKind.cell) else(n,k))::_)=_;cases hx:x ==n with
  |true=>
   have e:x=n:=eq_of_beq hx;subst e
   by_cases hc:(k ==NameKind.free && env.scope.kind == .function && env.kindOf x ==some .cell)=true
   ·rw[if_pos hc];simp only[F8,O6,M3];rw[if_pos hc]
   ·rw[if_neg hc];simp only[F8,O6,M3];rw[if_neg hc]
  |false=>
   by_cases hc:(k ==NameKind.free && env.scope.kind == .function && env.kindOf n ==some .cell)=true
   ·rw[if_pos hc];simp only[F8,hx];exact ih
   ·rw[if_neg hc];simp only[F8,hx];exact ih
def Gd(inner outer:List (Str×NameKind))(N N':List Str):Bool:=
 (inner.all λp=>p.2 != .cell && (p.2 != .local || inner.lookup p.1 ==some .local) && (p.2 != .free || (outer.lookup p.1 ==some .cell || outer.lookup p.1 ==some .free))) &&
 (List.range N.length).all λi=>match N'[i]? with
  |some x=>(match inner.lookup x with
   |some .free=>N[i]? ==some x && (outer.lookup x ==some .cell || outer.lookup x ==some .free)
   |some .local=>false
   |some .cell=>false
   |_=>true)
  |none=>true
def ab_3{scope:Scope}{N':List Str}(ok:X.Ok)(hk:scope.kind=.function)(hb:Gd scope.names X.env.scope.names X.N N'=true):CompN X scope (Ds X.env.cells scope.names []) N':=by
 unfold Gd at hb;rw[D0]at hb;obtain⟨h1,h2⟩:=hb;have h1:=F4.mp h1;have h2:=F4.mp h2;have fr:∀p∈scope.names,p.2=.free->∃c,X.env.cells.lookup p.1=some c:=λp hp hf=>by
  have z:=h1 p hp;simp only[hf,D0,Q3,bne_iff_ne,M0]at z;exact ok.has p.1 (by
   rcases z.2 with z|z
   ·exact absurd rfl z
   ·exact z)
 have inn:∀x k,scope.names.lookup x=some k->(x,k)∈scope.names:=λx k e=>K6 e;have bc:∀p∈scope.names,p.2≠ .cell:=λp hp hc=>by
  have z:=h1 p hp;rw[hc]at z;simp at z
 have ft:∀x,scope.names.lookup x=some .free->∃c,(Ds X.env.cells scope.names []).lookup x=some c:=λx e=>R5.mp (av_1 (inn x _ e));have iu:∀x,((relabel scope X.env).names.lookup x=some .cell\/(relabel scope X.env).names.lookup x=some .free)->scope.names.lookup x=some .free:=λx h=>by
  unfold relabel at h;rw[t_3]at h;cases e:scope.names.lookup x with
  |none=>rw[e]at h;simp at h
  |some k=>
   rw[e]at h;have nc:=bc (x,k) (inn x k e);cases k with
   |free=>rfl
   |cell=>exact absurd rfl nc
   |«local»=>simp at h
   |globalExplicit=>simp at h
   |globalImplicit=>simp at h
 refine⟨af_5 fr,bc,hk,λy hy hl=> ?_,λx c e=> ?_,λx h=>ft x (iu x h),λi x e hi hv=> ?_⟩
 ·have z:=h1 y hy;simp only[hl,D0,Q3,bne_iff_ne,M0]at z;rcases z.1.2 with z|z
  ·exact absurd rfl z
  ·exact z
 ·rcases av_0 (K6 e) with z|⟨z1,z2⟩
  ·exact absurd z (by simp)
  ·obtain⟨c',e'⟩:=fr (x,.free) z1 rfl;have z2:c=(X.env.cells.lookup x).getD 0:=z2;have e':X.env.cells.lookup x=some c':=e';rw[e']at z2⊢;cases z2;rfl
 ·have z:=h2 i (J8.mpr hi);rw[e]at z;dsimp only at z;have look:scope.names.lookup x=some .free/\(((relabel scope X.env).names.lookup x=some .cell\/(relabel scope X.env).names.lookup x=some .free)):=by
   unfold Vis relabel at hv;unfold relabel;rw[t_3]at hv⊢;cases q:scope.names.lookup x with
   |none=>rw[q]at hv;simp at hv
   |some k=>
    rw[q]at hv z;cases k with
    |free=>
     refine⟨rfl, ?_⟩
     by_cases hc:(X.env.scope.kind == .function && X.env.kindOf x ==some .cell)=true
     ·left;simp[Bool.and_assoc,hc]
     ·right;simp[Bool.and_assoc,hc]
    |cell=>simp at z
    |«local»=>simp at z
    |globalExplicit=>simp at hv
    |globalImplicit=>simp at hv
  rw[look.1]at z;simp only[D0,Q3,M0]at z;exact⟨z.1,z.2,ft x look.1,look.2⟩
structure TurnZ(P:Program)(w:World)(K:Frag)(tg:Expr)(J:It)(fp:List Addr)(it:Addr)(tn:Nat->Heap->Prop)(B:Cx->Prop):Prop where
 obj:∀i h,tn i h->∀b∈fp,∃o,h.get? b=some o/\∀v,o.data≠ .cell v
 keep:∀i h h',tn i h->(∀b∈fp,∀o,h.get? b=some o->h'.get? b=some o)->tn i h'
 item:∀(X:Cx),X.prog=P->X.w=w->X.K=K->∀(i:Nat) (zd:AE) (s:Shared) (σ:Sg) (H:Hp) (E:AA),B X->Inv X zd σ H s->(∀b∈fp,Fj X zd H b)->tn i s.heap->J.go i H->
  wpAny (model P w) X.A (pyNext (.ref it)) (λr s1=>∃u,r=some u/\
   wpAny (model P w) X.A (letOwnedTupleGo tg (.ref it) u) (λ_ s2=>∃x H',Inv X zd σ H' s2/\RelV x u/\J.yld i H x H'/\tn (i + 1) s2.heap/\∀b∈fp,H' b=none) E s1) E s
 done:∀(X:Cx),X.prog=P->X.w=w->X.K=K->∀(i:Nat) (zd:AE) (s:Shared) (σ:Sg) (H:Hp) (E:AA),B X->Inv X zd σ H s->(∀b∈fp,Fj X zd H b)->tn i s.heap->J.stop i H->
  wpAny (model P w) X.A (pyNext (.ref it)) (λr s1=>r=none/\Inv X zd σ H s1) E s
 self:∀(A:Around) (i:Nat) (s:Shared) (Q:AA) (E:AA),tn i s.heap->Q (.ref it) s->wpAny (model P w) A (pyIter (.ref it)) Q E s
def ao_0:Cx->Prop:=λX=>X.calm=true
def Turn.z{P:Program}{w:World}{tg:Expr}{J:It}{fp:List Addr}{it:Addr}{tn:Nat->Heap->Prop}(T:Turn P w K tg J fp it tn):TurnZ P w K tg J fp it tn ao_0:=
 ⟨T.obj,T.keep,λX a b c i zd s σ H E hc=>T.item X a b c hc i zd s σ H E,λX a b c i zd s σ H E hc=>T.done X a b c hc i zd s σ H E,T.self⟩
def BX:Cx->Prop:=λX=>X.A.handled=none\/∃(x:Addr) (o:Obj) (u:HO) (us:Array Value),X.A.handled=some (.ref x)/\X.H₀ x=some (.frz o u)/\o.data=.fields us/\us[2]? =some .none
def BX.ok{zd:AE}{s:Shared}{σ:Sg}(b:BX X)(I:Inv X zd σ H s):HdOk X.A s.heap:=by
 rcases b with b|⟨x,o,u,us,e,h,d,c⟩
 ·exact .inl b
 ·exact .inr ⟨x,o,us,e,(I.hok x _ (I.base.frzs x o u h)).1,d,c⟩
def BX.ne{zd:AE}{s:Shared}{σ:Sg}{a:Addr}(b:BX X)(I:Inv X zd σ H s)(n:H a=none):X.A.handled≠some (.ref a):=λz=>by
 rcases b with b|⟨x,o,u,us,e,h,_⟩
 ·rw[b]at z;cases z
 ·rw[e]at z;injection z with z;injection z with z;rw[<-z,I.base.frzs x o u h]at n;cases n
def BX.on{X Y:Cx}{zd:AE}{s:Shared}{σ:Sg}(b:BX X)(I:Inv X zd σ H s)(e1:Y.A.handled=X.A.handled)(e2:Y.H₀=H):BX Y:=by
 rcases b with b|⟨x,o,u,us,e,h,d⟩
 ·exact .inl (e1.trans b)
 ·exact .inr ⟨x,o,u,us,e1.trans e,by rw[e2];exact I.base.frzs x o u h,d⟩
def bx_7{P:Program}{w:World}{tg:Expr}(a it:Addr):TurnZ P w K tg (Itl K a) [it] it (λi h=>h.IsListIter it a i) BX where
 obj:=(ad_5 (P:=P) (w:=w) (K:=K) (tg:=tg) a it).obj
 keep:=(ad_5 (P:=P) (w:=w) (K:=K) (tg:=tg) a it).keep
 item:=by
  intro X hP hw hK i zd s σ H E _ I hf st hg;subst hP hw hK;obtain⟨xs,x,hq,hx⟩:=hg;obtain⟨its,rv,p,hz⟩:=I.list hq;obtain⟨u,hu,ru⟩:=rv.get hx;obtain⟨f0,f1,f2,f3,f4,f5⟩:=hf it (by simp);refine V6 st p.isList (x:=u) (by simpa using hu) λh' st' sb=> ?_;have I1:Inv X zd σ H {s with heap:=h'}:=I.turned (t':=s.toks) (λb o hb e=>(sb.2 b hb).trans e) f0 f1 f3 f4 f5;obtain⟨o,e,c,d⟩:=id st';exact⟨u,rfl,bc_0 (s:={s with heap:=h'}) e c d ⋯ ⟨x,H,I1,ru,⟨rfl,λys hy=>by rw[I.list_inj hy hq];exact hx⟩,st',λb hb=>(hf b hb).1⟩⟩
 done:=by
  intro X hP hw hK i zd s σ H E b I hf st hg;subst hP hw hK;obtain⟨xs,hq,hx⟩:=hg;obtain⟨its,rv,p,hz⟩:=I.list hq;obtain⟨f0,f1,f2,f3,f4,f5⟩:=hf it (by simp);have hl:=rv.length;exact an_9 (b.ok I) (b.ne I f0) st p.isList (by simp;omega) λh' eb=>⟨rfl,I.turned (t':=s.toks) (λb o hb e=>eb b o hb e) f0 f1 f3 f4 f5⟩
 self:=(ad_5 (P:=P) (w:=w) (K:=K) (tg:=tg) a it).self
def PIZ(X:Cx)(B:Cx->Prop)(tg iter:Expr)(wi:TI):Prop:=
 ∀(zd:AE) (s:Shared) (σ:Sg) (H:Hp) (R:It->Hp->Prop),Inv X zd σ H s->wi σ H R->
  wpAny (model X.prog X.w) X.A (eval iter X.env) (λv s1=>wpAny (model X.prog X.w) X.A (pyIter v) (λitv s2=>∃(it:Addr) (fp:List Addr) (tn:Nat->Heap->Prop) (J:It) (H':Hp),itv=.ref it/\Inv X zd σ H' s2/\TurnZ X.prog X.w X.K tg J fp it tn B/\tn 0 s2.heap/\(∀b∈fp,Fj X zd H' b)/\R J H') X.xe s1) X.xe s
theorem PI.z{tg iter:Expr}{wi:TI}(h:PI X tg iter wi):PIZ X ao_0 tg iter wi:=λzd s σ H R I q=>
 D2 (h zd s σ H R I q) (λv s1 h1=>D2 h1 (λitv s2 ⟨it,fp,tn,J,H',e,I2,T,r⟩=>⟨it,fp,tn,J,H',e,I2,Turn.z T,r⟩) λ_ _ z=>z) λ_ _ z=>z
def ci_9{elt iter tg:Expr}{ifs:List Expr}{scope:Scope}{N':List Str}{fi:FI}{fg:Ft}{p:FT}{f:FE}{m:Nat}(hx0:∀e s,¬X.xe e s){B:Cx->Prop}(hk:scope.kind=.function)(hb:Gd scope.names X.env.scope.names X.N N'=true)
  (hm:N'.length=X.N.length + m)
  (hin:∀C s0 H0 fp pn,GC (m_2 X scope (Ds X.env.cells scope.names []) N' C s0 H0 fp pn) Ed tg fg/\CTs (m_2 X scope (Ds X.env.cells scope.names []) N' C s0 H0 fp pn) Ed ifs p/\ED (m_2 X scope (Ds X.env.cells scope.names []) N' C s0 H0 fp pn) Ed elt f)
  {zd:AE} {s:Shared} {σ:Sg} {δ:DE} (I:Inv X zd σ H s) {Z:Hp->Hp->Prop} (hZ:∀G2 H2,Z G2 H2->Same G2 H2/\HasS X.K G2 σ δ) (hB:∀C s0 H0 fp pn,Inv X zd σ H0 s0->B (m_2 X scope (Ds X.env.cells scope.names []) N' C s0 H0 fp pn))
  (hit:wpAny (model X.prog X.w) X.A (eval iter X.env) (λxv s₁=>wpAny (model X.prog X.w) X.A (pyIter xv) (λitv s₂=>∃(it:Addr) (fp:List Addr) (tn:Nat->Heap->Prop) (J:It) (H2:Hp) (ds:List D) (G2:Hp),itv=.ref it/\Inv X zd σ H2 s₂/\TurnZ X.prog X.w X.K tg J fp it tn B/\tn 0 s₂.heap/\(∀b∈fp,Fj X zd H2 b)/\fi δ=.ok ds/\Z G2 H2/\ItD X.K G2 J ds) X.xe s₁) X.xe s)
  {RR:Value->Addr->Result->Shared->Prop}
  (o:match Cl m fi fg p f δ with| .ok _=>True| .ex x=>False| .no=>False)
  (hRR:∀(Da C:Addr) (s1:Shared) (G2 H2 G' H':Hp) (vs:List V) (rs:List D),Cl m fi fg p f δ=.ok (.ow (.lst rs))->Inv X zd σ H' s1->(∃m,s1.heap.Ns C m)->Fj X zd H' C->Z G2 H2->Step G2 H2 G' H'->H2 Da=none->H' Da=some (.lst vs)->G' Da=none->HasL X.K G' vs rs->RR (.ref Da) C (.ok .next) s1):
  wpAny (model X.prog X.w) X.A (eval iter X.env) (λx s₁=>wpAny (model X.prog X.w) X.A (pyIter x) (λit s₂=>wpAny (model X.prog X.w) X.A (newList []) (λzn s₃=>
   wpAny (model X.prog X.w) X.A (newFunctionEnv scope X.env.globals (Ds X.env.cells scope.names []) [] X.env.qual none .none (some X.env)) (λcenv s₄=>
    codeAny (model X.prog X.w) X.A (.compStart (.ListComp elt [⟨tg,iter,ifs,0⟩] scope pos) 0 it zn {cenv with scope:=relabel scope X.env}) (RR zn cenv.locals) s₄) X.xe s₃) X.xe s₂) X.xe s₁) X.xe s:=by
 have n:=ab_3 I.ok hk hb;generalize hcle:Ds X.env.cells scope.names []=cl at n hin hB⊢;have df:∀ds,fi δ=.ok ds->ds.length<=16777216/\(match q_2 fg p f (δ ++ List.replicate m none) ds with| .ok rs=>Cl m fi fg p f δ=.ok (.ow (.lst rs))| .ex x=>False| .no=>False):=λds e=>by
  unfold Cl at o⊢;simp only[e,R.bind_ok]at o⊢
  by_cases hz:ds.length<=16777216
  ·refine⟨hz, ?_⟩;rw[if_pos hz]at o⊢;cases e2:q_2 fg p f (δ ++ List.replicate m none) ds with
   |ok rs=>rfl
   |ex x=>rw[e2]at o;exact o
   |no=>rw[e2]at o;exact o
  ·rw[if_neg hz]at o;exact o.elim
 
 refine D2 hit (λxv s₁ h₁=>D2 h₁ (λitv s₂ h₂=> ?_) λ_ _ e=>(hx0 _ _ e).elim) λ_ _ e=>(hx0 _ _ e).elim;obtain⟨it,fp,tn,J,H2,ds,G2,rfl,I2,T,st2,f2,e2,hz2,itd⟩:=h₂;obtain⟨sg2,h0⟩:=hZ G2 H2 hz2;obtain⟨hz,o⟩:=df ds e2
 
 have hfD:H2 s₂.heap.objs.size=none:=I2.hok.fresh (A8 _);refine O9 (X5 n.cell (by intro y hy;simp at hy) (λh₁ hns₁ hsb₁=> ?_) n.kind);dsimp only at hns₁ hsb₁⊢;generalize hDa:s₂.heap.objs.size=Da at hfD;have hDn: @Eq Nat s₂.heap.objs.size Da:=hDa;have I3:Inv X zd σ (upd H2 Da (.lst [])) {s₂ with heap:=s₂.heap.push {cls:=.type "list",dict:=none,data:=.seq ([]:List Value).toArray}}:=by
  rw[<-hDa];exact I2.lnew (t':=s₂.toks) .nil (K0 _)
 generalize hH3:s₂.heap.push {cls:=.type "list",dict:=none,data:=.seq ([]:List Value).toArray}=hp3 at hns₁ hsb₁ I3⊢;have hC:hp3.objs.size=Da + 1:=by rw[<-hH3,K9,hDa]
 generalize hCe:hp3.objs.size=C at hns₁ hsb₁ hC;have hCn: @Eq Nat hp3.objs.size C:=hCe;have hC2: @Eq Nat C (Da + 1):=hC;have dq:∀b o,s₂.heap.get? b=some o->hp3.get? b=some o:=λb o e=>by rw[<-hH3];exact A5 _ e
 have up:∀b o,hp3.get? b=some o->h₁.get? b=some o:=λb o e=>hsb₁.extBut b o (C1 (show @LT.lt Nat _ b C by rw[<-hCn];exact A6 e)) (A5 _ e)
 
 have fpC:∀b∈fp,b < s₂.heap.objs.size:=λb hb=>by
  obtain⟨o,e,_⟩:=T.obj _ _ st2 b hb;exact A6 e
 have hcl:∀x c,cl.lookup x=some c->c < hp3.objs.size/\c∉fp/\(upd H2 Da (.lst [])) c=none:=λx c e=>by
  have e':=n.sub x c e;obtain⟨v,hv⟩:=I3.cell x c e';exact⟨hv.lt,λz=>(f2 c z).2.2.2.2.1 x c e' rfl,I3.freeC x c e'⟩
 let X':=m_2 X scope cl N' C {s₂ with heap:=hp3} (upd H2 Da (.lst [])) fp (X.pn ++ zd)
 have ok':X'.Ok:=by
  refine⟨I.ok.mod,n.kind,I.ok.glob,I.ok.blt,Q6 hCe,λx y c h1 h2=>I.ok.inj x y c (n.sub x c h1) (n.sub y c h2),λx hx=>n.has x hx,λx c z=> ?_,I.ok.hd,I.ok.frames,.inl rfl,λb hb=>⟨?_,λx c e z=> ?_⟩,λb o e=> ?_, ?_,λb o e hb=> ?_,λb hb z=> ?_,I3.stack,I3.stkFree,I3.tab⟩
  ·exact absurd z A7
  ·exact C1 (C4 (fpC b hb) (show @LE.le Nat _ s₂.heap.objs.size C by omega))
  ·subst z;exact(hcl x c e).2.1 hb
  ·exact I3.bs b o e
  ·exact C7 I.ok.bsz I3.sz
  ·rcases(f2 b hb).2.2.2.1 with z|z
   ·exact I.ok.noex b o e z
   ·exact absurd (A6 (I.ok.bs b o e).1) (Nat.not_lt_of_le z)
  ·rcases B8.mp (I3.stkSub b z) with z|z
   ·exact(f2 b hb).2.1 z
   ·exact(f2 b hb).2.2.1 z
 have lenσ:σ.length=X.N.length:=I.len;have I4:Inv X' [] (σ ++ List.replicate m none) (upd H2 Da (.lst [])) {s₂ with heap:=h₁,toks:=s₂.toks + ([]:List (Str×Value)).length}:=by
  refine⟨ok',rfl,I2.bare,Un.kept up,⟨_,hns₁,λi x v e1 e2 e3=> ?_⟩,λx c e=> ?_, ?_,λx c e=>(hcl x c e).2.2,λp hp=> ?_,I3.hok.kept up, ?_⟩
  ·have hi:i < σ.length:=by
    by_cases hh:i < σ.length
    ·exact hh
    ·rw[D1 (),E8]at e2
     split at e2 <;> cases e2
   rw[B3 hi]at e2;obtain⟨n1,n2,⟨c,n3⟩,n4⟩:=n.old i x e1 () e3;obtain⟨mm,hnm,hl⟩:=I3.loc;obtain⟨u,r,l⟩:=hl i x v n1 e2 (.inr n2);refine⟨u,r,.inr ⟨n4,c,n3, ?_⟩⟩;have n3':=n.sub x c n3;rcases l with⟨k1,k2⟩|⟨k1,c',k2,k3⟩
   ·exfalso;have k1':X.env.scope.names.lookup x=some .local:=k1;rcases n2 with n2|n2
    ·rw[n2]at k1';cases k1'
    ·rw[n2]at k1';cases k1'
   ·rw[n3']at k2;cases k2;exact k3.keeps up
  ·obtain⟨v,hv⟩:=I3.cell x c (n.sub x c e);exact⟨v,hv.keeps up⟩
  ·show upd H2 Da (.lst []) C=none;exact I3.hok.fresh (by show hp3.objs.size<=C;omega)
  ·have hp':p∈X.pn ++ zd:=by
    have hp2:p∈(X.pn ++ zd) ++ []:=hp
    rwa[D3]at hp2
   obtain⟨z1,z2,z3,z4,z5⟩:=I3.pin p hp';refine⟨up _ _ z1,z2, ?_,λz=> ?_,z5⟩
   ·exact C1 (show @LT.lt Nat _ p.1 C by rw[<-hCn];exact A6 z1)
   ·rcases B8.mp (I3.stkSub p.1 z) with z|z
    ·exact z3 z
    ·exact z4 z
  ·rw[B6,J9,lenσ];exact hm.symm
 obtain⟨hgc,hct,hel⟩:=hin C {s₂ with heap:=hp3} (upd H2 Da (.lst [])) fp (X.pn ++ zd);have hS4:HasS X.K G2 (σ ++ List.replicate m none) (δ ++ List.replicate m none):=by
  refine⟨by rw[B6,B6,J9,J9,h0.len],λi d e=> ?_⟩
  by_cases hh:i < δ.length
  ·rw[B3 hh]at e;obtain⟨v,e1,r⟩:=h0.get i d e;exact⟨v,by rw[B3 (by rw[h0.len];exact hh)];exact e1,r⟩
  ·rw[D1 (),E8]at e
   split at e <;> cases e
 generalize hδ:δ ++ List.replicate m none=δ' at hS4 o;have stn:tn 0 h₁:=T.keep 0 _ _ st2 λb hb o e=>up b o (dq b o e);have fpn:∀b∈fp,(upd H2 Da (.lst [])) b=none:=λb hb=>by
  rw[Ba (C1 (show @LT.lt Nat _ b Da by rw[<-hDn];exact fpC b hb))];exact(f2 b hb).1
 have bp:∀{pl:AE} {H':Hp},pl= []->(∀b∈fp,H' b=none)->∀b∈fp,Fj X' pl H' b:=λ{pl H'} hpl hn b hb=>by
  subst hpl;refine⟨hn b hb, ?_,λz=> ?_,.inl hb,λx c e z=> ?_,λp hp z=> ?_⟩
  ·exact C1 (C4 (fpC b hb) (show @LE.le Nat _ s₂.heap.objs.size C by omega))
  ·rcases B8.mp (I3.stkSub b z) with z|z
   ·exact(f2 b hb).2.1 z
   ·exact(f2 b hb).2.2.1 z
  ·subst z;exact(hcl x c e).2.1 hb
  ·have hp':p∈X.pn ++ zd:=by
    have hp2:p∈(X.pn ++ zd) ++ []:=hp
    rwa[D3]at hp2
   exact(f2 b hb).2.2.2.2.2 p hp' z
 have loop:∀s4:Shared,Inv X' [] (σ ++ List.replicate m none) (upd H2 Da (.lst [])) s4->tn 0 s4.heap->codeAny (model X.prog X.w) X.A (.compLoop (.ListComp elt [⟨tg,iter,ifs,0⟩] scope pos) 0 (.ref it) (.ref Da) (compEnvC scope cl C X.env)) (RR (.ref Da) C) s4:=by
  intro s4 I4 tn4;refine au_9 (λk s'=>∃i σ' H' G' vs rs,k=ds.length - i/\i<=ds.length/\Inv X' [] σ' H' s'/\tn i s'.heap/\(∀b∈fp,H' b=none)/\HasS X.K G' σ' δ'/\Step G2 H2 G' H'/\Same G2 G'/\H' Da=some (.lst vs)/\G' Da=none/\
   HasL X.K G' vs rs/\rs.length<=i/\(match q_2 fg p f δ' (ds.drop i) with| .ok rs2=>Cl m fi fg p f δ=.ok (.ow (.lst (rs ++ rs2)))| .ex x=>False| .no=>False)) ?_ ds.length
   ⟨0,_,_,G2,[],[],by simp,K0 _,I4,tn4,fpn,hS4,Step.own sg2 hfD _,Same.refl _,Cb,sg2.free hfD,.nil,K0 _,by simpa using o⟩
  rintro k s' ⟨i,σ',H',G',vs,rs,rfl,hi,I',tni,fn',hS,st,sg,hD,gD,rl,hl,o'⟩
  obtain⟨i1,i2⟩:=itd G' H' sg st.gh i
  by_cases hlt:i < ds.length
  ·obtain⟨d,e1,e2⟩:=w_2 hlt;obtain⟨go,yl⟩:=i1 d e1;refine Be (T.item X' rfl rfl rfl i [] s' σ' H' _ (hB _ _ _ _ _ I3) I' (bp rfl fn') tni go) λr s1 ⟨u,hr,h1⟩=> ?_;subst hr;refine Be h1 λ_ s5 ⟨x,H5,I5,r5,y5,st5,fr5⟩=> ?_;obtain⟨G5,ae,hx5⟩:=yl x H5 y5;have I5':=I5.pinned (bp rfl fr5) (T.obj _ _ st5);rw[e2]at o';have o1:match((fg d δ').bind λ δ1=>(p δ1).bind λb=>if b=true then(f δ1).bind λw=>(q_2 fg p f δ' (ds.drop (i + 1))).bind λrs=> .ok (w.d::rs) else q_2 fg p f δ' (ds.drop (i + 1))) with| .ok rs2=>Cl m fi fg p f δ=.ok (.ow (.lst (rs ++ rs2)))| .ex x=>False| .no=>False:=o'
   have hS5:HasS X.K G5 σ' δ':=hS.mono ae.gg;refine D2 (hgc _ s5 σ' H5 x u (λ σ6 H6=>∃δ1,fg d δ'=.ok δ1/\H6=H5/\HasS X.K G5 σ6 δ1/\HasS X.K G5 σ6 δ') I5' r5 ⟨G5,δ',d,ae.gh,hS5,hx5, ?_⟩) (λ_ s6 ⟨σ6,H6,I6,δ1,e6,eH,hS6,hS6'⟩=> ?_) λ_ _ z=>False.elim z
   ·cases e6:fg d δ' with
    |ok δ1=>exact λ σ6 h6 h6'=>⟨δ1,rfl,rfl,h6,h6'⟩
    |ex x=>rw[e6]at o1;exact o1
    |no=>rw[e6]at o1;exact o1
   subst eH;rw[e6]at o1;simp only[R.bind_ok]at o1;refine D2 (hct _ s6 σ6 H6 (λb H7=>∃G7,p δ1=.ok b/\Step G5 H6 G7 H7) I6 ⟨G5,δ1,ae.gh,hS6, ?_⟩) (λb s7 ⟨H7,I7,G7,e7,stp7⟩=> ?_) λ_ _ z=>False.elim z
   ·cases e7:p δ1 with
    |ok b=>exact λG7 H7 st7=>⟨G7,rfl,st7⟩
    |ex x=>rw[e7]at o1;exact o1
    |no=>rw[e7]at o1;exact o1
   rw[e7]at o1;simp only[R.bind_ok]at o1
   
   have gD7:G7 Da=none:=(ae.trans stp7).nw Da gD (by rw[hD];simp);have hD7:H7 Da=some (.lst vs):=(ae.trans stp7).hh _ _ hD;have bh:∀{σ9:Sg} {H9:Hp} {s9:Shared},Inv X' ([] ++ al_2 fp s5.heap) σ9 H9 s9->tn (i + 1) s9.heap/\∀b∈fp,H9 b=none:=λ{σ9 H9 s9} I9=>
    ⟨T.keep _ _ _ st5 λb hb o e=>(I9.pin (b,o) (B1 _ (B1 _ (q_4 hb e)))).1,λb hb=>by
     obtain⟨o,e,d⟩:=T.obj _ _ st5 b hb;exact(I9.pin (b,o) (B1 _ (B1 _ (q_4 hb e)))).2.1⟩
   have hSk:∀{G9:Hp},Same G7 G9->HasS X.K G9 σ6 δ':=λ{G9} sm=>hS6'.mono (stp7.gg.trans sm);cases b with
   |false=>
    rw[if_neg A7]at o1⊢;exact⟨ds.length - (i + 1),by omega,i + 1,σ6,H7,G7,vs,rs,rfl,hlt,I7.unpinned,(bh I7).1,(bh I7).2,hSk (Same.refl _),st.trans (ae.trans stp7),sg.trans (ae.gg.trans stp7.gg),hD7,gD7,rl.mono (ae.gg.trans stp7.gg),by omega,o1⟩
   |true=>
    rw[if_pos rfl]at o1⊢;refine D2 (hel _ s7 σ6 H7 (λv H8=>∃w G8,f δ1=.ok w/\Step G7 H7 G8 H8/\Has X.K G8 v w.d) I7 ⟨G7,δ1,stp7.gh,hS6.mono stp7.gg, ?_⟩) (λu8 s8 ⟨v8,H8,I8,r8,w8,G8,e8,stp8,hv8⟩=> ?_) λ_ _ z=>False.elim z
    ·cases e8:f δ1 with
     |ok w=>exact WP.intro λv G8 H8 st8 r8=>⟨w,G8,rfl,st8,r8⟩
     |ex x=>rw[e8]at o1;exact o1
     |no=>rw[e8]at o1;exact o1
    rw[e8]at o1;simp only[R.bind_ok]at o1;have gD8:G8 Da=none:=stp8.nw Da gD7 (by rw[hD7];simp);have hD8:H8 Da=some (.lst vs):=stp8.hh _ _ hD7;have rl8:HasL X.K G8 vs rs:=rl.mono (ae.gg.trans (stp7.gg.trans stp8.gg));refine D2 (w_0 (X:=X') _ s8 σ6 H8 (.ref Da) [v8] (.ref Da) [u8] (λ_ H9=>H9=upd H8 Da (.lst (vs ++ [v8]))) I8 rfl (.cons r8 .nil) ⟨Da,vs,v8,rfl,rfl,hD8,by rw[rl.length,D5];omega,rfl⟩) (λ_ s9 ⟨_,H9,I9,_,e9⟩=> ?_) λ_ _ z=>False.elim z;subst e9;have stA:=st.trans (ae.trans (stp7.trans stp8));refine⟨ds.length - (i + 1),by omega,i + 1,σ6,_,G8,vs ++ [v8],rs ++ [w8.d],rfl,hlt,I9.unpinned,(bh I9).1,(bh I9).2,hSk stp8.gg,⟨λb o z=> ?_,λb o z=> ?_,stA.gg,stA.nw⟩,sg.trans (ae.gg.trans (stp7.gg.trans stp8.gg)),Cb,gD8,rl8.append (.cons hv8 .nil),by rw[B6,M5];omega, ?_⟩
    ·rw[Ba (Ei z hfD)];exact stA.hh b o z
    ·rw[Ba (Ei z gD8)];exact stp8.gh b o z
    ·cases e10:q_2 fg p f δ' (ds.drop (i + 1)) with
     |ok rs2=>
      rw[e10]at o1;simp only[R.bind_ok]at o1⊢;rw[N1];exact o1
     |ex x=>rw[e10]at o1;exact o1
     |no=>rw[e10]at o1;exact o1
  ·have e:ds.length=i:=by omega
   refine Be (T.done X' rfl rfl rfl i [] s' σ' H' _ (hB _ _ _ _ _ I3) I' (bp rfl fn') tni (i2 e)) λr s1 ⟨hr,I1⟩=> ?_;subst hr;rw[V8 ()]at o';have o1:Cl m fi fg p f δ=.ok (.ow (.lst (rs ++ []))):=o';rw[D3]at o1;obtain⟨mm,hnm,_⟩:=I1.loc;have du:Inv X zd σ H' s1:=I3.call' (s':=s1) (ch:=fp) I1.os I1.base I1.hok I1.bare λb hb=>by
    obtain⟨f0,f1',f2',f3,f4,f5⟩:=f2 b hb;exact⟨f3,f1',f4,f5⟩
   exact hRR Da C s1 G2 H2 G' H' vs rs o1 du ⟨mm,hnm⟩ (I3.fpOk (by show hp3.objs.size<=C;omega) I1.free) hz2 st hfD hD gD rl
 exact ZC4 (loop _ I4 stn) (T.self X.A 0 _ _ _ stn (loop _ I4 stn))
structure CompOk(X:Cx)(scope:Scope)(N':List Str)(m:Nat)(tg:Expr)(ifs:List Expr)(elt:Expr)(fg:Ft)(p:FT)(f:FE):Prop where
 hk:scope.kind=.function
 hb:Gd scope.names X.env.scope.names X.N N'=true
 hm:N'.length=X.N.length + m
 hin:∀C s0 H0 fp pn,GC (m_2 X scope (Ds X.env.cells scope.names []) N' C s0 H0 fp pn) Ed tg fg/\CTs (m_2 X scope (Ds X.env.cells scope.names []) N' C s0 H0 fp pn) Ed ifs p/\ED (m_2 X scope (Ds X.env.cells scope.names []) N' C s0 H0 fp pn) Ed elt f
def SrcC(X:Cx)(B:Cx->Prop)(tg iter:Expr)(fi:FI):Prop:=
 ∀(zd:AE) (s:Shared) (σ:Sg) (G H:Hp) (δ:DE) (ds:List D),Inv X zd σ H s->Same G H->HasS X.K G σ δ->fi δ=.ok ds->∃Z:Hp->Hp->Prop,
  (∀G2 H2,Z G2 H2->Same G2 H2/\HasS X.K G2 σ δ)/\
  wpAny (model X.prog X.w) X.A (eval iter X.env) (λxv s₁=>wpAny (model X.prog X.w) X.A (pyIter xv) (λitv s₂=>∃(it:Addr) (fp:List Addr) (tn:Nat->Heap->Prop) (J:It) (H2 G2:Hp),itv=.ref it/\Inv X zd σ H2 s₂/\TurnZ X.prog X.w X.K tg J fp it tn B/\tn 0 s₂.heap/\(∀b∈fp,Fj X zd H2 b)/\Z G2 H2/\ItD X.K G2 J ds) X.xe s₁) X.xe s/\
  ∀(Da C:Addr) (s1:Shared) (G2 H2 G' H':Hp) (vs:List V) (rs:List D),Inv X zd σ H' s1->Fj X zd H' C->Z G2 H2->Step G2 H2 G' H'->H2 Da=none->H' Da=some (.lst vs)->G' Da=none->HasL X.K G' vs rs->
   ∃G' H',Inv X zd σ H' s1/\Fj X zd H' C/\Step G H G' H'/\H Da=none/\H' Da=some (.lst vs)/\G' Da=none/\HasL X.K G' vs rs
def bp_9{iter tg:Expr}{fi:FI}{B:Cx->Prop}(hi:PIZ X B tg iter (tI X.K Ed fi)):SrcC X B tg iter fi:=λzd s σ G H δ ds I g0 h0 ed=>by
 refine⟨Step G H,λG2 H2 z=>⟨z.gh,h0.mono z.gg⟩,D2 (hi zd s σ H (λJ H2=>∃G2,Step G H G2 H2/\ItD X.K G2 J ds) I ⟨G,δ,g0,h0, ?_⟩) (λxv s₁ h₁=>D2 h₁ (λitv s₂ h₂=> ?_) λ_ _ e=>e) (λ_ _ e=>e),λDa C s1 G2 H2 G' H' vs rs Io fc z st h1 h2 h3 rl=>⟨G',H',Io,fc,z.trans st,z.hh.free h1,h2,h3,rl⟩⟩
 ·rw[ed];exact λJ G2 H2 st it=>⟨G2,st,it⟩
 ·obtain⟨it,fp,tn,J,H2,rfl,I2,T,st2,f2,G2,stp,itd⟩:=h₂;exact⟨it,fp,tn,J,H2,G2,rfl,I2,T,st2,f2,stp,itd⟩
def Fy{iter tg:Expr}{fi:FI}(hi:ID X Ed tg iter fi):SrcC X ao_0 tg iter fi:=bp_9 (PI.z hi)
section
variable{elt iter tg:Expr}{ifs:List Expr}{scope:Scope}{N':List Str}{fi:FI}{fg:Ft}{p:FT}{f:FE}{m:Nat}
def av_2(hx0:∀e s,¬X.xe e s){B:Cx->Prop}(src:SrcC X B tg iter fi)(ho:CompOk X scope N' m tg ifs elt fg p f)
  {zd:AE} {s:Shared} {σ:Sg} {G H:Hp} {δ:DE} (I:Inv X zd σ H s) (g0:Same G H) (h0:HasS X.K G σ δ) (hB:∀C s0 H0 fp pn,Inv X zd σ H0 s0->B (m_2 X scope (Ds X.env.cells scope.names []) N' C s0 H0 fp pn)) {RR:Value->Addr->Result->Shared->Prop}
  (o:match Cl m fi fg p f δ with| .ok _=>True| .ex x=>False| .no=>False)
  (hRR:∀(Da C:Addr) (s1:Shared) (G' H':Hp) (vs:List V) (rs:List D),Cl m fi fg p f δ=.ok (.ow (.lst rs))->Inv X zd σ H' s1->(∃m,s1.heap.Ns C m)->Fj X zd H' C->Step G H G' H'->H Da=none->H' Da=some (.lst vs)->G' Da=none->HasL X.K G' vs rs->RR (.ref Da) C (.ok .next) s1):
  wpAny (model X.prog X.w) X.A (eval iter X.env) (λx s₁=>wpAny (model X.prog X.w) X.A (pyIter x) (λit s₂=>wpAny (model X.prog X.w) X.A (newList []) (λzn s₃=>
   wpAny (model X.prog X.w) X.A (newFunctionEnv scope X.env.globals (Ds X.env.cells scope.names []) [] X.env.qual none .none (some X.env)) (λcenv s₄=>
    codeAny (model X.prog X.w) X.A (.compStart (.ListComp elt [⟨tg,iter,ifs,0⟩] scope pos) 0 it zn {cenv with scope:=relabel scope X.env}) (RR zn cenv.locals) s₄) X.xe s₃) X.xe s₂) X.xe s₁) X.xe s:=by
 obtain⟨ds,ed⟩:∃ds,fi δ=.ok ds:=by
  unfold Cl at o;cases e:fi δ with
  |ok ds=>exact⟨ds,rfl⟩
  |ex x=>rw[e]at o;exact o.elim
  |no=>rw[e]at o;exact o.elim
 obtain⟨Z,z1,z2,z3⟩:=src zd s σ G H δ ds I g0 h0 ed;refine ci_9 hx0 (B:=B) ho.hk ho.hb ho.hm ho.hin I (Z:=Z) z1 hB (D2 z2 (λ_ _ h=>D2 h (λ_ _ ⟨it,fp,tn,J,H2,G2,a,b,c,d,e,z,i⟩=>⟨it,fp,tn,J,H2,ds,G2,a,b,c,d,e,ed,z,i⟩) λ_ _ e=>e) λ_ _ e=>e) o λDa C s1 G2 H2 G' H' vs rs e Io hm' fc z st h1 h2 h3 rl=> ?_;obtain⟨G'',H'',x1,x2,x3,x4,x5,x6,x7⟩:=z3 Da C s1 G2 H2 G' H' vs rs Io fc z st h1 h2 h3 rl;exact hRR Da C s1 G'' H'' vs rs e x1 hm' x2 x3 x4 x5 x6 x7
def bd_9(hx0:∀e s,¬X.xe e s){B:Cx->Prop}(hB:∀zd σ C s0 H0 fp pn,Inv X zd σ H0 s0->B (m_2 X scope (Ds X.env.cells scope.names []) N' C s0 H0 fp pn))(src:SrcC X B tg iter fi)(ho:CompOk X scope N' m tg ifs elt fg p f)
  (hs:∀x,foldedSetIterable iter X.env x=pure x:=by intro _;rfl):ED X Ed (.ListComp elt [⟨tg,iter,ifs,0⟩] scope pos) (Cl m fi fg p f):=by
 intro zd s σ H Q I q;obtain⟨G,δ,g0,h0,o⟩:=q;rw[eval_ListComp];have n:=ab_3 I.ok ho.hk ho.hb;refine U6 (use:=none) rfl hs n.clos n.kind n.names (av_2 (RR:=λzn C=>compPost (model X.prog X.w) X.A X.xe none (EP X zd σ Q) zn C) hx0 src ho I g0 h0 (hB _ _) ?_ λDa C s1 G' H' vs rs e Io hm' fc st h1 h2 h3 rl=> ?_)
 ·cases e:Cl m fi fg p f δ with
  |ok w=>trivial
  |ex x=>rw[e]at o;exact o
  |no=>rw[e]at o;exact o
 ·rw[e]at o;obtain⟨mm,hnm⟩:=hm';obtain⟨c0,c1,c2,c3,c4,c5⟩:=fc;exact⟨mm,hnm,λh' sb=>⟨.ref Da,H',Io.turned (t':=s1.toks) (λb ob hb e=>(sb.2 b hb).trans e) c0 c1 c3 c4 c5,rfl,o (.ref Da) (λb=>b=Da) G' H' st (λa e=>by subst e;exact⟨h1,h3,by rw[h2];simp⟩) (.list h2 rfl rl)⟩⟩
def s_4(hc:X.calm=true)(src:SrcC X.nox ao_0 tg iter fi)(ho:CompOk X scope N' m tg ifs elt fg p f)
  (hs:∀x,foldedSetIterable iter X.env x=pure x:=by intro _;rfl):ED X EX (.ListComp elt [⟨tg,iter,ifs,0⟩] scope pos) (Cl m fi fg p f):=
 PE.imp (PE.nox (bd_9 (X:=X.nox) (λ_ _ z=>z) (B:=ao_0) (λ_ _ _ _ _ _ _ _=>hc) src ⟨ho.hk,ho.hb,ho.hm,ho.hin⟩ hs)) λ σ H Q ⟨G,δ,g0,h0,o⟩=>by
  refine⟨G,δ,g0,h0, ?_⟩;cases e:Cl m fi fg p f δ with
  |ok w=>rw[e]at o;exact o
  |ex x=>exact(au_8 e).elim
  |no=>rw[e]at o;exact o
end
theorem PS.nox{st:Stmt}{t:TS}(h:PS X.nox st t):PS X st t:=λzd s σ H D I hw=>
 D2 (h zd s σ H D (I.wish _) hw) (λ_ _ q=>q.unwish) λ_ _ z=>False.elim z
def cc_1{i:Nat}{js:List Nat}{f:FE}(h:∀δ x,f δ≠ .ex x){Δ Δ':SE}{x:Xn}(e:Ah i js f Δ=.ex x Δ'):False:=by
 unfold Ah at e;have hp:∀Δ2,Ek i Δ2 (f (Bg Δ2))=.ex x Δ'->False:=λ Δ2 e2=>by
  unfold Ek at e2;cases q:f (Bg Δ2) with
  |ok w=>rw[q]at e2;cases w <;> cases e2
  |ex y=>exact h _ _ q
  |no=>rw[q]at e2;cases e2
 cases q:f (Bg Δ) with
 |ok w=>rw[q]at e;cases w <;> cases e
 |ex y=>exact h _ _ q
 |no=>
  rw[q]at e;cases q2:f (Ax Δ) with
  |ok w=>
   simp only[q2]at e
   split at e
   ·cases e
   ·exact hp _ e
  |ex y=>exact h _ _ q2
  |no=>simp only[q2]at e;cases e
def cr_4{elt iter tg:Expr}{ifs:List Expr}{scope:Scope}{N':List Str}{fi:FI}{fg:Ft}{p:FT}{f:FE}{m i:Nat}{y:Str}{py aw:Pos}(hx0:∀e s,¬X.xe e s)(hc:X.calm=true)(src:SrcC X ao_0 tg iter fi)(ho:CompOk X scope N' m tg ifs elt fg p f)
  (hN:X.N.Nodup) (hy:X.N[i]? =some y) (hx:Loc X.env.scope y) (hf:X.fn y=true\/X.env.scope.names.lookup y=some .local)
  (hsw:swapsWith (.ListComp elt [⟨tg,iter,ifs,0⟩] scope pos) (some (.Name y py)) aw.line X.env=pure true)
  (hs:∀x,foldedSetIterable iter X.env x=pure x):PS X (.Assign [.Name y py] (.ListComp elt [⟨tg,iter,ifs,0⟩] scope pos) aw) (tAsg (tD X.K Ed (Cl m fi fg p f)) (bb_9 i)):=by
 intro zd s σ H D I q;obtain⟨G,δ,g0,h0,o⟩:=q;have n:=ab_3 I.ok ho.hk ho.hb;rw[exec_Assign_Name_used _ _ _ _ hsw];refine A3 (P4 (A3 ?_));show wpAny _ X.A (do let _<-comprehension (.ListComp elt [⟨tg,iter,ifs,0⟩] scope pos) scope X.env _ (newList []) false (eval iter X.env) (some (assign (.Name y py) X.env))) _ _ s;refine A3 (D2 (U6 (use:=some (assign (.Name y py) X.env)) (Q:=λ_ s'=>SP X zd D .next s') rfl hs n.clos n.kind n.names
  (av_2 (RR:=λzn C=>compPost (model X.prog X.w) X.A X.xe (some (assign (.Name y py) X.env)) (λ_ s'=>SP X zd D .next s') zn C) hx0 src ho I g0 h0 (λ_ _ _ _ _ _=>hc) ?_ λDa C s1 G' H' vs rs e Io hm' fc st h1 h2 h3 rl=> ?_)) (λ_ s' hq=>C5 (C5 hq)) λ_ _ e=>e)
 ·cases e:Cl m fi fg p f δ with
  |ok w=>trivial
  |ex x=>rw[e]at o;exact o
  |no=>rw[e]at o;exact o
 ·rw[e]at o;obtain⟨mm,hnm⟩:=hm';obtain⟨c0,c1,c2,c3,c4,c5⟩:=fc;show wpAny _ X.A (assign (.Name y py) X.env (.ref Da)) _ _ _;refine ZA1 (al_1 Io hN hy hx (v:=.ref Da) rfl (λs2 I2 ⟨a,sb,ha⟩=> ?_) hf);have hCa:C≠a:=by
   rcases ha with rfl|ha
   ·exact c1
   ·exact λz=>c4 y a ha z.symm
  refine⟨mm,hnm.sameBut sb hCa,λh' sb'=>⟨_,H',I2.turned (t':=s2.toks) (λb ob hb e=>(sb'.2 b hb).trans e) c0 c1 c3 c4 c5, ?_⟩⟩;exact o (.ref Da) (λb=>b=Da) G' H' st (λa e=>by subst e;exact⟨h1,h3,by rw[h2];simp⟩) (.list h2 rfl rl)
def dd_7(js:List Nat){elt iter tg:Expr}{ifs:List Expr}{scope:Scope}{N':List Str}{fi:FI}{fg:Ft}{p:FT}{f:FE}{m i:Nat}{y:Str}{py aw:Pos}(hc:X.calm=true)(src:SrcC X.nox ao_0 tg iter fi)(ho:CompOk X scope N' m tg ifs elt fg p f)
  (hN:X.N.Nodup) (hy:X.N[i]? =some y:=by rfl) (hx:Loc X.env.scope y:=by trivial) (hf:X.fn y=true\/X.env.scope.names.lookup y=some .local:=by trivial)
  (hsw:swapsWith (.ListComp elt [⟨tg,iter,ifs,0⟩] scope pos) (some (.Name y py)) aw.line X.env=pure true:=by rfl)
  (hs:∀x,foldedSetIterable iter X.env x=pure x:=by intro _;rfl):SD X EX (.Assign [.Name y py] (.ListComp elt [⟨tg,iter,ifs,0⟩] scope pos) aw) (Ah i js (Cl m fi fg p f)):=
 PS.imp (PS.nox (cr_4 (X:=X.nox) (λ_ _ z=>z) hc src ⟨ho.hk,ho.hb,ho.hm,ho.hin⟩ hN hy hx hf hsw hs)) λD σ H ⟨H0,G0,G,Δ,O,E,q⟩=>by
  refine au_6 (EX:=Ed) (js:=js) ⟨H0,G0,G,Δ,O,E, ?_⟩;cases e:Ah i js (Cl m fi fg p f) Δ with
  |ex x Δ'=>exact(cc_1 (λ_ _ z=>au_8 z) e).elim
  |_=>rw[e]at q;exact q
end
def be_0:bootBuiltins "bool" =some (.type "bool"):=by decide +kernel
def q_6{k:Nat}{scope:Scope}{cl:List (Str×Addr)}{N':List Str}{C:Addr}{s0:Shared}{H0:Hp}{fp:List Addr}{pn:AE}{c:Bool}(h:RoomC c k (Cx.A X)):RoomC c k (Cx.A (m_2 X scope cl N' C s0 H0 fp pn)):=h
def cj_0{scope:Scope}{cl:List (Str×Addr)}{N':List Str}{C:Addr}{s0:Shared}{H0:Hp}{fp:List Addr}{pn:AE}(h:Cx.calm X=true):Cx.calm (m_2 X scope cl N' C s0 H0 fp pn)=true:=h
section
variable{X:Cx}{EX:Bb}{a b e:Expr}{es:List Expr}{f g:FE}{fa:FA}{pos p2:Pos}
abbrev FO:=DE->R (Option Int)
def tDo(K:Frag)(EX:Bb)(fo:FO):TO:=λ σ H Q=>∃G δ,Same G H/\HasS K G σ δ/\match fo δ with
 | .ok i=>∀G' H',Step G H G' H'->Q i H'
 | .ex x=>(EX σ).p x G H
 | .no=>False
abbrev OD(X:Cx)(EX:Bb)(e:Option Expr)(fo:FO):Prop:=PO X e (tDo X.K EX fo)
def Cy:FO:=λ_=> .ok none
def intPart:D->R (Option Int)
 | .int i=> .ok (some i)
 |_=> .no
def Co(f:FE):FO:=λ δ=>(f δ).bind λw=>intPart w.d
def PO.imp{e:Option Expr}{t t':TO}(h:PO X e t)(i:∀σ H Q,t' σ H Q->t σ H Q):PO X e t':=λzd s σ H Q I q=>h zd s σ H Q I (i σ H Q q)
def s_5:OD X EX none Cy:=PO.imp db_6 λ σ H Q ⟨G,δ,g,s,o⟩=>o G H (Step.refl g)
def s_6(h:ED X EX e f):OD X EX (some e) (Co f):=PO.imp (db_7 h) λ σ H Q ⟨G,δ,g,s,o⟩=>by
 refine⟨G,δ,g,s, ?_⟩;unfold Co at o;cases e1:f δ with
 |ok w=>
  rw[e1]at o;simp only[R.bind_ok]at o;refine WP.intro λv G' H' st r=> ?_;revert r o;cases w.d with
  |int i=>intro o r;cases r;exact⟨i,rfl,o G' H' st⟩
  |_=>intro o _;exact False.elim o
 |ex x=>rw[e1]at o;exact o
 |no=>rw[e1]at o;exact o
def Er{α:Type}(xs:List α)(lo hi:Option Int):List α:=(xs.drop (HT.sIx xs.length 0 lo)).take (HT.sIx xs.length xs.length hi - HT.sIx xs.length 0 lo)
def t_4:D->Option Int->Option Int->R W
 | .lst ds,lo,hi=> .ok (.ow (.lst (Er ds lo hi)))
 | .str x,lo,hi=>if x.length<=16777216 then .ok (.sh (.str (Txt.slice x lo hi))) else .no
 |_,_,_=> .no
def dq_1:SlR X (λx lo hi H Q=>∃z,x=.str z/\z.length<=sizeLine/\Q (.str (Txt.slice z lo hi)) H):=by
 intro zd s σ H x v vl vu lo hi sl Q I rx hs pl pu h;obtain⟨z,rfl,hz,q⟩:=h;obtain⟨t,rfl⟩:=rx;refine⟨"str",_,PySem.F.slot_str_getitem.lookup,typeIs_str _ _ _, ?_⟩;obtain⟨o,ho,hc,hd⟩:=hs;have fin:∀t' k,EP X zd σ Q (.str (Txt.slice z lo hi) t') {s with toks:=k}:=λt' k=>⟨.str _,H,I.tok _,⟨_,rfl⟩,q⟩;cases pl with
 |none=>
  cases pu with
  |none=>exact R8 (l:=none) (u:=none) (st:=none) ⟨o,ho,hc,hd⟩ rfl (Y0 ⟨C7 (ZC5 z _ _) hz,fin⟩)
  |int j uj=>exact R8 (l:=none) (u:=some (j,uj)) (st:=none) ⟨o,ho,hc,hd⟩ rfl (Y0 ⟨C7 (ZC5 z _ _) hz,fin⟩)
 |int i ui=>
  cases pu with
  |none=>exact R8 (l:=some (i,ui)) (u:=none) (st:=none) ⟨o,ho,hc,hd⟩ rfl (Y0 ⟨C7 (ZC5 z _ _) hz,fin⟩)
  |int j uj=>exact R8 (l:=some (i,ui)) (u:=some (j,uj)) (st:=none) ⟨o,ho,hc,hd⟩ rfl (Y0 ⟨C7 (ZC5 z _ _) hz,fin⟩)
def rSlD(K:Frag):V->Option Int->Option Int->Hp->VK->Prop:=λx lo hi H Q=>∃(EX:EXT) (G:Hp) (d:D),Same G H/\Has K G x d/\Out K EX G H (t_4 d lo hi) Q
def sl_d:SlR X (rSlD X.K):=by
 intro zd s σ H x v vl vu lo hi sl Q I rx hs pl pu h;obtain⟨EX,G,d,g,r,o⟩:=h;cases r with
 |lst h r=>
  rename_i vs ds;refine db_8 zd s σ H _ v vl vu lo hi sl Q I rx hs pl pu ⟨_,_,rfl,g.seq h,λp hp=> ?_⟩;have dn:HasL X.K G (cutV vs lo hi) (Er ds lo hi):=by
   unfold cutV Er;rw[r.length];exact(r.drop _).take _
  exact x_9 o g dn p hp
 |str z=>
  simp only[t_4]at o
  split at o
  ·rename_i hz;exact dq_1 zd s σ H _ v vl vu lo hi sl Q I rx hs pl pu ⟨z,rfl,by rw[D5];exact hz,Cu o g (.str _)⟩
  ·exact o.elim
 |_=>exact False.elim o
def Bj(f:FE)(lo hi:FO):FE:=λ δ=>(f δ).bind λw=>(lo δ).bind λl=>(hi δ).bind λu=>t_4 w.d l u
def tDo.seq{G H:Hp}{σ:Sg}{δ:DE}{fo:FO}{k:Option Int->R W}{Q:VK}{P:Option Int->Hp->Prop}(g:Same G H)(s:HasS K G σ δ)(h:Out K (EX σ) G H ((fo δ).bind k) Q)
  (i:∀b G' H',fo δ=.ok b->Step G H G' H'->Out K (EX σ) G' H' (k b) Q->P b H'):tDo K EX fo σ H P:=by
 refine⟨G,δ,g,s, ?_⟩;cases e:fo δ with
 |ok w=>rw[e]at h;exact λG' H' st=>i w G' H' e st (Out.mono st h)
 |ex x=>rw[e]at h;exact h
 |no=>rw[e]at h;exact h
def p_9{lo hi:Option Expr}{fl fh:FO}(he:ED X EX e f)(hl:OD X EX lo fl)(hu:OD X EX hi fh):ED X EX (.Subscript e (.Slice lo hi none p2) pos) (Bj f fl fh):=
 PE.imp (cp_1 sl_d he hl hu) λ σ H Q ⟨G,δ,g0,s0,o⟩=>tD.seq g0 s0 o λw v G1 H1 _ st1 r1 o1=>tDo.seq st1.gh (s0.mono st1.gg) o1 λl G2 H2 _ st2 o2=>
  tDo.seq st2.gh (s0.mono (st1.gg.trans st2.gg)) o2 λu G3 H3 _ st3 o3=>⟨_,G3,w.d,st3.gh,r1.mono (st2.gg.trans st3.gg),o3⟩
def tyD(T:String):D->Bool
 | .str _=>T == "str"
 | .int _=>T == "int"
 | .lst _=>T == "list"
 |_=>false
def dw_7{G H:Hp}{T:String}{v:V}{d:D}(g:Same G H)(r:Has K G v d)(h:tyD T d=true):tyV K T v H:=by
 cases r with
 |str x=>exact eq_of_beq h
 |int i=>exact eq_of_beq h
 |lst hq r=>exact .inl ⟨eq_of_beq h,_,g.seq hq⟩
 |_=>cases h
def rDm(K:Frag)(fn:D->AF):V->List V->Hp->VK->Prop:=λx vs H Q=>∃(EX:EXT) (G:Hp) (d:D) (ds:List D),Same G H/\Has K G x d/\HasL K G vs ds/\Out K EX G H (fn d ds) Q
abbrev MtD(X:Cx)(id:String)(fn:D->AF):Prop:=MtR X id (rDm X.K fn)
def eMeth(T:String)(fn:D->AF)(f:FE)(fa:FA):FE:=λ δ=>(f δ).bind λw=>if tyD T w.d=true then(fa δ).bind λds=>fn w.d ds else .no
variable{o:Expr}{name:Str}{zh zf:Pos}{T id:String}{fn:D->AF}
def cc_2(pa:PlainAttrs T)(slot:Slot T name id)(hty:typeOf (.builtin id)=pure (.type "method_descriptor"))(hm:MtD X id fn)(ho:ED X EX o f)(ha:AD X EX (e::es) fa)
  (af:attributeBase o name X.env (eval o X.env)=eval o X.env:=by rfl)
  (az:((backTo zf (starEach (e::es) X.env)).all (λx=> !x.1) && (backToKw zf (keywordEach [] X.env)).all (λx=>x.1.isSome)
   && decide ((e::es).length + ([]:List Keyword).length + (if([]:List Keyword).isEmpty then 0 else 1) < 30))=true:=by rfl)
  (ag:(zh.endLine ==zf.line)=true:=by rfl) (hs:starEach (e::es) X.env=(false,eval e X.env)::starEach es X.env:=by rfl) (aa:(backTo zf (starEach es X.env)).any (·.1)=false:=by rfl):
  ED X EX (.Call (.Attribute o name zh) (e::es) [] zf) (eMeth T fn f fa):=
 PE.imp (cb_4 pa slot hty hm ho ha af az ag hs aa) λ σ H Q ⟨G,δ,g0,s0,o⟩=>tD.seq g0 s0 o λw v G1 H1 _ st1 r1 o1=>by
  split at o1
  ·rename_i ht;exact⟨dw_7 st1.gh r1 ht,tDa.seq st1.gh (s0.mono st1.gg) o1 λds vs G2 H2 _ st2 r2 o2=>⟨_,G2,w.d,ds,st2.gh,r1.mono st2.gg,r2,o2⟩⟩
  ·exact o1.elim
def eMeth0(T:String)(fn:D->AF)(f:FE):FE:=λ δ=>(f δ).bind λw=>if tyD T w.d=true then fn w.d [] else .no
def cc_3{G:Hp}{v:V}{d:D}{vs:List V}{ds:List D}(r:Has K G v d)(rl:HasL K G vs ds){P:Prop}(h:∀x y,v=.str x->d=.str x->vs= [.str y]->ds= [.str y]->P)(n:(∀x y,¬(d=.str x/\ds= [.str y]))->P):P:=by
 by_cases e:∃x y,d=.str x/\ds= [.str y]
 ·obtain⟨x,y,rfl,rfl⟩:=e;cases r;cases rl with
  |cons a t=>cases a;cases t;exact h x y rfl rfl rfl rfl
 ·exact n λx y z=>e ⟨x,y,z⟩
def bq_0:D->List D->R W
 | .str x,[.str y]=> .ok (.sh (.int (Txt.find x y)))
 |_,_=> .no
def cr_5:MtD X "str.find" bq_0:=by
 intro zd s σ H x vs v us Q I rx rv h;obtain⟨EX,G,d,ds,g,r,rl,o⟩:=h;refine cc_3 r rl (λx y e1 e2 e3 e4=> ?_) λn=> ?_
 ·subst e1 e2 e3 e4;obtain⟨t,rfl⟩:=rx;obtain⟨u,rfl,t',rfl⟩:=rv.one;exact SC.find ⟨.int _,H,I.tok _,⟨_,rfl⟩,Cu o g (.int _)⟩
 ·have e:bq_0 d ds=.no:=by
   unfold bq_0
   split
   ·rename_i x y;exact absurd ⟨rfl,rfl⟩ (n x y)
   ·rfl
  rw[e]at o;exact o.elim
def Dj(T:String):D->Option Bool
 | .non=>some false
 | .bl _=>some (T == "bool" || T == "int")
 | .int _=>some (T == "int")
 | .str _=>some (T == "str")
 | .lst _=>some (T == "list")
 | .tup _=>some (T == "tuple")
 |_=>none
def eIs(T:String)(f:FE):FE:=λ δ=>(f δ).bind λw=>match Dj T w.d with
 |some k=> .ok (.sh (.bl k))
 |none=> .no
structure KitT(K:Frag)(T:String):Prop where
 non:kitOne K (.type "NoneType") (.type T)=some false
 bl:kitOne K (.type "bool") (.type T)=some (T == "bool" || T == "int")
 int:kitOne K (.type "int") (.type T)=some (T == "int")
 str:kitOne K (.type "str") (.type T)=some (T == "str")
 lst:kitOne K (.type "list") (.type T)=some (T == "list")
 tup:kitOne K (.type "tuple") (.type T)=some (T == "tuple")
def cr_6{T:String}(k:KitT X.K T):CallR X (.builtin "isinstance") (λxs H Q=>∃G x d b,xs= [x,.ty T]/\Same G H/\Has X.K G x d/\Dj T d=some b/\Q (.bl b) H):=by
 intro zd s σ H xs us Q I rv h;obtain⟨G,x,d,b,rfl,g,r,e,q⟩:=h;obtain⟨u,u2,rfl,r1,r2⟩:=rv.two;cases r2;have fin:∀tk,EP X zd σ Q (.bool b) {s with toks:=tk}:=λtk=>⟨.bl b,H,I.tok _,rfl,q⟩;cases r with
 |non=>cases r1;exact kia_one kitx_none I.kIn True.intro (k.non.trans e) (λz=>nomatch z) fin
 |bl y=>cases r1;exact kia_one kitx_bool I.kIn True.intro (k.bl.trans e) (λz=>nomatch z) fin
 |int i=>obtain⟨t,rfl⟩:=r1;exact kia_one kitx_int I.kIn True.intro (k.int.trans e) (λz=>nomatch z) fin
 |str y=>obtain⟨t,rfl⟩:=r1;exact kia_one kitx_str I.kIn True.intro (k.str.trans e) (λz=>nomatch z) fin
 |lst h r=>
  cases r1;obtain⟨its,_,⟨ob,n,e1,c,_,_⟩,_⟩:=I.list (g.seq h);exact kia_one kitx_list I.kIn ⟨ob,e1,c⟩ (k.lst.trans e) (λz=>nomatch z) fin
 |tup h r=>
  cases r1;obtain⟨its,_,⟨ob,e1,c,_⟩,_⟩:=I.tuple (Same.tupS g h);exact kia_one kitx_tuple I.kIn ⟨ob,e1,c⟩ (k.tup.trans e) (λz=>nomatch z) fin
 |exn0 _ _=>cases e
 |exn1 _ _ _ _ _=>cases e
 |dic _ _ _=>cases e
 |obj _ _ _ _=>cases e
def ag_7{Tn:Str}{T:String}{pp p3:Pos}(k:KitT X.K T)(ha:ED X EX a f)(hm:X.mg "isinstance" =none)(hmT:X.mg Tn=none)(hvT:bootBuiltins Tn=some (.type T))(hg:Gl X "isinstance" :=by rfl)(hgT:Gl X Tn:=by rfl)
  (hn:Tn≠ "__name__" :=by decide) (hdT:AG Tn:=by decide)
  (he:starEach [a,.Name Tn p3] X.env=(false,eval a X.env)::starEach [.Name Tn p3] X.env:=by rfl) (hpl:(backTo pos (starEach [.Name Tn p3] X.env)).any (·.1)=false:=by rfl)
  (hs:starEach [.Name Tn p3] X.env=(false,eval (.Name Tn p3) X.env)::starEach [] X.env:=by rfl):ED X EX (.Call (.Name "isinstance" pp) [a,.Name Tn p3] [] pos) (eIs T f):=
 PE.imp (aa_6 (cr_6 k) hg hm Y1 (h_8 ha (h_8 (ca_7 (v:=.ty T) hgT hmT hvT rfl hn hdT) o_2 hs) he) ⋯ ⋯ he hpl) λ σ H Q ⟨G,δ,g0,s0,o⟩=>tD.seq g0 s0 o λw v G1 H1 _ st1 r1 o1=>by
  split at o1
  ·rename_i b e;exact⟨G1,v,w.d,b,rfl,st1.gh,r1,e,Cu o1 st1.gh (.bl b)⟩
  ·exact o1.elim
end
def av_3(K:Frag):Sp:=λvs H Q _=>∃(a:Addr) (ns:List Int),vs= [.ref a]/\SqL K H a (ns.map V.int)/\ns.length<=63/\∀H',Q (.bl true) H'
theorem cc_4{G:Hp}:∀ns:List Int,HasL K G (ns.map V.int) (ns.map D.int)
 | []=> .nil
 |n::ns=> .cons (.int n) (cc_4 ns)
def dq_2{P:Program}{w:World}{k:Nat}{f:Addr}{x:Str}{F:AF}(h:FnX P w K mg base true k f fd [x] (Bx K 1 F))
  (hF:∀ns:List Int,ns.length<=63->∃v,F [.lst (ns.map D.int)]=.ok v/\v.d=.bl true):FnOk P w K mg base CX0 k f fd [x] (av_3 K):=by
 have hs:∀vs H Q E,av_3 K vs H Q E->Bx K 1 F vs H Q λ_ _ _=>False:=λvs H Q E q=>by
  obtain⟨a,ns,rfl,hS,hl,q⟩:=q;obtain⟨v,e,ev⟩:=hF ns hl;refine⟨rfl,H,[.lst (ns.map D.int)],Same.refl _,.cons (.lst hS (cc_4 ns)) .nil, ?_⟩;rw[e];refine WP.intro λu G' H' st r=> ?_;rw[ev]at r;cases r;exact q H'
 refine⟨λvs H Q E q=>(hs vs H Q E q).1,λA outer s H args us vs Q E hr e0 hb hv q=>Q9 (h.run A outer s H args us vs Q _ (RoomC.of hr) e0 hb hv (hs vs H Q E q)) λr s' hq=> ?_⟩;cases r with
 |error e=>
  obtain⟨a,C,dx,T,H',_,_,_,_,_,_,_,_,_,_,z⟩:=hq;exact z
 |ok fl=>cases fl <;> exact hq
def dw_8{l:PySem.W.OpenLaw}{q:Program}{loose:List Str}{XP:(AB)->Heap->Prop}{YP:World->Heap->Prop}{d:DefRec}{K:Params->Frag}{x:Str}{k:Nat}(hn:l.most=some 63)(hdf:d.params.defaults= [])(hr:Room k callerA)
  (hY:∀(w:World) (h:Heap),YP w h->(K w.params).In h) (hT:∀(w:World) (h:Heap),YP w h->∀c P,PySem.W.tabIn (K w.params) "numbers_by_bucket" =some (c,P)->isCodeTable h P/\h.get? P=some {cls:=.none,data:=.fields #[]}/\(K w.params).lookup P=none)
  (F:∀(w:World) (mg:AB) (fa:Addr) (h:Heap),(K w.params).In h->h.Ns mainGlobals mg->mg d.name=some (.ref fa)->
   ∃fd:FuncData,(∀(s:Shared) (u:Value),BindsTo s fd ⟨[u],[]⟩ [(x,u)])/\∀base:Heap,(K w.params).In base->base.Ns mainGlobals mg->FnOk l.prog w (K w.params) mg base CX0 k fa fd [x] (av_3 (K w.params))):
  PySem.W.WalkO q loose XP YP l.row.toRowW d [] (λf vs=>PySem.call f vs):=
 dc_0 (n:=63) (k:=k) (x:=x) (CX:=λ_=>CX0) (sp:=λw=>av_3 (K w.params)) hn ⋯ hdf hr hY hT F (λ_ _ a ns hl _ hS=>⟨a,ns,rfl,hS,hl,λ_=>rfl⟩) λ_ _ _ _ _ z=>z
def Inv.pair{zd:AE}{σ:Sg}{s:Shared}{e it:Addr}{h':Heap}{tk:Nat}{its:List Value}{vs:List V}(I:Inv X zd σ H s)(fe:Fj X zd H e)(fi:Fj X zd H it)
  (k:∀b o,b≠e->b≠it->s.heap.get? b=some o->h'.get? b=some o) (he:∃o,h'.get? e=some o) (hi:∃o,h'.get? it=some o) (ht:h'.get? s.heap.objs.size=some {cls:=.type "tuple",data:=.seq its.toArray}) (rv:Vals vs its) (hz:vs.length<=sizeLine):
  Inv X zd σ (upd H s.heap.objs.size (.tup vs)) {s with heap:=h',toks:=tk}:=by
 have hn:H s.heap.objs.size=none:=I.hok.fresh (A8 _);obtain⟨e0,e1,e2,e3,e4,e5⟩:=fe;obtain⟨i0,i1,i2,i3,i4,i5⟩:=fi;have neH:∀b u,H b=some u->b≠e/\b≠it:=λb u q=>⟨λz=>(by rw[z,e0]at q;cases q),λz=>(by rw[z,i0]at q;cases q)⟩;have lt:∀b o,s.heap.get? b=some o->b≠s.heap.objs.size:=λb o q=>C1 (A6 q);refine I.step (g':=s.gens) (d':=s.drawn) (ch:=[e,it]) (λb hb=> ?_) (λb o _ _ hc q _=>k b o (λz=>hc (by simp[z])) (λz=>hc (by simp[z])) q)
  (λb o _ _ hc q _=>⟨o.slots,k b o (λz=>hc (by simp[z])) (λz=>hc (by simp[z])) q⟩) (λb o _ q n=>by rw[Ba (lt b o q)];exact n) (λb o hc q=>⟨o,k b o (λz=>hc (by simp[z])) (λz=>hc (by simp[z])) q⟩)
  (λb xs q=>by rw[Ba (Ei q hn)];exact q) (λb o u q=>by rw[Ba (Ei q hn)];exact q) (λb ps q=>⟨#[],by rw[Ba (Ei q hn),q];simp⟩) (λm hm=> ?_) (λb u q=> ?_) I.bare
 ·have hb':b=e\/b=it:=by simpa using hb
  rcases hb' with rfl|rfl
  ·exact⟨e3,e1,e4,e5⟩
  ·exact⟨i3,i1,i4,i5⟩
 ·obtain⟨o,es,ep,ho,r⟩:=hm;exact⟨o,es,ep,k _ o (Ne.symm e1) (Ne.symm i1) ho,r⟩
 ·by_cases z:b=s.heap.objs.size
  ·subst z;rw[Cb]at q;cases q;exact⟨hz,its,rv,⟨_,ht,rfl,0,rfl⟩⟩
  ·rw[Ba z]at q;refine(I.hok b u q).stay (λc v hc r=> ?_) (λc r=>by rw[Ba (Ei r hn)];exact r) (λc xs r=>by rw[Ba (Ei r hn)];exact r) λc o r=>by rw[Ba (Ei r hn)];exact r
   rcases hc with rfl|hc
   ·exact k c v (neH c u q).1 (neH c u q).2 r
   ·exact k c v (neH c _ hc).1 (neH c _ hc).2 r
def Inv.turned2{zd:AE}{σ:Sg}{s:Shared}{e it:Addr}{h':Heap}{tk:Nat}(I:Inv X zd σ H s)(fe:Fj X zd H e)(fi:Fj X zd H it)
  (k:∀b o,b≠e->b≠it->s.heap.get? b=some o->h'.get? b=some o):Inv X zd σ H {s with heap:=h',toks:=tk}:=by
 obtain⟨e0,e1,e2,e3,e4,e5⟩:=fe;obtain⟨i0,i1,i2,i3,i4,i5⟩:=fi;have neH:∀b u,H b=some u->b≠e/\b≠it:=λb u q=>⟨λz=>(by rw[z,e0]at q;cases q),λz=>(by rw[z,i0]at q;cases q)⟩;refine I.step (g':=s.gens) (d':=s.drawn) (ch:=[e,it]) (λb hb=> ?_) (λb o _ _ hc q _=>k b o (λz=>hc (by simp[z])) (λz=>hc (by simp[z])) q)
  (λb o _ _ hc q _=>⟨o.slots,k b o (λz=>hc (by simp[z])) (λz=>hc (by simp[z])) q⟩) (λb o _ q n=>n) (λb o hc q=>⟨o,k b o (λz=>hc (by simp[z])) (λz=>hc (by simp[z])) q⟩)
  (λb xs q=>q) (λb o u q=>q) (λb ps q=>⟨#[],by rw[q];simp⟩) (λm hm=> ?_) (λb u q=> ?_) I.bare
 ·have hb':b=e\/b=it:=by simpa using hb
  rcases hb' with rfl|rfl
  ·exact⟨e3,e1,e4,e5⟩
  ·exact⟨i3,i1,i4,i5⟩
 ·obtain⟨o,es,ep,ho,r⟩:=hm;exact⟨o,es,ep,k _ o (Ne.symm e1) (Ne.symm i1) ho,r⟩
 ·refine(I.hok b u q).stay (λc v hc r=> ?_) (λc r=>r) λc xs r=>r;rcases hc with rfl|hc
  ·exact k c v (neH c u q).1 (neH c u q).2 r
  ·exact k c v (neH c _ hc).1 (neH c _ hc).2 r
def enL(K:Frag)(l:Addr):It:=
 ⟨λi H=>∃xs x,SqL K H l xs/\xs[i]? =some x,λi H v H'=>∃p,H p=none/\v=.ref p/\∀xs x,SqL K H l xs->xs[i]? =some x->H'=upd H p (.tup [.int (i:Int),x]),λi H=>∃xs,SqL K H l xs/\xs.length=i⟩
def enS(z:Str):It:=
 ⟨λi _=>i < z.cps.size,λi H v H'=>∃p c,H p=none/\v=.ref p/\z.cps[i]? =some c/\H'=upd H p (.tup [.int (i:Int),.str ⟨#[c]⟩]),λi _=>i=z.cps.size⟩
def cr_7{P:Program}{w:World}{elts:List Expr}{x1:Nat}(e it l:Addr)(hei:e≠it):Turn P w K (.Tuple elts x1 pos) (enL K l) [e,it] e (λi h=>(∃old,IsEnum h e it (i:Int) old)/\h.IsListIter it l i) where
 mem:=by simp
 obj:=λi h st b hb=>by
  have hb':b=e\/b=it:=by simpa using hb
  rcases hb' with rfl|rfl
  ·obtain⟨⟨old,q⟩,_⟩:=st;exact⟨_,q,λv z=>by cases z⟩
  ·obtain⟨_,⟨o,q,c,d⟩⟩:=st;exact⟨o,q,λv z=>by rw[d]at z;cases z⟩
 keep:=λi h h' st k=>by
  obtain⟨⟨old,q⟩,r⟩:=st;exact⟨⟨old,k e (by simp) _ q⟩,r.at λo z=>k it (by simp) o z⟩
 item:=by
  intro X hP hw hK hc i zd s σ H E I hf st hg;subst hP hw hK;obtain⟨xs,x,hq,hx⟩:=hg;obtain⟨its,rv,p,hz⟩:=I.list hq;obtain⟨u,hu,ru⟩:=rv.get hx;obtain⟨⟨old,he⟩,hit⟩:=st;have fe:=hf e (by simp);have fi:=hf it (by simp);have pl:=p.isList;have nle:l≠e:=λz=>by
   subst z;obtain⟨o,ho,hc',_⟩:=pl;rw[show s.heap.get? l=_ from he]at ho;cases ho;exact absurd hc' (by simp)
  have nli:l≠it:=λz=>by
   subst z;obtain⟨o,ho,hc',_⟩:=pl;obtain⟨o',ho',hc2,_⟩:=hit;rw[ho]at ho';cases ho';rw[hc']at hc2;exact absurd hc2 (by simp)
  have hlt:i < its.toArray.size:=by
   have:=(A9.mp hu).1;simpa using this
  refine ZB3 (Draws.list (A:=X.A.in1) (I.ok.hd hc) it l nli its.toArray) he ⟨hit,pl⟩ hlt hei (by simp[hei,Ne.symm nle]) λy h' tk hy ho hst cw hsz kk=> ?_;have ey:y=u:=by
   have:its.toArray[i]? =some u:=by simpa using hu
   rw[this]at hy;exact(K2 hy).symm
  subst ey;refine⟨_,rfl,Z2 ho λh'' cg sb=> ?_⟩;have bo:∃old,IsEnum h'' e it ((i + 1:Nat):Int) old:=⟨_,by
   have e1:((i + 1:Nat):Int)=(i:Int) + 1:=by omega
   rw[e1];exact cg⟩
  refine⟨.ref s.heap.objs.size,upd H s.heap.objs.size (.tup [.int (i:Int),x]), ?_,rfl,⟨_,I.hok.fresh (A8 _),rfl,λys y' hy' ey'=> ?_⟩,⟨bo, ?_⟩,λb hb=> ?_⟩
  ·have ne:s.heap.objs.size≠e:=λz=>absurd (A6 he) (by rw[<-z];exact D7 _);refine Inv.pair (its:=[.int (i:Int) tk,y]) I fe fi (λb o h1 h2 q=>(sb.2 b h1).trans (kk b o h1 h2 q)) ⟨_,cg⟩ ?_ ((sb.2 _ ne).trans cw) (.cons ⟨_,rfl⟩ (.cons ru .nil)) (by show 2<=sizeLine;decide);obtain⟨⟨o,q,_⟩,_⟩:=hst;exact⟨o,(sb.2 it (Ne.symm hei)).trans q⟩
  ·have:=I.list_inj hy' hq;subst this;rw[hx]at ey';cases ey';rfl
  ·exact hst.1.at λo z=>(sb.2 it (Ne.symm hei)).trans z
  ·have hb':b=e\/b=it:=by simpa using hb
   have hbl:b < s.heap.objs.size:=by
    rcases hb' with rfl|rfl
    ·exact A6 he
    ·obtain⟨o,q,_⟩:=hit;exact A6 q
   rw[Ba (C1 hbl)];exact(hf b hb).1
 done:=by
  intro X hP hw hK hc i zd s σ H E I hf st hg;subst hP hw hK;obtain⟨xs,hq,hx⟩:=hg;obtain⟨its,rv,p,hz⟩:=I.list hq;obtain⟨⟨old,he⟩,hit⟩:=st;have hl:=rv.length;have pl:=p.isList;have nli:l≠it:=λz=>by
   subst z;obtain⟨o,ho,hc',_⟩:=pl;obtain⟨o',ho',hc2,_⟩:=hit;rw[ho]at ho';cases ho';rw[hc']at hc2;exact absurd hc2 (by simp)
  have en:i=its.toArray.size:=by simp;omega
  refine ZC6 (Draws.list (A:=X.A.in1) (I.ok.hd hc) it l nli its.toArray) he (by rw[<-en];exact⟨hit,pl⟩) λh' eb=>⟨rfl, ?_⟩;exact Inv.turned2 (tk:=s.toks) I (hf e (by simp)) (hf it (by simp)) λb o h1 h2 q=>eb b o h2 q
 self:=λA i s Q E st h=>by
  obtain⟨⟨old,he⟩,_⟩:=st;exact V9 he h
def be_1{prog:Program}{w:World}{A:Around}(hh:A.handled=none)(it:Addr)(x:Str)(t:Tok):
  Draws prog w A it [it] x.cps.size (λi v=>∃c u,x.cps[i]? =some c/\v=.str ⟨#[c]⟩ u) (λi h=>h.IsStrIter it (strIterType x) x t i):=by
 unfold strIterType;cases ha:x.cps.all (· < 128)
 ·exact Draws.strWide hh it x t
 ·exact Draws.strAscii hh it x t
def cr_8{P:Program}{w:World}{elts:List Expr}{x1:Nat}(e it:Addr)(z:Str)(t:Tok)(hei:e≠it):Turn P w K (.Tuple elts x1 pos) (enS z) [e,it] e (λi h=>(∃old,IsEnum h e it (i:Int) old)/\h.IsStrIter it (strIterType z) z t i) where
 mem:=by simp
 obj:=λi h st b hb=>by
  have hb':b=e\/b=it:=by simpa using hb
  rcases hb' with rfl|rfl
  ·obtain⟨⟨old,q⟩,_⟩:=st;exact⟨_,q,λv z=>by cases z⟩
  ·obtain⟨_,⟨o,q,c,d⟩⟩:=st;exact⟨o,q,λv z=>by rw[d]at z;cases z⟩
 keep:=λi h h' st k=>by
  obtain⟨⟨old,q⟩,⟨o,r,c⟩⟩:=st;exact⟨⟨old,k e (by simp) _ q⟩,⟨o,k it (by simp) o r,c⟩⟩
 item:=by
  intro X hP hw hK hc i zd s σ H E I hf st hg;subst hP hw hK;obtain⟨⟨old,he⟩,hit⟩:=st;have fe:=hf e (by simp);have fi:=hf it (by simp);refine ZB3 (be_1 (A:=X.A.in1) (I.ok.hd hc) it z t) he hit hg hei (by simp[hei]) λy h' tk hy ho hst cw hsz kk=> ?_;obtain⟨c,uc,hcx,rfl⟩:=hy;refine⟨_,rfl,Z2 ho λh'' cg sb=> ?_⟩;have bo:∃old,IsEnum h'' e it ((i + 1:Nat):Int) old:=⟨_,by
   have e1:((i + 1:Nat):Int)=(i:Int) + 1:=by omega
   rw[e1];exact cg⟩
  refine⟨.ref s.heap.objs.size,upd H s.heap.objs.size (.tup [.int (i:Int),.str ⟨#[c]⟩]), ?_,rfl,⟨_,c,I.hok.fresh (A8 _),rfl,hcx,rfl⟩,⟨bo, ?_⟩,λb hb=> ?_⟩
  ·have ne:s.heap.objs.size≠e:=λz=>absurd (A6 he) (by rw[<-z];exact D7 _);refine Inv.pair (its:=[.int (i:Int) tk,.str ⟨#[c]⟩ uc]) I fe fi (λb o h1 h2 q=>(sb.2 b h1).trans (kk b o h1 h2 q)) ⟨_,cg⟩ ?_ ((sb.2 _ ne).trans cw) (.cons ⟨_,rfl⟩ (.cons ⟨_,rfl⟩ .nil)) (by show 2<=sizeLine;decide);obtain⟨o,q,_⟩:=hst;exact⟨o,(sb.2 it (Ne.symm hei)).trans q⟩
  ·obtain⟨o,q,r⟩:=hst;exact⟨o,(sb.2 it (Ne.symm hei)).trans q,r⟩
  ·have hb':b=e\/b=it:=by simpa using hb
   have hbl:b < s.heap.objs.size:=by
    rcases hb' with rfl|rfl
    ·exact A6 he
    ·obtain⟨o,q,_⟩:=hit;exact A6 q
   rw[Ba (C1 hbl)];exact(hf b hb).1
 done:=by
  intro X hP hw hK hc i zd s σ H E I hf st hg;subst hP hw hK;obtain⟨⟨old,he⟩,hit⟩:=st;have en:i=z.cps.size:=hg;refine ZC6 (be_1 (A:=X.A.in1) (I.ok.hd hc) it z t) he (by rw[<-en];exact hit) λh' eb=>⟨rfl, ?_⟩;exact Inv.turned2 (tk:=s.toks) I (hf e (by simp)) (hf it (by simp)) λb o h1 h2 q=>eb b o h2 q
 self:=λA i s Q E st h=>by
  obtain⟨⟨old,he⟩,_⟩:=st;exact V9 he h
def Eo(k:Nat):List D->List D
 | []=> []
 |d::ds=> .tup [.int (k:Int),d]::Eo (k + 1) ds
theorem q_7:∀{ds:List D} {k i:Nat} {d:D},(Eo k ds)[i]? =some d->∃d',ds[i]? =some d'/\d=.tup [.int ((k + i:Nat):Int),d']
 | [],_,_,_,h=>by simp[Eo]at h
 |x::ds,k,0,d,h=>by simp[Eo]at h;exact⟨x,rfl,h.symm⟩
 |x::ds,k,i + 1,d,h=>by
  obtain⟨d',e1,e2⟩:=q_7 (ds:=ds) (k:=k + 1) (i:=i) (by simpa[Eo] using h);exact⟨d',by simpa using e1,by rw[e2,show k + 1 + i=k + (i + 1) by omega]⟩
theorem al_7:∀(ds:List D) (k:Nat),(Eo k ds).length=ds.length
 | [],_=>rfl
 |_::ds,k=>by simp[Eo,al_7 ds (k + 1)]
def av_4:D->R (List D)
 | .lst ds=> .ok (Eo 0 ds)
 | .str x=> .ok (Eo 0 (r_8 x))
 |_=> .no
def t_5(f:FE):FI:=λ δ=>(f δ).bind λw=>av_4 w.d
section
variable{X:Cx}{EX:Bb}{a:Expr}{f:FE}{elts:List Expr}{x1:Nat}{tp p pos:Pos}
def iEn(K:Frag)(t:TA):TI:=λ σ H Q=>t σ H λvs H1=>(∃l,vs= [.ref l]/\(∃xs,SqL K H1 l xs)/\Q (enL K l) H1)\/(∃z,vs= [.str z]/\Q (enS z) H1)
def dd_8{ta:TA}(hg:Gl X "enumerate")(hm:X.mg "enumerate" =none)(ha:PA X [a] ta)(hs:starEach [a] X.env= [(false,eval a X.env)]:=by rfl):PI X (.Tuple elts x1 tp) (.Call (.Name "enumerate" p) [a] [] pos) (iEn X.K ta):=by
 intro zd s σ H Q I h;refine Call_ (r_3 I hg hm PyProof.Rows.boot_enumerate (G6 (Be (ha pos zd s σ H _ I h) λus s1 ⟨vs,H1,I1,r1,q1⟩=> ?_) hs rfl));rcases q1 with⟨l,rfl,⟨xs,hq⟩,q⟩|⟨z,rfl,q⟩
 ·obtain⟨u,rfl,ru⟩:=r1.one;cases ru;obtain⟨its,rv,pl,hz⟩:=I1.list hq;refine call_enumerate_list pl.isList λh' he hit hsz kk=>V9 he ?_;refine⟨s1.heap.objs.size + 1,[s1.heap.objs.size + 1,s1.heap.objs.size],_,enL X.K l,H1,rfl,I1.kept (t':=s1.toks) kk,cr_7 _ _ l (Nat.succ_ne_self _),⟨⟨_,he⟩,hit⟩,λb hb=> ?_,q⟩;have hb':b=s1.heap.objs.size + 1\/b=s1.heap.objs.size:=by simpa using hb
  have hbl:s1.heap.objs.size<=b:=by
   rcases hb' with rfl|rfl
   ·exact P6 _
   ·exact A8 _
  exact I1.fpOk hbl (I1.hok.fresh hbl)
 ·obtain⟨u,rfl,t,rfl⟩:=r1.one;refine call_enumerate_str λh' he hit hsz kk=>V9 he ?_;refine⟨s1.heap.objs.size + 1,[s1.heap.objs.size + 1,s1.heap.objs.size],_,enS z,H1,rfl,I1.kept (t':=s1.toks) kk,cr_8 _ _ z t (Nat.succ_ne_self _),⟨⟨_,he⟩,hit⟩,λb hb=> ?_,q⟩;have hb':b=s1.heap.objs.size + 1\/b=s1.heap.objs.size:=by simpa using hb
  have hbl:s1.heap.objs.size<=b:=by
   rcases hb' with rfl|rfl
   ·exact P6 _
   ·exact A8 _
  exact I1.fpOk hbl (I1.hok.fresh hbl)
def dd_9{G:Hp}{l:Addr}{vs:List V}{ds:List D}(h:SqL K G l vs)(r:HasL K G vs ds):ItD K G (enL K l) (Eo 0 ds):=λG' H g1 g i=>by
 refine⟨λd e=> ?_,λe=> ?_⟩
 ·obtain⟨d',e1,rfl⟩:=q_7 e;obtain⟨v,e2,hv⟩:=r.get e1;refine⟨⟨vs,v,(g1.trans g).seq h,e2⟩,λx H' y=> ?_⟩;obtain⟨p,hp,rfl,y⟩:=y;have:=y vs v ((g1.trans g).seq h) e2;subst this;refine⟨_,Step.new g hp _,.tup (SqT.of Cb) (.cons (by rw[N6];exact .int _) (.cons (hv.mono (g1.trans (j_6 (g.free hp) _))) .nil))⟩
 ·rw[al_7]at e;exact⟨vs,(g1.trans g).seq h,by rw[r.length];exact e⟩
def de_0{G:Hp}(z:Str):ItD K G (enS z) (Eo 0 (r_8 z)):=λG' H g1 g i=>by
 refine⟨λd e=> ?_,λe=> ?_⟩
 ·obtain⟨d',e1,rfl⟩:=q_7 e;unfold r_8 at e1;rw[B4]at e1;cases q:z.cps.toList[i]? with
  |none=>rw[q]at e1;cases e1
  |some c=>
   rw[q]at e1;cases e1;have hi:i < z.cps.size:=by
    have:=(A9.mp q).1;simpa using this
   refine⟨hi,λx H' y=> ?_⟩;obtain⟨p,c',hp,rfl,hc,rfl⟩:=y;have:z.cps.toList[i]? =some c':=by simpa using hc
   rw[q]at this;cases this;refine⟨_,Step.new g hp _,.tup (SqT.of Cb) (.cons (by rw[N6];exact .int _) (.cons (.str _) .nil))⟩
 ·rw[al_7]at e;unfold r_8 at e;rw[A4]at e;show i=z.cps.size;simp at e;omega
def ar_8(hm:X.mg "enumerate" =none)(he:ED X EX a f)(hg:Gl X "enumerate" :=by rfl)(hs:starEach [a] X.env= [(false,eval a X.env)]:=by rfl)(hs1:starEach [a] X.env=(false,eval a X.env)::starEach [] X.env:=by rfl):
  ID X EX (.Tuple elts x1 tp) (.Call (.Name "enumerate" p) [a] [] pos) (t_5 f):=
 PI.imp (dd_8 hg hm (h_8 he o_2 hs1) hs) λ σ H Q ⟨G,δ,g0,s0,o⟩=>by
  refine⟨G,δ,g0,s0, ?_⟩;unfold t_5 at o;cases e1:f δ with
  |ok w=>
   rw[e1]at o;simp only[R.bind_ok]at o;refine WP.intro λv G' H' st r=> ?_;revert r o;cases w.d with
   |lst ds=>
    intro o r;cases r with
    |lst h r=>exact .inl ⟨_,rfl,⟨_,st.gh.seq h⟩,o _ G' H' st (dd_9 h r)⟩
   |str z=>
    intro o r;cases r;exact .inr ⟨z,rfl,o _ G' H' st (de_0 z)⟩
   |_=>intro o _;exact False.elim o
  |ex x=>rw[e1]at o;exact o
  |no=>rw[e1]at o;exact o
end
def Itr3(lo c:Int)(n:Nat):It:=⟨λi _=>i < n,λi H x H'=>H'=H/\x=.int (lo + (i:Int) * c),λi _=>n<=i⟩
def ao_1{P:Program}{w:World}{tg:Expr}(it:Addr)(lo c:Int)(n:Nat):Turn P w K tg (Itr3 lo c n) [it] it (λi h=>IsRangeIter h it (lo + (i:Nat) * c) ((n:Int) - (i:Nat)) c) where
 mem:=by simp
 obj:=λi h st b hb=>by
  have e:b=it:=by simpa using hb
  subst e;exact⟨_,st,λv z=>by
   have z':Data.fields _=Data.cell v:=z;cases z'⟩
 keep:=λi h h' st k=>k it (by simp) _ st
 item:=by
  intro X hP hw hK hc i zd s σ H E I hf st hg;subst hP hw hK;obtain⟨f0,f1,f2,f3,f4,f5⟩:=hf it (by simp);have W:=Walks.range (prog:=X.prog) (w:=X.w) (I.ok.hd hc) it lo c n;refine W.item i s _ _ hg st λv h' tk hv st' kk=> ?_;obtain⟨t,rfl⟩:=hv;have I1:Inv X zd σ H {s with heap:=h',toks:=tk}:=I.turned (λb o hb e=>kk b o (by simpa using hb) e) f0 f1 f3 f4 f5;exact⟨_,rfl,bc_0 (s:={s with heap:=h',toks:=tk}) (n:= "range_iterator") st' rfl rfl ⋯ ⟨.int (lo + (i:Int) * c),H,I1,⟨t,rfl⟩,⟨rfl,rfl⟩,st',λb hb=>(hf b hb).1⟩⟩
 done:=by
  intro X hP hw hK hc i zd s σ H E I hf st hg;subst hP hw hK;obtain⟨f0,f1,f2,f3,f4,f5⟩:=hf it (by simp);exact ZC0 (I.ok.hd hc) st (by have:n<=i:=hg;omega) λh' eb=>⟨rfl,I.turned (t':=s.toks) (λb o hb e=>eb b o hb e) f0 f1 f3 f4 f5⟩
 self:=λ_ _ _ _ _ st h=>ZC1 st h
def C3(i j c:Int):Prop:=0<=i/\i.natAbs < 1073741824/\j.natAbs < 1073741824/\0 < c/\c.natAbs < 1073741824
instance (i j c:Int):Decidable (C3 i j c):=by unfold C3;exact inferInstance
section
variable{X:Cx}{EX:Bb}{tg a b c:Expr}{fa:FA}{ta:TA}{p pos:Pos}
def y_5(lo c:Int)(n:Nat):List D:=(List.range n).map λ(k:Nat)=>D.int (lo + (k:Int) * c)
def av_5{lo c:Int}{n i:Nat}{d:D}(h:(y_5 lo c n)[i]? =some d):i < n/\d=.int (lo + (i:Int) * c):=by
 unfold y_5 at h;rw[B4]at h
 by_cases hi:i < n
 ·rw[F3 hi]at h;cases h;exact⟨hi,rfl⟩
 ·rw[D9 (by rw[K4];omega)]at h;cases h
def av_6(lo c:Int)(n:Nat):(y_5 lo c n).length=n:=by unfold y_5;rw[A4,K4]
end
section
variable{X:Cx}{EX:Bb}{a:Expr}{f:FE}{pos:Pos}
def negD:D->R W
 | .int i=> .ok (.sh (.int (-i)))
 |_=> .no
def eNeg(f:FE):FE:=λ δ=>(f δ).bind λw=>negD w.d
def dq_4(ha:ED X EX a f):ED X EX (.UnaryOp .USub a pos) (eNeg f):=
 PE.imp (du_7 dn_8 ha) λ σ H Q ⟨G,δ,g0,s0,o⟩=>tD.seq g0 s0 o λw v G1 H1 _ st1 r1 o1=>by
  revert r1 o1;cases w.d with
  |int i=>intro r1 o1;cases r1;exact⟨i,rfl,Cu o1 st1.gh (.int _)⟩
  |_=>intro _ o1;exact False.elim o1
def ab_4:List D->Option (List Bool)
 | []=>some []
 | .bl b::ds=>(ab_4 ds).map (b:: ·)
 |_=>none
def allD:List D->R W
 | [.lst ds]=>match ab_4 ds with
  |some bs=> .ok (.sh (.bl (bs.all id)))
  |none=> .no
 |_=> .no
theorem bq_1{G:Hp}:∀{vs:List V} {ds:List D} {us:List Value} {bs:List Bool},HasL K G vs ds->Vals vs us->ab_4 ds=some bs->us=bs.map Value.bool
 |_,_,_,_,.nil,r,e=>by cases r;cases e;rfl
 |_,_,_,_,.cons h t,r,e=>by
  cases r with
  |cons r1 r2=>
   cases h with
   |bl x=>
    cases r1;simp only[ab_4]at e;obtain⟨zs,q,rfl⟩:=N5.mp e;rw[B2,bq_1 t r2 q]
   |_=>cases e
def cj_1(bs:List Bool):(List.range bs.length).all (λi=>bs.getD i true)=bs.all id:=by
 rw[P1,F4,F4];constructor
 ·intro h b hb;obtain⟨i,hi,e⟩:=R7 hb;have:=h i (J8.mpr hi);simp[hi]at this;rw[<-e];exact this
 ·intro h i hi;have hi:=J8.mp hi;simp[hi];exact h _ (R9 hi)
def cj_2(hc:X.calm=true):Gf X (.builtin "all") allD:=by
 intro zd s σ H vs us Q I rv q;obtain⟨EX,G,ds,g,r,o⟩:=q;cases r with
 |nil=>exact False.elim o
 |cons h t=>
  cases t with
  |cons _ _=>cases h <;> exact False.elim o
  |nil=>
   cases h with
   |lst h r=>
    rename_i l _ _;simp only[allD]at o
    split at o
    ·rename_i bs e;obtain⟨u,rfl,ru⟩:=rv.one;cases ru;obtain⟨its,rv',pl,hz⟩:=I.list (g.seq h);have eb:=bq_1 r rv' e;subst eb;have nl:l≠s.heap.objs.size:=λz=>by
      obtain⟨o',ho,_⟩:=pl.isList;exact absurd (A6 ho) (by rw[<-z];exact D7 _)
     refine call_all_walk (T6 pl.isList ⟨s.heap.objs.size,_,_,_,_,_,λi=>bs.getD i true,rfl,Walks.list (A:=X.A.in1) (I.ok.hd hc) s.heap.objs.size l nl (bs.map Value.bool).toArray,⟨⟨_,B7 _ rfl,rfl,rfl⟩, ?_⟩,λi v s' Q' E' hP hQ=> ?_,λh' tk kk=> ?_⟩)
     ·exact pl.isList.at λo z=>A5 _ z
     ·have hP':(bs.map Value.bool)[i]? =some v:=by simpa using hP
      rw[B4]at hP';cases q:bs[i]? with
      |none=>rw[q]at hP';cases hP'
      |some b=>
       rw[q]at hP';cases hP';have:bs.getD i true=b:=by simp[List.getD,q]
       dsimp only at hQ;rw[this]at hQ;exact Q5 hQ
     ·have en:(bs.map Value.bool).toArray.size=bs.length:=by simp
      rw[en,cj_1];refine⟨.bl _,H,I.kept (t':=tk) λb o' z=>kk b o' (by
       have hb:b≠s.heap.objs.size:=C1 (A6 z);simpa using hb) (A5 _ z),rfl,Cu o g (.bl _)⟩
    ·exact o.elim
   |_=>exact False.elim o
def ag_8:D->List D->R W
 | .str x,[.str y]=>match Builtin.Str.occurrences x y 0 x.length 1 with
  |i::_=> .ok (.sh (.int (i:Nat)))
  | []=> .no
 |_,_=> .no
def cj_3:MtD X "str.index" ag_8:=by
 intro zd s σ H x vs v us Q I rx rv h;obtain⟨EX,G,d,ds,g,r,rl,o⟩:=h;refine cc_3 r rl (λx y e1 e2 e3 e4=> ?_) λn=> ?_
 ·subst e1 e2 e3 e4;obtain⟨t,rfl⟩:=rx;obtain⟨u,rfl,t',rfl⟩:=rv.one;simp only[ag_8]at o
  split at o
  ·rename_i i x_7 e;exact SC.index e ⟨.int _,H,I.tok _,⟨_,rfl⟩,Cu o g (.int _)⟩
  ·exact o.elim
 ·have e:ag_8 d ds=.no:=by
   unfold ag_8
   split
   ·rename_i x y;exact absurd ⟨rfl,rfl⟩ (n x y)
   ·rfl
  rw[e]at o;exact o.elim
end
section
variable{prog:Program}{w:World}{A:Around}{E:AA}{s:Shared}
def ai_5{env:Env}{elts:List Expr}{x1}{t:Addr}{items:Array Value}{Q:Unit->Shared->Prop}(hh:A.handled=none)(ht:s.heap.IsList t items)
  (hn:(assignEach elts env).length=items.size) (dm:(assignEach elts env).findIdx? (·.1)=none)
  (h:∀h',Heap.ExtBut s.heap.objs.size s.heap h'->wpAny (model prog w) A (assignInOrder ((assignEach elts env).map (·.2)) items.toList) Q E {s with heap:=h'}):
  wpAny (model prog w) A (assign (.Tuple elts x1 pos) env (.ref t)) Q E s:=by
 rw[assign_Tuple,unpack,hn,dm];exact A3 (P4 (A3 (L4 (kun_itemsOf hh ht h))))
end
section
variable{X:Cx}{EX:Bb}{pos:Pos}
def gSeq(K:Frag)(n:Nat)(t:TGs):TG:=λv σ H Q=>∃a xs,v=.ref a/\(SqT K H a xs\/SqL K H a xs)/\xs.length=n/\t xs σ H Q
def dq_5{es:List Expr}{k:Nat}{t:TGs}{n:Nat}(hc:X.calm=true)(h:PGs X es t)
  (hn:(assignEach es X.env).length=n:=by rfl) (hst:(assignEach es X.env).findIdx? (·.1)=none:=by rfl):PG X (.Tuple es k pos) (gSeq X.K n t):=by
 intro zd s σ H v u Q I r hw;obtain⟨a,xs,e1,hq,hl,hw⟩:=hw;rcases hq with hq|hq
 ·exact cn_8 hc h hn hst zd s σ H v u Q I r ⟨a,xs,e1,hq,hl,hw⟩
 ·subst e1;cases r;obtain⟨its,rv,ht,hz⟩:=I.list hq;refine ai_5 (I.ok.hd hc) ht.isList (by simp[hn,<-hl,rv.length]) hst λh' hx=> ?_;have I1:Inv X zd σ H {s with heap:=h'}:=I.kept (t':=s.toks) λb o e=>hx b o (C1 (A6 e)) e;exact h zd _ σ H xs _ Q I1 (by simpa using rv) hw
def HasS.skip{G:Hp}{σ:Sg}{δ:DE}{v:V}{i:Nat}(h:HasS K G σ δ)(e:δ[i]? =some none):HasS K G (σ.set i (some v)) δ:=by
 refine⟨by rw[J7];exact h.len,λj d' e'=> ?_⟩;obtain⟨v',e1,r'⟩:=h.get j d' e';refine⟨v', ?_,r'⟩;rw[C9]
 ·exact e1
 ·rintro rfl
  rw[e]at e';cases e'
end
section
variable{X:Cx}{EX:Bb}
def nonB:D->Bool
 | .non=>true
 |_=>false
def Ee(neg:Bool):D->D->R W
 |d,.non=> .ok (.sh (.bl (if neg then !nonB d else nonB d)))
 |_,_=> .no
def dq_6{G:Hp}{v:V}{d:D}(r:Has K G v d):decide (v=.non)=nonB d:=by
 cases r <;> rfl
def y_6:Fg X (compareOp .Is) (Ee false):=by
 intro zd s σ H x y v u Q I rx ry q;obtain⟨EX,G,a,b,g,ra,rb,o⟩:=q;cases rb with
 |non=>exact dn_9 zd s σ H _ _ _ _ Q I rx ry ⟨rfl,by rw[dq_6 ra];exact Cu o g (.bl _)⟩
 |_=>exact False.elim o
def repS(x:Str)(n:Nat):Str:=⟨(List.replicate n x.cps).foldl (· ++ ·) #[]⟩
def av_7(x:Str)(n:Nat):(repS x n).length=n * x.length:=by
 have all:∀(m:Nat) (a:Array Nat),((List.replicate m x.cps).foldl (· ++ ·) a).size=a.size + m * x.cps.size:=by
  intro m
  induction m with
  |zero=>intro a;simp
  |succ m ih=>intro a;rw[K1,U8,ih,Array.size_append,ZE4];omega
 show((List.replicate n x.cps).foldl (· ++ ·) #[]).size=n * x.cps.size;rw[all];simp
def bq_2(i:Nat)(fi fe:FE):FS:=λ Δ=>match Δ[i]? with
 |some (.ow (.lst ds))=>(match fe (Ax Δ) with
  | .ok w=>if Bk w.d=true then(match fi (Ax Δ) with
   | .ok z=>(match z.d with
    | .int k=>(match ixN ds.length k with
     |some j=> .nx (Δ.set i (.ow (.lst (ds.set j w.d))))
     |none=> .no)
    |_=> .no)
   |_=> .no) else .no
  |_=> .no)
 |_=> .no
def de_1{i:Nat}{x:Str}{e ie:Expr}{fe fi:FE}{p1 zi pos:Pos}(he:ED X EX e fe)(hi:ED X EX ie fi)(hN:X.N[i]? =some x:=by rfl)(hv:Vis X.env.scope x:=by trivial)(hd:AG x:=by decide)
  (hcd:(x ==("__classdict__" :Str))=false:=by decide)
  (ha:∀v,assign (.Subscript (.Name x p1) ie zi) X.env v=(do
   let ov<-holding [v] (eval (.Name x p1) X.env)
   let iv<-holding [v,ov] (eval ie X.env)
   standAt zi
   holding [v,ov,iv] (setItem ov iv v)
   release [v,ov,iv] []):=by intro _;rfl)
  (hs:swapsWithSole [.Subscript (.Name x p1) ie zi] e pos.line X.env=pure false:=by rfl) (hw:swappedStores [.Subscript (.Name x p1) ie zi] e X.env=pure none:=by rfl)
  (h1:(assignEach [.Subscript (.Name x p1) ie zi] X.env).map (·.2)= [assign (.Subscript (.Name x p1) ie zi) X.env]:=by rfl):
  SD X EX (.Assign [.Subscript (.Name x p1) ie zi] e pos) (bq_2 i fi fe):=
 PS.imp (cn_9 he (dm_9 (o_1 hN hv hd hcd) hi cp_3 ha) hs hw h1) λD σ H ⟨H0,G0,G,Δ,O,E,q⟩=>by
  unfold bq_2 at q
  split at q
  ·rename_i ds e1;obtain⟨v0,s1,t⟩:=E.ow i _ _ e1 rfl;obtain⟨a,vs,rfl,m,hH,rl⟩:=t.list_of
   ·skip
    refine⟨Db G H O,Ax Δ,E.aH,E.gall, ?_⟩;cases e2:fe (Ax Δ) with
    |ex x=>rw[e2]at q;exact q.elim
    |no=>rw[e2]at q;exact q.elim
    |ok w=>
     simp only[e2]at q
     split at q
     ·rename_i fl;refine WP.intro λv G' H' st r=> ?_;have E1:=E.keep st.hh;refine⟨.ref a,s1,Db G H' O,Ax Δ,E1.aH,E1.gall, ?_⟩;cases e3:fi (Ax Δ) with
      |ex x=>simp only[e3]at q;exact q.elim
      |no=>simp only[e3]at q;exact q.elim
      |ok z=>
       simp only[e3]at q;refine WP.intro λv2 G2 H2 st2 r2=> ?_;revert q r2;cases z.d with
       |int k=>
        intro q r2;cases r2;cases e4:ixN ds.length k with
        |none=>simp only[e4]at q;exact q.elim
        |some j=>
         simp only[e4]at q;have hH2:H2 a=some (.lst vs):=st2.hh _ _ (st.hh _ _ hH);refine⟨a,vs,k,j,rfl,rfl,hH2,by rw[rl.length];exact e4, ?_⟩;exact q σ G _ _ ((E1.keep st2.hh).writeL s1 m (HasL.set (r.ofFl fl) j rl)) (Same.refl _)
       |_=>intro q _;exact False.elim q
     ·exact q.elim
  ·exact q.elim
end
section
variable{X:Cx}{EX:Bb}{tg a b:Expr}{f g:FE}{fa:FA}{p pos:Pos}
theorem HasL.rep{G:Hp}{vs:List V}{ds:List D}(r:HasL K G vs ds):∀n:Nat,HasL K G (List.replicate n vs).flatten (List.replicate n ds).flatten
 |0=> .nil
 |n + 1=>by rw[K1,K1,Q8,Q8];exact r.append (HasL.rep r n)
def repD(ds:List D):D->R W
 | .int k=>if k.natAbs < 4611686018427387904/\ds.length * k.toNat<=16777216 then .ok (.ow (.lst (List.replicate k.toNat ds).flatten)) else .no
 |_=> .no
def eRep(fa:FA)(f:FE):FE:=λ δ=>(fa δ).bind λds=>if ds.length<=16777216 then(f δ).bind λw=>repD ds w.d else .no
def cs_0{es:List Expr}{iz:Pos}(ha:AD X EX es fa)(hb:ED X EX b f):ED X EX (.BinOp (.List es iz) .Mult b pos) (eRep fa f):=
 PE.imp (dj_6 do_8 (bx_1 ha) hb) λ σ H Q ⟨G,δ,g0,s0,o⟩=>tDa.seq g0 s0 o λds vs G' H' _ st r o'=>by
  split at o'
  ·rename_i hz;refine⟨by rw[r.length,D5];exact hz,λq hq=> ?_⟩;have so:=Step.own st.gh hq (.lst vs);refine tD.seq so.gh (s0.mono st.gg) (Out.mono so o') λw v G2 H2 _ st2 r2 o2=> ?_;revert r2 o2;cases w.d with
   |int k=>
    intro r2 o2;cases r2;simp only[repD]at o2
    split at o2
    ·rename_i hk;exact⟨q,k,vs,rfl,rfl,st2.hh _ _ Cb,by have:=hk.1;omega,by have:=hk.1;omega,by rw[r.length,D5];exact hk.2,x_9 o2 st2.gh ((r.mono st2.gg).rep k.toNat)⟩
    ·exact o2.elim
   |_=>intro _ o2;exact False.elim o2
  ·exact o'.elim
def w_3:List D->Option (List Int)
 | []=>some []
 | .int i::ds=>(w_3 ds).map (i:: ·)
 |_=>none
def sumD:List D->R W
 | [.lst ds]=>match w_3 ds with
  |some is=> .ok (.sh (.int is.sum))
  |none=> .no
 |_=> .no
theorem ar_9{G:Hp}:∀{vs:List V} {ds:List D} {us:List Value} {is:List Int},HasL K G vs ds->Vals vs us->w_3 ds=some is->us.length=is.length/\∀(j:Nat) (v:Value),us[j]? =some v->∃t,v=.int (is.getD j 0) t
 |_,_,_,_,.nil,r,e=>by cases r;cases e;exact⟨rfl,λj v h=>by simp at h⟩
 |_,_,_,_,.cons h t,r,e=>by
  cases r with
  |cons r1 r2=>
   cases h with
   |int x=>
    obtain⟨tk,rfl⟩:=r1;simp only[w_3]at e;obtain⟨zs,q,rfl⟩:=N5.mp e;obtain⟨h1,h2⟩:=ar_9 t r2 q;refine⟨by simp[h1],λj v hj=> ?_⟩;cases j with
    |zero=>simp at hj;subst hj;exact⟨tk,rfl⟩
    |succ j=>
     obtain⟨t',e'⟩:=h2 j v (by simpa using hj);exact⟨t',by rw[e'];simp⟩
   |_=>cases e
theorem ao_2(is:List Int):∀j,preSum (λi=>is.getD i 0) j=(is.take j).sum
 |0=>by simp[preSum]
 |j + 1=>by rw[preSum,ao_2 is j,PySem.sum_take_succ]
def cj_6{G:Hp}(lo:Int):∀n:Nat,HasL K G ((List.range n).map λ(k:Nat)=>V.int (lo + (k:Int))) (Ch lo n):=by
 intro n;unfold Ch;generalize List.range n=l
 induction l with
 |nil=>exact .nil
 |cons a l ih=>exact .cons (.int _) ih
def dx_1{n:Nat}{lo:Int}{zn:Array Value}(h:PySem.ItemsOf (λi v=>∃t,v=.int (lo + i * 1) t) zn n):Vals ((List.range n).map λ(k:Nat)=>V.int (lo + (k:Int))) zn.toList:=by
 obtain⟨h1,h2⟩:=h;have all:∀(l:List Value) (k:Nat),(∀(j:Nat) v,l[j]? =some v->∃t,v=.int (lo + ((k + j:Nat):Int)) t)->Vals ((List.range' k l.length).map λ(k:Nat)=>V.int (lo + (k:Int))) l:=by
  intro l
  induction l with
  |nil=>intro k _;exact .nil
  |cons a l ih=>
   intro k h;rw[C6,List.range'_succ,B2];refine .cons ?_ (ih (k + 1) λj v hj=> ?_)
   ·obtain⟨t,e⟩:=h 0 a rfl;exact⟨t,by rw[e];rfl⟩
   ·obtain⟨t,e⟩:=h (j + 1) v (by simpa using hj);exact⟨t,by rw[e,show k + (j + 1)=k + 1 + j by omega]⟩
 have:=all zn.toList 0 λj v hj=>by
  obtain⟨t,e⟩:=h2 j v (by simpa using hj);exact⟨t,by rw[e];simp⟩
 rw[show zn.toList.length=n by simpa using h1]at this;rw[List.range_eq_range'];exact this
def bq_3{zd:AE}{s:Shared}{σ:Sg}{Q:VK}{lo hi:Int}{t u v:Tok}{tk:Nat}(hc:X.calm=true)(I:Inv X zd σ H s)(h1: -(2 ^ 62)<=lo)(h2:lo < 2 ^ 62)(h3: -(2 ^ 62)<=hi)(h4:hi < 2 ^ 62)(hz:(hi - lo).toNat<=16777216)
  (q:∀p,H p=none->Q (.ref p) (upd H p (.lst ((List.range (hi - lo).toNat).map λ(k:Nat)=>V.int (lo + (k:Int)))))):
  wpAny (model X.prog X.w) X.A (call (.type "list") [.ref s.heap.objs.size]) (EP X zd σ Q) X.xe {s with heap:=s.heap.push {cls:=.type "range",data:=.fields #[.int lo t,.int hi u,.int 1 v]},toks:=tk}:=by
 have I1:Inv X zd σ H {s with heap:=s.heap.push {cls:=.type "range",data:=.fields #[.int lo t,.int hi u,.int 1 v]},toks:=tk}:=I.kept λb o e=>A5 _ e;have en:Builtin.Range.rangeSize lo hi 1=(((hi - lo).toNat:Nat):Int):=by rw[rangeSize_one];split <;> omega
 refine PySem.call_list_range (I1.ok.hd hc) (IsRange.new ..) (small_one h1 h2 h3 h4) en hz λh' tk' zn c kk hat it=> ?_;have rv:=dx_1 it;have fr:=I1.hok.fresh (A8 _);refine⟨.ref _,upd H _ (.lst _),I1.laid (t':=tk') kk (A8 _) ⟨?_,zn.toList,c,rv,by simpa using hat⟩,rfl,q _ fr⟩;rw[rv.length,D5];have:=it.1;simp;omega
def eRng(k:List D->R (List D))(fa:FA):FE:=λ δ=>(fa δ).bind λas=>(k as).bind λds=>if ds.length<=16777216 then .ok (.ow (.lst ds)) else .no
def ba_0{p' pos':Pos}(hc:X.calm=true)(hml:X.mg "list" =none)(hm:X.mg "range" =none)(ha:AD X EX [a] fa)(hgl:Gl X "list" :=by rfl)(hg:Gl X "range" :=by rfl)
  (hs:starEach [a] X.env= [(false,eval a X.env)]:=by rfl)
  (hs2:starEach [.Call (.Name "range" p') [a] [] pos'] X.env=(false,eval (.Call (.Name "range" p') [a] [] pos') X.env)::starEach [] X.env:=by rfl):
  ED X EX (.Call (.Name "list" p) [.Call (.Name "range" p') [a] [] pos'] [] pos) (eRng Dw fa):=by
 intro zd s σ H Q I q;obtain⟨G,δ,g0,s0,o⟩:=q;refine Call_ (r_3 I hgl hml ZC7 (G6 ?_ hs2 rfl));rw[hs2];show wpAny _ _ (spliced ((false,eval (.Call (.Name "range" p') [a] [] pos') X.env)::backTo pos (starEach [] X.env))) _ _ s;refine M7 ?_;refine Call_ (r_3 I hg hm boot_range (G6 (Be (ha pos' zd s σ H _ I (tDa.seq g0 s0 o (P:=λvs H1=>∃j G1,Same G1 H1/\vs= [.int j]/\j.natAbs < 4611686018427387904/\j.toNat<=16777216/\Out X.K (EX σ) G1 H1 (.ok (.ow (.lst (Ch 0 j.toNat)))) Q) λds vs G' H' _ st r o'=> ?_)) λus s1 ⟨vs,H1,I1,r1,q1⟩=> ?_) hs rfl))
 ·cases r with
  |nil=>exact False.elim o'
  |cons h t=>
   cases t with
   |cons _ _=>cases h <;> exact False.elim o'
   |nil=>
    cases h with
    |int j=>
     simp only[Dw]at o'
     split at o'
     ·rename_i hj;simp only[R.bind_ok,l_2]at o'
      split at o'
      ·rename_i hl;exact⟨j,G',st.gh,rfl,hj,hl,o'⟩
      ·exact o'.elim
     ·exact o'.elim
    |_=>exact False.elim o'
 ·obtain⟨j,G1,sg,rfl,hj,hl,o'⟩:=q1;obtain⟨u,rfl,t,rfl⟩:=r1.one;refine ZE2 ?_;refine Q7 ?_;have hl':(j - 0).toNat<=16777216:=by simpa using hl
  refine bq_3 hc I1 () () () () hl' ?_;rw[Int.sub_zero];exact x_9 o' sg (cj_6 0 _)
def gP(i j:Nat):FG:=λd Δ=>match d with
 | .tup [a,b]=> .ok ((Δ.set i (.sh a)).set j (.sh b))
 | .lst [a,b]=> .ok ((Δ.set i (.sh a)).set j (.sh b))
 |_=> .no
def de_2{i j k:Nat}{x y:Str}{p1 p2:Pos}(hc:X.calm=true)(hN:X.N.Nodup)(hi:X.N[i]? =some x:=by rfl)(hj:X.N[j]? =some y:=by rfl)(hx:Loc X.env.scope x:=by trivial)(hy:Loc X.env.scope y:=by trivial)
  (hf:X.fn x=true\/X.env.scope.names.lookup x=some .local:=by trivial) (hf2:X.fn y=true\/X.env.scope.names.lookup y=some .local:=by trivial)
  (hn:(assignEach [.Name x p1,.Name y p2] X.env).length=2:=by rfl) (hst:(assignEach [.Name x p1,.Name y p2] X.env).findIdx? (·.1)=none:=by rfl)
  (hs:(assignEach [.Name x p1,.Name y p2] X.env).map (·.2)=assign (.Name x p1) X.env::(assignEach [.Name y p2] X.env).map (·.2):=by rfl) (hs2:(assignEach [.Name y p2] X.env).map (·.2)=assign (.Name y p2) X.env::(assignEach [] X.env).map (·.2):=by rfl):
  GD X EX (.Tuple [.Name x p1,.Name y p2] k pos) (gP i j):=
 PG.imp (dq_5 hc (ah_8 (ad_4 hN hi hx hf) (ah_8 (ad_4 hN hj hy hf2) ca_8 hs2) hs) hn hst) λv σ H Q ⟨H0,G0,G,Δ,O,d,E,r,q⟩=>by
  cases r with
  |tup h r=>
   cases r with
   |nil=>exact False.elim q
   |cons r1 r=>
    cases r with
    |nil=>exact False.elim q
    |cons r2 r=>
     cases r with
     |nil=>exact⟨_,_,rfl,.inl (Same.tupS E.st.gh h),rfl,_,_,rfl,_,_,rfl,rfl,q _ G H O ((E.put r1).put r2) (Same.refl _)⟩
     |cons _ _=>exact False.elim q
  |lst h r=>
   cases r with
   |nil=>exact False.elim q
   |cons r1 r=>
    cases r with
    |nil=>exact False.elim q
    |cons r2 r=>
     cases r with
     |nil=>exact⟨_,_,rfl,.inr (E.st.gh.seq h),rfl,_,_,rfl,_,_,rfl,rfl,q _ G H O ((E.put r1).put r2) (Same.refl _)⟩
     |cons _ _=>exact False.elim q
  |_=>exact False.elim q
def sUnp(fg:FG)(js:List Nat)(f:FE):FS:=λ Δ=>match f (Bg (gsome js Δ)) with
 | .ok w=>(match fg w.d (gsome js Δ) with
  | .ok Δ'=> .nx Δ'
  |_=> .no)
 | .ex x=> .ex x (gsome js Δ)
 | .no=> .no
def dq_9{fg:FG}(js:List Nat){e tg:Expr}(he:ED X EX e f)(hg:GD X EX tg fg)(hs:swapsWithSole [tg] e pos.line X.env=pure false:=by rfl)(hw:swappedStores [tg] e X.env=pure none:=by rfl)
  (h1:(assignEach [tg] X.env).map (·.2)= [assign tg X.env]:=by rfl):SD X EX (.Assign [tg] e pos) (sUnp fg js f):=
 PS.imp (cn_9 he hg hs hw h1) λD σ H ⟨H0,G0,G,Δ,O,E,q⟩=>by
  obtain⟨G1,O1,sg,E1⟩:=E.gsome js;unfold sUnp at q;refine⟨G1,Bg (gsome js Δ),E1.st.gh,E1.gsh, ?_⟩;cases e1:f (Bg (gsome js Δ)) with
  |ok w=>
   simp only[e1]at q;refine WP.intro λv G' H' st r=>⟨H0,G0,G',gsome js Δ,O1,w.d,E1.grow st,r, ?_⟩;cases e2:fg w.d (gsome js Δ) with
   |ok Δ'=>simp only[e2]at q;exact λ σ' G2 H2 O2 E2 s2=>q σ' G2 H2 O2 E2 (sg.trans (st.gg.trans s2))
   |ex x=>simp only[e2]at q;exact q.elim
   |no=>simp only[e2]at q;exact q.elim
  |ex x=>simp only[e1]at q;exact q σ G1 H O1 E1 sg
  |no=>simp only[e1]at q;exact q.elim
end
@[elab_as_elim] theorem bj_2{P:List Value->Prop}{us:List Value}{n:Nat}(h:us.length=n)(k:∀y:Nat->Value,P ((List.range n).map y)):P us:=by
 have e:us=(List.range n).map λi=>us.getD i .none:=by
  apply P0;intro i;rw[B4]
  by_cases hi:i < n
  ·rw[F3 hi,M3,F2,B5 ()];rfl
  ·rw[D9 (),D9 (by rw[K4];omega)];rfl
 rw[e];exact k _
section
variable{K:Frag}{x qual:Str}{st:Stmt}{f:Addr}{fd:FuncData}{ps:List Str}
def Fun.binds1(F:Fun K x qual st f fd)(hl:ps.length=1:=by rfl)(h:∀(kV doc pm:Value) (an:Option Addr) (zp ct a:Value),bindArgs (fnOf x qual (k_6 st) (Ey st) (Bz st) .none kV doc pm an zp ct) ⟨[a],[]⟩=pure (ps.zip [a]):=by intros;rfl):Binds K fd ps []:=
 F.binds λkV doc pm an zp ct us hu=>bj_2 (hu.trans hl) λy=>h kV doc pm an zp ct (y 0)
def Fun.binds2(F:Fun K x qual st f fd)(hl:ps.length=2:=by rfl)(h:∀(kV doc pm:Value) (an:Option Addr) (zp ct a b:Value),bindArgs (fnOf x qual (k_6 st) (Ey st) (Bz st) .none kV doc pm an zp ct) ⟨[a,b],[]⟩=pure (ps.zip [a,b]):=by intros;rfl):Binds K fd ps []:=
 F.binds λkV doc pm an zp ct us hu=>bj_2 (hu.trans hl) λy=>h kV doc pm an zp ct (y 0) (y 1)
def Fun.binds3(F:Fun K x qual st f fd)(hl:ps.length=3:=by rfl)(h:∀(kV doc pm:Value) (an:Option Addr) (zp ct a b c:Value),bindArgs (fnOf x qual (k_6 st) (Ey st) (Bz st) .none kV doc pm an zp ct) ⟨[a,b,c],[]⟩=pure (ps.zip [a,b,c]):=by intros;rfl):Binds K fd ps []:=
 F.binds λkV doc pm an zp ct us hu=>bj_2 (hu.trans hl) λy=>h kV doc pm an zp ct (y 0) (y 1) (y 2)
def Fun.binds4(F:Fun K x qual st f fd)(hl:ps.length=4:=by rfl)(h:∀(kV doc pm:Value) (an:Option Addr) (zp ct a b c d:Value),bindArgs (fnOf x qual (k_6 st) (Ey st) (Bz st) .none kV doc pm an zp ct) ⟨[a,b,c,d],[]⟩=pure (ps.zip [a,b,c,d]):=by intros;rfl):Binds K fd ps []:=
 F.binds λkV doc pm an zp ct us hu=>bj_2 (hu.trans hl) λy=>h kV doc pm an zp ct (y 0) (y 1) (y 2) (y 3)
end
structure ZApart(z TI TO i1 i2:Addr):Prop where
 TIz:TI≠z
 TOz:TO≠z
 i1z:i1≠z
 i2z:i2≠z
 TITO:TI≠TO
 TIi1:TI≠i1
 TIi2:TI≠i2
 TOi1:TO≠i1
 TOi2:TO≠i2
 i12:i1≠i2
section
variable{X:Cx}{EX:Bb}{a b:Expr}{fa:FA}{elts:List Expr}{x1:Nat}{tp p pos:Pos}
end
def met(is:List Int):List Int:=PyProof.Rows.firstMet (λi=>is.getD i 0) is.length
def as_0:D->R W
 | .lst ds=>match w_3 ds with
  |some is=>if is.length<=4000 then .ok (.sh (.int (met is).length)) else .no
  |none=> .no
 |_=> .no
def ad_7(f:FE):FE:=λ δ=>(f δ).bind λw=>as_0 w.d
theorem bq_4{G:Hp}:∀{vs:List V} {ds:List D} {us:List Value} {is:List Int},HasL K G vs ds->Vals vs us->w_3 ds=some is->IntsAre us is
 |_,_,_,_,.nil,r,e=>by cases r;cases e;exact .nil
 |_,_,_,_,.cons h t,r,e=>by
  cases r with
  |cons r1 r2=>
   cases h with
   |int x=>
    obtain⟨tk,rfl⟩:=r1;simp only[w_3]at e;obtain⟨zs,q,rfl⟩:=N5.mp e;exact .cons x tk (bq_4 t r2 q)
   |_=>cases e
section
variable{X:Cx}{EX:Bb}{a:Expr}{f:FE}{p p' pos pos':Pos}
def cj_7(hc:X.calm=true)(hml:X.mg "len" =none)(hm:X.mg "set" =none)(ha:ED X EX a f)(hgl:Gl X "len" :=by rfl)(hg:Gl X "set" :=by rfl)
  (hs:starEach [a] X.env=(false,eval a X.env)::starEach [] X.env:=by rfl)
  (hs2:starEach [.Call (.Name "set" p') [a] [] pos'] X.env=(false,eval (.Call (.Name "set" p') [a] [] pos') X.env)::starEach [] X.env:=by rfl) (hpl:(backTo pos (starEach [] X.env)).any (·.1)=false:=by rfl) (jf:(backTo pos' (starEach [] X.env)).any (·.1)=false:=by rfl):
  ED X EX (.Call (.Name "len" p) [.Call (.Name "set" p') [a] [] pos'] [] pos) (ad_7 f):=by
 intro zd s σ H Q I q;obtain⟨G,δ,g0,s0,o⟩:=q;refine Call_ (r_3 I hgl hml D6 (W9 ?_ hs2 hpl));rw[hs2];show wpAny _ _ (spliced ((false,eval (.Call (.Name "set" p') [a] [] pos') X.env)::backTo pos (starEach [] X.env))) _ _ s;refine M7 ?_;refine Call_ (r_3 I hg hm PyProof.Rows.boot_set (G6 ?_ hs jf));rw[hs];show wpAny _ _ (spliced ((false,eval a X.env)::backTo pos' (starEach [] X.env))) _ _ s;refine M7 (Be (ha zd s σ H _ I (tD.seq g0 s0 o (P:=λv H1=>∃l ds vs is G1,Same G1 H1/\v=.ref l/\SqL X.K G1 l vs/\HasL X.K G1 vs ds/\w_3 ds=some is/\is.length<=4000/\Out X.K (EX σ) G1 H1 (.ok (.sh (.int (met is).length))) Q) λw v G' H' _ st r o'=> ?_)) λu s1 ⟨v,H1,I1,r1,q1⟩=>Q7 ?_)
 ·revert r o';cases w.d with
  |lst ds=>
   intro r o';cases r with
   |lst h r=>
    simp only[as_0]at o'
    split at o'
    ·rename_i is e
     split at o'
     ·rename_i hl;exact⟨_,ds,_,is,G',st.gh,rfl,h,r,e,hl,o'⟩
     ·exact o'.elim
    ·exact o'.elim
  |_=>intro _ o';exact False.elim o'
 ·obtain⟨l,ds,vs,is,G1,sg,rfl,hq,r,e,hl,o'⟩:=q1;cases r1;obtain⟨its,rv,pl,hz⟩:=I1.list (sg.seq hq);have ia:=bq_4 r rv e;have il:its.length=is.length:=ia.length;refine PySem.call_set_list (ns:=is) (I1.ok.hd hc) pl.isList (by simpa using ia) (by rw[C8,il];show is.length + 1 < 4096;omega) λh' tk so kk=> ?_;refine Q7 ?_;obtain⟨ob,es,ep,t,ho,hex,hd,_,_,hb,hf,hn⟩:=so;have hb':es.size < 4096:=hb;refine PySem.call_len_set ho hex hd hf () ?_;rw[hn,C8,il];exact⟨.int _,H1,I1.kept (t':=_) λb ob hbo=>kk b ob (A6 hbo) hbo,⟨_,rfl⟩,Cu o' sg (.int _)⟩
end
def mulT:D->D->R W
 | .str x,.int n=>if n.natAbs<=1000/\x.length<=1000 then .ok (.sh (.str (repS x n.toNat))) else .no
 |_,_=> .no
def cs_2(x:Str):repS x 1=x:=by
 obtain⟨a⟩:=x;show(⟨#[] ++ a⟩:Str)=⟨a⟩;rw[Array.empty_append]
def cc_5:Fg X (binaryOp .Mult) mulT:=by
 intro zd s σ H x y v u Q I rx ry q;obtain⟨EX,G,a,b,g,ra,rb,o⟩:=q;cases ra with
 |str z=>
  cases rb with
  |int n=>
   simp only[mulT]at o
   split at o
   ·rename_i h;obtain⟨t,rfl⟩:=rx;obtain⟨t',rfl⟩:=ry;obtain⟨h1,h4⟩:=h;have hz:(repS z n.toNat).length<=sizeLine:=by
     rw[av_7,D5];have:n.toNat<=1000:=by omega
     calc n.toNat * z.length<=1000 * 1000:=Nat.mul_le_mul this h4
      _<=16777216:=by decide
    refine P.mul_str ?_ (λhn hb=> ?_) (λ_ _=> ?_) ?_
    ·have p1:¬n < -(2 ^ 63:Int):=by omega
     have p2:¬n≥2 ^ 63:=by omega
     rw[E4 p1,E4 p2];rfl
    ·have:(1000:Int)<=(2 ^ 63 - 1) / n:=by
      rw[Int.le_ediv_iff_mul_le ()];omega
     omega
    ·rw[av_7,Nat.mul_comm]at hz;unfold Builtin.Str.tooLong;exact E4 (Z3.mpr hz)
    ·by_cases e1:n < 1
     ·rw[if_pos e1];have e0:n.toNat=0:=by omega
      rw[e0]at o;exact⟨by show(0:Nat)<=sizeLine;exact K0 _,⟨.str _,H,I.tok _,⟨_,rfl⟩,Cu o g (.str _)⟩⟩
     ·rw[if_neg e1]
      by_cases e2:(n ==1 || z.length ==0)=true
      ·rw[if_pos e2];have ez:repS z n.toNat=z:=by
        rw[Q3]at e2;rcases e2 with e2|e2
        ·have:n=1:=by simpa using e2
         subst this;exact cs_2 z
        ·have hl0:z.length=0:=by simpa using e2
         have h2:=av_7 z n.toNat;rw[hl0,Nat.mul_zero]at h2;have z0:∀y:Str,y.length=0->y=⟨#[]⟩:=λy hy=>by
          obtain⟨c⟩:=y;have:c= #[]:=Array.eq_empty_of_size_eq_zero hy;rw[this]
         rw[z0 _ h2,z0 _ hl0]
       rw[ez]at o;exact⟨.str _,H,I,⟨_,rfl⟩,Cu o g (.str _)⟩
      ·rw[if_neg e2];exact⟨hz,⟨.str _,H,I.tok _,⟨_,rfl⟩,Cu o g (.str _)⟩⟩
   ·exact o.elim
  |_=>exact False.elim o
 |_=>cases rb <;> exact False.elim o
def Ef:D->Option Ar
 | .int i=>some (.inl i)
 | .str x=>some (.inr x)
 |_=>none
def av_8{G:Hp}{v:V}{d:D}{k:Ar}(r:Has K G v d)(e:Ef d=some k):v=kV k:=by
 cases r <;> first|(cases e;rfl)|cases e
section
variable{α:Type}
def De(kvs:List (Ar×α))(k:Ar):Option α:=(kvs.find? λkv=>decide (kv.1=k)).map (·.2)
def Fq(kvs:List (Ar×α))(k:Ar)(v:α):List (Ar×α):=if(kvs.any λkv=>decide (kv.1=k))=true then kvs.map (λkv=>if kv.1=k then(kv.1,v) else kv) else kvs ++ [(k,v)]
def Es(kvs:List (Ar×α))(k:Ar):Bool:=(De kvs k).isSome
end
def cc_6(kvs:List (Ar×V))(k:Ar)(v:V):Ga kvs k v=Fq kvs k v:=rfl
theorem as_1{G:Hp}:∀{kvs:List (Ar×V)} {kds:List (Ar×D)} (k:Ar),kvs.map (·.1)=kds.map (·.1)->HasL K G (kvs.map (·.2)) (kds.map (·.2))->(Dc kvs k).isSome=Es kds k/\∀d,De kds k=some d->∃v,Dc kvs k=some v/\Has K G v d
 | [],[],k,_,_=>⟨rfl,λd e=>by cases e⟩
 | [],_::_,k,e,_=>by simp at e
 |_::_,[],k,e,_=>by simp at e
 |(x,v)::kvs,(y,d)::kds,k,e,r=>by
  simp only[B2,U9]at e;obtain⟨e1,e2⟩:=e;subst e1;cases r with
  |cons h r=>
   obtain⟨i1,i2⟩:=as_1 (kvs:=kvs) (kds:=kds) k e2 r
   by_cases q:x=k
   ·have a1:Dc ((x,v)::kvs) k=some v:=j_7 q;have a2:De ((x,d)::kds) k=some d:=by unfold De;rw[W0 (by simpa using q)];rfl
    refine⟨by unfold Es;rw[a1,a2];rfl,λd' e'=> ?_⟩;rw[a2]at e';cases e';exact⟨v,a1,h⟩
   ·have a1:Dc ((x,v)::kvs) k=Dc kvs k:=i_8 q;have a2:De ((x,d)::kds) k=De kds k:=by unfold De;rw[W1 (by simpa using q)]
    refine⟨by unfold Es at i1⊢;rw[a1,a2];exact i1,λd' e'=> ?_⟩;rw[a2]at e';rw[a1];exact i2 d' e'
theorem bq_5{α β:Type}:∀{kvs:List (Ar×α)} {kds:List (Ar×β)} (k:Ar),kvs.map (·.1)=kds.map (·.1)->(kvs.any λkv=>decide (kv.1=k))=kds.any λkv=>decide (kv.1=k)
 | [],[],_,_=>rfl
 | [],_::_,k,e=>by simp at e
 |_::_,[],k,e=>by simp at e
 |(x,v)::kvs,(y,d)::kds,k,e=>by
  simp only[B2,U9]at e;obtain⟨e1,e2⟩:=e;subst e1;rw[S9,S9,bq_5 k e2]
def de_3{G:Hp}{kvs:List (Ar×V)}{kds:List (Ar×D)}(k:Ar){v:V}{d:D}(e:kvs.map (·.1)=kds.map (·.1))(r:HasL K G (kvs.map (·.2)) (kds.map (·.2)))(h:Has K G v d):
  (Ga kvs k v).map (·.1)=(Fq kds k d).map (·.1)/\HasL K G ((Ga kvs k v).map (·.2)) ((Fq kds k d).map (·.2)):=by
 rw[cc_6];unfold Fq;rw[bq_5 k e]
 split
 ·have all:∀{kvs:List (Ar×V)} {kds:List (Ar×D)},kvs.map (·.1)=kds.map (·.1)->HasL K G (kvs.map (·.2)) (kds.map (·.2))->
    (kvs.map (λkv=>if kv.1=k then(kv.1,v) else kv)).map (·.1)=(kds.map (λkv=>if kv.1=k then(kv.1,d) else kv)).map (·.1)/\HasL K G ((kvs.map (λkv=>if kv.1=k then(kv.1,v) else kv)).map (·.2)) ((kds.map (λkv=>if kv.1=k then(kv.1,d) else kv)).map (·.2)):=by
   intro kvs
   induction kvs with
   |nil=>
    intro kds e r;cases kds with
    |nil=>exact⟨rfl,.nil⟩
    |cons _ _=>simp at e
   |cons p kvs ih=>
    intro kds e r;cases kds with
    |nil=>simp at e
    |cons q kds=>
     obtain⟨x,u⟩:=p;obtain⟨y,w⟩:=q;simp only[B2,U9]at e;obtain⟨e1,e2⟩:=e;subst e1;cases r with
     |cons h1 r=>
      obtain⟨i1,i2⟩:=ih e2 r;simp only[B2]
      by_cases z:x=k
      ·simp only[z,if_true];exact⟨by rw[i1],.cons h i2⟩
      ·simp only[z,N0];exact⟨by rw[i1],.cons h1 i2⟩
  exact all e r
 ·refine⟨by rw[F7,F7,e];rfl, ?_⟩;rw[F7,F7];exact r.append (.cons h .nil)
section
variable{X:Cx}{EX:Bb}{pos:Pos}
def u_4:FE:=λ_=> .ok (.ow (.dic []))
def ad_8:ED X EX (.Dict [] [] pos) u_4:=PE.imp cq_4 λ σ H Q ⟨G,δ,g,s,o⟩=>λp hp=>
 o (.ref p) (λb=>b=p) G _ (Step.own g hp _) (λa e=>by subst e;exact⟨hp,g.free hp,by rw[Cb];simp⟩) (.dict Cb rfl rfl .nil)
def inK(neg:Bool):D->D->R W
 |d,.dic kvs=>match Ef d with
  |some k=> .ok (.sh (.bl (if neg then !Es kvs k else Es kvs k)))
  |none=> .no
 |_,_=> .no
def DGet.rd{a:Addr}{kvs:List (Ar×V)}{k:Ar}(e:Rd H a (.dK kvs)):DGet H a (kV k) (Dc kvs k):=.inl ⟨kvs,k,e,rfl,rfl⟩
def bj_4(hu:X.A.units + 64 < cLine):Fg X (compareOp .In) (inK false):=by
 intro zd s σ H x y v u Q I rx ry q;obtain⟨EX,G,a,b,g,ra,rb,o⟩:=q;cases rb with
 |dic h hk r=>
  simp only[inK]at o
  split at o
  ·rename_i k ek;have ex:=av_8 ra ek;subst ex;cases ry;refine d_in () I (DGet.rd (k:=k) (Same.rdD g h)) rx λs' I'=>⟨.bl _,H,I',rfl, ?_⟩;rw[(as_1 k hk r).1];exact Cu o g (.bl _)
  ·exact o.elim
 |_=>exact False.elim o
def Ff:D->D->R W
 | .dic kvs,d=>match Ef d with
  |some k=>(match De kvs k with
   |some x=> .ok (.sh x)
   |none=> .no)
  |none=> .no
 |_,_=> .no
def bj_5{o i:Expr}{f g:FE}(hu:X.A.units + 64 < cLine)(ho:ED X EX o f)(hi:ED X EX i g)(hs:NoSl i:=by intro _ _;rfl):ED X EX (.Subscript o i pos) (Ae Ff f g):=
 PE.imp (dc_5 () ho hi hs) λ σ H Q ⟨G,δ,g0,s0,o⟩=>tD.seq g0 s0 o λw v G1 H1 _ st1 r1 o1=>tD.seq st1.gh (s0.mono st1.gg) o1 λw2 v2 G2 H2 _ st2 r2 o2=>by
  have r1:=r1.mono st2.gg;revert r1 o2;cases w.d with
  |dic kvs=>
   intro o2 r1;simp only[Ff]at o2
   split at o2
   ·rename_i k ek
    split at o2
    ·rename_i x ex;cases r1 with
     |dic h hk r=>
      obtain⟨u,e1,e2⟩:=(as_1 k hk r).2 x ex;have e3:=av_8 r2 ek;subst e3;refine⟨_,u,rfl, ?_,Cu o2 st2.gh e2⟩;rw[<-e1];exact DGet.rd (Same.rdD st2.gh h)
    ·exact o2.elim
   ·exact o2.elim
  |_=>intro o2 _;exact False.elim o2
def w_4(i:Nat)(js:List Nat)(fk fe:FE):FS:=λ Δ=>match(gsome js Δ)[i]? with
 |some (.ow (.dic kvs))=>(match fe (Bg (gsome js Δ)) with
  | .ok w=>(match fk (Ax (gsome js Δ)) with
   | .ok z=>(match Ef z.d with
    |some k=>if kvs.length < 16777216 then .nx ((gsome js Δ).set i (.ow (.dic (Fq kvs k w.d)))) else .no
    |none=> .no)
   |_=> .no)
  |_=> .no)
 |_=> .no
def ai_6{i:Nat}(js:List Nat){x:Str}{e ie:Expr}{fe fk:FE}{p1 zi pos:Pos}(hu:X.A.units + 64 < cLine)(he:ED X EX e fe)(hi:ED X EX ie fk)(hN:X.N[i]? =some x:=by rfl)(hv:Vis X.env.scope x:=by trivial)(hd:AG x:=by decide)
  (hcd:(x ==("__classdict__" :Str))=false:=by decide) (hs:swapsWith e (some (.Subscript (.Name x p1) ie zi)) pos.line X.env=pure false:=by rfl):
  SD X EX (.Assign [.Subscript (.Name x p1) ie zi] e pos) (w_4 i js fk fe):=
 PS.imp (dc_6 () (o_1 hN hv hd hcd) hi he hs) λD σ H ⟨H0,G0,G,Δ,O,E,q⟩=>by
  obtain⟨G1,O1,sg,E1⟩:=E.gsome js;unfold w_4 at q;generalize gsome js Δ=Δ1 at q E1
  split at q
  ·rename_i kds e1;obtain⟨v0,s1,t⟩:=E1.ow i _ _ e1 rfl;obtain⟨a,kvs,rfl,m,hH,hk,rl⟩:=t.dict_of;refine⟨G1,Bg Δ1,E1.st.gh,E1.gsh, ?_⟩;cases e2:fe (Bg Δ1) with
   |ex x=>rw[e2]at q;exact q.elim
   |no=>rw[e2]at q;exact q.elim
   |ok w=>
    simp only[e2]at q;refine WP.intro λv G' H' st r=> ?_;have E2:=E1.grow st;refine⟨.ref a,s1,Db G' H' O1,Ax Δ1,E2.aH,E2.gall, ?_⟩;cases e3:fk (Ax Δ1) with
    |ex x=>simp only[e3]at q;exact q.elim
    |no=>simp only[e3]at q;exact q.elim
    |ok z=>
     simp only[e3]at q;refine WP.intro λv2 G2 H2 st2 r2=> ?_
     split at q
     ·rename_i k ek
      split at q
      ·rename_i hl;have e4:=av_8 r2 ek;subst e4;have hH2:H2 a=some (.dK kvs):=st2.hh _ _ (st.hh _ _ hH);have hle:kvs.length=kds.length:=by
        have:=L6 List.length hk
        rwa[A4,A4]at this
       obtain⟨p1,p2⟩:=de_3 k hk (rl.mono st.gg) r;exact⟨a,_,rfl,DPut.k hH2 (by rw[hle,D5];exact hl),q σ G' _ _ ((E2.keep st2.hh).writeD s1 m p1 p2) (sg.trans st.gg)⟩
      ·exact q.elim
     ·exact q.elim
  ·exact q.elim
end
section
variable{K:Frag}{H0 H1:HB}{G0 G H:Hp}{σ:Sg}{Δ:SE}{O:OS}
end
section
variable{X:Cx}{EX:Bb}{pos:Pos}
end
section
variable{X:Cx}{EX:Bb}{pos:Pos}
end
section
variable{X:Cx}{EX:Bb}{a b:Expr}{fa:FA}{p pos:Pos}
end
section
variable{K:Frag}{G H:Hp}
theorem OwL.focus:∀{vs:List V} {ts:List Tn} {S:AS} {n:Nat} {t:Tn},OwL K G H vs ts S->ts[n]? =some t->∃v S1,vs[n]? =some v/\Ow K G H v t S1/\(∀b,S1 b->S b)/\
  ∀{H':Hp} {t':Tn},(∀b o,S b->¬S1 b->H b=some o->H' b=some o)->Ow K G H' v t' S1->OwL K G H' vs (ts.set n t') S
 |_,_,_,_,_,.nil,e=>by simp at e
 |v::vs,t0::ts,S,0,t,.cons (S1:=S1) (S2:=S2) h r dj s1 s2,e=>by
  have e:t0=t:=by simpa using e
  subst e;refine⟨v,S1,rfl,h,s1,λ{H' t'} f h'=> ?_⟩;exact .cons h' (r.mono (Same.refl _) (λb o hb q=>f b o (s2 b hb) (λz=>dj b z hb) q) λ_ q=>q) dj s1 s2
 |v::vs,t0::ts,S,n + 1,t,.cons (S1:=S1) (S2:=S2) h r dj s1 s2,e=>by
  obtain⟨v',S',e1,h',i',f'⟩:=OwL.focus (n:=n) r (by simpa using e);refine⟨v',S',by simpa using e1,h',λb q=>s2 b (i' b q),λ{H' t'} f h2=> ?_⟩;exact .cons (h.mono (Same.refl _) (λb o hb q=>f b o (s1 b hb) (λz=>dj b hb (i' b z)) q) λ_ q=>q) (f' (λb o hb nb q=>f b o (s2 b hb) nb q) h2) dj s1 s2
theorem OwL.append:∀{vs us:List V} {ts rs:List Tn} {S1 S2 S:AS},OwL K G H vs ts S1->OwL K G H us rs S2->(∀b,S1 b->S2 b->False)->(∀b,S1 b->S b)->(∀b,S2 b->S b)->OwL K G H (vs ++ us) (ts ++ rs) S
 |_,_,_,_,_,_,_,.nil,r,_,_,i2=>r.mono (Same.refl _) (λ_ _ _ q=>q) i2
 |_,_,_,_,S1,S2,S,.cons (S1:=Sa) (S2:=Sb) h r dj s1 s2,q,d,i1,i2=>
  .cons (S2:=λb=>Sb b\/S2 b) h (OwL.append r q (λb z1 z2=>d b (s2 b z1) z2) (λb z=> .inl z) λb z=> .inr z) (λb z1 z2=>by
   rcases z2 with z2|z2
   ·exact dj b z1 z2
   ·exact d b (s1 b z1) z2) (λb z=>i1 b (s1 b z)) λb z=>by
   rcases z with z|z
   ·exact i1 b (s2 b z)
   ·exact i2 b z
end
section
variable{α:Type}
def Dx:List (Ar×α)->Ar->α->List (Ar×α)
 | [],_,_=> []
 |(x,v)::r,k,v'=>if x=k then(x,v')::r else(x,v)::Dx r k v'
theorem be_2:∀(l:List (Ar×α)) (k:Ar) (v:α),(Dx l k v).map (·.1)=l.map (·.1)
 | [],_,_=>rfl
 |(x,v0)::r,k,v=>by
  unfold Dx
  split
  ·rfl
  ·rw[B2,B2,be_2 r k v]
end
section
variable{K:Frag}{G H:Hp}
theorem OwL.focusK(k:Ar):∀{kvs:List (Ar×V)} {zm:List (Ar×Tn)} {S:AS} {t:Tn},kvs.map (·.1)=zm.map (·.1)->OwL K G H (kvs.map (·.2)) (zm.map (·.2)) S->De zm k=some t->
  ∃v S1,Dc kvs k=some v/\Ow K G H v t S1/\(∀b,S1 b->S b)/\
   ∀{H':Hp} {t':Tn},(∀b o,S b->¬S1 b->H b=some o->H' b=some o)->Ow K G H' v t' S1->OwL K G H' (kvs.map (·.2)) ((Dx zm k t').map (·.2)) S
 | [],[],_,_,_,_,e=>by cases e
 | [],_::_,_,_,e,_,_=>by simp at e
 |_::_,[],_,_,e,_,_=>by simp at e
 |(x,v)::kvs,(y,t0)::zm,S,t,e,r,h=>by
  simp only[B2,U9]at e;obtain⟨e1,e2⟩:=e;subst e1;cases r with
  |cons hh r dj s1 s2=>
   rename_i S1 S2
   by_cases q:x=k
   ·have a2:De ((x,t0)::zm) k=some t0:=by unfold De;rw[W0 (by simpa using q)];rfl
    rw[a2]at h;cases h;refine⟨v,S1,j_7 q,hh,s1,λ{H' t'} f h'=> ?_⟩;unfold Dx;rw[if_pos q];exact .cons h' (r.mono (Same.refl _) (λb o hb z=>f b o (s2 b hb) (λw=>dj b w hb) z) λ_ z=>z) dj s1 s2
   ·have a2:De ((x,t0)::zm) k=De zm k:=by unfold De;rw[W1 (by simpa using q)]
    rw[a2]at h;obtain⟨v',S',e1,h',i',f'⟩:=OwL.focusK k e2 r h;refine⟨v',S',by rw[i_8 q];exact e1,h',λb z=>s2 b (i' b z),λ{H' t'} f h2=> ?_⟩;unfold Dx;rw[if_neg q];exact .cons (hh.mono (Same.refl _) (λb o hb z=>f b o (s1 b hb) (λw=>dj b hb (i' b w)) z) λ_ z=>z) (f' (λb o hb nb z=>f b o (s2 b hb) nb z) h2) dj s1 s2
end
def Sl.tree:Sl->Option (Tn×Bool)
 | .ow d=>some (Tn.of d,false)
 | .tr t=>some (t,false)
 | .lt t=>some (t,true)
 |_=>none
def Sl.mk(b:Bool)(t:Tn):Sl:=if b then .lt t else .tr t
def Sl.tree_own{s:Sl}{t:Tn}{b:Bool}(e:s.tree=some (t,b)):s.own=some t:=by
 cases s <;> first|(cases e;rfl)|cases e
def Sl.mk_own(b:Bool)(t:Tn):(Sl.mk b t).own=some t:=by cases b <;> rfl
def Sl.mk_lk(b:Bool)(t:Tn):∀d,Sl.mk b t≠ .lk d:=by intro d;cases b <;> (intro z;cases z)
def Ev.mk_lt{H0:HB}{G0 G H:Hp}{σ:Sg}{Δ:SE}{O:OS}(E:Ev K H0 G0 G H σ Δ O){i:Nat}{s:Sl}{t:Tn}{b:Bool}(e:Δ[i]? =some s)(q:s.tree=some (t,b))(t':Tn):∀d,Sl.mk b t'=.lt d->σ[i]? =some (some (.ref (H0.b i))):=by
 intro d z;cases b with
 |false=>cases z
 |true=>
  cases s with
  |lt t0=>exact E.lt i t0 e
  |_=>cases q
def Ev.writeIn{H0:HB}{G0 G H:Hp}{σ:Sg}{Δ:SE}{O:OS}(E:Ev K H0 G0 G H σ Δ O){i:Nat}{s:Sl}{t t':Tn}{b:Bool}{v:V}{a:Addr}{o:HO}(e:Δ[i]? =some s)(q:s.tree=some (t,b))(s1:σ[i]? =some (some v))(m:O i a)(t1:Ow K G (upd H a o) v t' (O i)):
  Ev K H0 G0 G (upd H a o) σ (Δ.set i (Sl.mk b t')) (Gh O i (O i)):=
 have ms:=MStep.write E.st.gh m (E.out i a m).1 o
 E.step2 (Sl.mk_own b t') (Sl.mk_lk b t') (E.mk_lt e q t') ms.weak s1 (λb hb=>⟨.inl hb,(E.out i b hb).1,ms.al b (E.out i b hb).2.2⟩) t1
def Ow.dic_of{G H:Hp}{v:V}{zm:List (Ar×Tn)}{S:AS}(t:Ow K G H v (.dic zm) S):∃a kvs S1,v=.ref a/\S a/\H a=some (.dK kvs)/\kvs.map (·.1)=zm.map (·.1)/\(∀b,S1 b->S b/\b≠a)/\OwL K G H (kvs.map (·.2)) (zm.map (·.2)) S1:=by
 cases t with
 |dic h hk ha sub r=>exact⟨_,_,_,rfl,ha,h,hk,sub,r⟩
section
variable{X:Cx}{EX:Bb}{pos:Pos}
end
section
variable{X:Cx}{EX:Bb}{pos:Pos}
end
def kD:Ar->D
 | .inl i=> .int i
 | .inr x=> .str x
def cs_3{G:Hp}(k:Ar):Has K G (kV k) (kD k):=by cases k <;> constructor
def dx_2{P:Program}{w:World}{k:Ar}{u:Value}(h:(h_7 P w).is k u=true):RelV (kV k) u:=by
 rcases i_0 h with⟨i,t,rfl,rfl⟩|⟨x,t,rfl,rfl⟩
 ·exact⟨t,rfl⟩
 ·exact⟨t,rfl⟩
theorem be_3{P:Program}{w:World}:∀{kvs:List (Ar×V)} {vs:List (Ar×Value)} {us:List Value},KV kvs vs->us.length=vs.length->(∀(j:Nat) v,us[j]? =some v->∃k x,vs[j]? =some (k,x)/\(h_7 P w).is k v=true)->Vals ((kvs.map (·.1)).map kV) us
 | [],vs,us,r,hl,_=>by
  have:=r.length;simp at this;have:us= []:=X6 ();subst this;exact .nil
 |(k,v)::kvs,vs,us,r,hl,h=>by
  cases r with
  |cons h1 r=>
   rename_i q vs;obtain⟨k',x⟩:=q;cases us with
   |nil=>simp at hl
   |cons u us=>
    obtain⟨k2,x2,e,i⟩:=h 0 u rfl;have e:(k',x)=(k2,x2):=by simpa using e
    cases e;have e1:k=k':=h1.1;subst e1;exact .cons (dx_2 i) (be_3 r (by simpa using hl) λj v e=>by
     obtain⟨a,b,c,d⟩:=h (j + 1) v (by simpa using e);exact⟨a,b,by simpa using c,d⟩)
section
variable{X:Cx}{EX:Bb}{pos:Pos}
end
section
variable{X:Cx}{EX:Bb}{pos:Pos}
def dk_1(kvs:List (Ar×D))(b c:D):R W:=match Ef b with
 |some k=>(match De kvs k with
  |some x=> .ok (.sh x)
  |none=> .ok (.sh c))
 |none=> .no
def dk_2(f g h:FE):FE:=λ δ=>(f δ).bind λa=>match a.d with
 | .dic kvs=>(g δ).bind λb=>(h δ).bind λc=>dk_1 kvs b.d c.d
 |_=> .no
def de_4{o e e2:Expr}{f g h:FE}{zh zf:Pos}(hu:X.A.units + 64 < cLine)(ho:ED X EX o f)(he:ED X EX e g)(hf:ED X EX e2 h)(hm:M2 X o "get" zh e e2 zf:=by exact⟨rfl,rfl,rfl,rfl⟩):
  ED X EX (.Call (.Attribute o "get" zh) [e,e2] [] zf) (dk_2 f g h):=
 PE.imp (cq_6 () ho he hf hm) λ σ H Q ⟨G,δ,g0,s0,o⟩=>tD.seq g0 s0 o λw v G1 H1 e1 st1 r1 o1=>by
  revert r1 o1;cases w.d with
  |dic kvs=>
   intro r1 o1;cases r1 with
   |dic hh hk r=>
    rename_i a0 kv0;refine⟨_,rfl,.inl ⟨_,Same.rdD st1.gh hh⟩, ?_⟩;refine tD.seq st1.gh (s0.mono st1.gg) o1 λw2 v2 G2 H2 _ st2 r2 o2=>tD.seq st2.gh (s0.mono (st1.gg.trans st2.gg)) o2 λw3 v3 G3 H3 _ st3 r3 o3=> ?_;unfold dk_1 at o3
    split at o3
    ·rename_i k ek;have ev:=av_8 r2 ek;subst ev;have hg:=Same.rdD st3.gh (Same.rdD st3.gg (Same.rdD st2.gg hh));refine⟨_,DGet.rd hg, ?_⟩;obtain⟨i1,i2⟩:=as_1 (K:=X.K) (G:=G3) k hk (r.mono (st2.gg.trans st3.gg))
     split at o3
     ·rename_i x ex;obtain⟨u,e5,e6⟩:=i2 x ex;rw[e5];exact Cu o3 st3.gh e6
     ·rename_i ex;have:Dc kv0 k=none:=by
       cases q:Dc kv0 k with
       |none=>rfl
       |some u=>
        rw[q]at i1;unfold Es at i1;rw[ex]at i1;cases i1
      rw[this];exact Cu o3 st3.gh r3
    ·exact o3.elim
  |_=>intro _ o1;exact False.elim o1
end
section
variable{X:Cx}{EX:Bb}{e:Expr}{es:List Expr}{x:Str}{pp pos:Pos}{c:Bool}{k k':Nat}{ps:List Str}
end
def OFld(K:Frag)(cs:List Str)(f:Str):Prop:=∀c,cs.contains c=true->∀C,ClsAt K c C->Cls K C/\NoAttr K C f
def OFld.nil{f:Str}:OFld K [] f:=λc h=>by cases h
def ClsAt.same{c:Str}{C C':Addr}(a:ClsAt K c C)(b:ClsAt K c C'):C'=C:=by
 unfold ClsAt at a b;rw[a]at b;injection b with b
 injection b with b
 injection b with b
 exact b.symm
def OFld.one{c:Str}{C:Addr}{cs:List Str}{f:Str}(a:ClsAt K c C)(k:Cls K C)(n:NoAttr K C f)(r:OFld K cs f):OFld K (c::cs) f:=λc' h C' a'=>by
 rw[P9,Q3]at h;rcases h with h|h
 ·have e:=M0.mp h;subst e;rw[a.same a'];exact⟨k,n⟩
 ·exact r c' h C' a'
def eFld(cs:List Str)(f:Str)(fo:FE):FE:=λ δ=>(fo δ).bind λw=>match w.d with
 | .obj c ns vs=>if cs.contains c then(match(ns.zip vs).lookup f with
  |some d=> .ok (.sh d)
  |none=> .no) else .no
 |_=> .no
theorem bj_6{G:Hp}{f:Str}:∀{ns:List Str} {us:List V} {vs:List D},HasL K G us vs->ns.length=us.length->(∀d,(ns.zip vs).lookup f=some d->∃v,(ns.zip us).lookup f=some v/\Has K G v d)/\(ns.contains f=false->(ns.zip us).lookup f=none)
 | [],_,_,_,_=>⟨λd e=>(by cases e),λ_=>rfl⟩
 |n::ns,[],_,_,e=>by simp at e
 |n::ns,u::us,_,.cons h r,e=>by
  obtain⟨i1,i2⟩:=bj_6 (f:=f) (ns:=ns) r (by simpa using e);refine⟨λd q=> ?_,λq=> ?_⟩
  ·rw[Z4,F8]at q⊢;cases hb:f ==n with
   |true=>simp only[hb]at q⊢;cases q;exact⟨u,rfl,h⟩
   |false=>simp only[hb]at q⊢;exact i1 d q
  ·rw[P9,Bool.or_eq_false_iff]at q;rw[Z4,F8];simp only[q.1];exact i2 q.2
section
variable{X:Cx}{EX:Bb}{e:Expr}{pos:Pos}
def bj_7{cs:List Str}{f:Str}{fo:FE}(k:OFld X.K cs f)(he:ED X EX e fo)(hb:attributeBase e f X.env (eval e X.env)=eval e X.env:=by rfl):ED X EX (.Attribute e f pos) (eFld cs f fo):=
 PE.imp (do_2 he hb) λ σ H Q ⟨G,δ,g0,s0,o⟩=>tD.seq g0 s0 o λw v G1 H1 _ st r o'=>by
  revert o' r;cases w.d with
  |obj c ns vs=>
   intro r o';simp only at o'
   split at o'
   ·rename_i hc
    split at o'
    ·rename_i d ed;cases r with
     |obj hC hh hl rl=>
      obtain⟨v1,e1,h1⟩:=(bj_6 (f:=f) rl hl).1 d ed;obtain⟨kc,kn⟩:=k c hc _ hC;exact⟨_,_,_,_,v1,rfl,st.gh _ _ hh,kc,kn,e1,Cu o' st.gh h1⟩
    ·exact o'.elim
   ·exact o'.elim
  |_=>intro _ o';exact False.elim o'
end
structure MethD(P:Program)(w:World)(K:Frag)(mg:AB)(base:Heap)(cc:Bool)(k n:Nat)(m c:Str)(F:AF):Prop where
 ex:∃C f fd ps,ClsAt K c C/\Cls K C/\Meth K C m f/\FnX P w K mg base cc k f fd ps (Bx K (n + 1) F)/\Binds K fd ps []
def MethT(P:Program)(w:World)(K:Frag)(mg:AB)(base:Heap)(cc:Bool)(k n:Nat)(m:Str)(tb:List (Str×(AF))):Prop:=∀c F,tb.lookup c=some F->MethD P w K mg base cc k n m c F
def MethT.nil{P:Program}{w:World}{cc:Bool}{k n:Nat}{m:Str}:MethT P w K mg base cc k n m []:=λc F e=>by cases e
def FnX.up{P:Program}{w:World}{c:Bool}{j k:Nat}{f:Addr}{ps:List Str}{sp:Sp}(F:FnX P w K mg base c j f fd ps sp)(h:j<=k):FnX P w K mg base c k f fd ps sp:=
 ⟨F.len,λA outer s H args us vs Q E hr=>F.run A outer s H args us vs Q E (hr.mono h)⟩
def MethT.one{P:Program}{w:World}{cc:Bool}{j k n:Nat}{m c:Str}{F:AF}{tb:List (Str×(AF))}(d:MethD P w K mg base cc j n m c F)(hj:j<=k)(r:MethT P w K mg base cc k n m tb):MethT P w K mg base cc k n m ((c,F)::tb):=λc' F' e=>by
 rw[F8]at e;cases hb:c' ==c with
 |true=>
  simp only[hb]at e;cases e;have:=M0.mp hb;subst this;obtain⟨C,f,fd,ps,a1,a2,a3,a4,a5⟩:=d.ex;exact⟨C,f,fd,ps,a1,a2,a3,a4.up hj,a5⟩
 |false=>simp only[hb]at e;exact r c' F' e
def t_6(m:Str)(n:Nat)(tb:List (Str×(AF)))(fo:FE)(fa:FA):FE:=λ δ=>(fo δ).bind λw=>match w.d with
 | .obj c ns vs=>if ns.contains m then .no else match tb.lookup c with
  |some F=>(fa δ).bind λds=>if ds.length=n then F (.obj c ns vs::ds) else .no
  |none=> .no
 |_=> .no
section
variable{X:Cx}{EX:Bb}{e o:Expr}{es:List Expr}{pos zh:Pos}{cc:Bool}{k k' n:Nat}{m:Str}{tb:List (Str×(AF))}{fo:FE}{fa:FA}
def dk_3(X:Cx)(EX:Bb)(cc:Bool)(k:Nat)(m:Str)(ta:TE)(t:TA):TE:=λ σ H Q=>ta σ H λx H1=>∃a C dx fs f fd ps sp,x=.ref a/\H1 a=some (.ins C dx fs)/\fs.lookup m=none/\Cls X.K C/\Meth X.K C m f/\
 FnX X.prog X.w X.K X.mg X.base cc k f fd ps sp/\Binds X.K fd ps []/\t σ H1 λvs H2=>sp (.ref a::vs) H2 Q (EXE X.K (EX σ))
def de_5{pl:Sem Bool}{ta:TE}{t:TA}(he:PE X o ta)(hr:RoomC cc k X.A)(lk:Lk X EX)(ha:PA X (e::es) t)
  (hst:starEach (e::es) X.env=(false,eval e X.env)::starEach es X.env) (hpl:(backTo pos (starEach es X.env)).any (·.1)=false)
  (ht:eval (.Call (.Attribute o m zh) (e::es) [] pos) X.env=(do
   let ov<-eval o X.env
   standAt zh.atName
   let(f,first)<-holding [ov] (getMethod ov m pl)
   callWith pos f first (backTo pos (starEach (e::es) X.env)) (backToKw pos (keywordEach [] X.env)))):
  PE X (.Call (.Attribute o m zh) (e::es) [] pos) (dk_3 X EX cc k m ta t):=by
 intro zd s σ H Q I h;refine ZD8 (pl:=pl) (Be (he zd s σ H _ I h) λu s1 hh=> ?_) ht;obtain⟨x,H1,I1,rx,a,C,dx,fs,f,fd,ps,sp,ex,ea,l,c,hm,F,hb,q⟩:=hh;subst ex;obtain rfl:u=Value.ref a:=rx;refine bw_7 I1 ea c hm l ?_;refine W8 (first:=[.ref a]) (h₀:=X.base) I.ok.mod.kin hm.kp (Be (ha pos zd s1 σ H1 _ I1 q) λus s2 ⟨vs,H2,I2,r,q2⟩=>⟨I2.kIn, ?_⟩) hst hpl;exact bj_0 (us:=.ref a::us) (vs:=.ref a::vs) F hr hb lk I2 (.cons rfl r) q2
def dr_0{σ:Sg}{Q:VK}(hK:X.K=K)(T:MethT X.prog X.w X.K X.mg X.base cc k n m tb)(q:tD K EX (t_6 m n tb fo fa) σ H Q):dk_3 X EX cc k m (tD K EX fo) (tDa K EX fa) σ H Q:=by
 subst hK;obtain⟨G,δ,g0,s0,o⟩:=q;refine tD.seq g0 s0 o λw v G1 H1 _ st r o'=> ?_;revert o' r;cases w.d with
 |obj c ns vs=>
  intro r o';simp only at o'
  split at o'
  ·exact o'.elim
  ·rename_i hn
   split at o'
   ·rename_i F ef;cases r with
    |obj hC hh hl rl=>
     rename_i a0 C0 dx0 us0;obtain⟨C,f,fd,ps,a1,a2,a3,a4,a5⟩:=(T c F ef).ex;have:=a1.same hC;subst this;refine⟨_,_,_,_,f,fd,ps,_,rfl,st.gh _ _ hh,(bj_6 (f:=m) rl hl).2 (by simpa using hn),a2,a3,a4,a5, ?_⟩;refine tDa.seq st.gh (s0.mono st.gg) o' λds us G' H' _ st' r' o2=> ?_
     split at o2
     ·rename_i zk;refine⟨by rw[C6,r'.length,zk],G',.obj c ns vs::ds,st'.gh,.cons (Has.mono st'.gg (.obj hC hh hl rl)) r', ?_⟩;cases q:F (.obj c ns vs::ds) with
      |ok w=>rw[q]at o2;exact o2
      |ex x=>rw[q]at o2;exact EXof.in o2
      |no=>rw[q]at o2;exact o2.elim
     ·exact o2.elim
   ·exact o'.elim
 |_=>intro _ o';exact False.elim o'
def y_7{pl:Sem Bool}(T:MethT X.prog X.w X.K X.mg X.base cc k n m tb)(hr:RoomC cc k' X.A)(lk:Lk X EX)(he:ED X EX o fo)(ha:AD X EX (e::es) fa)(hk:k<=k':=by decide)
  (hst:starEach (e::es) X.env=(false,eval e X.env)::starEach es X.env:=by rfl) (hpl:(backTo pos (starEach es X.env)).any (·.1)=false:=by rfl)
  (ht:eval (.Call (.Attribute o m zh) (e::es) [] pos) X.env=(do
   let ov<-eval o X.env
   standAt zh.atName
   let(f,first)<-holding [ov] (getMethod ov m pl)
   callWith pos f first (backTo pos (starEach (e::es) X.env)) (backToKw pos (keywordEach [] X.env))):=by rfl):ED X EX (.Call (.Attribute o m zh) (e::es) [] pos) (t_6 m n tb fo fa):=
 PE.imp (de_5 he (hr.mono hk) lk ha hst hpl ht) λ_ _ _ q=>dr_0 rfl T q
end
def unT:List Tn->Option (List D)
 | []=>some []
 | .sh d::r=>(unT r).map (d:: ·)
 |_=>none
theorem aw_1:∀{ts:List Tn} {ds:List D},unT ts=some ds->ts=ds.map .sh
 | [],_,e=>by cases e;rfl
 |t::r,ds,e=>by
  cases t with
  |sh d=>
   simp only[unT]at e;cases q:unT r with
   |none=>rw[q]at e;cases e
   |some l=>
    rw[q]at e;cases e;rw[aw_1 q];rfl
  |_=>cases e
def v_0(n:Nat)(c:Str)(ds:List D):SE:=.lt (.obj c [] [])::(ds.map Sl.sh ++ List.replicate (n - (ds.length + 1)) .no)
def aw_2(n:Nat)(c:Str)(g:FS)(ds:List D):R (List Str×List D):=match g (v_0 n c ds) with
 | .nx Δ=>(match Δ[(0:Nat)]? with
  |some (.lt (.obj c' ns ts))=>if c'=c then(match unT ts with
   |some rs=> .ok (ns,rs)
   |none=> .no) else .no
  |_=> .no)
 | .ex x _=> .ex x
 |_=> .no
def spI(K:Frag)(C:Addr)(n:Nat)(F:List D->R (List Str×List D)):Sp:=λvs H Q E=>∃x dx vs0 Hq G ds,vs=.ref x::vs0/\vs0.length=n/\Hq x=none/\Same Hq H/\H x=some (.ins C dx [])/\Same G Hq/\HasL K G vs0 ds/\
 (match F ds with
 | .ok p=>∀G' H' us dx',Step G Hq G' H'->G' x=none->H' x=some (.ins C dx' (p.1.zip us))->p.1.length=us.length->HasL K G' us p.2->Q .non H'
 | .ex e=>(EXof K E).p e G Hq
 | .no=>False)
def cj_9{G H h0:Hp}{v0:V}{vs:List V}{ds:List D}{N:List Str}{b:Nat->Addr}(g:Same G H)(i0:Same h0 H)(r:HasL K G vs ds)(hl:vs.length + 1<=N.length):Ev K ⟨h0,b⟩ G G H (Gm N (v0::vs)) (.no::(ds.map Sl.sh ++ List.replicate (N.length - (ds.length + 1)) .no)) (λ_ _=>False):=by
 have key:∀(i:Nat) (s:Sl),(Sl.no::(ds.map Sl.sh ++ List.replicate (N.length - (ds.length + 1)) .no))[i]? =some s->(∃j d,i=j + 1/\s=.sh d/\ds[j]? =some d)\/s=.no:=λi s e=>by
  cases i with
  |zero=>exact .inr (by simpa using e.symm)
  |succ i=>
   rw[S0]at e
   by_cases hi:i < ds.length
   ·rw[B3 (by rw[A4];exact hi),B4]at e;obtain⟨d,e1,e2⟩:=N5.mp e;exact .inl ⟨i,d,rfl,e2.symm,e1⟩
   ·rw[D1 (by rw[A4];omega),E8]at e
    split at e
    ·cases e;exact .inr rfl
    ·cases e
 refine⟨⟨i0,g,Same.refl _,λ_ n _=>n⟩, ?_,λi d e=> ?_,λi z d e zo=> ?_,λ_ _ ha=>ha.elim,λ_ _ _ ha=>ha.elim,λi d e=> ?_,λi d e=> ?_⟩
 ·unfold Gm;have:=r.length;simp only[B6,A4,J9,C6]at hl⊢;omega
 ·rcases key i _ e with⟨j,d',rfl,q,q2⟩|q
  ·cases q;obtain⟨v,e1,h⟩:=r.get q2;refine⟨v, ?_,h⟩;unfold Gm;have hi:j < vs.length:=(A9.mp e1).1;rw[B3 (by rw[A4,C6];omega),B4,S0,e1];rfl
  ·cases q
 ·rcases key i _ e with⟨j,d',_,q,_⟩|q <;> (subst q;cases zo)
 ·rcases key i _ e with⟨j,d',_,q,_⟩|q <;> cases q
 ·rcases key i _ e with⟨j,d',_,q,_⟩|q <;> cases q
def fn_I{c:Bool}{P:Program}{w:World}{x qual cn:Str}{st:Stmt}{f C:Addr}{N ps:List Str}{k n:Nat}{g:FS}(F:Fun K x qual st f fd)(S:FnScope N ps (Bz st))(hC:ClsAt K cn C)(hn:ps.length=n + 1)(hle:ps.length<=N.length)
  (zj:∀(zp:Value) (A:Around) (outer:List Env) (s:Shared) (H:Hp) (E:XK),RoomC c k (A.deeper (envOfC qual (Bz st) s.heap.objs.size f zp))->
   BD (Di c P w K mg base N qual (Bz st) f zp A outer s H E) (λ_=>EXof K E) (Ey st) g):FnX P w K mg base c (k + 1) f fd ps (spI K C n (aw_2 N.length cn g)):=by
 refine Fun.okX F S (λvs H Q E h=> ?_) λzp A outer s H vs Q E hr h=>⟨_,zj zp A outer s H E hr, ?_⟩
 ·obtain⟨x,dx,vs0,Hq,G,ds,rfl,hl,_⟩:=h;rw[C6,hl,hn]
 obtain⟨x,dx,vs0,Hq,G,ds,rfl,hl,n1,i0,hx,g0,r,q⟩:=h;have E0:=cj_9 (N:=N) (b:=λ_=>x) (v0:=.ref x) (g0.trans i0) i0 r (by rw[hl];omega);have hs:(Gm N (.ref x::vs0))[0]? =some (some (.ref x)):=rfl;have E1:=E0.putO (i:=0) (z:=.lt (.obj cn [] [])) (v:=.ref x) (S:=λb=>b=x) (λa ha=>by subst ha;exact⟨n1,g0.free n1,by rw[hx];simp⟩) rfl (λ_ z=>by cases z) (.obj (S1:=λ_=>False) hC (us:=[]) hx rfl rfl (λ_ z=>z.elim) .nil) (λj a ha=>ha.elim) (λ_ _=>rfl);rw[ab_2 hs]at E1;refine⟨⟨Hq,λ_=>x⟩,G,G,_,_,E1, ?_⟩;unfold aw_2 at q;have e2:(Sl.no::(ds.map Sl.sh ++ List.replicate (N.length - (ds.length + 1)) .no)).set 0 (.lt (.obj cn [] []))=v_0 N.length cn ds:=rfl;rw[e2];cases e:g (v_0 N.length cn ds) with
 |nx Δ=>
  rw[e]at q;intro σ G' H' O E' _;simp only at q
  split at q
  ·rename_i p ep
   split at ep
   ·rename_i c2 ns ts e3
    split at ep
    ·rename_i hcc;subst hcc
     split at ep
     ·rename_i rs eu;cases ep;obtain⟨v,s1,t3⟩:=E'.ow _ _ _ e3 rfl;have s2:=E'.lt _ _ e3;rw[s1]at s2;cases s2;cases t3 with
      |obj hc h hl' ha sub rl=>
       rw[aw_1 eu]at rl;have:=hC.same hc;subst this;exact q G' H' _ _ E'.st (E'.out _ _ ha).1 h hl' rl.off
     ·cases ep
    ·cases ep
   ·cases ep
  ·rename_i x2 ep
   split at ep
   ·split at ep
    ·split at ep <;> cases ep
    ·cases ep
   ·cases ep
  ·rename_i ep;exact q.elim
 |ex x Δ=>rw[e]at q;exact λ σ G' H' O E' _=>(EXof K E).mono _ _ _ _ _ E'.st q
 |rt w=>rw[e]at q;exact q.elim
 |rv d Δ=>rw[e]at q;exact q.elim
 |bk Δ=>rw[e]at q;exact q.elim
 |ct Δ=>rw[e]at q;exact q.elim
 |no=>rw[e]at q;exact q.elim
theorem bq_6{f:Str}{y:V}:∀{ns:List Str} {us:List V},ns.length=us.length->ns.contains f=false->x_8 f y (ns.zip us)=(ns ++ [f]).zip (us ++ [y])
 | [],[],_,_=>rfl
 | [],_::_,e,_=>by simp at e
 |_::_,[],e,_=>by simp at e
 |n::ns,u::us,e,h=>by
  rw[P9,Bool.or_eq_false_iff]at h;have hn:¬n=f:=λz=>by rw[z]at h;simp at h
  show x_8 f y ((n,u)::ns.zip us)=(n,u)::(ns ++ [f]).zip (us ++ [y]);unfold x_8;rw[if_neg hn,bq_6 (by simpa using e) h.2]
def Fb(i:Nat)(cs:List Str)(f:Str)(js:List Nat)(fe:FE):FS:=λ Δ=>match(gsome js Δ)[i]? with
 |some (.lt (.obj c ns ts))=>if cs.contains c=true/\ns.contains f=false/\ns.length < 1000 then(match fe (Bg (gsome js Δ)) with
  | .ok w=> .nx ((gsome js Δ).set i (.lt (.obj c (ns ++ [f]) (ts ++ [.sh w.d]))))
  | .ex x=> .ex x (gsome js Δ)
  | .no=> .no) else .no
 |_=> .no
section
variable{X:Cx}{EX:Bb}{pos:Pos}
def bj_8{i:Nat}{cs:List Str}{f x:Str}(js:List Nat){e:Expr}{fe:FE}{p1 p2:Pos}(k:OFld X.K cs f)(he:ED X EX e fe)(hN:X.N[i]? =some x:=by rfl)(hv:Vis X.env.scope x:=by trivial)(hd:AG x:=by decide)
  (hcd:(x ==("__classdict__" :Str))=false:=by decide) (hs:swapsWith e (some (.Attribute (.Name x p1) f p2)) pos.line X.env=pure false:=by rfl):SD X EX (.Assign [.Attribute (.Name x p1) f p2] e pos) (Fb i cs f js fe):=
 PS.imp (do_3 (o_1 hN hv hd hcd) he hs) λD σ H ⟨H0,G0,G,Δ,O,E,q⟩=>by
  obtain⟨G1,O1,sg,E1⟩:=E.gsome js;unfold Fb at q;generalize gsome js Δ=Δ1 at q E1
  split at q
  ·rename_i c ns ts e1
   split at q
   ·rename_i hc;obtain⟨hc1,hc2,hc3⟩:=hc;refine⟨G1,Bg Δ1,E1.st.gh,E1.gsh, ?_⟩;cases e2:fe (Bg Δ1) with
    |ex y=>simp only[e2]at q;exact q σ G1 H O1 E1 sg
    |no=>simp only[e2]at q;exact q.elim
    |ok w=>
     simp only[e2]at q;refine WP.intro λv G2 H2 st r=> ?_;have E2:=E1.grow st;obtain⟨v0,s1,t⟩:=E2.ow i _ _ e1 rfl;have s2:=E2.lt i _ e1;generalize et:(Tn.obj c ns ts)=t0 at t;cases t with
     | @obj a C dx c2 ns2 us ts2 S S1 hC h hl ha sub rl=>
      injection et with et1 et2 et3
      subst et1 et2 et3;obtain⟨kc,kn⟩:=k _ hc1 _ hC;refine⟨_,s1,_,_,_,_,rfl,h,kc,kn,by rw[List.length_zip,<-hl,Nat.min_self];exact hc3, ?_⟩;rw[bq_6 hl hc2];have ms:=MStep.write (S:=O1 i) E2.st.gh ha (E2.out i _ ha).1 (.ins C dx ((ns ++ [f]).zip (us ++ [v])));refine q σ G2 _ _ (E2.step2 (S:=O1 i) (z:=.lt _) rfl (λ_ z=>by cases z) (λ_ _=>by rw[s1]at s2⊢;exact s2) ms.weak s1 (λb hb=>⟨.inl hb,(E2.out i b hb).1,ms.al b (E2.out i b hb).2.2⟩) ?_) (sg.trans st.gg);refine .obj hC Cb (by rw[B6,B6,hl];rfl) ha sub ?_;refine OwL.append (S2:=λ_=>False) (rl.mono (Same.refl _) (λb o hb z=> ?_) λ_ z=>z) (.cons (S1:=λ_=>False) (S2:=λ_=>False) (.sh r) .nil (λ_ z _=>z) (λ_ z=>z.elim) λ_ z=>z.elim) (λ_ _ z=>z) (λ_ z=>z) λ_ z=>z.elim;rw[Ba (sub b hb).2];exact z
     |_=>cases et
   ·exact q.elim
  ·exact q.elim
end
section
variable{X:Cx}{EX:Bb}{e:Expr}{es:List Expr}{x:Str}{pp pos:Pos}{cc:Bool}{k k' n:Nat}{ps:List Str}{C f:Addr}{fd:FuncData}
def ck_0{zd:AE}{σ:Sg}{s:Shared}{Q:VK}{vs:List V}{sp:Sp}(M:Mk X.K C f)(F:FnX X.prog X.w X.K X.mg X.base cc k f fd ps sp)(hr:RoomC cc (k + 1) X.A)(hb:Binds X.K fd ps [])(lk:Lk X EX)(I:Inv X zd σ H s)(r:Vals vs us)
  (h:∀x dx,H x=none->H dx=none->dx≠x->sp (.ref x::vs) (upd (upd H dx (.own x)) x (.ins C dx [])) (λv H2=>v=.non/\Q (.ref x) H2) (EXE X.K (EX σ))):wpAny (model X.prog X.w) X.A (call (.ref C) us) (EP X zd σ Q) X.xe s:=by
 have hq:=h (s.heap.objs.size + 1) s.heap.objs.size (I.hok.fresh (P6 _)) (I.hok.fresh (A8 _)) (C1 (P7 _));have I2:=Inv.made (C:=C) I;have r2:Vals (V.ref (s.heap.objs.size + 1)::vs) (Value.ref (s.heap.objs.size + 1)::us):=.cons rfl r;have hl:(Value.ref (s.heap.objs.size + 1)::us).length=ps.length:=by
  rw[<-r2.length];exact F.len _ _ _ _ hq
 have hb':=hb _ (Value.ref (s.heap.objs.size + 1)::us) I2.kIn (by rw[D3];exact hl);rw[D3]at hb';refine R6 (co_8 (f:=f) I.kIn M.makes M.init (M0.mp M.fn) (Q9 (F.run _ X.stack _ _ ⟨Value.ref (s.heap.objs.size + 1)::us,[]⟩ (Value.ref (s.heap.objs.size + 1)::us) _ _ _ (hr.make C us []) (I2.env0.make C us []) hb' r2 hq) λr s' hq'=> ?_));cases r with
 |error e=>exact lk zd σ _ _ e s' I2 hq'
 |ok fl=>
  cases fl with
  |ret u=>
   obtain⟨v,H',I3,rv,ev,q3⟩:=I2.after hq';subst ev;exact⟨rv,⟨V.ref (s.heap.objs.size + 1),H',I3,rfl,q3⟩⟩
  |next=>exact False.elim hq'
  |brk=>exact False.elim hq'
  |cont=>exact False.elim hq'
def MakD(P:Program)(w:World)(K:Frag)(mg:AB)(base:Heap)(cc:Bool)(c:Str)(k n:Nat)(F:List D->R (List Str×List D)):Prop:=
 ∃C f fd ps,ClsAt K c C/\mg c=some (.ref C)/\Mk K C f/\FnX P w K mg base cc k f fd ps (spI K C n F)/\Binds K fd ps []
def ao_3(c:Str)(n:Nat)(F:List D->R (List Str×List D))(fa:FA):FE:=λ δ=>(fa δ).bind λds=>if ds.length=n then(F ds).bind λp=> .ok (.sh (.obj c p.1 p.2)) else .no
def cc_7{F:List D->R (List Str×List D)}{fa:FA}(hr:RoomC cc k' X.A)(lk:Lk X EX)(h:MakD X.prog X.w X.K X.mg X.base cc x k n F)(ha:AD X EX (e::es) fa)(hk:k + 1<=k':=by decide)(hg:Gl X x:=by rfl)(hdb:AG x:=by decide)
  (he:starEach (e::es) X.env=(false,eval e X.env)::starEach es X.env:=by rfl) (hpl:(backTo pos (starEach es X.env)).any (·.1)=false:=by rfl):ED X EX (.Call (.Name x pp) (e::es) [] pos) (ao_3 x n F fa):=by
 obtain⟨C,f,fd,ps,hC,hm,M,ok,hb⟩:=h;intro zd s σ H Q I q;obtain⟨G,δ,g0,s0,o⟩:=q;refine M8 (s_3 I hg hm ?_ hdb);have ta:tDa X.K EX fa σ H λvs H1=>∃G1 ds,Same G1 H1/\HasL X.K G1 vs ds/\ds.length=n/\Out X.K (EX σ) G1 H1 ((F ds).bind λp=> .ok (.sh (.obj x p.1 p.2))) Q:=by
  refine tDa.seq g0 s0 o λds vs G' H' _ st r o'=> ?_
  split at o'
  ·rename_i hl;exact⟨G',ds,st.gh,r,hl,o'⟩
  ·exact o'.elim
 refine W8 (h₀:=X.base) I.ok.mod.kin M.kp (Be (ha pos zd s σ H _ I ta) λus s1 ⟨vs,H1,I1,r,G1,ds,sg,rl,hl,o'⟩=>⟨I1.kIn, ?_⟩) he hpl;refine ck_0 M ok (hr.mono hk) hb lk I1 r λy dy ny ndy ne=> ?_;refine⟨y,dy,vs,H1,G1,ds,rfl,by rw[rl.length];exact hl,ny,(λb o e=>by rw[Ba (Ei e ny),Ba (Ei e ndy)];exact e),Cb,sg,rl, ?_⟩;cases ef:F ds with
 |ok p=>
  rw[ef]at o';intro G' H' us' dx' st gy hy zk rr;refine⟨rfl, ?_⟩;have st2:Step G1 H1 (upd G' y (.ins C dx' (p.1.zip us'))) H':=⟨st.hh,λb u z=>by
   by_cases w:b=y
   ·subst w;rw[Cb]at z;rw[hy];exact z
   ·rw[Ba w]at z;exact st.gh b u z,st.gg.trans (j_6 gy _),λb z1 z2=>by
   have w:b≠y:=λw=>z2 (by rw[w];exact ny);rw[Ba w];exact st.nw b z1 z2⟩
  exact o' _ _ _ st2 (.obj hC Cb zk (rr.mono (j_6 gy _)))
 |ex z=>rw[ef]at o';exact EXof.in o'
 |no=>rw[ef]at o';exact o'
end
section
variable{K:Frag}{G:Hp}{a:Addr}{vs:List V}{ds:List D}
end
section
variable{X:Cx}{EX:Bb}{pos:Pos}
end
end L3
namespace L3
open PySem L2 Builtin Builtin.Str
variable{K:Frag}{fd:FuncData}{mg:AB}{us:List Value}{base:Heap}{H:Hp}{X:Cx}{pos:Pos}
def cc_8{x y:Str}(h:x.cps.toList=y.cps.toList):x=y:=by
 obtain⟨a⟩:=x;obtain⟨b⟩:=y;simp only at h;have:a=b:=by
  have:=L6 List.toArray h;simpa using this
 rw[this]
def cc_9(x:Str):x.length=x.cps.toList.length:=by simp[Str.length]
def de_7(x y:Str):(x ++ y).cps.toList=x.cps.toList ++ y.cps.toList:=by
 show(Str.append x y).cps.toList=_;simp[Str.append]
end L3
namespace L3
open PySem L2
variable{K:Frag}{fd:FuncData}{mg:AB}{us:List Value}{base:Heap}{H:Hp}{X:Cx}{pos:Pos}
def h_9(i j:Int):Cj (.int i) (.int j)=.ok (.sh (.bl (decide (i=j)))):=by
 have h:eqvD (.int i) (.int j)=decide (i=j):=by
  show(i ==j)=decide (i=j);rw[Bool.beq_eq_decide_eq]
 show(if eqC (.int i) (.int j)=true then R.ok (W.sh (D.bl (eqvD (.int i) (.int j)))) else .no)=_;rw[if_pos (by rfl),h]
def v_1{i j:Int}(h1: -18446744073709551616 < i)(h2:i < 18446744073709551616):Gc i j=true:=F1 (.inl ())
def ag_9{i j:Int}(h1: -18446744073709551616 < j)(h2:j < 18446744073709551616):Gc i j=true:=F1 (.inr ())
def m_3{i j:Int}(h:Gc i j=true):El (.int i) (.int j)=.ok (.sh (.int (i * j))):=by unfold El intD;simp only[h,if_true]
def Ec(i j:Int):Az (.int i) (.int j)=.ok (.sh (.int (i + j))):=rfl
def ah_0(i j:Int):Ej (.int i) (.int j)=.ok (.sh (.int (i - j))):=rfl
def o_4{i j:Int}(h1:0 < j)(h2:j < 1361129467683753853853498429727072845824):Ck (.int i) (.int j)=.ok (.sh (.int (i / j))):=by
 exact if_pos (show divC i j=true from F1 ⟨h1,by omega⟩)
def Dp{i j:Int}(h1:0 < j):Br (.int i) (.int j)=.ok (.sh (.int (i % j))):=by
 exact if_pos (show modC i j=true from F1 h1)
def Et(i j:Int):ltD (.int i) (.int j)=.ok (.sh (.bl (decide (i < j)))):=rfl
def ai_8(i j:Int):leD (.int i) (.int j)=.ok (.sh (.bl (decide (i<=j)))):=rfl
def Fm(i j:Int):gtD (.int i) (.int j)=.ok (.sh (.bl (decide (j < i)))):=rfl
def cs_4{x y:Str}(h:x.length + y.length<=16777216):Az (.str x) (.str y)=.ok (.sh (.str (x ++ y))):=if_pos h
def as_2{x y:List D}(h:x.length + y.length<=16777216):Az (.lst x) (.lst y)=.ok (.ow (.lst (x ++ y))):=if_pos h
def al_9{i j:Int}(h:powC i j=true):Fh (.int i) (.int j)=.ok (.sh (.int (i ^ j.toNat))):=by unfold Fh intD;simp only[h,if_true]
def w_5{i j:Int}(h1:0<=j)(h2:j<=1000000)(h3: -18446744073709551616 < i)(h4:i < 18446744073709551616):powC i j=true:=F1 ⟨h1,by omega,by omega⟩
def En(ds:List D):Df [.lst ds]=.ok (.sh (.int ds.length)):=rfl
def w_6{x:Str}(h:x.length<=16777216):Df [.str x]=.ok (.sh (.int x.length)):=if_pos h
def bx_9(i j:Int):maxD [.int i,.int j]=.ok (.sh (.int (max i j))):=by
 show R.ok (W.sh (D.int (if j > i then j else i)))=_;rw[show(if j > i then j else i)=max i j by rw[Int.max_def];split <;> split <;> omega]
def cs_5(i j:Int):minD [.int i,.int j]=.ok (.sh (.int (min i j))):=by
 show R.ok (W.sh (D.int (if j < i then j else i)))=_;rw[show(if j < i then j else i)=min i j by rw[Int.min_def];split <;> split <;> omega]
def Dz{ds:List D}{i:Int}{d:D}(h:atI ds i=some d):Bw (.lst ds) (.int i)=.ok (.sh d):=by unfold Bw;simp only[h]
def cd_0{x:Str}{i:Int}{c:Nat}(hz:x.length<=16777216)(h:atI x.cps.toList i=some c):Bw (.str x) (.int i)=.ok (.sh (.str ⟨#[c]⟩)):=by
 unfold Bw;simp only[h,if_pos hz]
def bj_9{α:Type}{xs:List α}{i:Int}{x:α}(h0:0<=i)(h:xs[i.toNat]? =some x):atI xs i=some x:=by
 have hl:i.toNat < xs.length:=(A9.mp h).1;unfold atI ixN;rw[if_pos h0,if_pos ()];exact h
def ck_1(fg:FG)(g:FS)(I:Nat->SE->Prop){n:Nat}{lo:Int}{Δ:SE}(h0:I 0 Δ)
  (step:∀k Δ,k < n->I k Δ->∃Δ1,fg (.int (lo + (k:Int))) Δ=.ok Δ1/\∃Δ2,(g Δ1=.nx Δ2\/g Δ1=.ct Δ2)/\I (k + 1) Δ2):∃Δ',Ca fg g (Ch lo n) Δ=.nx Δ'/\I n Δ':=by
 have all:∀(m k:Nat) (Δ:SE),k + m=n->I k Δ->∃Δ',Ca fg g ((List.range' k m).map λ(j:Nat)=>D.int (lo + (j:Int))) Δ=.nx Δ'/\I n Δ':=by
  intro m
  induction m with
  |zero=>intro k Δ e h;exact⟨Δ,rfl,by rw[<-e];exact h⟩
  |succ m ih=>
   intro k Δ e h;obtain⟨Δ1,e1,Δ2,e2,h2⟩:=step k Δ () h;obtain⟨Δ',e3,h3⟩:=ih (k + 1) Δ2 () h2;refine⟨Δ', ?_,h3⟩;rw[List.range'_succ,B2];show(match fg (.int (lo + (k:Int))) Δ with
    | .ok Δ1=>(match g Δ1 with
     | .nx Δ2=>Ca fg g _ Δ2
     | .ct Δ2=>Ca fg g _ Δ2
     | .bk Δ2=> .nx Δ2
     |r=>r)
    | .ex _=> .no
    | .no=> .no)=_
   rw[e1];rcases e2 with e2|e2
   ·simp only[e2];exact e3
   ·simp only[e2];exact e3
 obtain⟨Δ',e,h⟩:=all n 0 Δ () h0;refine⟨Δ', ?_,h⟩;unfold Ch;rw[List.range_eq_range'];exact e
def l_3(fg:FG)(g:FS)(I:Nat->SE->Prop){ds:List D}{Δ:SE}(h0:I 0 Δ)
  (step:∀k d Δ,ds[k]? =some d->I k Δ->∃Δ1,fg d Δ=.ok Δ1/\∃Δ2,(g Δ1=.nx Δ2\/g Δ1=.ct Δ2)/\I (k + 1) Δ2):∃Δ',Ca fg g ds Δ=.nx Δ'/\I ds.length Δ':=by
 have all:∀(m k:Nat) (Δ:SE),k + m=ds.length->I k Δ->∃Δ',Ca fg g (ds.drop k) Δ=.nx Δ'/\I ds.length Δ':=by
  intro m
  induction m with
  |zero=>
   intro k Δ e h;rw[V8 ()];exact⟨Δ,rfl,by rw[<-e];exact h⟩
  |succ m ih=>
   intro k Δ e h;obtain⟨d,d1,d2⟩:=w_2 (l:=ds) (i:=k) ();obtain⟨Δ1,e1,Δ2,e2,h2⟩:=step k d Δ d1 h;obtain⟨Δ',e3,h3⟩:=ih (k + 1) Δ2 () h2;refine⟨Δ', ?_,h3⟩;rw[d2];show(match fg d Δ with
    | .ok Δ1=>(match g Δ1 with
     | .nx Δ2=>Ca fg g (ds.drop (k + 1)) Δ2
     | .ct Δ2=>Ca fg g (ds.drop (k + 1)) Δ2
     | .bk Δ2=> .nx Δ2
     |r=>r)
    | .ex _=> .no
    | .no=> .no)=_
   rw[e1];rcases e2 with e2|e2
   ·simp only[e2];exact e3
   ·simp only[e2];exact e3
 have:=all ds.length 0 Δ () h0
 rwa[ZD6]at this
def y_8{j:Int}(h1: -4611686018427387903<=j)(h2:j < 4611686018427387904):Dw [.int j]=.ok (Ch 0 j.toNat):=by
 have h:j.natAbs < 4611686018427387904:=by omega
 exact if_pos h
def n_5{m:Nat}{fi:FI}{fg:Ft}{p:FT}{f:FE}{δ:DE}{ds rs:List D}(h:fi δ=.ok ds)(hl:ds.length<=16777216)(hc:q_2 fg p f (δ ++ List.replicate m none) ds=.ok rs):Cl m fi fg p f δ=.ok (.ow (.lst rs)):=by
 unfold Cl;rw[h];simp only[R.bind_ok];rw[if_pos hl,hc];rfl
def dk_4{fg:Ft}{p:FT}{f:FE}{δ:DE}:∀(n:Nat) (lo:Int),(∀k:Nat,k < n->∃δ1 z,fg (.int (lo + (k:Int))) δ=.ok δ1/\p δ1=.ok true/\f δ1=.ok (.sh (.int z)))->
  ∃cs:List Int,cs.length=n/\q_2 fg p f δ (Ch lo n)=.ok (cs.map D.int):=by
 have all:∀(es:List Nat) (lo:Int),(∀k∈es,∃δ1 z,fg (.int (lo + ((k:Nat):Int))) δ=.ok δ1/\p δ1=.ok true/\f δ1=.ok (.sh (.int z)))->
   ∃cs:List Int,cs.length=es.length/\q_2 fg p f δ (es.map λ(k:Nat)=>D.int (lo + (k:Int)))=.ok (cs.map D.int):=by
  intro es lo
  induction es with
  |nil=>intro _;exact⟨[],rfl,rfl⟩
  |cons k es ih=>
   intro h;obtain⟨δ1,z,e1,e2,e3⟩:=h k K5;obtain⟨cs,l5,e5⟩:=ih λj hj=>h j (D4 _ hj);refine⟨z::cs,by simp[l5], ?_⟩;rw[B2,B2];show((fg (.int (lo + (k:Int))) δ).bind λ δ1=>(p δ1).bind λb=>if b=true then(f δ1).bind λw=>(q_2 fg p f δ _).bind λrs=> .ok (w.d::rs) else q_2 fg p f δ _)=_;rw[e1];simp only[R.bind_ok,e2,if_true,e3];rw[e5];rfl
 intro n lo h;obtain⟨cs,l,e⟩:=all (List.range n) lo λk hk=>h k (J8.mp hk);exact⟨cs,by rw[l,K4],e⟩
def cs_6{js:List Nat}{p:FT}{g:FS}{n:Nat}{Δ Δ':SE}(h1:p (Ax Δ)=.ok true)(h2:g Δ=.nx Δ'):n_4 js p g (n + 1) Δ=n_4 js p g n Δ':=by
 show(match p (Ax Δ) with
  | .ok b=>if b=true then(match g Δ with
    | .nx Δ'=>n_4 js p g n Δ'
    | .ct Δ'=>n_4 js p g n Δ'
    | .bk Δ'=> .nx Δ'
    |r=>r) else .nx Δ
  | .ex _=>exT js p Δ
  | .no=> .no)=_
 rw[h1];simp only[if_true,h2]
def be_4{js:List Nat}{p:FT}{g:FS}{n:Nat}{Δ:SE}(h1:p (Ax Δ)=.ok false):n_4 js p g (n + 1) Δ=.nx Δ:=by
 show(match p (Ax Δ) with
  | .ok b=>if b=true then(match g Δ with
    | .nx Δ'=>n_4 js p g n Δ'
    | .ct Δ'=>n_4 js p g n Δ'
    | .bk Δ'=> .nx Δ'
    |r=>r) else .nx Δ
  | .ex _=>exT js p Δ
  | .no=> .no)=_
 rw[h1];simp only[E7,N0]
def cs_7(d:D):Sl.pub (.sh d)=some d:=rfl
def dr_1(d:D):Sl.pub (.ow d)=none:=rfl
def dr_2:Sl.pub .no=none:=rfl
def dr_3(d:D):Sl.any (.sh d)=some d:=rfl
def dr_4(d:D):Sl.any (.ow d)=some d:=rfl
def dr_5:Sl.any .no=none:=rfl
def de_8(d:D):Sl.give (.sh d)=.sh d:=rfl
def de_9(d:D):Sl.give (.ow d)=.sh d:=rfl
def df_0:Sl.give .no=.no:=rfl
def Bc{g h:FS}{Δ Δ':SE}(e:g Δ=.nx Δ'):Af g h Δ=h Δ':=by unfold Af;rw[e]
def k_9{n:Nat}{g:FS}{ds:List D}{w:W}(e:g (An n ds)=.rt w):Al n g ds=.ok w:=by unfold Al;rw[e]
theorem ad_9{fg:Ft}{p:FT}{f:FE}{δ:DE}(P:D->Bool)(F:D->D):∀(ds:List D),(∀d∈ds,∃δ1,fg d δ=.ok δ1/\p δ1=.ok (P d)/\(P d=true->∃w,f δ1=.ok w/\w.d=F d))->
  q_2 fg p f δ ds=.ok ((ds.filter P).map F)
 | [],_=>rfl
 |d::ds,h=>by
  obtain⟨δ1,e1,e2,e3⟩:=h d K5;have ih:=ad_9 P F ds λx hx=>h x (D4 _ hx);show((fg d δ).bind λ δ1=>(p δ1).bind λb=>if b=true then(f δ1).bind λw=>(q_2 fg p f δ ds).bind λrs=> .ok (w.d::rs) else q_2 fg p f δ ds)=_;rw[e1];simp only[R.bind_ok,e2];cases hP:P d with
  |true=>
   obtain⟨w,e4,e5⟩:=e3 hP;rw[if_pos rfl,e4,ih];simp only[R.bind_ok,e5,List.filter_cons_of_pos hP,B2]
  |false=>
   rw[if_neg A7,ih,List.filter_cons_of_neg (by rw[hP];exact A7)]
def w_7{fg:Ft}{f:FE}{δ:DE}(F:D->D)(ds:List D)(h:∀d∈ds,∃δ1 w,fg d δ=.ok δ1/\f δ1=.ok w/\w.d=F d):
  q_2 fg (λ_=> .ok true) f δ ds=.ok (ds.map F):=by
 have:=ad_9 (fg:=fg) (p:=λ_=> .ok true) (f:=f) (δ:=δ) (λ_=>true) F ds λd hd=>by
  obtain⟨δ1,w,e1,e2,e3⟩:=h d hd;exact⟨δ1,e1,rfl,λ_=>⟨w,e2,e3⟩⟩
 rw[this,List.filter_eq_self.mpr λ_ _=>rfl]
def bq_7:Dj "int" .non=some false:=rfl
def by_0(b:Bool):Dj "int" (.bl b)=some true:=rfl
def bq_8(i:Int):Dj "int" (.int i)=some true:=rfl
def bq_9(x:Str):Dj "int" (.str x)=some false:=rfl
def br_0(l:List D):Dj "int" (.lst l)=some false:=rfl
def br_1(l:List D):Dj "int" (.tup l)=some false:=rfl
def bk_0:Dj "bool" .non=some false:=rfl
def br_2(b:Bool):Dj "bool" (.bl b)=some true:=rfl
def bk_1(i:Int):Dj "bool" (.int i)=some false:=rfl
def bk_2(x:Str):Dj "bool" (.str x)=some false:=rfl
def bk_3(l:List D):Dj "bool" (.lst l)=some false:=rfl
def bk_4(l:List D):Dj "bool" (.tup l)=some false:=rfl
def br_3:Dj "str" .non=some false:=rfl
def by_1(b:Bool):Dj "str" (.bl b)=some false:=rfl
def br_4(i:Int):Dj "str" (.int i)=some false:=rfl
def br_5(x:Str):Dj "str" (.str x)=some true:=rfl
def br_6(l:List D):Dj "str" (.lst l)=some false:=rfl
def br_7(l:List D):Dj "str" (.tup l)=some false:=rfl
def bk_5:Dj "list" .non=some false:=rfl
def br_8(b:Bool):Dj "list" (.bl b)=some false:=rfl
def bk_6(i:Int):Dj "list" (.int i)=some false:=rfl
def bk_7(x:Str):Dj "list" (.str x)=some false:=rfl
def bk_8(l:List D):Dj "list" (.lst l)=some true:=rfl
def bk_9(l:List D):Dj "list" (.tup l)=some false:=rfl
def ba_1:Dj "tuple" .non=some false:=rfl
def bl_0(b:Bool):Dj "tuple" (.bl b)=some false:=rfl
def ba_2(i:Int):Dj "tuple" (.int i)=some false:=rfl
def ba_3(x:Str):Dj "tuple" (.str x)=some false:=rfl
def ba_4(l:List D):Dj "tuple" (.lst l)=some false:=rfl
def ba_5(l:List D):Dj "tuple" (.tup l)=some true:=rfl
end L3
namespace L3
open PySem PySem.Spec PyProof.Rows L2
variable{K:Frag}{fd:FuncData}{mg:AB}{us:List Value}{base:Heap}{H:Hp}{X:Cx}{pos:Pos}
def bl_1:List Value->Bool
 | .ref _::r=>bl_1 r
 |l=>l == [.type "ValueError",.type "Exception",.type "BaseException",.type "object"]
theorem af_7(self:Value):∀{l:List Value},bl_1 l=true->refuseLoop self "__setattr__" l=pure .unit
 | [],e=>by cases e
 | .ref c::r,e=>by rw[refuseLoop_ref];exact af_7 self e
 | .type n::r,e=>by
  have e':(Value.type n::r)= [.type "ValueError",.type "Exception",.type "BaseException",.type "object"]:=eq_of_beq e;rw[e'];exact PySem.F.store_ValueError.passes self
 | .none::r,e=>by cases(eq_of_beq (show((Value.none::r) == [.type "ValueError",.type "Exception",.type "BaseException",.type "object"])=true from e))
 | .bool b::r,e=>by cases(eq_of_beq (show((Value.bool b::r) == [.type "ValueError",.type "Exception",.type "BaseException",.type "object"])=true from e))
 | .int b t::r,e=>by cases(eq_of_beq (show((Value.int b t::r) == [.type "ValueError",.type "Exception",.type "BaseException",.type "object"])=true from e))
 | .str b t::r,e=>by cases(eq_of_beq (show((Value.str b t::r) == [.type "ValueError",.type "Exception",.type "BaseException",.type "object"])=true from e))
 | .builtin b::r,e=>by cases(eq_of_beq (show((Value.builtin b::r) == [.type "ValueError",.type "Exception",.type "BaseException",.type "object"])=true from e))
theorem aw_3:∀{l:List Value},bl_1 l=true->l.contains (.type "object")=true/\l.isEmpty=false
 | [],e=>by cases e
 | .ref c::r,e=>⟨by rw[P9,(aw_3 (l:=r) e).1,ZE5],rfl⟩
 | .type n::r,e=>by
  have e':(Value.type n::r)= [.type "ValueError",.type "Exception",.type "BaseException",.type "object"]:=eq_of_beq e;rw[e'];exact⟨by decide,rfl⟩
 | .none::r,e=>by cases(eq_of_beq (show((Value.none::r) == [.type "ValueError",.type "Exception",.type "BaseException",.type "object"])=true from e))
 | .bool b::r,e=>by cases(eq_of_beq (show((Value.bool b::r) == [.type "ValueError",.type "Exception",.type "BaseException",.type "object"])=true from e))
 | .int b t::r,e=>by cases(eq_of_beq (show((Value.int b t::r) == [.type "ValueError",.type "Exception",.type "BaseException",.type "object"])=true from e))
 | .str b t::r,e=>by cases(eq_of_beq (show((Value.str b t::r) == [.type "ValueError",.type "Exception",.type "BaseException",.type "object"])=true from e))
 | .builtin b::r,e=>by cases(eq_of_beq (show((Value.builtin b::r) == [.type "ValueError",.type "Exception",.type "BaseException",.type "object"])=true from e))
structure XCls(K:Frag)(C:Addr):Prop where
 sa:findIn K (.ref C) "__setattr__" =some (some (.builtin "object.__setattr__"))
 over:(clsIn K C).any (λcd=>bl_1 cd.mro && cd.hasDict)=true
section
variable{prog:Program}{w:World}{A:Around}{E:AA}{s:Shared}{K:Frag}{x C:Addr}{R:Result->Shared->Prop}
def df_1{ox:Obj}{od:Option Obj}{name:Str}{tk:Tok}{v:Value}(X:K.In s.heap)(I:InstAt s.heap x ox C od)(xc:XCls K C)(ha:findIn K (.ref C) name=some none)
  (h:wpAny (model prog w) A.in1 (Builtin.ObjectAttr.storeInOwnDict (.ref x) (.ref C) (.str name tk) name v false)
   (λfin s'=>match fin with| .done f=>R (.ok f) s'| .again c'=>c'.quiet=true/\codeAny (model prog w) A c' R s') (λe s'=>R (.error e) s') s):
  codeAny (model prog w) A (.call (.builtin "object.__setattr__") ⟨[.ref x,.str name tk,v],[]⟩) R s:=by
 have SF:=PySem.F.store_object;obtain⟨cd,hc,ho⟩:=ZA7 xc.over;rw[D0]at ho;obtain⟨hs1,hs2⟩:=aw_3 ho.1;have sub:Looks (model prog w) s.heap (isInstance (.ref x) (.type "object")) true:=I.type.andThen (ZD3 X (by unfold mroIn;rw[hc,ZB4,if_neg (by rw[hs2];decide),hs1]));refine T9 SF.slot.plain SF.entry (@ZE0 (model prog w) _ _ s "object.__setattr__" "object" "__setattr__" (.ref x) [.str name tk,v] [] _ SF.kind SF.split sub (SF.args (.ref x) (.str name tk) v) ?_);have hm:Looks (model prog w) s.heap (mroOf (.ref C)) cd.mro:=(ZD2 X hc).andThen .now;rw[osa_eq,refuse_eq];refine A3 (A3 (I.type.here (A3 (hm.here ?_))));rw[af_7 _ ho.1];refine C5 (A3 (I.type.here (A3 ((U2 X ha).here (A3 (C5 (a:=(none:Option Value)) ?_))))));exact h
def ck_2{D:Addr}{name:Str}{tk:Tok}{v:Value}{Q:PySem.Fin->Shared->Prop}(hD:s.heap.get? D=some {cls:=.type "dict",data:=.dict #[]})
  (h:∀h' tk,h'.Ns1 D (λy=>if y=name then some v else none)->Heap.SameBut D s.heap h'->Q (.done (.ret .none)) {s with heap:=h',toks:=tk}):wpAny (model prog w) A (Builtin.ObjectAttr.storeInDict D (.str name tk) name v) Q E s:=by
 have dv:s.heap.Ns D λ_=>none:=⟨_, #[],_,hD,rfl,λ_ he=>(Array.not_mem_empty _ he).elim,λ_=>rfl⟩;unfold Builtin.ObjectAttr.storeInDict Builtin.ObjectAttr.newKeyGuard
 wp_walk using wpAny_nsSet1 (Heap.Ns1.of_empty dv)
 intro h' n sb;obtain⟨o,es,ep,at1,is1,few⟩:=n.count (.cons name v .nil);have le:es.size<=sizeLine + 1:=C7 few (by simp[D5]);exact A3 (wpAny_lookBehind at1 (is1▸pastItsLine_dict le) (C5 (h h' _ n sb)))
def br_9{name:Str}{v:Value}{us:Array Value}{Q:Unit->Shared->Prop}(X:K.In s.heap)(hx:s.heap.get? x=some ⟨.ref C,none,.fields us, #[]⟩)(xc:XCls K C)(ha:findIn K (.ref C) name=some none)
  (h:∀h' tk,h'.get? x=some ⟨.ref C,some s.heap.objs.size,.fields us, #[]⟩->h'.Ns1 s.heap.objs.size (λy=>if y=name then some v else none)->(∀b o,b≠x->s.heap.get? b=some o->h'.get? b=some o)->Q .unit {s with heap:=h',toks:=tk}):
  wpAny (model prog w) A (setAttr (.ref x) name v) Q E s:=by
 have I:InstAt s.heap x ⟨.ref C,none,.fields us, #[]⟩ C none:=⟨hx,rfl,rfl,True.intro⟩;refine set_plain X I xc.sa (df_1 (s:={s with toks:=s.toks + 1}) X I xc ha ?_);obtain⟨cd,hc,hd'⟩:=ZA7 xc.over;rw[D0]at hd';refine A3 (C5 (A3 (A3 (ZD5 (s:={s with toks:=s.toks + 1}) hx (A3 (ZE1 (s:={s with toks:=s.toks + 1}) (ZD2 X hc) ?_))))));rw[hd'.2]
 
 have neD:x≠s.heap.objs.size:=C1 (A6 hx);have old:∀b o,b≠x->s.heap.get? b=some o->((s.heap.push {cls:=.type "dict",data:=.dict #[]}).update x λo=>{o with dict:=some s.heap.objs.size}).get? b=some o:=λb o hb e=>by
  rw[Heap.get?_update_ne _ _ _ _ hb];exact A5 _ e
 have itself:=O0 (λo:Obj=>{o with dict:=some s.heap.objs.size}) (A5 {cls:=.type "dict",data:=.dict #[]} hx) rfl;have isD:((s.heap.push {cls:=.type "dict",data:=.dict #[]}).update x λo=>{o with dict:=some s.heap.objs.size}).get? s.heap.objs.size=some {cls:=.type "dict",data:=.dict #[]}:=by
  rw[Heap.get?_update_ne _ _ _ _ (Ne.symm neD)];exact B7 _ rfl
 refine A3 (wpAny_alloc' (A3 (wpAny_update' (A5 _ hx) (C5 (ck_2 isD λh' tk n sb=>h h' tk ?_ n λb o hb e=> ?_)))))
 ·rw[sb.2 x neD];exact itself
 ·rw[sb.2 b (C1 (A6 e))];exact old b o hb e
end
def XE(a:Addr)(o:Obj):HO:=.ext λh=>h.get? a=some o
def XE.ok{P:Program}{w:World}{h:Heap}{a:Addr}{o:Obj}(e:h.get? a=some o):ObjOk P w H h a (XE a o):=⟨e,⟨o,e⟩,λ_ _ p k=>k _ p⟩
theorem XE.get{P:Program}{w:World}{h:Heap}{a:Addr}{o:Obj}(x:HOk P w H h)(e:H a=some (XE a o)):h.get? a=some o:=(x a _ e).1
def XO.ok{P:Program}{w:World}{h:Heap}{a C:Addr}{dx:Option Addr}{us:Array Value}{sl:Array (Option Value)}(e:h.get? a=some ⟨.ref C,dx,.fields us,sl⟩)(c2:us[2]? =some .none):ObjOk P w H h a (XO a C dx):=
 ⟨⟨us,sl,e,c2⟩,⟨_,e⟩,λ_ _ ⟨us,sl,p,c⟩ k=>⟨us,sl,k _ p,c⟩⟩
section
variable{X:Cx}{zd:AE}{σ:Sg}{H:Hp}{s:Shared}
def Inv.excSet{a:Addr}{o0 o1:Obj}{h':Heap}{t':Nat}{fs:List (Str×V)}{mA:AB}(I:Inv X zd σ H s)(e:H a=some (XE a o0))(hx:h'.get? a=some o1)(hn:h'.Ns1 s.heap.objs.size mA)(hr:∀f,RelO (fs.lookup f) (mA f))
  (k:∀b o,b≠a->s.heap.get? b=some o->h'.get? b=some o):Inv X zd σ (upd (upd H s.heap.objs.size (.xd fs)) a (XE a o1)) {s with heap:=h',toks:=t'}:=by
 have hf:H s.heap.objs.size=none:=I.hok.fresh (A8 _);have other:∀b u,H b=some u->b≠a->(upd (upd H s.heap.objs.size (.xd fs)) a (XE a o1)) b=some u:=λb u q n=>by
  rw[Ba n,Ba (Ei q hf)];exact q
 refine I.un (h':=h') ⟨λb o q n _ _=>k b o (λz=>by subst z;rw[e]at n;cases n) q,λb o q n _ _=>⟨o.slots,k b o (λz=>by subst z;rw[e]at n;cases n) q⟩,λb o q n _=> ?_,λb o q _=> ?_,λb xs q=> ?_,λb o u q=> ?_,λb ps q=> ?_⟩ λb u q=> ?_
 ·rw[Ba (λz=>by subst z;rw[e]at n;cases n),Ba (C1 (A6 q))];exact n
 ·by_cases z:b=a
  ·subst z;exact⟨_,hx⟩
  ·exact⟨_,k b o z q⟩
 ·exact other b _ q λz=>by subst z;rw[e]at q;cases q
 ·exact other b _ q λz=>by subst z;rw[e]at q;cases q
 ·exact⟨#[],by rw[other b _ q λz=>by subst z;rw[e]at q;cases q];simp⟩
 ·by_cases z:b=a
  ·subst z;rw[Cb]at q;cases q;exact XE.ok hx
  ·rw[Ba z]at q
   by_cases z2:b=s.heap.objs.size
   ·subst z2;rw[Cb]at q;cases q;exact⟨mA,hn,hr⟩
   ·rw[Ba z2]at q;refine(I.hok b u q).stay (λc v hc z3=>k c v ?_ z3) (λc z3=>other c _ z3 λz4=> ?_) (λc xs z3=>other c _ z3 λz4=> ?_) λc o z3=>other c _ z3 λz4=> ?_
    ·rcases hc with rfl|hc
     ·exact z
     ·exact λz4=>by subst z4;rw[e]at hc;cases hc
    ·subst z4;rw[e]at z3;cases z3
    ·subst z4;rw[e]at z3;cases z3
    ·subst z4;rw[e]at z3;cases z3
def Inv.forget{a:Addr}{φ:Heap->Prop}(I:Inv X zd σ (upd H a (.ext φ)) s)(hn:H a=none):Inv X zd σ H s:=by
 have sub:∀b u,H b=some u->upd H a (.ext φ) b=some u:=λb u e=>by rw[Ba (Ei e hn)];exact e
 have nf:∀b,upd H a (.ext φ) b=none->H b=none:=λb e=>by
  by_cases z:b=a
  ·subst z;exact hn
  ·rw[Ba z]at e;exact e
 have bk:∀b u,upd H a (.ext φ) b=some u->(∀ψ,u≠ .ext ψ)->H b=some u:=λb u e n=>by
  by_cases z:b=a
  ·subst z;rw[Cb]at e;cases e;exact absurd rfl (n φ)
  ·rw[Ba z]at e;exact e
 have B:=I.base;refine⟨I.ok,I.os,I.bare,⟨B.keep,B.slot,λb u q n x=>nf b (B.free b u q n x),B.there,λb xs q=>bk _ _ (B.tups b xs q) (λ_ z=>nomatch z),λb u v q=>bk _ _ (B.frzs b u v q) (λ_ z=>nomatch z),λb ps q=> ?_⟩,I.loc,I.cell,nf _ I.free,λx c e=>nf _ (I.freeC x c e),λp hp=> ?_,λb u e=> ?_,I.len⟩
 ·obtain⟨more,z⟩:=B.tbls b ps q;exact⟨more,bk _ _ z (λ_ z=>nomatch z)⟩
 ·obtain⟨p1,p2,p3⟩:=I.pin p hp;exact⟨p1,nf _ p2,p3⟩
 ·exact(I.hok b u (sub b u e)).stay (λ_ _ _ q=>q) (λc q=>bk _ _ q (λ_ z=>nomatch z)) (λc xs q=>bk _ _ q (λ_ z=>nomatch z)) λc o q=>bk _ _ q (λ_ z=>nomatch z)
end
def ah_1(C:Addr)(f:Str):Sp:=λvs H Q _=>∃a v us,vs= [.ref a,v]/\H a=some (XE a ⟨.ref C,none,.fields us, #[]⟩)/\∀d,H d=none->d≠a->Q .non (upd (upd H d (.xd [(f,v)])) a (XE a ⟨.ref C,some d,.fields us, #[]⟩))
section
variable{X:Cx}{C:Addr}{f:Str}{pos pos' p1 p2:Pos}{x y:Str}
def dk_5(C:Addr)(f:Str):TS:=λD σ H=>∃a v us,σ[0]? =some (some (.ref a))/\σ[1]? =some (some v)/\H a=some (XE a ⟨.ref C,none,.fields us, #[]⟩)/\∀d,H d=none->d≠a->D.nx σ (upd (upd H d (.xd [(f,v)])) a (XE a ⟨.ref C,some d,.fields us, #[]⟩))
def bl_2(xc:XCls X.K C)(hn:findIn X.K (.ref C) f=some none)(ho:PE X (.Name x p1) (tVar 0))(hv:PE X (.Name y p2) (tVar 1))(hs:swapsWith (.Name y p2) (some (.Attribute (.Name x p1) f pos')) pos.line X.env=pure false:=by rfl):
  PS X (.Assign [.Attribute (.Name x p1) f pos'] (.Name y p2) pos) (dk_5 C f):=by
 intro zd s σ H D I h;obtain⟨a,v,us,e0,e1,ha,q⟩:=h;refine W4 (Be (hv zd s σ H (λy H1=>y=v/\H1=H) I ⟨v,e1,rfl,rfl⟩) λu s1 ⟨y,H1,I1,ry,ey,eH⟩=>Be (ho zd s1 σ H1 (λy H2=>y=.ref a/\H2=H) I1 ⟨.ref a,e0,rfl,eH⟩) λov s2 ⟨x,H2,I2,rx,ex,eH2⟩=> ?_) hs;subst ey ex eH eH2;obtain rfl:ov=Value.ref a:=rx;refine br_9 I2.kIn (XE.get I2.hok ha) xc hn λh' tk g1 g2 g3=> ?_;refine⟨σ,_,Inv.excSet I2 (t':=tk) (fs:=[(f,y)]) ha g1 g2 (λg=> ?_) g3,q _ (I2.hok.fresh (A8 _)) ?_⟩
 ·show RelO ([(f,y)].lookup g) (if g=f then some u else none)
  by_cases z:g=f
  ·subst z;rw[if_pos rfl];simp only[F8,O6];exact ry
  ·rw[if_neg z];have zb:(g ==f)=false:=by simpa using z
   simp only[F8,zb,List.lookup_nil]
   trivial
 ·exact Y6 (A6 (XE.get I2.hok ha))
end
abbrev bmVE:List Value:=[.type "ValueError",.type "Exception",.type "BaseException",.type "object"]
def n_6(es:Array DictEntry):Bool:=es.toList.all λe=>match e.key with| .str _ _=>true|_=>false
def by_2{es:Array DictEntry}(h:n_6 es=true):StrKeys es:=λe he=>by
 have q:=F4.mp h e (Array.mem_toList_iff.mpr he);revert q;cases hk:e.key with
 |str n t=>intro _;exact⟨n,t,rfl⟩
 |_=>intro q;cases q
def cd_1{N:Addr}{oc:Value}{od:Option Addr}{es:Array DictEntry}{ep:Nat}{sl:Array (Option Value)}(l:K.lookup N=some ⟨oc,od,.dict es ep,sl⟩)(k:n_6 es=true){h:Heap}(X:K.In h):h.Ns N (nsFind es):=
 ⟨_,es,ep,X _ _ l,rfl,by_2 k,λ_=>rfl⟩
def XMk(K:Frag)(C fI:Addr):Prop:=∃(nm q:Str) (N:Addr) (bs bm:List Value) (sn:List Str) (sub:List Value) (ab:Bool) (col:Option Bool) (dd:Option Addr) (k0 k1 k2 k3 k5:Option Value) (mN:AB),
 K.lookup C=some (excClassObj nm q C N bs bm true sn sub ab col dd k0 k1 k2 k3 k5 "ValueError.__new__")/\(∀h:Heap,K.In h->OwnTail h bmVE bm)/\(∀h:Heap,K.In h->h.Ns N mN)/\mN "__init__" =some (.ref fI)
def dr_6{C fI N L:Addr}{nm q:Str}{bs:List Value}{sn:List Str}{sub:List Value}{ab:Bool}{col:Option Bool}{dd:Option Addr}{k0 k1 k2 k3 k5:Option Value}{oc c0 oL:Value}{od ddL odL:Option Addr}{es esL:Array DictEntry}{ep epL:Nat}{sl sl0 slL:Array (Option Value)}{cd:ClassData}
  (lc:K.lookup C=some (excClassObj nm q C N bs (.ref L::bmVE) true sn sub ab col dd k0 k1 k2 k3 k5 "ValueError.__new__")) (ln:K.lookup N=some ⟨oc,od,.dict es ep,sl⟩) (kn:n_6 es=true) (hi:nsFind es "__init__" =some (.ref fI))
  (ll:K.lookup L=some ⟨c0,ddL,.cls cd,sl0⟩) (lm:K.lookup cd.ns=some ⟨oL,odL,.dict esL epL,slL⟩) (km:n_6 esL=true) (hL:nsFind esL "__init__" =none):XMk K C fI:=
 ⟨nm,q,N,bs,_,sn,sub,ab,col,dd,k0,k1,k2,k3,k5,nsFind es,lc,λh X=> .own (X _ _ ll) (cd_1 lm km X) hL .base,λh X=>cd_1 ln kn X,hi⟩
def df_2{C N L:Addr}{nm q:Str}{bs:List Value}{sn:List Str}{sub:List Value}{ab:Bool}{col:Option Bool}{dd:Option Addr}{k0 k1 k2 k3 k5:Option Value}
  (lc:K.lookup C=some (excClassObj nm q C N bs (.ref L::bmVE) true sn sub ab col dd k0 k1 k2 k3 k5 "ValueError.__new__")) (sa:findIn K (.ref C) "__setattr__" =some (some (.builtin "object.__setattr__"))):XCls K C:=
 ⟨sa,by unfold clsIn;rw[lc];rfl⟩
def bl_3{c:Bool}{P:Program}{w:World}{x qual sf at_ fl:Str}{st:Stmt}{f C:Addr}{k:Nat}(F:Fun K x qual st f fd)(S:FnScope [sf,at_] [sf,at_] (Bz st))
  (zj:∀(zp:Value) (A:Around) (outer:List Env) (s:Shared) (H:Hp) (E:XK),PSs (Di c P w K mg base [sf,at_] qual (Bz st) f zp A outer s H E) (Ey st) (dk_5 C fl)):FnX P w K mg base c (k + 1) f fd [sf,at_] (ah_1 C fl):=by
 refine Fun.okX F S (λvs H Q E h=> ?_) λzp A outer s H vs Q E hr h=>⟨_,zj zp A outer s H E, ?_⟩
 ·obtain⟨a,v,us,rfl,_⟩:=h;rfl
 ·obtain⟨a,v,us,rfl,ha,q⟩:=h;exact⟨a,v,us,rfl,rfl,ha,q⟩
theorem am_0{h:Heap}:∀{bm:List Value},OwnTail h bmVE bm->bm.contains (.type "BaseException")=true
 |_,.base=>by decide
 |_,.own _ _ _ t=>by rw[P9,am_0 t,ZE5]
structure XC(P:Program)(w:World)(K:Frag)(mg:AB)(base:Heap)(c:Str)(f:Str)(C:Addr):Prop where
 at_:ClsAt K c C
 glob:mg c=some (.ref C)
 kp:keepIn K (.ref C)=true
 xc:XCls K C
 made:∃(fI:Addr) (fd:FuncData) (ps:List Str) (oI:Obj),XMk K C fI/\K.lookup fI=some oI/\oI.cls=.type "function" /\FnX P w K mg base false 1 fI fd ps (ah_1 C f)/\Binds K fd ps []
section
variable{X:Cx}{zd:AE}{σ:Sg}{H:Hp}{s:Shared}{C:Addr}{c f:Str}
def cs_8{e d:Addr}{o0 o1 x:HO}:upd (upd (upd H e o0) d x) e o1=upd (upd H d x) e o1:=by
 funext b
 unfold upd
 by_cases z:b=e
 ·rw[if_pos z,if_pos z]
 ·rw[if_neg z,if_neg z,if_neg z]
def ck_3{u:Value}{v:V}{Q:AA}{E:AA}(M:XC X.prog X.w X.K X.mg X.base c f C)(hr:RoomC false 2 X.A)(I:Inv X zd σ H s)(r:RelV v u)
  (h:∀a d t s',H a=none->H d=none->d≠a->s.heap.objs.size<=a->Inv X zd σ (upd (upd H d (.xd [(f,v)])) a (XE a ⟨.ref C,some d,.fields #[.ref t,.none,.none,.none,.bool false,.none], #[]⟩)) s'->Q (.ref a) s'):
  wpAny (model X.prog X.w) X.A (call (.ref C) [u]) Q E s:=by
 obtain⟨fI,fd,ps,oI,⟨nm,q,N,bs,bm,sn,sub,ab,col,dd,k0,k1,k2,k3,k5,mN,lc,tl,hn,hi⟩,lI,hI,F,hb⟩:=M.made;have KX:=I.kIn;obtain⟨hh,g,dr,tk,os⟩:=s;refine cq_0 Z5 (tl hh KX) (KX _ _ lc) (hn hh KX) hi (KX _ _ lI) hI (λh' e me ze=> ?_) (by show 1<=sizeLine;rw[D5];omega);obtain⟨kk,new,t,et,_,_⟩:=me;have I2:Inv X zd σ (upd H e (XE e ⟨.ref C,none,.fields #[.ref t,.none,.none,.none,.bool false,.none], #[]⟩)) ⟨h',g,dr,tk,os⟩:=I.laid (h':=h') (t':=tk) kk ze (XE.ok et);have he:H e=none:=I.hok.fresh ze;have r2:Vals [.ref e,v] [.ref e,u]:=.cons rfl (.cons r .nil);have sp:ah_1 C f [.ref e,v] (upd H e (XE e ⟨.ref C,none,.fields #[.ref t,.none,.none,.none,.bool false,.none], #[]⟩)) (λy H2=>y=.non/\∃d,H d=none/\d≠e/\H2=upd (upd H d (.xd [(f,v)])) e (XE e ⟨.ref C,some d,.fields #[.ref t,.none,.none,.none,.bool false,.none], #[]⟩)) (λ_ _ _=>False):=
  ⟨e,v,_,rfl,Cb,λd hd ne=>⟨rfl,d,by rw[Ba ne]at hd;exact hd,ne,cs_8⟩⟩
 have hl: [Value.ref e,u].length=ps.length:=F.len _ _ _ _ sp;have hb':=hb ⟨h',g,dr,tk,os⟩ [.ref e,u] I2.kIn (by rw[D3];exact hl);rw[D3]at hb';refine R6 (Q9 (F.run _ X.stack _ _ ⟨[.ref e,u],[]⟩ [.ref e,u] [.ref e,v] _ _ (hr.make C [u] []) (I2.env0.make C [u] []) hb' r2 sp) λr s' hq=> ?_);cases r with
 |error x=>
  obtain⟨a,C',dx,T,H',_,_,_,_,_,_,_,_,_,_,z⟩:=hq;exact z.elim
 |ok fl=>
  cases fl with
  |ret y=>
   obtain⟨v',H',I3,rv,ev,d,hd,ne,eH⟩:=I2.after hq;subst ev eH;exact⟨rv,h e d t s' he hd ne ze I3⟩
  |next=>exact False.elim hq
  |brk=>exact False.elim hq
  |cont=>exact False.elim hq
def Lk1(X:Cx)(EX:Bb):Prop:=∀(zd:AE) (σ:Sg) (H H':Hp) (s s':Shared) (a C:Addr) (dx:Option Addr) (o:Obj) (us:Array Value),Inv X zd σ H s->Inv X zd σ H' s'->s'.heap.get? a=some o->o.cls=.ref C->o.dict=dx->o.data=.fields us->us[1]? =some .none->us[2]? =some .none->
 H' a=none->s.heap.objs.size<=a->EXE X.K (EX σ) (.ref C) dx H'->X.xe (.ref a) s'
def ai_9{cm:Bool}{P:Program}{w:World}{N:List Str}{qual:Str}{scope:Scope}{f:Addr}{cd:Value}{A:Around}{outer:List Env}{s:Shared}{E:XK}:
  Lk1 (Di cm P w K mg base N qual scope f cd A outer s H E) (λ_=>EXof K E):=λzd σ H H' s s' a C dx o us I I' he hc hx hd h1 c2 n1 z1 q=>bh_9 I I' he hc hx hd h1 c2 n1 z1 q.of
def r_5(c f:Str)(js:List Nat)(fe:FE):FS:=λ Δ=>match fe (Bg (gsome js Δ)) with
 | .ok w=> .ex ⟨c,[f],[w.d]⟩ (gsome js Δ)
 | .ex x=> .ex x (gsome js Δ)
 | .no=> .no
def aj_0{EX:Bb}(js:List Nat){e:Expr}{fe:FE}{np zf pos:Pos}(M:XC X.prog X.w X.K X.mg X.base c f C)(hr:RoomC true 2 X.A)(l1:Lk1 X EX)(he:ED X EX e fe)(hg:Gl X c:=by rfl)(hdb:AG c:=by decide)
  (hs:starEach [e] X.env=(false,eval e X.env)::starEach [] X.env:=by rfl) (hpl:(backTo zf (starEach [] X.env)).any (·.1)=false:=by rfl):
  SD X EX (.Raise (some (.Call (.Name c np) [e] [] zf)) none pos) (r_5 c f js fe):=by
 intro zd s σ H D I q;obtain⟨H0,G0,G,Δ,O,E,q⟩:=q;obtain⟨G',O',sg,E'⟩:=E.gsome js;obtain⟨fI,fd,ps,oI,⟨nm,qn,N,bs,bm,sn,sub,ab,col,dd,k0,k1,k2,k3,k5,mN,lc,tl,hn,hi⟩,lI,hI,F,hb⟩:=M.made;have hB:bm.contains (.type "BaseException")=true:=am_0 (tl s.heap I.kIn);rw[arm_exec_Raise];have tD0:tD X.K EX fe σ H λv H1=>∃v' w G1,[v]= [v']/\fe (Bg (gsome js Δ))=.ok w/\Step G' H G1 H1/\Has X.K G1 v' w.d:=by
  refine⟨G',Bg (gsome js Δ),E'.st.gh,E'.gsh, ?_⟩;unfold r_5 at q;cases e1:fe (Bg (gsome js Δ)) with
  |ok w=>exact WP.intro λv G1 H1 st r=>⟨v,w,G1,rfl,rfl,st,r⟩
  |ex x=>rw[e1]at q;exact q σ G' H O' E' sg
  |no=>rw[e1]at q;exact q
 have mk:wpAny (model X.prog X.w) X.A (eval (.Call (.Name c np) [e] [] zf) X.env) (λv s1=>∃a t dx,v=.ref a/\s1.heap.get? C=some (excClassObj nm qn C N bs bm true sn sub ab col dd k0 k1 k2 k3 k5 "ValueError.__new__")/\
   s1.heap.get? a=some {cls:=.ref C,dict:=dx,data:=.fields #[.ref t,.none,.none,.none,.bool false,.none]}/\X.xe (.ref a) s1) X.xe s:=by
  refine M8 (s_3 I hg M.glob ?_ hdb);refine W8 (h₀:=X.base) I.ok.mod.kin M.kp (Be (h_8 he o_2 hs zf zd s σ H (λvs H1=>∃v' w G1,vs= [v']/\fe (Bg (gsome js Δ))=.ok w/\Step G' H G1 H1/\Has X.K G1 v' w.d) I tD0) λus s1 ⟨vs,H1,I1,r,v,w,G1,ev,ew,st,hv⟩=>⟨I1.kIn, ?_⟩) hs hpl;subst ev;obtain⟨u,rfl,ru⟩:=r.one;refine ck_3 M hr.loose I1 ru λa d t s2 ha hd ne za I2=> ?_;have ga:=XE.get I2.hok Cb;refine⟨a,t,some d,rfl,I2.kIn _ _ lc,ga, ?_⟩;have I3:Inv X zd σ (upd H1 d (.xd [(f,v)])) s2:=Inv.forget I2 (by rw[Ba ne.symm];exact ha);refine l1 zd σ H1 _ s1 s2 a C (some d) _ _ I1 I3 ga rfl rfl rfl rfl rfl (by rw[Ba ne.symm];exact ha) za ?_;have st2:Step G1 H1 (upd G1 d (.xd [(f,v)])) (upd H1 d (.xd [(f,v)])):=Step.new st.gh hd _;refine⟨⟨c,[f],[w.d]⟩,upd G1 d (.xd [(f,v)]),st2.gh,.with_ M.at_ Cb rfl (.cons (hv.mono st2.gg) .nil), ?_⟩;unfold r_5 at q;rw[ew]at q;exact q σ _ _ O' ((E'.grow st).grow st2) (sg.trans (st.gg.trans st2.gg))
 refine A3 (P4 (bd_1 hB (hr.hd rfl) (A3 (D2 mk (λv s3 h3=>A3 (P4 (C5 h3))) λ_ _ x=>x))))
end
section
variable{X:Cx}{zd:AE}{σ:Sg}{H:Hp}{s:Shared}
def ae_0{M:Model}{A:Around}{E:AA}{i:Nat}{n:Str}{Q:Unit->Shared->Prop}(I:Inv X zd σ H s)(hN:X.N.Nodup)(hi:X.N[i]? =some n)(hk:X.env.scope.names.lookup n=some .local)
  (h:∀s',Inv X zd (σ.set i none) H s'->Q .unit s'):wpAny M A (do bindName X.env n .none;unbindBehindTheSuite X.env n pos) Q E s:=by
 obtain⟨m,hn,hl⟩:=id I.loc;have cu:(X.env.scope.kind == .class || (X.env.scope.kind == .module && X.env.locals != X.env.globals))=false:=by rw[I.ok.kind];rfl
 have hiσ:i < σ.length:=by rw[I.len];exact(A9.mp hi).1
 have cne:=I.cne;have tracked:∀{a:Addr} {h':Heap},(∃o,s.heap.get? a=some o/\H a=none)->Heap.SameBut a s.heap h'->HOk X.prog X.w H h':=λ{a h'} ha hs b ob e=>by
  obtain⟨_,_,ay⟩:=ha;refine(I.hok b ob e).stay (λc w' hc q=>(hs.2 c ?_).trans q) (λ_ q=>q) λ_ _ q=>q
  rintro rfl
  rcases hc with rfl|hc
  ·rw[ay]at e;cases e
  ·rw[ay]at hc;cases hc
 refine wpAny_nameGoes_keeps hk hn cu λh' v hn' hs=> ?_;obtain⟨oL,_,_,hoL,_⟩:=id hn;refine h _ ⟨I.ok,I.os,I.bare,⟨λb o e n hb hx=> ?_,λb o e n hb hx=> ?_,I.base.free,λb o e hx=> ?_,I.base.tups,I.base.frzs,I.base.tbls⟩,⟨_,hn',λj y v' e1 e2 e3=> ?_⟩,λy c e=> ?_,I.free,I.freeC,λp hp=> ?_,tracked ⟨oL,hoL,I.free⟩ hs,by simpa using I.len⟩
 ·exact(hs.2 b (C1 (C4 (A6 e) I.ok.above))).trans (I.base.keep b o e n hb hx)
 ·obtain⟨sl,e1⟩:=I.base.slot b o e n hb hx;exact⟨sl,(hs.2 b (C1 (C4 (A6 e) I.ok.above))).trans e1⟩
 ·obtain⟨o',e1⟩:=I.base.there b o e hx;exact⟨o',(hs.2 b (C1 (C4 (A6 e) I.ok.above))).trans e1⟩
 ·by_cases hj:j=i
  ·subst hj;rw[F9 hiσ]at e2;cases e2
  ·rw[C9 (Ne.symm hj)]at e2;obtain⟨u',r',q⟩:=hl j y v' e1 e2 e3;refine⟨u',r', ?_⟩;rcases q with⟨k,e⟩|⟨k,c,e,z⟩
   ·refine .inl ⟨k, ?_⟩;have:y≠n:=λe=>hj (at_4 hN e1 (e▸hi));simp[this,e]
   ·exact .inr ⟨k,c,e,z.sameBut hs (cne y c e)⟩
 ·obtain⟨w',z⟩:=I.cell y c e;exact⟨w',z.sameBut hs (cne y c e)⟩
 ·obtain⟨e,n,ne,nf,d⟩:=I.pin p hp;exact⟨(hs.2 p.1 ne).trans e,n,ne,nf,d⟩
def Inv.speak{H':Hp}{s':Shared}{a C:Addr}{dx:Option Addr}{us:Array Value}{sl:Array (Option Value)}(I:Inv X zd σ H s)(I':Inv X zd σ H' s')(za:s.heap.objs.size<=a)(e:s'.heap.get? a=some ⟨.ref C,dx,.fields us,sl⟩)(c2:us[2]? =some .none)(hn:H' a=none):Inv X zd σ (upd H' a (.frz ⟨.ref C,dx,.fields us,sl⟩ (XO a C dx))) s':=by
 have B:=I'.base;have ns:∀b o,X.s₀.heap.get? b=some o->b≠a:=λb o q z=>absurd (C4 (A6 q) (C7 I.sz za)) (by rw[z];exact D7 _);have lt:∀b:Addr,b < s.heap.objs.size->b≠a:=λb h z=>absurd (C4 h za) (by rw[z];exact D7 _);have up:∀b u,H' b=some u->upd H' a (.frz ⟨.ref C,dx,.fields us,sl⟩ (XO a C dx)) b=some u:=λb u q=>by rw[Ba (Ei q hn)];exact q
 refine⟨I'.ok,I'.os,I'.bare,⟨B.keep,B.slot,λb o q n x=>by rw[Ba (ns b o q)];exact B.free b o q n x,B.there,λb xs q=>up _ _ (B.tups b xs q),λb o u q=>up _ _ (B.frzs b o u q),λb ps q=>let⟨m,z⟩:=B.tbls b ps q;⟨m,up _ _ z⟩⟩,I'.loc,I'.cell, ?_,λx c q=> ?_,λp hp=> ?_,λb u q=> ?_,I'.len⟩
 ·rw[Ba (lt _ I.lt)];exact I'.free
 ·obtain⟨v,hv⟩:=I.cell x c q;rw[Ba (lt _ hv.lt)];exact I'.freeC x c q
 ·obtain⟨p1,p2,p3⟩:=I'.pin p hp;exact⟨p1,by rw[Ba (lt _ (A6 (I.pin p hp).1))];exact p2,p3⟩
 ·by_cases z:b=a
  ·subst z;rw[Cb]at q;cases q;exact⟨e,XO.ok e c2⟩
  ·rw[Ba z]at q;exact(I'.hok b u q).stay (λ_ _ _ q=>q) (λc q=>up _ _ q) (λc xs q=>up _ _ q) λc o q=>up _ _ q
end
def tryB(X:Cx)(zd:AE)(W:AA):Cx:={X with pn:=X.pn ++ zd,xe:=W}
structure HX where
 a:Addr
 C:Addr
 dx:Option Addr
 us:Array Value
 sl:Array (Option Value)
 c2:us[2]? =some .none
def HX.ho(e:HX):HO:=.frz ⟨.ref e.C,e.dx,.fields e.us,e.sl⟩ (XO e.a e.C e.dx)
def hand(X:Cx)(e:HX):Cx:={X with A:=X.A.mark (some (.ref e.a)),calm:=false,xe:=λ_ _=>False,H₀:=upd X.H₀ e.a e.ho}
section
variable{X:Cx}{zd ar:AE}{σ:Sg}{H:Hp}{s:Shared}{W:AA}{e:HX}
def ok_tryB:(tryB X zd W).Ok↔X.Ok:=⟨λok=>⟨ok.mod,ok.kind,ok.glob,ok.blt,ok.above,ok.inj,ok.has,ok.cab,ok.hd,ok.frames,ok.stk,ok.exf,ok.bs,ok.bsz,ok.noex,ok.exfs,ok.funs,ok.frf,ok.tb⟩,
 λok=>⟨ok.mod,ok.kind,ok.glob,ok.blt,ok.above,ok.inj,ok.has,ok.cab,ok.hd,ok.frames,ok.stk,ok.exf,ok.bs,ok.bsz,ok.noex,ok.exfs,ok.funs,ok.frf,ok.tb⟩⟩
def Inv.toB(I:Inv X zd σ H s):Inv (tryB X zd W) [] σ H s:=⟨ok_tryB.mpr I.ok,I.os,I.bare,I.base,I.loc,I.cell,I.free,I.freeC,λp hp=>I.pin p (by have hp:p∈(X.pn ++ zd) ++ []:=hp;rwa[D3]at hp),I.hok,I.len⟩
def Inv.ofB(I:Inv (tryB X zd W) ar σ H s):Inv X zd σ H s:=⟨ok_tryB.mp I.ok,I.os,I.bare,I.base,I.loc,I.cell,I.free,I.freeC,λp hp=>I.pin p (L9 _ hp),I.hok,I.len⟩
theorem SP.ofB{D:Ends}{f:Flow}(h:SP (tryB X zd W) ar D f s):SP X zd D f s:=by
 cases f with
 |next=>obtain⟨σ',H',I,q⟩:=h;exact⟨σ',H',Inv.ofB I,q⟩
 |brk=>obtain⟨σ',H',I,q⟩:=h;exact⟨σ',H',Inv.ofB I,q⟩
 |cont=>obtain⟨σ',H',I,q⟩:=h;exact⟨σ',H',Inv.ofB I,q⟩
 |ret u=>obtain⟨v,σ',H',I,r,q⟩:=h;exact⟨v,σ',H',Inv.ofB I,r,q⟩
def Un.hput{fs ex:List Addr}{H0 H':Hp}{h h':Heap}{a:Addr}{o:Obj}{u:HO}(U:Un fs ex H0 H' h h')(z:h.objs.size<=a)(q:H' a=some (.frz o u)):Un fs ex (upd H0 a (.frz o u)) H' h h':=by
 have nb:∀b o,h.get? b=some o->b≠a:=λb o g e=>absurd (A6 g) (by rw[e];exact Z3.mpr z);refine⟨λb o g n=>U.keep b o g (by rwa[Ba (nb b o g)]at n),λb o g n=>U.slot b o g (by rwa[Ba (nb b o g)]at n),λb o g n=>U.free b o g (by rwa[Ba (nb b o g)]at n),U.there,λb xs e=> ?_,λb ob v e=> ?_,λb ps e=> ?_⟩
 all_goals
  by_cases hb:b=a
  ·subst hb;rw[Cb]at e;cases e
   try exact q
  ·rw[Ba hb]at e
   first|exact U.tups b _ e|exact U.frzs b _ _ e|exact U.tbls b _ e
def Un.htake{fs ex:List Addr}{H0 H1 H':Hp}{h h1 h':Heap}{a:Addr}{v:HO}(U0:Un fs ex H0 H1 h h1)(n:H1 a=none)(U:Un fs ex (upd H0 a v) H' h h')(z:h.objs.size<=a):Un fs ex H0 H' h h':=by
 have nb:∀b o,h.get? b=some o->b≠a:=λb o g e=>absurd (A6 g) (by rw[e];exact Z3.mpr z);refine⟨λb o g q=>U.keep b o g (by rwa[Ba (nb b o g)]),λb o g q=>U.slot b o g (by rwa[Ba (nb b o g)]),λb o g q=>U.free b o g (by rwa[Ba (nb b o g)]),U.there,λb xs e=> ?_,λb ob v e=> ?_,λb ps e=> ?_⟩
 ·by_cases hb:b=a
  ·subst hb;have:=U0.tups b xs e;rw[n]at this;cases this
  ·exact U.tups b xs (by rwa[Ba hb])
 ·by_cases hb:b=a
  ·subst hb;have:=U0.frzs b ob v e;rw[n]at this;cases this
  ·exact U.frzs b ob v (by rwa[Ba hb])
 ·by_cases hb:b=a
  ·subst hb;obtain⟨m,q⟩:=U0.tbls b ps e;rw[n]at q;cases q
  ·exact U.tbls b ps (by rwa[Ba hb])
def Inv.toH(I:Inv X zd σ H s)(z:X.s₀.heap.objs.size<=e.a)(q:H e.a=some e.ho):Inv (hand X e) zd σ H s:=by
 have nb:∀b o,X.s₀.heap.get? b=some o->b≠e.a:=λb o g y=>absurd (A6 g) (by rw[y];exact Z3.mpr z);refine⟨⟨I.ok.mod,I.ok.kind,I.ok.glob,I.ok.blt,I.ok.above,I.ok.inj,I.ok.has,I.ok.cab,λz=>absurd z A7,I.ok.frames,I.ok.stk,I.ok.exf,λb o g=> ?_,I.ok.bsz,I.ok.noex,I.ok.exfs,I.ok.funs,λb hb=> ?_,λc P g=>let⟨ps,y⟩:=I.ok.tb c P g;⟨ps,(Ba λu=>by subst u;obtain⟨_,k⟩:=I.base.tbls _ _ y;rw[q]at k;cases k).trans y⟩⟩,I.os,I.bare,Un.hput I.base z q,I.loc,I.cell,I.free,I.freeC,I.pin,I.hok,I.len⟩
 ·obtain⟨g1,g2⟩:=I.ok.bs b o g;exact⟨g1,(Ba (nb b o g1)).trans g2⟩
 ·obtain⟨_,u,hu,_⟩:=I.ok.funs.mem hb;exact(Ba (nb b u hu)).trans (I.ok.frf b hb)
def Inv.ofH{p0:AE}{σ0:Sg}{H0:Hp}{s0:Shared}(J:Inv X p0 σ0 H0 s0)(n:H0 e.a=none)(z:X.s₀.heap.objs.size<=e.a)(I:Inv (hand X e) zd σ H s):Inv X zd σ H s:=⟨J.ok,I.os,I.bare,Un.htake J.base n I.base z,I.loc,I.cell,I.free,I.freeC,I.pin,I.hok,I.len⟩
end
def dk_6(i:Nat):Fl->Fl
 | .nx Δ=> .nx (Δ.set i .no)
 | .bk Δ=> .bk (Δ.set i .no)
 | .ct Δ=> .ct (Δ.set i .no)
 | .rt w=> .rt w
 |_=> .no
def Catches(K:Frag)(C2:Addr)(tb:List (Str×Bool)):Prop:=∀c b,tb.lookup c=some b->∀C,ClsAt K c C->exmOne K (.ref C) (.ref C2)=some b
def Ev.drop{H0:HB}{G0 G H:Hp}{σ:Sg}{Δ:SE}{O:OS}(E:Ev K H0 G0 G H σ Δ O)(i:Nat):Ev K H0 G0 G H (σ.set i none) (Δ.set i .no) O:=by
 refine⟨E.st,by rw[J7,J7];exact E.len,λj d e=> ?_,λj z d e zo=> ?_,E.out,E.dj,λj d e=> ?_,λj d e=> ?_⟩
 ·rcases Fx e with⟨rfl,q⟩|⟨n,q⟩
  ·cases q
  ·rw[C9 n];exact E.sh j d q
 ·rcases Fx e with⟨rfl,q⟩|⟨n,q⟩
  ·subst q;cases zo
  ·rw[C9 n];exact E.ow j z d q zo
 ·rcases Fx e with⟨rfl,q⟩|⟨n,q⟩
  ·cases q
  ·rw[C9 n];exact E.lk j d q
 ·rcases Fx e with⟨rfl,q⟩|⟨n,q⟩
  ·cases q
  ·rw[C9 n];exact E.lt j d q
section
variable{X:Cx}{EX:Bb}{i:Nat}{tb:List (Str×Bool)}{g h:FS}{c n:Str}{C2:Addr}{body aj:List Stmt}{b₀:Stmt}{np hp pos:Pos}
def Has.exc{G:Hp}{a C:Addr}{dx:Option Addr}{o:Obj}{x:Xn}(hn:G a=none)(e:ExcAt K G (.ref C) dx x):Has K (upd G a (.frz o (XO a C dx))) (.ref a) (.exn x.c x.ns x.vs):=by
 cases e with
 |bare hc=>exact .exn0 hc Cb
 |with_ hc hd hl r=>exact .exn1 hc Cb (by rw[Ba (Ei hd hn)];exact hd) hl (r.mono (j_6 hn _))
def cs_9{H0:HB}{G0 G1:Hp}{D:Ends}{r:Fl}(q:Fin K EX H0 G0 G1 D (dk_6 i r)):Fin K Ed H0 G0 G1 {nx:=λ σ H=>D.nx (σ.set i none) H,rt:=D.rt,bk:=λ σ H=>D.bk (σ.set i none) H,ct:=λ σ H=>D.ct (σ.set i none) H} r:=by
 cases r with
 |nx Δ=>exact λ σ G H O E sg=>q _ G H O (E.drop i) sg
 |bk Δ=>exact λ σ G H O E sg=>q _ G H O (E.drop i) sg
 |ct Δ=>exact λ σ G H O E sg=>q _ G H O (E.drop i) sg
 |rt w=>exact q
 |rv d Δ=>exact q.elim
 |ex x Δ=>exact q.elim
 |no=>exact q
end
structure XGet(K:Frag)(C:Addr)(f:Str):Prop where
 ga:findIn K (.ref C) "__getattribute__" =some (some (.builtin "BaseException.__getattribute__"))
 gt:findIn K (.ref C) "__getattr__" =some none
 be:mroIn K C (.type "BaseException")=some true
 hd:hasDictIn K C=true
 no:findIn K (.ref C) f=some none
section
variable{prog:Program}{w:World}{A:Around}{E:AA}{s:Shared}{K:Frag}{x C dx:Addr}{f:Str}
def ct_0{expr:Bool}{Q:AA}{ox:Obj}{mA:AB}{v:Value}(X:K.In s.heap)(hx:s.heap.get? x=some ox)(hc:ox.cls=.ref C)(hdx:ox.dict=some dx)(hnc:notCls ox=true)(hn:s.heap.Ns1 dx mA)(g:XGet K C f)
  (hv:mA f=some v) (hh:handedIn v=true) (h:Q v {s with toks:=s.toks + 1}):wpAny (model prog w) A (getAttr (.ref x) f expr) Q E s:=by
 obtain⟨od,ho,hl⟩:=bc_2 hn;have I:InstAt s.heap x ox C (some od):=⟨hx,hc,hnc,by rw[hdx];exact ho⟩;obtain⟨hp,gg,d,t,os⟩:=s;have L0:=I.type (M:=model prog w);have L1:=U2 (M:=model prog w) X g.ga;have L2:=U2 (M:=model prog w) X g.gt;have LF:=looks_find (M:=model prog w) X I (findObj_own g.hd g.no rfl (by rw[hl,hv]));have sub:Looks (model prog w) hp (isInstance (.ref x) (.type "BaseException")) true:=L0.andThen (ZD3 X g.be);have SL:=PySem.F.attr_ValueError.ga;have hx0:(expr && onTheHeap (Value.builtin "BaseException.__getattribute__"))=false:=by cases expr <;> rfl
 unfold getAttr getAttrBy;refine A3 (wpAny_mkText (L4 (A3 (L0.at (A3 (L1.at ?_))))));show wpAny _ _ (getAttrByItsOwn _ _ _ _ _ _) _ _ _;unfold getAttrByItsOwn;refine A3 (L2.at (A3 (X2 ?_)));refine L4 ?_;unfold callGetattribute;rw[hx0,if_neg A7];unfold boundAndCalled;rw[SL.bind];refine A3 (C5 (R6 (T9 SL.plain PySem.F.entry_bexc_ga (@ZE0 (model prog w) _ _ ⟨hp,gg,d,t + 1,os⟩ "BaseException.__getattribute__" "BaseException" "__getattribute__" (.ref x) [.str f t] [] _ nofun nofun sub (PySem.F.args_bexc_ga _ _) ?_))));refine A3 (C5 (A3 (C5 (A3 (L0.at (A3 (LF.at ?_)))))));refine C5 ?_;show wpAny _ _ (handedOut v) _ _ _;rw[handedOut_of hh];exact C5 h
structure XInst(K:Frag)(C:Addr):Prop where
 ga:findIn K (.ref C) "__getattribute__" =some (some (.builtin "BaseException.__getattribute__"))
 gt:findIn K (.ref C) "__getattr__" =some none
 be:mroIn K C (.type "BaseException")=some true
 hd:hasDictIn K C=true
 cl:findIn K (.ref C) "__class__" =some (some (.builtin "object.__class__"))
 gs:specialIn K (.builtin "object.__class__") "__get__" =some (some (.builtin "getset_descriptor.__get__"))
 tk:takesIn K (.builtin "object.__class__")=some true
 ob:mroIn K C (.type "object")=some true
def ck_4{Q:Option Value->Shared->Prop}{ox:Obj}{od:Option Obj}(X:K.In s.heap)(I:InstAt s.heap x ox C od)(g:XInst K C)(h:Q (some (.ref C)) {s with toks:=s.toks + 1}):wpAny (model prog w) A (getAttr? (.ref x) "__class__") Q E s:=by
 have hf:findObj K C od "__class__" =some (.bind (.builtin "getset_descriptor.__get__") (.builtin "object.__class__")):=by
  obtain⟨cd,hc,_⟩:=ZA7 g.hd;unfold findObj;rw[hc,ZB4,g.cl,ZB4];simp[g.gs,g.tk]
 obtain⟨hp,gg,d,t,os⟩:=s;have L0:=I.type (M:=model prog w);have L1:=U2 (M:=model prog w) X g.ga;have L2:=U2 (M:=model prog w) X g.gt;have LF:=looks_find (M:=model prog w) X I hf;have sub:Looks (model prog w) hp (isInstance (.ref x) (.type "BaseException")) true:=L0.andThen (ZD3 X g.be);have SL:=PySem.F.attr_ValueError.ga;unfold getAttr? getAttrBy? getAttrBy;refine A3 (wpAny_mkText (A3 (X2 (L4 (A3 (L0.at (A3 (L1.at ?_))))))));show wpAny _ _ (getAttrByItsOwn _ _ _ _ _ _) _ _ _;unfold getAttrByItsOwn;refine A3 (L2.at (A3 (X2 ?_)));refine L4 ?_;unfold callGetattribute;rw[if_neg (by simp)];unfold boundAndCalled;rw[SL.bind];refine A3 (C5 (R6 (T9 SL.plain PySem.F.entry_bexc_ga (@ZE0 (model prog w) _ _ ⟨hp,gg,d,t + 1,os⟩ "BaseException.__getattribute__" "BaseException" "__getattribute__" (.ref x) [.str "__class__" t] [] _ nofun nofun sub (PySem.F.args_bexc_ga _ _) ?_))));refine A3 (C5 (A3 (C5 (A3 (L0.at (A3 (LF.at ?_)))))));show wpAny _ _ (Builtin.ObjectAttr.bindTo (.builtin "getset_descriptor.__get__") (.builtin "object.__class__") (.ref x) (.ref C)) _ _ _;show wpAny _ _ (holding [.builtin "object.__class__"] (call (.builtin "getset_descriptor.__get__") [.builtin "object.__class__",.ref x,.ref C]) >>=ret) _ _ _;refine A3 (L4 (R6 (class_get (s:=⟨hp,gg,d,t + 1,os⟩) (ox:=ox) (od:=od) X I g.ob ?_)));refine C5 ?_;show wpAny _ _ (handedOut (.ref C)) _ _ _;exact handed_on rfl (C5 h)
def bs_2{ox:Obj}{od:Option Obj}(g:XInst K C):KitX K (.ref x) (.ref C) (λh=>InstAt h x ox C od) where
 ty:=λ_ _ _ I=>I.type
 it:=λ_ _ X _=>by
  obtain⟨cdD,hcD,_⟩:=ZA7 g.hd;unfold clsIn at hcD
  split at hcD
  ·rename_i c' d' cd' sl' ho;intro A' Q' E' s' k q;unfold isType loadHead;exact A3 (ZD5 (k _ _ (X _ _ ho)) (C5 q))
  ·cases hcD
 ne:=λh tp dd its n sl X htp=>by
  obtain⟨cdD,hcD,_⟩:=ZA7 g.hd;refine Bool.eq_false_iff.mpr λq=> ?_;have e:C=tp:=Value.ref.inj (M0.mp q);subst e;unfold clsIn at hcD
  split at hcD
  ·rename_i c' d' cd' sl' ho;have z:=(X _ _ ho).symm.trans htp;cases z
  ·cases hcD
 ca:=λX I k=>ck_4 X I g k
end
theorem bs_3{G:Hp}{f:Str}{d:D}:∀{ns:List Str} {us:List V} {vs:List D},HasL K G us vs->(ns.zip vs).lookup f=some d->∃v,(ns.zip us).lookup f=some v/\Has K G v d
 | [],_,_,_,e=>by simp at e
 |n::ns,_,_,.nil,e=>by simp at e
 |n::ns,_,_,.cons h r,e=>by
  rw[Z4,F8]at e⊢;cases z:(f ==n) with
  |true=>rw[z]at e;cases e;exact⟨_,rfl,h⟩
  |false=>rw[z]at e;exact bs_3 r e
def Em(cs:List Str)(f:Str)(fo:FE):FE:=λ δ=>(fo δ).bind λw=>match w.d with
 | .exn c ns vs=>if cs.contains c=true then(match(ns.zip vs).lookup f with|some d=> .ok (.sh d)|none=> .no) else .no
 |_=> .no
def XGets(K:Frag)(cs:List Str)(f:Str):Prop:=∀c∈cs,∀C,ClsAt K c C->XGet K C f
section
variable{X:Cx}{EX:Bb}{o:Expr}{fo:FE}{f:Str}{cs:List Str}{pos:Pos}
def as_3(g:XGets X.K cs f)(he:ED X EX o fo)(hb:attributeBase o f X.env (eval o X.env)=eval o X.env:=by rfl):ED X EX (.Attribute o f pos) (Em cs f fo):=by
 intro zd s σ H Q I q;obtain⟨G,δ,g0,s0,q⟩:=q;refine cb_2 hb (Be (he zd s σ H (λv H1=>∃G1 w,Step G H G1 H1/\Has X.K G1 v w.d/\fo δ=.ok w) I ⟨G,δ,g0,s0, ?_⟩) λu s1 ⟨v,H1,I1,rv,G1,w,st,hv,ew⟩=> ?_)
 ·unfold Em at q;cases e:fo δ with
  |ok w=>exact WP.intro λv G1 H1 st r=>⟨G1,w,st,r,rfl⟩
  |ex x=>rw[e]at q;exact q
  |no=>rw[e]at q;exact q
 ·have q2:Out X.K (EX σ) G H (match w.d with
   | .exn c ns vs=>if cs.contains c=true then(match(ns.zip vs).lookup f with|some d=> .ok (.sh d)|none=> .no) else .no
   |_=> .no) Q:=by
   unfold Em at q;rw[ew]at q;exact q
  clear q;revert hv q2;cases w.d with
  |exn c ns vs=>
   intro hv q2;have q2:Out X.K (EX σ) G H (if cs.contains c=true then(match(ns.zip vs).lookup f with|some d=> .ok (.sh d)|none=> .no) else .no) Q:=q2
   split at q2
   ·rename_i hc;cases el:(ns.zip vs).lookup f with
    |none=>rw[el]at q2;exact q2.elim
    |some d=>
     rw[el]at q2;cases hv with
     |exn0 _ _=>cases el
     |exn1 hc1 h1 hd1 hl1 r1=>
      rename_i a C dd ob us;obtain rfl:u=Value.ref a:=rv;obtain⟨y,ey,hy⟩:=bs_3 r1 el;obtain⟨_,⟨us',sl,eo,_⟩,_⟩:=I1.hok a _ (st.gh _ _ h1);obtain⟨mA,hn,hr⟩:=I1.hok dd _ (st.gh _ _ hd1);have hrf:=hr f;rw[ey]at hrf;cases em:mA f with
      |none=>rw[em]at hrf;exact hrf.elim
      |some z=>
       rw[em]at hrf;have rz:RelV y z:=hrf;exact ct_0 I1.kIn eo rfl rfl rfl hn (g c (T4.mp hc) C hc1) em (bc_3 rz) ⟨y,H1,I1.tok _,rz,WP.use (WP.mono st q2) st.gh hy⟩
   ·exact q2.elim
  |_=>intro _ q2;exact False.elim q2
end
def Eg(tb:List (Str×Bool))(fo:FE):FE:=λ δ=>(fo δ).bind λw=>match w.d with
 | .exn c _ _=>(match tb.lookup c with|some b=> .ok (.sh (.bl b))|none=> .no)
 |_=> .no
def IsOne(K:Frag)(v:Value)(tb:List (Str×Bool)):Prop:=∀c b,tb.lookup c=some b->∀C,ClsAt K c C->XInst K C/\kitOne K (.ref C) v=some b
def IsAny(K:Frag)(Cs:List Addr)(tb:List (Str×Bool)):Prop:=∀c b,tb.lookup c=some b->∀C,ClsAt K c C->XInst K C/\kitAny K (.ref C) (Cs.map Value.ref)=some b
theorem be_5:∀{Cs:List Addr} {its:List Value},Vals (Cs.map V.ref) its->its=Cs.map Value.ref
 | [],_,r=>by cases r;rfl
 |C::Cs,_,.cons h1 h2=>by rw[be_5 h2];cases h1;rfl
section
variable{X:Cx}{EX:Bb}{zd:AE}{σ:Sg}{G H:Hp}{s:Shared}
def cd_2{a:Addr}{c:Str}{ns:List Str}{vs:List D}(I:Inv X zd σ H s)(g:Same G H)(h:Has X.K G (.ref a) (.exn c ns vs)):∃C ox od,ClsAt X.K c C/\InstAt s.heap a ox C od:=by
 cases h with
 |exn0 hc h1=>
  obtain⟨_,⟨us',sl,eo,_⟩,_⟩:=I.hok a _ (g _ _ h1);exact⟨_,_,none,hc,eo,rfl,rfl,True.intro⟩
 |exn1 hc h1 hd1 hl1 r1=>
  obtain⟨_,⟨us',sl,eo,_⟩,_⟩:=I.hok a _ (g _ _ h1);obtain⟨mA,⟨od,es,ep,e,_⟩,hr⟩:=I.hok _ _ (g _ _ hd1);exact⟨_,_,some od,hc,eo,rfl,rfl,e⟩
def bs_4{v2:V}{u2:Value}(r2:∀u,RelV v2 u->u=u2){tb:List (Str×Bool)}(k:IsOne X.K u2 tb):CallR X (.builtin "isinstance") (λxs H Q=>∃G x c ns vs b,xs= [x,v2]/\Same G H/\Has X.K G x (.exn c ns vs)/\tb.lookup c=some b/\Q (.bl b) H):=by
 intro zd s σ H xs us Q I rv h;obtain⟨G,x,c,ns,vs,b,rfl,g,r,e,q⟩:=h;obtain⟨u,u2',rfl,r1,rr⟩:=rv.two;obtain rfl:=r2 _ rr;have fin:∀tk,EP X zd σ Q (.bool b) {s with toks:=tk}:=λtk=>⟨.bl b,H,I.tok _,rfl,q⟩;obtain⟨a,rfl⟩:∃a,x=.ref a:=by cases r <;> exact⟨_,rfl⟩
 obtain rfl:u=Value.ref a:=r1;obtain⟨C,ox,od,hc,io⟩:=cd_2 I g r;obtain⟨xi,ko⟩:=k c b e C hc;exact kia_one (bs_2 xi) I.kIn io ko (λz=>nomatch z) fin
def by_3{Cs:List Addr}{tb:List (Str×Bool)}(k:IsAny X.K Cs tb):CallR X (.builtin "isinstance") (λxs H Q=>∃G x p c ns vs b,xs= [x,.ref p]/\Same G H/\Has X.K G x (.exn c ns vs)/\SqT X.K H p (Cs.map V.ref)/\tb.lookup c=some b/\Q (.bl b) H):=by
 intro zd s σ H xs us Q I rv h;obtain⟨G,x,p,c,ns,vs,b,rfl,g,r,ht,e,q⟩:=h;obtain⟨u,u2',rfl,r1,rr⟩:=rv.two;obtain rfl:u2'=Value.ref p:=rr;have fin:∀tk,EP X zd σ Q (.bool b) {s with toks:=tk}:=λtk=>⟨.bl b,H,I.tok _,rfl,q⟩;obtain⟨a,rfl⟩:∃a,x=.ref a:=by cases r <;> exact⟨_,rfl⟩
 obtain rfl:u=Value.ref a:=r1;obtain⟨C,ox,od,hc,io⟩:=cd_2 I g r;obtain⟨xi,ko⟩:=k c b e C hc;obtain⟨its,rv',⟨o,e1,c1,n,d1⟩,_⟩:=I.tuple ht;have ei:its=Cs.map Value.ref:=be_5 rv';subst ei;obtain⟨oc,odi,oda,osl⟩:=o;simp only at c1 d1;subst c1 d1;exact kia_tup (bs_2 xi) I.kIn io e1 ko (λz=>nomatch z) fin
variable{a:Expr}{fo:FE}{tb:List (Str×Bool)}{pp pos:Pos}
def aw_4{δ:DE}{Q:VK}{P:VK}(g0:Same G H)(s0:HasS K G σ δ)(o:Out K (EX σ) G H (Eg tb fo δ) Q)
  (i:∀v G' H' c ns vs b,Step G H G' H'->Has K G' v (.exn c ns vs)->tb.lookup c=some b->WP K G' H' (.sh (.bl b)) Q->P v H'):tD K EX fo σ H P:=by
 refine tD.seq g0 s0 o λw v G1 H1 _ st1 r1 o1=> ?_;revert r1 o1;cases w.d with
 |exn c ns vs=>
  intro r1 o1;have o1:Out K (EX σ) G1 H1 (match tb.lookup c with|some b=> .ok (.sh (.bl b))|none=> .no) Q:=o1;cases e:tb.lookup c with
  |none=>rw[e]at o1;exact o1.elim
  |some b=>rw[e]at o1;exact i v G1 H1 c ns vs b st1 r1 e o1
 |_=>intro _ o1;exact False.elim o1
def aw_5{cn:Str}{C2:Addr}{p3:Pos}(k:IsOne X.K (.ref C2) tb)(ha:ED X EX a fo)(hm:X.mg "isinstance" =none)(hmC:X.mg cn=some (.ref C2))(hg:Gl X "isinstance" :=by rfl)(hgC:Gl X cn:=by rfl)(hdC:AG cn:=by decide)
  (he:starEach [a,.Name cn p3] X.env=(false,eval a X.env)::starEach [.Name cn p3] X.env:=by rfl) (hpl:(backTo pos (starEach [.Name cn p3] X.env)).any (·.1)=false:=by rfl)
  (hs:starEach [.Name cn p3] X.env=(false,eval (.Name cn p3) X.env)::starEach [] X.env:=by rfl):ED X EX (.Call (.Name "isinstance" pp) [a,.Name cn p3] [] pos) (Eg tb fo):=
 PE.imp (aa_6 (bs_4 (v2:=.ref C2) (λ_ r=>r) k) hg hm Y1 (h_8 ha (h_8 (ar_4 (v:=.ref C2) hgC hmC rfl hdC) o_2 hs) he) ⋯ ⋯ he hpl) λ σ H Q ⟨G,δ,g0,s0,o⟩=>
  aw_4 g0 s0 o λv G' H' c ns vs b st r e q=>⟨G',v,c,ns,vs,b,rfl,st.gh,r,e,WP.use q st.gh (.bl b)⟩
def dr_7{Tn:Str}{T:String}{p3:Pos}(k:IsOne X.K (.type T) tb)(ha:ED X EX a fo)(hm:X.mg "isinstance" =none)(hmT:X.mg Tn=none)(hvT:bootBuiltins Tn=some (.type T))(hg:Gl X "isinstance" :=by rfl)(hgT:Gl X Tn:=by rfl)
  (hn:Tn≠ "__name__" :=by decide) (hdT:AG Tn:=by decide)
  (he:starEach [a,.Name Tn p3] X.env=(false,eval a X.env)::starEach [.Name Tn p3] X.env:=by rfl) (hpl:(backTo pos (starEach [.Name Tn p3] X.env)).any (·.1)=false:=by rfl)
  (hs:starEach [.Name Tn p3] X.env=(false,eval (.Name Tn p3) X.env)::starEach [] X.env:=by rfl):ED X EX (.Call (.Name "isinstance" pp) [a,.Name Tn p3] [] pos) (Eg tb fo):=
 PE.imp (aa_6 (bs_4 (v2:=.ty T) (λ_ r=>r) k) hg hm Y1 (h_8 ha (h_8 (ca_7 (v:=.ty T) hgT hmT hvT rfl hn hdT) o_2 hs) he) ⋯ ⋯ he hpl) λ σ H Q ⟨G,δ,g0,s0,o⟩=>
  aw_4 g0 s0 o λv G' H' c ns vs b st r e q=>⟨G',v,c,ns,vs,b,rfl,st.gh,r,e,WP.use q st.gh (.bl b)⟩
def cd_3(Cs:List Addr):TA:=λ_ H Q=>Q (Cs.map V.ref) H
def cd_4:PA X [] (cd_3 []):=o_2
def t_7{cn:Str}{C2:Addr}{p3:Pos}{es:List Expr}{Cs:List Addr}(hmC:X.mg cn=some (.ref C2))(hr:PA X es (cd_3 Cs))(hgC:Gl X cn:=by rfl)(hdC:AG cn:=by decide)
  (hs:starEach (.Name cn p3::es) X.env=(false,eval (.Name cn p3) X.env)::starEach es X.env:=by rfl):PA X (.Name cn p3::es) (cd_3 (C2::Cs)):=h_8 (ar_4 (v:=.ref C2) hgC hmC rfl hdC) hr hs
def bs_5{Cs:List Addr}{es:List Expr}{x1}{p3:Pos}(k:IsAny X.K Cs tb)(ha:ED X EX a fo)(hm:X.mg "isinstance" =none)(hes:PA X es (cd_3 Cs))(hz:Nat.ble Cs.length 64=true:=by rfl)(hg:Gl X "isinstance" :=by rfl)
  (he:starEach [a,.Tuple es x1 p3] X.env=(false,eval a X.env)::starEach [.Tuple es x1 p3] X.env:=by rfl) (hpl:(backTo pos (starEach [.Tuple es x1 p3] X.env)).any (·.1)=false:=by rfl)
  (hs:starEach [.Tuple es x1 p3] X.env=(false,eval (.Tuple es x1 p3) X.env)::starEach [] X.env:=by rfl):ED X EX (.Call (.Name "isinstance" pp) [a,.Tuple es x1 p3] [] pos) (Eg tb fo):=
 PE.imp (aa_6 (by_3 k) hg hm Y1 (h_8 ha (h_8 (cp_0 hes) o_2 hs) he) ⋯ ⋯ he hpl) λ σ H Q ⟨G,δ,g0,s0,o⟩=>
  aw_4 g0 s0 o λv G' H' c ns vs b st r e q=>by
   show(Cs.map V.ref).length<=sizeLine/\∀p,H' p=none->_;refine⟨by have:=Nat.le_of_ble_eq_true hz;rw[A4,D5];omega,λp hp=> ?_⟩;have st2:Step G' H' (upd G' p (.tup (Cs.map V.ref))) (upd H' p (.tup (Cs.map V.ref))):=Step.new st.gh hp _;exact⟨_,v,p,c,ns,vs,b,rfl,st2.gh,r.mono st2.gg,SqT.of Cb,e,WP.use (WP.mono st2 q) st2.gh (.bl b)⟩
end
def aq_9:bootBuiltins "ValueError" =some (.type "ValueError"):=by decide +kernel
theorem RoomC.units{c:Bool}{k:Nat}{A:Around}(r:RoomC c k A):A.units + 64 < cLine:=by have:=r.un;omega
section
variable{X:Cx}{c:Bool}{k:Nat}{zd:AE}{W:AA}{e:HX}
def aj_1(h:RoomC c k (Cx.A X)):RoomC c k (Cx.A (tryB X zd W)):=h
def w_8(h:RoomC c k (Cx.A X)):RoomC false k (Cx.A (hand X e)):=h.mark _
def ct_1(h:Cx.calm X=true):Cx.calm (Cx.nox X)=true:=h
def Gj{cm:Bool}{P:Program}{w:World}{N:List Str}{qual:Str}{scope:Scope}{f:Addr}{cd:Value}{A:Around}{outer:List Env}{s:Shared}{E:XK}:
  PassesOwn (model P w) (Cx.A (Di cm P w K mg base N qual scope f cd A outer s H E)) (Cx.env (Di cm P w K mg base N qual scope f cd A outer s H E)) (Cx.xe (Di cm P w K mg base N qual scope f cd A outer s H E)):=
 λe s' h=>wpAny_leaving_again (SameStack.refl _) h
def Catches.one{C2:Addr}{c:Str}{C:Addr}{b:Bool}(a:ClsAt K c C)(h:exmOne K (.ref C) (.ref C2)=some b){tb:List (Str×Bool)}(r:Catches K C2 tb):Catches K C2 ((c,b)::tb):=λc' b' e C' a'=>by
 rw[F8]at e;cases z:(c' ==c) with
 |true=>
  rw[z]at e;cases e;have:c'=c:=eq_of_beq z;subst this;unfold ClsAt at a a';rw[a]at a';cases a';exact h
 |false=>rw[z]at e;exact r c' b' e C' a'
def Catches.nil{C2:Addr}:Catches K C2 []:=λ_ _ e=>by cases e
def IsOne.nil{v:Value}:IsOne K v []:=λ_ _ e=>by cases e
def IsOne.one{v:Value}{c:Str}{C:Addr}{b:Bool}(a:ClsAt K c C)(x:XInst K C)(h:kitOne K (.ref C) v=some b){tb:List (Str×Bool)}(r:IsOne K v tb):IsOne K v ((c,b)::tb):=λc' b' e C' a'=>by
 rw[F8]at e;cases z:(c' ==c) with
 |true=>
  rw[z]at e;cases e;have:c'=c:=eq_of_beq z;subst this;unfold ClsAt at a a';rw[a]at a';cases a';exact⟨x,h⟩
 |false=>rw[z]at e;exact r c' b' e C' a'
def IsAny.nil{v:List Addr}:IsAny K v []:=λ_ _ e=>by cases e
def IsAny.one{v:List Addr}{c:Str}{C:Addr}{b:Bool}(a:ClsAt K c C)(x:XInst K C)(h:kitAny K (.ref C) (v.map Value.ref)=some b){tb:List (Str×Bool)}(r:IsAny K v tb):IsAny K v ((c,b)::tb):=λc' b' e C' a'=>by
 rw[F8]at e;cases z:(c' ==c) with
 |true=>
  rw[z]at e;cases e;have:c'=c:=eq_of_beq z;subst this;unfold ClsAt at a a';rw[a]at a';cases a';exact⟨x,h⟩
 |false=>rw[z]at e;exact r c' b' e C' a'
def XGets.nil{f:Str}:XGets K [] f:=λ_ e=>by cases e
def XGets.one{f c:Str}{C:Addr}(a:ClsAt K c C)(x:XGet K C f){cs:List Str}(r:XGets K cs f):XGets K (c::cs) f:=λc' e C' a'=>by
 rcases B8.mp e with rfl|e
 ·unfold ClsAt at a a';rw[a]at a';cases a';exact x
 ·exact r c' e C' a'
end
structure Hd where
 i:Option Nat
 tb:List (Str×Bool)
 h:FS
def hdGo(d:Hd)(x:Xn)(Δ:SE):Fl:=match d.i with
 |some i=>dk_6 i (d.h (Δ.set i (.sh (.exn x.c x.ns x.vs))))
 |none=>(match d.h Δ with
  | .ex _ _=> .no
  |r=>r)
def tryH:List Hd->Xn->SE->Fl
 | [],_,_=> .no
 |d::r,x,Δ=>match d.tb.lookup x.c with
  |some true=>hdGo d x Δ
  |some false=>tryH r x Δ
  |none=> .no
def ao_4(g:FS)(hs:List Hd):FS:=λ Δ=>match g Δ with
 | .ex x Δ1=>tryH hs x Δ1
 |r=>r
inductive HOk3(X:Cx):List ExceptHandler->List Hd->Prop where
 |nil:HOk3 X [] []
 |as_ {c n:Str} {C2:Addr} {b₀:Stmt} {aj:List Stmt} {np hp:Pos} {i:Nat} {tb:List (Str×Bool)} {h:FS} {hs:List ExceptHandler} {ds:List Hd} (hc:X.mg c=some (.ref C2)) (ct:Catches X.K C2 tb) (hh:∀e,BD (hand X e) Ed (b₀::aj) h) (r:HOk3 X hs ds)
   (hi:X.N[i]? =some n:=by rfl) (hk:X.env.scope.names.lookup n=some .local:=by rfl) (hg:Gl X c:=by rfl) (hdb:AG c:=by decide):
   HOk3 X (.ExceptHandler (some (.Name c np)) (some n) (b₀::aj) hp::hs) (⟨some i,tb,h⟩::ds)
 |bare {c:Str} {C2:Addr} {b₀:Stmt} {aj:List Stmt} {np hp:Pos} {tb:List (Str×Bool)} {h:FS} {hs:List ExceptHandler} {ds:List Hd} (hc:X.mg c=some (.ref C2)) (ct:Catches X.K C2 tb) (hh:∀e,BD (hand X e) Ed (b₀::aj) h) (r:HOk3 X hs ds)
   (hg:Gl X c:=by rfl) (hdb:AG c:=by decide):
   HOk3 X (.ExceptHandler (some (.Name c np)) none (b₀::aj) hp::hs) (⟨none,tb,h⟩::ds)
def EXh(K:Frag)(EX:Bb)(D:Ends)(ds:List Hd):Bb:=λ σ=>⟨λx G H=>∃H0 G0 Δ O,Ev K H0 G0 G H σ Δ O/\Fin K EX H0 G0 G D (tryH ds x Δ),
 λ_ _ _ _ _ s ⟨H0,G0,Δ,O,E,f⟩=>⟨H0,G0,Δ,O,E.grow s,Fin.mono s.gg f⟩⟩
def df_3{EX:Bb}{H0:HB}{G0 G1:Hp}{D:Ends}{r:Fl}(q:Fin K EX H0 G0 G1 D (match r with| .ex _ _=> .no|r=>r)):Fin K Ed H0 G0 G1 {nx:=D.nx,rt:=D.rt,bk:=D.bk,ct:=D.ct} r:=by
 cases r with
 |nx Δ=>exact q
 |bk Δ=>exact q
 |ct Δ=>exact q
 |rt w=>exact q
 |rv d Δ=>exact q
 |ex x Δ=>exact q.elim
 |no=>exact q
section
variable{X:Cx}{EX:Bb}{g:FS}{body:List Stmt}{pos:Pos}
def ck_5(hN:X.N.Nodup){zd:AE}{D:Ends}{a C T2:Addr}{dx:Option Addr}{σ1 σ0:Sg}{H1 H2:Hp}{s1 s2:Shared}{h2:Heap}{x:Xn}{H0':HB}{G2 G0':Hp}{Δ1:SE}{O1:OS}{e0:HX}{h9:Heap}(ha:e0.a=a)(hC:e0.C=C)(hx:e0.dx=dx)(zz:X.s₀.heap.objs.size<=e0.a)
  (J1:Inv X zd σ0 H1 s1) (J3:Inv X zd σ1 H2 {s2 with heap:=h9}) (J4:Inv X zd σ1 (upd H2 a e0.ho) {s2 with heap:=h2}) (st4:Step G2 H2 (upd G2 a e0.ho) (upd H2 a e0.ho))
  (n1:H2 a=none) (sg2:Same G2 H2) (ea:ExcAt X.K G2 (.ref C) dx x) (LT:Looks (model X.prog X.w) h2 (typeOf (.ref a)) (.ref C)) (hcC:ClsAt X.K x.c C)
  (E1:Ev X.K H0' G0' G2 H2 σ1 Δ1 O1)
  (flt:∀{A:Around} {E:AA} {Q:Unit->Shared->Prop},(∀h3,Inv X zd σ1 (upd H2 a e0.ho) {s2 with heap:=h3}->Q .unit {s2 with heap:=h3})->wpAny (model X.prog X.w) A (setFlight (.ref a) none) Q E {s2 with heap:=h2}):
  ∀{hs:List ExceptHandler} {ds:List Hd},HOk3 X hs ds->Fin X.K EX H0' G0' G2 D (tryH ds x Δ1)->wpAny (model X.prog X.w) X.A (handleBy (.ref a) X.env hs) (SP X zd D) X.xe {s2 with heap:=h2}:=by
 subst ha hC hx;intro hs ds ho
 induction ho with
 |nil=>intro q;exact False.elim q
 |as_ hc ct hh r hi hk hg hdb ih=>
  rename_i c n C2 b₀ aj np hp i tb h hs ds;intro q;refine wpAny_handleBy_cons (codeAny_handlers_test ?_) (by intro z;cases z);refine s_3 (X:=hand X e0) (Inv.toH J4 zz Cb) hg hc ?_ hdb;unfold tryH at q;cases e2:tb.lookup x.c with
  |none=>simp only[e2]at q;exact q.elim
  |some b=>
   have em:=ct _ _ e2 _ hcC;refine ZE1 (s:={s2 with heap:=h2}) (exm_one J4.kIn LT em) ?_;cases b with
   |false=>simp only[e2]at q;exact ih q
   |true=>
    simp only[e2,hdGo]at q;show codeAny _ _ _ _ _;refine codeAny_handlers_suite_as (flt λh3 J5=> ?_);refine at_5 (X:=hand X e0) (v:=.ref e0.a) (Inv.toH J5 zz Cb) hN hi (.inl hk) rfl (λs6 I6=> ?_) (.inr hk);have E6:=(E1.grow st4).put (i:=i) (Has.exc (sg2.free n1) ea);refine D2 (hh e0 zd s6 _ _ _ I6 ⟨H0',G0',_,_,O1,E6,cs_9 (Fin.mono st4.gg q)⟩) (λf s7 h7=> ?_) λ_ _ z=>False.elim z;show wpAny _ X.A (do bindName X.env n .none;unbindBehindTheSuite X.env n hp) (λ_ s₃=>SP X zd D f s₃) _ s7;cases f with
    |next=>
     obtain⟨σ7,H7,I7,q7⟩:=h7;exact ae_0 (Inv.ofH J3 n1 zz I7) hN hi hk λs8 I8=>⟨_,H7,I8,q7⟩
    |brk=>
     obtain⟨σ7,H7,I7,q7⟩:=h7;exact ae_0 (Inv.ofH J3 n1 zz I7) hN hi hk λs8 I8=>⟨_,H7,I8,q7⟩
    |cont=>
     obtain⟨σ7,H7,I7,q7⟩:=h7;exact ae_0 (Inv.ofH J3 n1 zz I7) hN hi hk λs8 I8=>⟨_,H7,I8,q7⟩
    |ret u=>
     obtain⟨v,σ7,H7,I7,r7,q7⟩:=h7;exact ae_0 (Inv.ofH J3 n1 zz I7) hN hi hk λs8 I8=>⟨v,_,H7,I8,r7,q7⟩
 |bare hc ct hh r hg hdb ih=>
  rename_i c C2 b₀ aj np hp tb h hs ds;intro q;refine wpAny_handleBy_cons (codeAny_handlers_test ?_) (by intro z;cases z);refine s_3 (X:=hand X e0) (Inv.toH J4 zz Cb) hg hc ?_ hdb;unfold tryH at q;cases e2:tb.lookup x.c with
  |none=>simp only[e2]at q;exact q.elim
  |some b=>
   have em:=ct _ _ e2 _ hcC;refine ZE1 (s:={s2 with heap:=h2}) (exm_one J4.kIn LT em) ?_;cases b with
   |false=>simp only[e2]at q;exact ih q
   |true=>
    simp only[e2,hdGo]at q;show codeAny _ _ _ _ _;refine codeAny_handlers_suite (flt λh3 J5=> ?_);have E6:=E1.grow st4;refine D2 (hh e0 zd {s2 with heap:=h3} _ _ _ (Inv.toH J5 zz Cb) ⟨H0',G0',_,_,O1,E6,df_3 (Fin.mono st4.gg q)⟩) (λf s7 h7=> ?_) λ_ _ z=>False.elim z;cases f with
    |next=>
     obtain⟨σ7,H7,I7,q7⟩:=h7;exact⟨_,H7,Inv.ofH J3 n1 zz I7,q7⟩
    |brk=>
     obtain⟨σ7,H7,I7,q7⟩:=h7;exact⟨_,H7,Inv.ofH J3 n1 zz I7,q7⟩
    |cont=>
     obtain⟨σ7,H7,I7,q7⟩:=h7;exact⟨_,H7,Inv.ofH J3 n1 zz I7,q7⟩
    |ret u=>
     obtain⟨v,σ7,H7,I7,r7,q7⟩:=h7;exact⟨v,_,H7,Inv.ofH J3 n1 zz I7,r7,q7⟩
def cd_5{hd0:ExceptHandler}{hs0:List ExceptHandler}{ds:List Hd}(hN:X.N.Nodup)(hfr:X.env.frame=some X.env.locals)(hst:X.stack=X.env::X.outer)(hb:∀zd W EXB,Lk (tryB X zd W) EXB->BD (tryB X zd W) EXB body g)(ho:HOk3 X (hd0::hs0) ds):
  SD X EX (.Try body (hd0::hs0) [] [] pos) (ao_4 g ds):=by
 intro zd s σ H D I q;obtain⟨H0,G0,G,Δ,O,E,q⟩:=q;refine wpAny_Try_except ?_;have lk:Lk (tryB X zd λe s₁=>wpAny (model X.prog X.w) X.A (noteFrame e X.env) (λ_ s₂=>wpAny (model X.prog X.w) X.A (setFlight e none) (λ_ s₃=>wpAny (model X.prog X.w) X.A (handleBy e X.env (hd0::hs0)) (SP X zd D) X.xe s₃) X.xe s₂) X.xe s₁) (EXh X.K EX D ds):=by
  intro ar σ1 H1 s1 e s2 I1 cx;obtain⟨a,C,dx,T,H2,rfl,I2,tr,n1,n2,z1,z2,x,G2,sg2,ea,H0',G0',Δ1,O1,E1,f1⟩:=Inv.raised I1 cx;show wpAny _ X.A (noteFrame (.ref a) X.env) _ _ s2;have J1:=Inv.ofB I1;have J2:=Inv.ofB I2;refine bd_0 (outer:=X.outer) (by rw[<-hst];exact J2.ok.frames) (by rw[<-hst];exact J2.stack) hfr tr λh1 T2 z3 k1 t1=> ?_;refine u_3 t1 λh2 k2 t2=> ?_;have zT2:H2 T2=none:=J2.hok.fresh z3;have J3:Inv X zd σ1 H2 {s2 with heap:=h2}:=by
   refine Inv.settle (ch:=[a,T] ++ [T2]) J1 J2 (λb hb=> ?_) ?_
   ·have:b=a\/b=T\/b=T2:=by simpa using hb
    rcases this with rfl|rfl|rfl
    ·exact⟨z1,n1⟩
    ·exact⟨z2,n2⟩
    ·exact⟨C7 z1 (C7 (S5 (A6 tr.ob.choose_spec.choose_spec.1)) z3),zT2⟩
   ·rw[hst];exact k1.trans (KeepX.of_same k2)
  obtain⟨⟨oa,ua,ga,gc,gd,gf,g1,g2⟩,ne,tbk⟩:=id t2;have goa:h2.get? a=some ⟨.ref C,dx,.fields ua,oa.slots⟩:=by
   obtain⟨c1,d1,e1,s1⟩:=oa;simp only at gc gd gf;subst gc gd gf;exact ga
  let e0:HX:=⟨a,C,dx,ua,oa.slots,g2⟩
  have zz:X.s₀.heap.objs.size<=e0.a:=C7 J1.sz z1;have J4:Inv X zd σ1 (upd H2 a e0.ho) {s2 with heap:=h2}:=Inv.speak J1 J3 z1 goa g2 n1;have st4:Step G2 H2 (upd G2 a e0.ho) (upd H2 a e0.ho):=Step.new sg2 n1 _;have LT:Looks (model X.prog X.w) h2 (typeOf (.ref a)) (.ref C):=gc▸(Looks.ld ga).andThen .now;obtain⟨hcC⟩:Nonempty (ClsAt X.K x.c C):=by cases ea with|bare hc=>exact⟨hc⟩|with_ hc _ _ _=>exact⟨hc⟩
  refine ck_5 (e0:=e0) (T2:=T2) hN rfl rfl rfl zz J1 J3 J4 st4 n1 sg2 ea LT hcC E1 (λ{A E Q} hq=> ?_) ho f1;refine u_3 t2 λh3 k3 t3=>hq h3 ?_;refine Inv.settle (ch:=[T2]) (s':={s2 with heap:=h2}) J1 J4 (λb hb=> ?_) (KeepX.of_same k3);have:b=T2:=by simpa using hb
  subst this;exact⟨C7 z1 (C7 (S5 (A6 tr.ob.choose_spec.choose_spec.1)) z3),by rw[Ba ne];exact zT2⟩
 refine D2 (hb zd _ _ lk [] s σ H D (Inv.toB I) ⟨H0,G0,G,Δ,O,E, ?_⟩) (λf s1 hs=> ?_) λ_ _ z=>z
 ·unfold ao_4 at q;cases e1:g Δ with
  |ex x Δ1=>
   rw[e1]at q;exact λ σ1 G1 H1 O1 E1 sg=>⟨H0,G0,Δ1,O1,E1,Fin.mono sg q⟩
  |nx Δ1=>rw[e1]at q;exact q
  |bk Δ1=>rw[e1]at q;exact q
  |ct Δ1=>rw[e1]at q;exact q
  |rt w=>rw[e1]at q;exact q
  |rv d Δ1=>rw[e1]at q;exact q
  |no=>rw[e1]at q;exact q
 ·have hs':=SP.ofB hs;cases f with
  |next=>exact U7 hs'
  |brk=>exact hs'
  |cont=>exact hs'
  |ret u=>exact hs'
end
section
variable{prog:Program}{w:World}{A:Around}{E:AA}{h:Heap}{g:Array GenState}{d:Drawn}{t:Nat}{os:OsState}
variable{nm q:Str}{C N:Addr}{bs bm bmB:List Value}{bw:Bool}{sn:List Str}{sub:List Value}{ab:Bool}{col:Option Bool}{dd:Option Addr}{k0 k1 k2 k3 k5:Option Value}{B newId ah:String}
def by_5(FB:ExcBaseFacts B newId ah bmB)(T:OwnTail h bmB bm){mN:AB}{Q:PySem.Fin->Shared->Prop}
  (hC:h.get? C=some (excClassObj nm q C N bs bm bw sn sub ab col dd k0 k1 k2 k3 k5 newId)) (hn:h.Ns N mN) (hi:mN "__init__" =none)
  (z:∀h' e,Heap.MadeExcOf h h' e (.ref C) []->h.objs.size<=e->Q (.done (.ret (.ref e))) ⟨h',g,d,t,os⟩):
  wpAny (model prog w) A (Builtin.«type.__call__» ⟨[.ref C],[]⟩) Q E ⟨h,g,d,t,os⟩:=by
 wp_walk using N4 hC,wpAny_madeBy_exc hC
 refine Z8 (V2 _ FB.quiet) (wpAny_check_new_subT FB T hC ?_);refine codeAny_exc_new_subT FB T hC ?_ (by show 0<=sizeLine;exact K0 _);show wpAny _ _ _ _ _ _;generalize e1:({cls:=.type "tuple",data:=.seq ([]:List Value).toArray}:Obj)=o1;generalize e2:({cls:=.ref C,data:=.fields #[.ref h.objs.size,.none,.none,.none,.bool false,.none]}:Obj)=o2;have up:∀b o,h.get? b=some o->((h.push o1).push o2).get? b=some o:=λb o e=>A5 _ (A5 _ e);have ge:((h.push o1).push o2).get? (h.objs.size + 1)=some o2:=by
  have:=B7 (h.push o1) (o:=o2) (by rw[<-e2];rfl)
  rwa[K9]at this
 have hC1:=up _ _ hC;have hn1:((h.push o1).push o2).Ns N mN:=hn.keeps up;have T1:=T.keeps up;have cl:o2.cls=.ref C:=by rw[<-e2]
 have hcC:List.contains (Value.ref C::bm) (.ref C)=true:=T4.mpr (.head _);unfold isInstance
 repeat (first|(with_reducible refine N4 ge ?_;rw[cl])|(with_reducible refine Y5 hC1 ?_;rw[hcC])|wp_step)
 show wpAny _ _ (typeLookup (.ref C) _) _ _ _;refine wpAny_typeLookup_tail hC1 hn1 T1 FB.mroIs FB.init.lookup ?_;rw[hi];refine L4 (A3 (P5 (FB.init.bind _) ?_));refine A3 (R6 (T9 FB.init.plain FB.initEntry (wpAny_check_init_subT FB T1 hC1 ge cl ?_)));subst e1 e2
 wp_walk
 refine z _ (h.objs.size + 1) ⟨λb o hb=> ?_,O8 (P6 _),h.objs.size + 2, ?_,O8 (), ?_⟩ (P6 _)
 ·rw[J6 _ _ (Ne.symm (C1 (R1 (A6 hb))))];exact A5 _ (up b o hb)
 ·rw[O0 _ (A5 _ ge) rfl,K9,K9];rfl
 ·rw[J6 _ _ (C1 (P7 (h.objs.size + 1)))];exact Heap.get?_push_at (by rw[K9,K9]) rfl
def ck_6(FB:ExcBaseFacts B newId ah bmB)(T:OwnTail h bmB bm){mN:AB}{Q:AA}
  (hC:h.get? C=some (excClassObj nm q C N bs bm bw sn sub ab col dd k0 k1 k2 k3 k5 newId)) (hn:h.Ns N mN) (hi:mN "__init__" =none)
  (z:∀h' e,Heap.MadeExcOf h h' e (.ref C) []->h.objs.size<=e->Q (.ref e) ⟨h',g,d,t,os⟩):
  wpAny (model prog w) A (call (.ref C) []) Q E ⟨h,g,d,t,os⟩:=by
 have f1:=tc_lookup;have f2:=tc_bind (.ref C);have Dj:Shared.TypeIs ⟨h,g,d,t,os⟩ (.ref C) "type" :=⟨_,hC,rfl⟩;refine R6 (ZD1 (?_:wpAny _ _ (callAny (.ref C) _) _ _ _))
 wp_walk using N4 hC
 refine⟨rfl, ?_⟩;exact ZB0 (V2 _ nofun) entry_typeCall (Z9 hC (by_5 FB T hC hn hi z))
end
def XMk0(K:Frag)(C:Addr):Prop:=∃(nm q:Str) (N:Addr) (bs bm:List Value) (sn:List Str) (sub:List Value) (ab:Bool) (col:Option Bool) (dd:Option Addr) (k0 k1 k2 k3 k5:Option Value) (mN:AB),
 K.lookup C=some (excClassObj nm q C N bs bm true sn sub ab col dd k0 k1 k2 k3 k5 "ValueError.__new__")/\(∀h:Heap,K.In h->OwnTail h bmVE bm)/\(∀h:Heap,K.In h->h.Ns N mN)/\mN "__init__" =none
def df_5{C N L:Addr}{nm q:Str}{bs:List Value}{sn:List Str}{sub:List Value}{ab:Bool}{col:Option Bool}{dd:Option Addr}{k0 k1 k2 k3 k5:Option Value}{oc c0 oL:Value}{od ddL odL:Option Addr}{es esL:Array DictEntry}{ep epL:Nat}{sl sl0 slL:Array (Option Value)}{cd:ClassData}
  (lc:K.lookup C=some (excClassObj nm q C N bs (.ref L::bmVE) true sn sub ab col dd k0 k1 k2 k3 k5 "ValueError.__new__")) (ln:K.lookup N=some ⟨oc,od,.dict es ep,sl⟩) (kn:n_6 es=true) (hi:nsFind es "__init__" =none)
  (ll:K.lookup L=some ⟨c0,ddL,.cls cd,sl0⟩) (lm:K.lookup cd.ns=some ⟨oL,odL,.dict esL epL,slL⟩) (km:n_6 esL=true) (hL:nsFind esL "__init__" =none):XMk0 K C:=
 ⟨nm,q,N,bs,_,sn,sub,ab,col,dd,k0,k1,k2,k3,k5,nsFind es,lc,λh X=> .own (X _ _ ll) (cd_1 lm km X) hL .base,λh X=>cd_1 ln kn X,hi⟩
structure XC0(K:Frag)(mg:AB)(c:Str)(C:Addr):Prop where
 at_:ClsAt K c C
 glob:mg c=some (.ref C)
 kp:keepIn K (.ref C)=true
 made:XMk0 K C
def as_4(c:Str):FS:=λ Δ=> .ex ⟨c,[],[]⟩ Δ
section
variable{X:Cx}{C:Addr}{c:Str}
def ck_7{EX:Bb}{np zf pos:Pos}(M:XC0 X.K X.mg c C)(hr:RoomC true 2 X.A)(l1:Lk1 X EX)(hg:Gl X c:=by rfl)(hdb:AG c:=by decide):
  SD X EX (.Raise (some (.Call (.Name c np) [] [] zf)) none pos) (as_4 c):=by
 intro zd s σ H D I q;obtain⟨H0,G0,G,Δ,O,E,q⟩:=q;obtain⟨nm,qn,N,bs,bm,sn,sub,ab,col,dd,k0,k1,k2,k3,k5,mN,lc,tl,hn,hi⟩:=M.made;have hB:bm.contains (.type "BaseException")=true:=am_0 (tl s.heap I.kIn);rw[arm_exec_Raise];have mk:wpAny (model X.prog X.w) X.A (eval (.Call (.Name c np) [] [] zf) X.env) (λv s1=>∃a t dx,v=.ref a/\s1.heap.get? C=some (excClassObj nm qn C N bs bm true sn sub ab col dd k0 k1 k2 k3 k5 "ValueError.__new__")/\
   s1.heap.get? a=some {cls:=.ref C,dict:=dx,data:=.fields #[.ref t,.none,.none,.none,.bool false,.none]}/\X.xe (.ref a) s1) X.xe s:=by
  refine M8 (s_3 I hg M.glob ?_ hdb);refine callWith_K0 I.kIn M.kp ?_;have KX:=I.kIn;obtain⟨hh,gg,dr,tk,os⟩:=s;refine ck_6 Z5 (tl hh KX) (KX _ _ lc) (hn hh KX) hi λh' a me za=> ?_;obtain⟨kk,new,t,et,_,_⟩:=me;have I2:Inv X zd σ H ⟨h',gg,dr,tk,os⟩:=I.kept (h':=h') (t':=tk) kk;refine⟨a,t,none,rfl,I2.kIn _ _ lc,et, ?_⟩;exact l1 zd σ H H ⟨hh,gg,dr,tk,os⟩ ⟨h',gg,dr,tk,os⟩ a C none _ _ I I2 et rfl rfl rfl rfl rfl (I.hok.fresh za) za ⟨⟨c,[],[]⟩,G,E.st.gh,.bare M.at_,q σ G H O E (Same.refl _)⟩
 refine A3 (P4 (bd_1 hB (hr.hd rfl) (A3 (D2 mk (λv s3 h3=>A3 (P4 (C5 h3))) λ_ _ x=>x))))
end
end L3
namespace L3
open PySem L2
variable{K:Frag}{fd:FuncData}{mg:AB}{us:List Value}{base:Heap}{H:Hp}{X:Cx}{pos:Pos}
abbrev Ai{a b:Prop}(x:a)(y:b):a/\b:=⟨x,y⟩
def Am:=Ai @Al.eq_1 (Ai @An.eq_1 (Ai @Af.eq_1 (Ai @Ah.eq_1 (Ai @gsome.eq_1 (Ai @give1.eq_1 (Ai @U8.{0,0} (Ai @List.foldl_nil.{0,0} (Ai @As.eq_1 (Ai @Cf.eq_1 (Ai @Bs.eq_1 (Ai @Cc.eq_1 (Ai @Ay.eq_1 (Ai @Bg.eq_1 (Ai @Ax.eq_1 (Ai @gall.eq_1 (Ai @cs_7 (Ai @dr_1 (Ai @dr_2 (Ai @dr_3 (Ai @dr_4 (Ai @dr_5 (Ai @de_8 (Ai @de_9 (Ai @df_0 (Ai @Ae.eq_1 (Ai @Ab.eq_1 (Ai @eC.eq_1 (Ai @Ao.eq_1 (Ai @Bf.eq_1 (Ai @Cd.eq_1 (Ai @Cd.eq_2 (Ai @Cd.eq_3 (Ai @Cd.eq_4 (Ai @Cd.eq_5 (Ai @Cd.eq_6 (Ai @Cd.eq_7 (Ai @Dy.eq_1 (Ai @Dy.eq_2 (Ai @Ak.eq_1 (Ai @Au.eq_1 (Ai @R.calm_ok (Ai @R.calm_no (Ai @R.calm_ex (Ai @Ek.eq_1 (Ai @Ek.eq_2 (Ai @Ek.eq_3 (Ai @Ek.eq_4 (Ai @Ek.eq_5 (Ai @Em.eq_1 (Ai @Eg.eq_1 (Ai @Ee.eq_1 (Ai @Ee.eq_2 (Ai @nonB.eq_1 (Ai @nonB.eq_2 (Ai @Ac.eq_1 (Ai @Aa.eq_1 (Ai @Fa.eq_1 (Ai @Aw.eq_1 (Ai @eIf.eq_1 (Ai @eAnd.eq_1 (Ai @eOr.eq_1 (Ai @eNot.eq_1 (Ai @tAndF.eq_1 (Ai @Dt.eq_1 (Ai @Ci.eq_1 (Ai @eIs.eq_1 (Ai @bq_7 (Ai @by_0 (Ai @bq_8 (Ai @bq_9 (Ai @br_0 (Ai @br_1 (Ai @bk_0 (Ai @br_2 (Ai @bk_1 (Ai @bk_2 (Ai @bk_3 (Ai @bk_4 (Ai @br_3 (Ai @by_1 (Ai @br_4 (Ai @br_5 (Ai @br_6 (Ai @br_7 (Ai @bk_5 (Ai @br_8 (Ai @bk_6 (Ai @bk_7 (Ai @bk_8 (Ai @bk_9 (Ai @ba_1 (Ai @bl_0 (Ai @ba_2 (Ai @ba_3 (Ai @ba_4 (Ai @ba_5 (Ai @Bj.eq_1 (Ai @Cy.eq_1 (Ai @Co.eq_1 (Ai @intPart.eq_1 (Ai @intPart.eq_2 (Ai @eMeth.eq_1 (Ai @eMeth0.eq_1 (Ai @tyD.eq_1 (Ai @tyD.eq_2 (Ai @tyD.eq_3 (Ai @tyD.eq_4 (Ai @Bh.eq_1 (Ai @Cg.eq_1 (Ai @Fo.eq_1 (Ai @Fo.eq_2 (Ai @Fo.eq_3 (Ai @Fo.eq_4 (Ai @R.bind_ok (Ai @R.bind_no (Ai @R.bind_ex (Ai @W.d_sh (Ai @W.d_ow (Ai @B2.{0,0} (Ai @N2.{0,0} (Ai @O5.{0} (Ai @P2.{0} (Ai @D3.{0} (Ai @K1.{0} (Ai @List.replicate_zero.{0} (Ai @C6.{0} (Ai @P3.{0} (Ai @List.set_cons_zero.{0} (Ai @List.set_cons_succ.{0} (Ai @S3.{0} (Ai @S0.{0} (Ai @if_true.{1} (Ai @N0.{1} (Ai @Bk.eq_1 (Ai @Bk.eq_2 (Ai @Bk.eq_3 (Ai @Bk.eq_4 (Ai @Bk.eq_5 (Ai @E7 (Ai @ZA4 (Ai @ZD7 (Ai @Bool.true_and (Ai @Bool.false_and (Ai @N6 (Ai @K7 (Ai @L8 (Ai @gC.eq_1 (@gV.eq_1))))))))))))))))))))))))))))))))))))))))))))))))))))))))))))))))))))))))))))))))))))))))))))))))))))))))))))))))))))))))))))))))))))))))))))))))))))
end L3
namespace L3
open PySem PySem.Spec PyProof.Rows L2
variable{K:Frag}{fd:FuncData}{mg:AB}{us:List Value}{base:Heap}{H:Hp}{X:Cx}{pos:Pos}
abbrev HBd(c:Bool)(P:Program)(w:World)(K:Frag)(mg:AB)(base:Heap)(N:List Str)(qual:Str)(st:Stmt)(f:Addr)(k:Nat)(g:FS):Prop:=∀{zp:Value} {A:Around} {outer:List Env} {s:Shared} {H:Hp} {E:XK},(Di c P w K mg base N qual (Bz st) f zp A outer s H E).calm=c->RoomC c k (Cx.A (Di c P w K mg base N qual (Bz st) f zp A outer s H E))->(Cx.A (Di c P w K mg base N qual (Bz st) f zp A outer s H E)).units + 64 < cLine->N.Nodup->Lk (Di c P w K mg base N qual (Bz st) f zp A outer s H E) (λ_=>EXof K E)->
   BD (Di c P w K mg base N qual (Bz st) f zp A outer s H E) (λ_=>EXof K E) (Ey st) g
def Cw{c:Bool}{P:Program}{w:World}{x qual:Str}{st:Stmt}{f:Addr}{N ps:List Str}{k:Nat}{g:FS}(F:Fun K x qual st f fd)
  (zj:HBd c P w K mg base N qual st f k g) (S:FnScope N ps (Bz st):=by exact⟨rfl,rfl,rfl,by decide +kernel,rfl,by decide +kernel,by decide +kernel⟩):FnX P w K mg base c (k + 1) f fd ps (Bx K ps.length (Al N.length g)):=
 fn_D F S λzp A outer s H E hr=>zj rfl hr (RoomC.units hr) S.nd bi_9
def dk_7{c:Bool}{P:Program}{w:World}{x qual cn:Str}{st:Stmt}{f C:Addr}{N ps:List Str}{k n:Nat}{g:FS}(F:Fun K x qual st f fd)(hC:ClsAt K cn C)(hn:ps.length=n + 1)(hle:ps.length<=N.length)
  (zj:HBd c P w K mg base N qual st f k g) (S:FnScope N ps (Bz st):=by exact⟨rfl,rfl,rfl,by decide +kernel,rfl,by decide +kernel,by decide +kernel⟩):FnX P w K mg base c (k + 1) f fd ps (spI K C n (aw_2 N.length cn g)):=
 fn_I F S hC hn hle λzp A outer s H E hr=>zj rfl hr (RoomC.units hr) S.nd bi_9
def FnAt(K:Frag)(x qual:Str)(st:Stmt)(f:Addr):Prop:=∃fd,Fun K x qual st f fd
def FnAt.mk{x qual:Str}{st:Stmt}{f:Addr}{oc kV dc pm cd ct:Value}{od an:Option Addr}{sl:Array (Option Value)}
  (l:K.lookup f=some ⟨oc,od,.func (fnOf x qual (k_6 st) (Ey st) (Bz st) .none kV dc pm an cd ct),sl⟩) (c:codeIn K cd qual=true) (k:keepIn K (.ref f)=true):FnAt K x qual st f:=⟨_,bx_3 l c k⟩
def FnTop(K:Frag)(x:Str)(st:Stmt):Prop:=∃f,PySem.W.nsIn K mainGlobals x=some (some (.ref f))/\FnAt K x x st f
theorem FnTop.mk{x:Str}{st:Stmt}{f:Addr}{oc kV dc pm cd ct:Value}{od an:Option Addr}{sl:Array (Option Value)}(a:PySem.W.nsIn K mainGlobals x=some (some (.ref f)))
  (l:K.lookup f=some ⟨oc,od,.func (fnOf x x (k_6 st) (Ey st) (Bz st) .none kV dc pm an cd ct),sl⟩) (c:codeIn K cd x=true) (k:keepIn K (.ref f)=true):FnTop K x st:=⟨f,a,FnAt.mk l c k⟩
def FnMet(K:Frag)(C:Addr)(x qual:Str)(st:Stmt):Prop:=∃f,findIn K (.ref C) x=some (some (.ref f))/\FnAt K x qual st f/\keepIn K (.ref f)=true/\isFn K (.ref f)=true
theorem FnMet.mk{C:Addr}{x qual:Str}{st:Stmt}{f:Addr}{oc kV dc pm cd ct:Value}{od an:Option Addr}{sl:Array (Option Value)}(a:findIn K (.ref C) x=some (some (.ref f)))
  (l:K.lookup f=some ⟨oc,od,.func (fnOf x qual (k_6 st) (Ey st) (Bz st) .none kV dc pm an cd ct),sl⟩) (c:codeIn K cd qual=true) (k:keepIn K (.ref f)=true) (i:isFn K (.ref f)=true):FnMet K C x qual st:=⟨f,a,FnAt.mk l c k,k,i⟩
section
variable{X:Cx}{EX:Bb}{pos:Pos}
end
section
variable{X:Cx}{EX:Bb}{pos:Pos}
end
section
variable{X:Cx}{EX:Bb}
end
end L3
namespace PySem
open PyProof.Rows (IsTup)
namespace F
end F
def Heap.IsRvd(h:Heap)(a t:Addr)(i:Int):Prop:=∃o,h.get? a=some o/\o.cls=.type "reversed" /\o.data=.fields #[.ref t,rawInt i]
def ct_2{h h':Heap}{a:Addr}{items:Array Value}(x:IsTup h a items)(e:∀o,h.get? a=some o->h'.get? a=some o):IsTup h' a items:=x.elim λo z=>⟨o,e o z.1,z.2⟩
open AutoSeq1 (wpAny_loadPart')
section
variable{prog:Program}{w:World}{A:Around}{E:AA}{s:Shared}
def Heap.IsRvd.ty{a l:Addr}{i:Int}(x:s.heap.IsRvd a l i):s.TypeIs (.ref a) "reversed" :=x.elim λo z=>⟨o,z.1,z.2.1⟩
end
end PySem
namespace L3
open PySem PySem.Spec PyProof.Rows L2
variable{K:Frag}{fd:FuncData}{mg:AB}{us:List Value}{base:Heap}{H:Hp}{X:Cx}{pos:Pos}
section
variable{X:Cx}{EX:Bb}{a:Expr}{f:FE}{p p' pos pos':Pos}
end
end L3
namespace HT
open PySem PyProof.Rows
section
variable{prog:Program}{w:World}{A:Around}{E:AA}{s:Shared}
end
end HT
namespace L3
open PySem PySem.Spec PyProof.Rows L2
variable{K:Frag}{fd:FuncData}{mg:AB}{us:List Value}{base:Heap}{H:Hp}{X:Cx}{pos:Pos}
section
variable{X:Cx}{EX:Bb}{e:Expr}{f:FE}{pos p2:Pos}
end
def Ep(i:Int):List Int->Int
 | []=>i
 |j::r=>Ep (if i < j then j else i) r
theorem as_5:∀(r:List Int) (i:Int),i<=Ep i r/\∀j∈r,j<=Ep i r
 | [],i=>⟨Int.le_refl _,λj h=>by simp at h⟩
 |a::r,i=>by
  obtain⟨h1,h2⟩:=as_5 r (if i < a then a else i);have h3:i<=(if i < a then a else i)/\a<=(if i < a then a else i):=by split <;> omega
  refine⟨ZE7 h3.1 h1,λj hj=> ?_⟩;rcases B8.mp hj with rfl|hj
  ·exact ZE7 h3.2 h1
  ·exact h2 j hj
theorem aw_6:∀(r:List Int) (i:Int),Ep i r∈i::r
 | [],i=>by simp[Ep]
 |a::r,i=>by
  have h:=aw_6 r (if i < a then a else i);show Ep (if i < a then a else i) r∈i::a::r;rcases B8.mp h with e|h
  ·rw[e];split <;> simp
  ·exact D4 _ (D4 _ h)
def df_6{i m:Int}{r:List Int}(h1:m∈i::r)(h2:∀j∈i::r,j<=m):m=Ep i r:=by
 refine Int.le_antisymm ?_ (h2 _ (aw_6 r i));rcases B8.mp h1 with e|h
 ·rw[e];exact(as_5 r i).1
 ·exact(as_5 r i).2 m h
def bs_6{i:Int}{is:List Int}{n:Nat}(hn:n=is.length):(i::is).getD (argBest (λa b=>decide ((i::is).getD a 0 > (i::is).getD b 0)) n) 0=Ep i is:=by
 subst hn;obtain⟨b1,b2⟩:=argBest_gt (λj=>(i::is).getD j 0) is.length;refine df_6 ?_ λj hj=> ?_
 ·rw[F2,B5 (Nat.lt_succ_of_le b1)];exact R9 _
 ·obtain⟨k,hk,rfl⟩:=List.mem_iff_getElem.mp hj;have:=b2 k (Nat.le_of_lt_succ hk);rw[show(i::is)[k]=(i::is).getD k 0 by rw[F2,B5 hk];rfl];exact this
def Fz:List D->R W
 | [.lst ds]=>(match w_3 ds with
  |some (i::is)=> .ok (.sh (.int (Ep i is)))
  |_=> .no)
 | [.tup ds]=>(match w_3 ds with
  |some (i::is)=> .ok (.sh (.int (Ep i is)))
  |_=> .no)
 |_=> .no
section
variable{X:Cx}{EX:Bb}{pos:Pos}
def ck_8(hc:X.calm=true):Gf X (.builtin "max") Fz:=by
 intro zd s σ H vs us Q I rv q;obtain⟨EX,G,ds,g,r,o⟩:=q;cases r with
 |nil=>exact False.elim o
 |cons h t=>
  cases t with
  |cons _ _=>cases h <;> exact False.elim o
  |nil=>
   cases h with
   |lst h r=>
    rename_i l _ _;simp only[Fz]at o
    split at o
    ·rename_i i is e;obtain⟨u,rfl,ru⟩:=rv.one;cases ru;obtain⟨its,rv',pl,hz⟩:=I.list (g.seq h);obtain⟨el,ev⟩:=ar_9 r rv' e;have ll:l < s.heap.objs.size:=by
      obtain⟨o',ho,_⟩:=pl.isList;exact A6 ho
     refine call_max_walk (T6 pl.isList ⟨s.heap.objs.size,_,_,_,_,_,λa b=>decide ((i::is).getD a 0 > (i::is).getD b 0),rfl,Walks.list (A:=X.A.in1) (I.ok.hd hc) s.heap.objs.size l (C1 ll) its.toArray,⟨⟨_,B7 _ rfl,rfl,rfl⟩, ?_⟩,λb hb=> ?_, ?_,CmpOf.ints_gt (λj=>(i::is).getD j 0) (λj v hP=>ev j v (by simpa using hP)),λv h' tk hP hk=> ?_⟩)
     ·exact pl.isList.at λo z=>A5 _ z
     ·rw[K9];have hb':b=s.heap.objs.size\/b=l:=by simpa using hb
      rcases hb' with rfl|rfl
      ·exact P7 _
      ·exact R1 ll
     ·simp[el]
     ·have hP':=hP;rw[List.getElem?_toArray]at hP';obtain⟨t,rfl⟩:=ev _ v hP';rw[bs_6 (by simp[el])];refine⟨.int _,H,I.kept (t':=tk) λb o' z=>hk b o' (by
       have hb:b≠s.heap.objs.size:=C1 (A6 z);simpa using hb) (A5 _ z),⟨t,rfl⟩,Cu o g (.int _)⟩
    ·exact o.elim
   |tup h r=>
    rename_i l _ _;simp only[Fz]at o
    split at o
    ·rename_i i is e;obtain⟨u,rfl,ru⟩:=rv.one;cases ru;obtain⟨its,rv',pl,hz⟩:=I.tuple (Same.tupS g h);obtain⟨el,ev⟩:=ar_9 r rv' e;have ll:l < s.heap.objs.size:=by
      obtain⟨o',ho,_⟩:=pl;exact A6 ho
     refine call_max_walk (wpAny_pyIter_tuple pl ⟨s.heap.objs.size,_,_,_,_,_,λa b=>decide ((i::is).getD a 0 > (i::is).getD b 0),rfl,Walks.tuple (A:=X.A.in1) (I.ok.hd hc) s.heap.objs.size l (C1 ll) its.toArray,⟨⟨_,B7 _ rfl,rfl,rfl⟩, ?_⟩,λb hb=> ?_, ?_,CmpOf.ints_gt (λj=>(i::is).getD j 0) (λj v hP=>ev j v (by simpa using hP)),λv h' tk hP hk=> ?_⟩)
     ·exact ct_2 pl λo z=>A5 _ z
     ·rw[K9];have hb':b=s.heap.objs.size\/b=l:=by simpa using hb
      rcases hb' with rfl|rfl
      ·exact P7 _
      ·exact R1 ll
     ·simp[el]
     ·have hP':=hP;rw[List.getElem?_toArray]at hP';obtain⟨t,rfl⟩:=ev _ v hP';rw[bs_6 (by simp[el])];refine⟨.int _,H,I.kept (t':=tk) λb o' z=>hk b o' (by
       have hb:b≠s.heap.objs.size:=C1 (A6 z);simpa using hb) (A5 _ z),⟨t,rfl⟩,Cu o g (.int _)⟩
    ·exact o.elim
   |_=>exact False.elim o
end
def Tn.flat:Tn->Option (List D)
 | .lst ts=>unT ts
 |_=>none
def Tn.kid(t:Tn)(n:Nat):Option (List D):=match t with
 | .lst ts=>(ts[n]?).bind Tn.flat
 | .tup ts=>(ts[n]?).bind Tn.flat
 |_=>none
def Tn.setKid(t:Tn)(n:Nat)(ds:List D):Tn:=match t with
 | .lst ts=> .lst (ts.set n (Tn.of (.lst ds)))
 | .tup ts=> .tup (ts.set n (Tn.of (.lst ds)))
 |t=>t
def Tn.flat_some{t:Tn}{ds:List D}(e:t.flat=some ds):t=Tn.of (.lst ds):=by
 cases t with
 |lst ts=>
  have e:unT ts=some ds:=e;rw[aw_1 e];rfl
 |_=>cases e
section
variable{K:Frag}{G H:Hp}
def OwL.kid{vs:List V}{ts:List Tn}{S:AS}{n:Nat}{ds:List D}(r:OwL K G H vs ts S)(e:(ts[n]?).bind Tn.flat=some ds):∃c cs,vs[n]? =some (.ref c)/\S c/\H c=some (.lst cs)/\HasL K G cs ds/\
  ∀{H':Hp} {cs':List V} {ds':List D},(∀b o,S b->b≠c->H b=some o->H' b=some o)->H' c=some (.lst cs')->HasL K G cs' ds'->OwL K G H' vs (ts.set n (Tn.of (.lst ds'))) S:=by
 obtain⟨t,e1,e2⟩:=V5.mp e;obtain⟨v,S1,e3,h,i,f⟩:=OwL.focus r e1;rw[Tn.flat_some e2]at h;obtain⟨c,cs,rfl,m,hH,rl⟩:=h.list_of;refine⟨c,cs,e3,i c m,hH,rl,λ{H' cs' ds'} g hc r'=>f (λb o hb nb q=>g b o hb (λz=>nb (by rw[z];exact m)) q) (Ow.list hc m r')⟩
theorem Ow.kid{v:V}{t:Tn}{S:AS}{n:Nat}{ds:List D}(o:Ow K G H v t S)(e:t.kid n=some ds):∃a vs c cs,v=.ref a/\(H a=some (.lst vs)\/H a=some (.tup vs))/\vs[n]? =some (.ref c)/\S c/\c≠a/\H c=some (.lst cs)/\HasL K G cs ds/\
  ∀{H':Hp} {cs':List V} {ds':List D},(∀b o,S b->b≠c->H b=some o->H' b=some o)->H' c=some (.lst cs')->HasL K G cs' ds'->Ow K G H' v (t.setKid n ds') S:=by
 cases o with
 |lst h ha sub r=>
  obtain⟨c,cs,e1,m,hc,rl,f⟩:=r.kid e;exact⟨_,_,c,cs,rfl,.inl h,e1,(sub c m).1,(sub c m).2,hc,rl,λ{H' cs' ds'} g hc' r'=> .lst (g _ _ ha (Ne.symm (sub c m).2) h) ha sub (f (λb o hb nb q=>g b o (sub b hb).1 nb q) hc' r')⟩
 |tup h ha sub r=>
  obtain⟨c,cs,e1,m,hc,rl,f⟩:=r.kid e;exact⟨_,_,c,cs,rfl,.inr h,e1,(sub c m).1,(sub c m).2,hc,rl,λ{H' cs' ds'} g hc' r'=> .tup (g _ _ ha (Ne.symm (sub c m).2) h) ha sub (f (λb o hb nb q=>g b o (sub b hb).1 nb q) hc' r')⟩
 |_=>cases e
end
section
variable{X:Cx}{EX:Bb}{pos:Pos}
def rIxQ(K:Frag):R2:=λx y H Q=>rIxL K x y H Q\/rIxT K x y H Q
def ix_q:IxR X (rIxQ X.K):=by
 intro value slice zd s σ H x y v u Q I rx ry h hs;rcases h with h|h
 ·exact ar_6 value slice zd s σ H x y v u Q I rx ry h hs
 ·exact cp_2 value slice zd s σ H x y v u Q I rx ry h hs
def cd_6{α:Type}{xs:List α}{n:Nat}{x:α}(h:xs[n]? =some x):atI xs (n:Int)=some x:=by
 have hn:n < xs.length:=(A9.mp h).1;unfold atI ixN;rw[if_pos (),if_pos ()];exact h
def rIxQ.at{Q:VK}{a:Addr}{vs:List V}{n:Nat}{v:V}(h:H a=some (.lst vs)\/H a=some (.tup vs))(e:vs[n]? =some v)(q:Q v H):rIxQ K (.ref a) (.int (n:Int)) H Q:=by
 rcases h with h|h
 ·exact .inl ⟨a,vs,n,v,rfl,rfl,SqL.of h,cd_6 e,q⟩
 ·exact .inr ⟨a,vs,n,v,rfl,rfl,SqT.of h,cd_6 e,q⟩
end
section
variable{K:Frag}{G:Hp}{A:AS}{p:List D->Bool}
end
section
variable{X:Cx}{EX:Bb}{pos:Pos}
end
end L3
namespace PySem
open AutoSeq1 (wpAny_loadPart')
namespace F
end F
section
variable{prog:Program}{w:World}{A:Around}{E:AA}{s:Shared}
def Heap.SetIt(h:Heap)(I S:Addr)(f:Value)(i n ep:Nat):Prop:=∃o,h.get? I=some o/\o.cls=.type "set_iterator" /\o.data=.fields #[f,rawInt i,.ref S,rawInt n,rawInt ep]
def Heap.SetIt.ty{I S:Addr}{f:Value}{i n ep:Nat}(x:s.heap.SetIt I S f i n ep):s.TypeIs (.ref I) "set_iterator" :=x.elim λo z=>⟨o,z.1,z.2.1⟩
end
end PySem
namespace L3
open PySem PySem.Spec PyProof.Rows L2
variable{K:Frag}{fd:FuncData}{mg:AB}{us:List Value}{base:Heap}{H:Hp}{X:Cx}{pos:Pos}
def gcM{EX:Bb}{i:Nat}{x:Str}(hN:decide X.N.Nodup=true:=by rfl')(hi:X.N[i]? =some x:=by rfl)(hx:Loc X.env.scope x:=by trivial)
  (hf:X.fn x=true\/X.env.scope.names.lookup x=some .local:=by trivial):GC X EX (.Name x pos) (gC i):=dd_6 (F5 hN) hi hx hf
structure BaseI(K:Frag)(B f:Addr):Prop where
 sp:specialIn K (.ref B) "__getattribute__" =some (some (.builtin "type.__getattribute__"))
 rd:readsIn K B (.type "type")=true
 at_:findCls K (.ref B) (.type "type") "__init__" =some (.val (.ref f))
 kp:keepIn K (.ref f)=true
def MakB(P:Program)(w:World)(K:Frag)(mg:AB)(base:Heap)(cc:Bool)(b c:Str)(k n:Nat)(F:List D->R (List Str×List D)):Prop:=
 ∃B C f fd ps,ClsAt K c C/\mg b=some (.ref B)/\BaseI K B f/\FnX P w K mg base cc k f fd ps (spI K C n F)/\Binds K fd ps []
def y_9(i:Nat)(c:Str)(js:List Nat)(F:List D->R (List Str×List D))(fe:FE):FS:=λ Δ=>match(gsome js Δ)[i]? with
 |some (.lt (.obj c' [] []))=>if c'=c then(match fe (Bg (gsome js Δ)) with
  | .ok w=>(match F [w.d] with
   | .ok p=> .nx ((gsome js Δ).set i (.lt (.obj c p.1 (p.2.map .sh))))
   |_=> .no)
  | .ex x=> .ex x (gsome js Δ)
  | .no=> .no) else .no
 |_=> .no
section
variable{X:Cx}{EX:Bb}{e:Expr}{es:List Expr}{x:Str}{pp zh pos:Pos}{cc:Bool}{k k' n:Nat}{ps:List Str}
def ct_3{sp:Sp}{t:TA}{B f:Addr}{pl:Sem Bool}(b:BaseI X.K B f)(hr:RoomC cc k X.A)(lk:Lk X EX)(ok:FnX X.prog X.w X.K X.mg X.base cc k f fd ps sp)(hb:Binds X.K fd ps [])(hm:X.mg x=some (.ref B))(hg:Gl X x)(hdb:AG x)(ha:PA X (e::es) t)
  (hst:starEach (e::es) X.env=(false,eval e X.env)::starEach es X.env) (hpl:(backTo pos (starEach es X.env)).any (·.1)=false)
  (ht:eval (.Call (.Attribute (.Name x pp) "__init__" zh) (e::es) [] pos) X.env=(do
   let ov<-eval (.Name x pp) X.env
   standAt zh.atName
   let(f,first)<-holding [ov] (getMethod ov "__init__" pl)
   callWith pos f first (backTo pos (starEach (e::es) X.env)) (backToKw pos (keywordEach [] X.env)))):
  PE X (.Call (.Attribute (.Name x pp) "__init__" zh) (e::es) [] pos) (λ σ H Q=>t σ H λvs H1=>sp vs H1 Q (EXE X.K (EX σ))):=by
 intro zd s σ H Q I q;refine ZD8 (pl:=pl) (s_3 I hg hm ?_ hdb) ht;refine method_cls I.kIn b.sp (cls_value I.kIn b.rd b.at_ rfl ?_);refine W8 (first:=[]) (h₀:=X.base) I.ok.mod.kin b.kp (Be (ha pos zd _ σ H _ (I.tok _) q) λus s1 ⟨vs,H1,I1,r,q⟩=>⟨I1.kIn, ?_⟩) hst hpl;exact bj_0 ok hr hb lk I1 r q
def ct_4{i:Nat}{c y:Str}(js:List Nat){fe:FE}{F:List D->R (List Str×List D)}{p3 fw:Pos}{pl:Sem Bool}(hr:RoomC cc k' X.A)(lk:Lk X EX)(h:MakB X.prog X.w X.K X.mg X.base cc x c k 1 F)(he:ED X EX e fe)(hk:k<=k':=by decide)
  (hN:X.N[i]? =some y:=by rfl) (hv:Vis X.env.scope y:=by trivial) (hd:AG y:=by decide) (hcd:(y ==("__classdict__" :Str))=false:=by decide)
  (hg:Gl X x:=by rfl) (hdb:AG x:=by decide) (hs1:starEach [.Name y p3,e] X.env=(false,eval (.Name y p3) X.env)::starEach [e] X.env:=by rfl) (hs2:starEach [e] X.env=(false,eval e X.env)::starEach [] X.env:=by rfl)
  (hpl:(backTo pos (starEach [e] X.env)).any (·.1)=false:=by rfl) (iy:swapsWith (.Call (.Attribute (.Name x pp) "__init__" zh) [.Name y p3,e] [] pos) none fw.line X.env=pure false:=by rfl)
  (ht:eval (.Call (.Attribute (.Name x pp) "__init__" zh) [.Name y p3,e] [] pos) X.env=(do
   let ov<-eval (.Name x pp) X.env
   standAt zh.atName
   let(f,first)<-holding [ov] (getMethod ov "__init__" pl)
   callWith pos f first (backTo pos (starEach [.Name y p3,e] X.env)) (backToKw pos (keywordEach [] X.env))):=by rfl):
  SD X EX (.Expr (.Call (.Attribute (.Name x pp) "__init__" zh) [.Name y p3,e] [] pos) fw) (y_9 i c js F fe):=by
 obtain⟨B,C,f,fd,ps,hC,hm,b,ok,hb⟩:=h;refine PS.imp (ah_7 (ct_3 b (hr.mono hk) lk ok hb hm hg hdb (h_8 (o_1 hN hv hd hcd) (h_8 he o_2 hs2) hs1) hs1 hpl ht) iy) λD σ H ⟨H0,G0,G,Δ,O,E,q⟩=> ?_;obtain⟨G1,O1,sg,E1⟩:=E.gsome js;unfold y_9 at q;generalize gsome js Δ=Δ1 at q E1
 split at q
 ·rename_i c' e1
  split at q
  ·rename_i hcc;subst hcc;obtain⟨v0,s1,t0⟩:=E1.ow i _ _ e1 rfl;refine⟨v0,s1,G1,Bg Δ1,E1.st.gh,E1.gsh, ?_⟩;cases e2:fe (Bg Δ1) with
   |ex y=>simp only[e2]at q;exact q σ G1 H O1 E1 sg
   |no=>simp only[e2]at q;exact q.elim
   |ok w=>
    simp only[e2]at q;refine WP.intro λv G2 H2 st r=> ?_;have E2:=E1.grow st;obtain⟨v1,s1',t⟩:=E2.ow i _ _ e1 rfl;rw[s1]at s1';cases s1';have s2:=E2.lt i _ e1
    split at q
    ·rename_i p ef;generalize et:(Tn.obj c' [] [])=tt at t;cases t with
     | @obj a C2 dx c2 ns2 us ts2 S S1 hC2 h hl ha sub rl=>
      injection et with et1 et2 et3
      subst et1 et2 et3;have:=hC.same hC2;subst this;have:us= []:=by cases us with|nil=>rfl|cons _ _=>simp at hl
      subst this;have ga:=(E2.out i a ha).1;refine⟨a,dx,[v],λb=>if b=a then none else H2 b,G2,[w.d],rfl,rfl,if_pos rfl,λb o z=> ?_,h,λb o z=> ?_,.cons r .nil, ?_⟩
      ·simp only at z
       split at z
       ·cases z
       ·exact z
      ·simp only;rw[if_neg (Ei z ga)];exact E2.st.gh b o z
      rw[ef];intro G' H' us' dx' ms g' hx zk rr;have nb:∀b,¬O1 i b->b≠a:=λb nb w=>nb (by rw[w];exact ha);refine q σ G' H' _ (E2.step2 (S:=λb=>b=a) (z:=.lt _) rfl (λ_ z=>by cases z) (λ_ _=>s2) ⟨λb o n z=>ms.hh b o (by rw[if_neg (nb b n)];exact z),ms.gh,ms.gg,λb n z1 z2=>ms.nw b z1 (by rw[if_neg (nb b n)];exact z2)⟩ s1 (λb hb=> ?_) ?_) (sg.trans (st.gg.trans ms.gg))
      ·subst hb;exact⟨.inl ha,g',by rw[hx];simp⟩
      ·exact .obj (S1:=λ_=>False) hC hx zk rfl (λ_ z=>z.elim) (OwL.of rr)
     |_=>cases et
    ·exact q.elim
  ·exact q.elim
 ·exact q.elim
end
def FnBase(K:Frag)(B:Addr)(qual:Str)(st:Stmt):Prop:=∃f,BaseI K B f/\FnAt K "__init__" qual st f
theorem FnBase.mk{B:Addr}{qual:Str}{st:Stmt}{f:Addr}{oc kV dc pm cd ct:Value}{od an:Option Addr}{sl:Array (Option Value)}(s:specialIn K (.ref B) "__getattribute__" =some (some (.builtin "type.__getattribute__")))(r:readsIn K B (.type "type")=true)
  (a:findCls K (.ref B) (.type "type") "__init__" =some (.val (.ref f)))
  (l:K.lookup f=some ⟨oc,od,.func (fnOf "__init__" qual (k_6 st) (Ey st) (Bz st) .none kV dc pm an cd ct),sl⟩) (c:codeIn K cd qual=true) (k:keepIn K (.ref f)=true):FnBase K B qual st:=⟨f,⟨s,r,a,k⟩,FnAt.mk l c k⟩
end L3
namespace PySem
namespace F
end F
section
variable{prog:Program}{w:World}{A:Around}{E:AA}{s:Shared}
end
end PySem
namespace L3
open PySem PySem.Spec PyProof.Rows L2
variable{K:Frag}{fd:FuncData}{mg:AB}{us:List Value}{base:Heap}{H:Hp}{X:Cx}{pos:Pos}
section
variable{X:Cx}{EX:Bb}{a:Expr}{f:FE}{p p' pos pos':Pos}
end
structure OInst(K:Frag)(C:Addr):Prop where
 pg:plainGet K C "__class__" =true
 hd:hasDictIn K C=true
 cl:findIn K (.ref C) "__class__" =some (some (.builtin "object.__class__"))
 gs:specialIn K (.builtin "object.__class__") "__get__" =some (some (.builtin "getset_descriptor.__get__"))
 tk:takesIn K (.builtin "object.__class__")=some true
 ob:mroIn K C (.type "object")=some true
section
variable{X:Cx}{EX:Bb}{zd:AE}{σ:Sg}{G H:Hp}{s:Shared}
variable{a:Expr}{fo:FE}{tb:List (Str×Bool)}{pp pos:Pos}
end
section
variable{P:Program}{w:World}{K:Frag}{mg:AB}{base:Heap}{cc:Bool}{k n:Nat}{ps:List Str}{st:Stmt}{Fn:AF}
def bs_7{m q c:Str}{C:Addr}(xa:ClsAt K c C)(cl:Cls K C)(W:FnMet K C m q st)(ok:∀{f:Addr} {fd:FuncData},Fun K m q st f fd->FnX P w K mg base cc k f fd ps (Bx K (n + 1) Fn)/\Binds K fd ps []):MethD P w K mg base cc k n m c Fn:=by
 obtain⟨f,a,⟨fd,F⟩,kp,i⟩:=W;exact⟨⟨C,f,fd,ps,xa,cl,⟨a,i,kp⟩,(ok F).1,(ok F).2⟩⟩
def Dn{x:Str}{h:Heap}(X:K.In h)(G:h.Ns mainGlobals mg)(W:FnTop K x st)(ok:∀{f:Addr} {fd:FuncData},Fun K x x st f fd->FnX P w K mg base cc k f fd ps (Bx K ps.length Fn)/\Binds K fd ps []):FnD P w K mg base cc x k ps Fn:=by
 obtain⟨f,a,fd,F⟩:=W;exact cr_1 F (mg_of X G a) (ok F).2 (ok F).1
end
section
variable{X:Cx}{zd:AE}{σ:Sg}{H:Hp}{s:Shared}{a:Addr}{kvs:List (Ar×V)}{k:Ar}{u:Value}{A:Around}{E:AA}
def ct_5{x:V}{r:Value}{Q:AA}(I:Inv X zd σ H s)(e:H a=some (.dK kvs))(ry:RelV (kV k) u)(rx:RelV x r)(l:kvs.length < sizeLine)
  (h1:∀v w' s',Dc kvs k=some v->Inv X zd σ H s'->RelV v w'->Q w' s') (h2:Dc kvs k=none->∀s',Inv X zd σ (upd H a (.dK (Ga kvs k x))) s'->Q r s'):
  wpAny (model X.prog X.w) A (call (.builtin "dict.setdefault") [.ref a,u,r]) Q E s:=by
 obtain⟨z,hd,vs,rel,dd⟩:=dk_0 I.hok e;have hl:(Ga kvs k x).length<=sizeLine:=by have:=ab_1 kvs k x;omega
 have hr:=rel.val k;refine ZE6 Y2 dd.typeIs PySem.F.entry_dict_setdefault (PySem.F.args_dict_setdefault_3 _ _ _) (PySem.kt_meets_setdefault (h_7 X.prog X.w) a (bd_3 ry) hd r) ⟨vs,dd,by rw[<-rel.length];exact z,λw' hw=> ?_,λhn h' dd' hs=> ?_⟩
 ·cases hv:Dc kvs k with
  |none=>
   have hn:valueAt vs k=none:=RelO.none_of (by rw[<-hv];exact hr);rw[hn]at hw;cases hw
  |some v=>
   obtain⟨w2,hw2,rv⟩:=RelO.some_of (v:=v) (o:=valueAt vs k) (by rw[<-hv];exact hr);rw[hw2]at hw;cases hw;exact h1 v w' _ hv (I.tok _) rv
 ·have he:∃q,h'.get? a=some q:=let⟨q,_,_,hq,_⟩:=dd';⟨q,hq⟩;refine h2 ?_ _ (bi_2 I (by rw[e];exact True.intro) hs he (cq_2 hl hd (rel.put k rx) dd'));cases hv:Dc kvs k with
  |none=>rfl
  |some v=>
   obtain⟨w2,hw2,rv⟩:=RelO.some_of (v:=v) (o:=valueAt vs k) (by rw[<-hv];exact hr);rw[hw2]at hn;cases hn
end
def dx_3(td ty tx:TE):TE:=λ σ H Q=>td σ H λx H1=>∃a,x=.ref a/\IsD H1 a/\ty σ H1 λy H2=>tx σ H2 λz H3=>∃kvs k,H3 a=some (.dK kvs)/\y=kV k/\kvs.length < sizeLine/\
 (∀v,Dc kvs k=some v->Q v H3)/\(Dc kvs k=none->Q z (upd H3 a (.dK (Ga kvs k z))))
section
variable{X:Cx}{EX:Bb}{o e f:Expr}{zh zf pos:Pos}{td ty tx:TE}
def df_7(ho:PE X o td)(he:PE X e ty)(hf:PE X f tx)(m:M2 X o "setdefault" zh e f zf):PE X (.Call (.Attribute o "setdefault" zh) [e,f] [] zf) (dx_3 td ty tx):=by
 intro zd s σ H Q I h;refine wpAny_Call_method m.base m.few m.line ZB2 Y2 PySem.F.type_dict_setdefault (Be (ho zd s σ H _ I h) λu s1 ⟨x,H1,I1,rx,a,ex,d,q1⟩=> ?_);subst ex;obtain rfl:u=Value.ref a:=rx;obtain⟨t1,t2,_⟩:=cq_5 I1 d;refine⟨t1,t2, ?_⟩;rw[m.trees];refine V7 rfl (X4 (M7 (Be (he zd s1 σ H1 _ I1 q1) λiv s2 ⟨y,H2,I2,ry,q2⟩=>
  M7 (Be (hf zd s2 σ H2 _ I2 q2) λfv s3 ⟨z,H3,I3,rz,kvs,k,ea,ey,l,q3,q4⟩=>Q7 ?_))))
 subst ey;exact ct_5 I3 ea ry rz l (λv w' s4 hv I4 rv=>⟨v,_,I4,rv,q3 v hv⟩) λhn s4 I4=>⟨z,_,I4,rz,q4 hn⟩
end
def sdK(zm:List (Ar×Tn))(k:Ar):List (Ar×Tn):=match De zm k with
 |some _=>zm
 |none=>zm ++ [(k,.lst [])]
section
variable{X:Cx}{EX:Bb}{pos:Pos}
theorem bs_8{k:Ar}:∀{kvs:List (Ar×V)} {zm:List (Ar×Tn)},kvs.map (·.1)=zm.map (·.1)->De zm k=none->Dc kvs k=none
 | [],_,_,_=>rfl
 |_::_,[],e,_=>by simp at e
 |(x,v)::kvs,(y,t)::zm,e,h=>by
  simp only[B2,U9]at e;obtain⟨e1,e2⟩:=e;subst e1
  by_cases q:x=k
  ·exfalso;unfold De at h;rw[W0 (by simpa using q)]at h;cases h
  ·rw[i_8 q];refine bs_8 e2 ?_;unfold De at h⊢
   rwa[W1 (by simpa using q)]at h
end
section
variable{P:Program}{w:World}{K:Frag}{mg:AB}{base:Heap}{cc:Bool}{j k n:Nat}{ps:List Str}{st:Stmt}{Fn:AF}{C:Addr}{m c q f:Str}
def XB(K:Frag)(C:Addr)(q f:Str)(st:Stmt):Prop:=keepIn K (.ref C)=true/\XCls K C/\findIn K (.ref C) f=some none/\∃(fI:Addr) (fd:FuncData) (o:Obj),XMk K C fI/\K.lookup fI=some o/\o.cls=.type "function" /\Fun K "__init__" q st fI fd
def XB.mk{fI N L:Addr}{nm qn:Str}{bs sub:List Value}{sn:List Str}{ab:Bool}{col:Option Bool}{dd od ddL odL odI an:Option Addr}{k0 k1 k2 k3 k5:Option Value}{oc c0 oL kV dc pm cd ct:Value}{es esL:Array DictEntry}{ep epL:Nat}{sl sl0 slL slI:Array (Option Value)}{cdL:ClassData}
  (lc:K.lookup C=some (excClassObj nm qn C N bs (.ref L::bmVE) true sn sub ab col dd k0 k1 k2 k3 k5 "ValueError.__new__")) (ln:K.lookup N=some ⟨oc,od,.dict es ep,sl⟩) (_:findIn K (.ref C) "__init__" =some (some (.ref fI))) (kn:n_6 es=true) (hi:nsFind es "__init__" =some (.ref fI))
  (ll:K.lookup L=some ⟨c0,ddL,.cls cdL,sl0⟩) (lm:K.lookup cdL.ns=some ⟨oL,odL,.dict esL epL,slL⟩) (km:n_6 esL=true) (hL:nsFind esL "__init__" =none) (sa:findIn K (.ref C) "__setattr__" =some (some (.builtin "object.__setattr__"))) (nf:findIn K (.ref C) f=some none) (kp:keepIn K (.ref C)=true)
  (l:K.lookup fI=some ⟨.type "function",odI,.func (fnOf "__init__" q (k_6 st) (Ey st) (Bz st) .none kV dc pm an cd ct),slI⟩) (cI:codeIn K cd q=true) (kI:keepIn K (.ref fI)=true):XB K C q f st:=
 ⟨kp,df_2 lc sa,nf,fI,_,_,dr_6 lc ln kn hi ll lm km hL,l,rfl,bx_3 l cI kI⟩
def ct_6(xa:ClsAt K c C)(gx:mg c=some (.ref C))(b:XB K C q f st)(ok:∀{fI:Addr} {fd:FuncData},Fun K "__init__" q st fI fd->XCls K C->findIn K (.ref C) f=some none->FnX P w K mg base false 1 fI fd ps (ah_1 C f)/\Binds K fd ps []):XC P w K mg base c f C:=by
 obtain⟨kp,xc,nf,fI,fd,o,mk,l,e,F⟩:=b;exact⟨xa,gx,kp,xc,fI,fd,ps,o,mk,l,e,(ok F xc nf).1,(ok F xc nf).2⟩
def XB0{N L:Addr}{nm qn:Str}{bs sub:List Value}{sn:List Str}{ab:Bool}{col:Option Bool}{dd od ddL odL:Option Addr}{k0 k1 k2 k3 k5:Option Value}{oc c0 oL:Value}{es esL:Array DictEntry}{ep epL:Nat}{sl sl0 slL:Array (Option Value)}{cdL:ClassData}
  (lc:K.lookup C=some (excClassObj nm qn C N bs (.ref L::bmVE) true sn sub ab col dd k0 k1 k2 k3 k5 "ValueError.__new__")) (ln:K.lookup N=some ⟨oc,od,.dict es ep,sl⟩) (kn:n_6 es=true) (hi:nsFind es "__init__" =none)
  (ll:K.lookup L=some ⟨c0,ddL,.cls cdL,sl0⟩) (lm:K.lookup cdL.ns=some ⟨oL,odL,.dict esL epL,slL⟩) (km:n_6 esL=true) (hL:nsFind esL "__init__" =none) (kp:keepIn K (.ref C)=true):keepIn K (.ref C)=true/\XMk0 K C:=⟨kp,df_5 lc ln kn hi ll lm km hL⟩
def XB9(K:Frag)(C:Addr):Prop:=keepIn K (.ref C)=true/\XMk0 K C
def ds_0(xa:ClsAt K c C)(gx:mg c=some (.ref C))(b:XB9 K C):XC0 K mg c C:=⟨xa,gx,b.1,b.2⟩
def OInst.mm(pg:plainGet K C Str.empty=true)(hd:hasDictIn K C=true)(cl:findIn K (.ref C) "__class__" =some (some (.builtin "object.__class__")))(gs:specialIn K (.builtin "object.__class__") "__get__" =some (some (.builtin "getset_descriptor.__get__")))(tk:takesIn K (.builtin "object.__class__")=some true)(ob:mroIn K C (.type "object")=some true):OInst K C:=⟨pg,hd,cl,gs,tk,ob⟩
def NoAttr.mk(h:findIn K (.ref C) f=some none):NoAttr K C f:=h
def mto{tb:List (Str×(AF))}(d:MethD P w K mg base cc j n m c Fn)(r:MethT P w K mg base cc k n m tb)(hj:j<=k:=by decide):MethT P w K mg base cc k n m ((c,Fn)::tb):=.one d hj r
def mtn:MethT P w K mg base cc k n m []:=.nil
def dx_4{Fi:List D->R (List Str×List D)}(xa:ClsAt K c C)(gx:mg c=some (.ref C))(ms:makesIn K C=true)(kc:keepIn K (.ref C)=true)(W:FnMet K C "__init__" q st)(ok:∀{f:Addr} {fd:FuncData},Fun K "__init__" q st f fd->FnX P w K mg base cc k f fd ps (spI K C n Fi)/\Binds K fd ps []):MakD P w K mg base cc c k n Fi:=by
 obtain⟨f,a,⟨fd,F⟩,kp,i⟩:=W;exact⟨C,f,fd,ps,xa,gx,⟨ms,a,i,kc⟩,(ok F).1,(ok F).2⟩
end
def lstD:D->R (List D)
 | .lst ds=> .ok ds
 |_=> .no
def iLst(f:FE):FI:=λ δ=>(f δ).bind λw=>lstD w.d
section
variable{X:Cx}{EX:Bb}{e tg:Expr}{f:FE}
def ct_7{l:Expr}{tl:TE}(hl:PE X l tl):PIZ X BX tg l (du_5 X.K tl):=by
 intro zd s σ H R I h;refine Be (hl zd s σ H _ I h) λv s1 ⟨x,H1,I1,r1,q1⟩=> ?_;obtain⟨a,e,⟨xs,hq⟩,q⟩:=q1;subst e;cases r1;obtain⟨its,rv,p,hz⟩:=I1.list hq;refine T6 p.isList ?_;refine⟨s1.heap.objs.size,[s1.heap.objs.size],_,_,H1,rfl,I1.kept (t':=s1.toks) λb o e=>A5 _ e,bx_7 a _,⟨_,B7 _ rfl,rfl,rfl⟩,λb hb=> ?_,q⟩;have e:b=s1.heap.objs.size:=by simpa using hb
 subst e;exact I1.fpOk (A8 _) (I1.hok.fresh (A8 _))
def PIZ.imp{B:Cx->Prop}{t t':TI}(h:PIZ X B tg e t)(i:∀σ H Q,t' σ H Q->t σ H Q):PIZ X B tg e t':=λzd s σ H Q I q=>h zd s σ H Q I (i σ H Q q)
def ct_8(he:ED X EX e f):PIZ X BX tg e (tI X.K EX (iLst f)):=
 PIZ.imp (ct_7 he) λ σ H Q ⟨G,δ,g0,s0,o⟩=>by
  refine⟨G,δ,g0,s0, ?_⟩;unfold iLst at o;cases e1:f δ with
  |ok w=>
   rw[e1]at o;simp only[R.bind_ok]at o;refine WP.intro λv G' H' st r=> ?_;revert r o;cases w.d with
   |lst ds=>
    intro o r;cases r with
    |lst h r=>exact⟨_,rfl,⟨_,Same.seq st.gh h⟩,o _ G' H' st (bp_6 h r)⟩
   |_=>intro o;exact False.elim o
  |ex x=>rw[e1]at o;exact o
  |no=>rw[e1]at o;exact o
def BX.pin{A:Around}{zd:AE}{σ:Sg}{s:Shared}(b:BX X)(eA:A.handled=X.A.handled)(I:Inv X zd σ H s):
  ∃ps:AE,(∀h:Heap,(∀p∈ps,h.get? p.1=some p.2)->HdOk A h)/\(∀p∈ps,s.heap.get? p.1=some p.2)/\A.handled≠some (.ref s.heap.objs.size):=by
 rcases b with b|⟨x,o,u,us,e,h,d,c⟩
 ·exact⟨[],λh _=> .inl (eA.trans b),λp hp=>(by cases hp),by rw[eA,b];intro z;cases z⟩
 ·have g:=(I.hok x _ (I.base.frzs x o u h)).1;refine⟨[(x,o)],λh k=> .inr ⟨x,o,us,eA.trans e,k (x,o) (D8.mpr rfl),d,c⟩,λp hp=>by rw[D8.mp hp];exact g,λz=> ?_⟩;rw[eA,e]at z;injection z with z
  injection z with z
  exact absurd (A6 g) (by rw[z];exact D7 _)
def bs_9{prog:Program}{w:World}{A:Around}{J ax:Addr}{ps:AE}(hd:∀h:Heap,(∀p∈ps,h.get? p.1=some p.2)->HdOk A h)(ne:A.handled≠some (.ref J))(np:∀p∈ps,p.1≠J)(hne:ax≠J)(items:Array Value):
  Walks prog w A J (J::ax::ps.map (·.1)) [J] items.size (λi v=>items[i]? =some v) (λi h=>(h.IsListIter J ax i/\h.IsList ax items)/\∀p∈ps,h.get? p.1=some p.2) where
 sub:=λb hb=>by simp at hb;simp[hb]
 frame:=λ_ _ _ st hk=>⟨⟨st.1.1.at λo e=>hk J (by simp) o e,st.1.2.at λo e=>hk ax (by simp) o e⟩,λp hp=>hk p.1 (by simp;exact .inr (.inr ⟨_,hp⟩)) _ (st.2 p hp)⟩
 item:=λi s Q E hi st hQ=>by
  refine V6 st.1.1 st.1.2 (x:=items[i]) (by simp[hi]) λh' jd hs'=> ?_;exact hQ _ h' s.toks (by simp[hi]) ⟨⟨jd,st.1.2.extBut hs'.extBut hne⟩,λp hp=>(hs'.2 p.1 (np p hp)).trans (st.2 p hp)⟩ λb o hb e=>hs'.extBut b o (λh=>hb (by simp[h])) e
 done:=λs Q E st hQ=>an_9 (hd _ st.2) ne st.1.1 st.1.2 (by simp) λh' he'=>hQ h' s.toks λb o hb e=>he' b o (λh=>hb (by simp[h])) e
 self:=λ_ _ _ _ st hQ=>wpAny_pyIter_listiter st.1.1 hQ
def ck_9(bx:BX X):Gf X (.builtin "sum") sumD:=by
 intro zd s σ H vs us Q I rv q;obtain⟨EX,G,ds,g,r,o⟩:=q;cases r with
 |nil=>exact False.elim o
 |cons h t=>
  cases t with
  |cons _ _=>cases h <;> exact False.elim o
  |nil=>
   cases h with
   |lst h r=>
    rename_i l _ _;simp only[sumD]at o
    split at o
    ·rename_i is e;obtain⟨u,rfl,ru⟩:=rv.one;cases ru;obtain⟨its,rv',pl,hz⟩:=I.list (g.seq h);obtain⟨el,ev⟩:=ar_9 r rv' e;have nl:l≠s.heap.objs.size:=λz=>by
      obtain⟨o',ho,_⟩:=pl.isList;exact absurd (A6 ho) (by rw[<-z];exact D7 _)
     have ll:l < s.heap.objs.size:=by
      obtain⟨o',ho,_⟩:=pl.isList;exact A6 ho
     obtain⟨ps,hps,hp1,hp2⟩:=bx.pin (A:=X.A.in1) rfl I;refine call_sum_walkAnyS (T6 pl.isList ⟨s.heap.objs.size,_,_,_,_,_,_,λi=>is.getD i 0,rfl,(bs_9 (A:=X.A.in1) hps hp2 (λp hp=>C1 (A6 (hp1 p hp))) nl its.toArray).toS,⟨⟨⟨_,B7 _ rfl,rfl,rfl⟩, ?_⟩,λp hp=>A5 _ (hp1 p hp)⟩,λb hb=> ?_,λi v hP=>ev i v (by simpa using hP),λs' t' mv=> ?_⟩)
     ·exact pl.isList.at λo z=>A5 _ z
     ·rw[K9];rcases B8.mp hb with rfl|hb
      ·exact P7 _
      ·rcases B8.mp hb with rfl|hb
       ·exact R1 ll
       ·obtain⟨p,hp,rfl⟩:=F0.mp hb;exact R1 (A6 (hp1 p hp))
     ·have en:its.toArray.size=is.length:=by simp[el]
      rw[en,ao_2,U3];obtain⟨m1,m2,m3,m4,m5⟩:=mv;have e':s'={s with heap:=s'.heap,toks:=s'.toks}:=by
       cases s';simp only at m2 m3 m4;subst m2 m3 m4;rfl
      rw[e'];refine⟨.int _,H,I.kept (t':=s'.toks) λb o' z=>m1 b o' (by
       have hb:b≠s.heap.objs.size:=C1 (A6 z);simpa using hb) (A5 _ z),⟨t',rfl⟩,Cu o g (.int _)⟩
    ·exact o.elim
   |_=>exact False.elim o
def ct_9{elt iter:Expr}{ifs:List Expr}{scope:Scope}{N':List Str}{fi:FI}{fg:Ft}{p:FT}{f:FE}{m:Nat}(bx:BX X)(src:SrcC X.nox BX tg iter fi)(ho:CompOk X scope N' m tg ifs elt fg p f)
  (hs:∀x,foldedSetIterable iter X.env x=pure x:=by intro _;rfl):ED X EX (.ListComp elt [⟨tg,iter,ifs,0⟩] scope pos) (Cl m fi fg p f):=
 PE.imp (PE.nox (bd_9 (X:=X.nox) (λ_ _ z=>z) (B:=BX) (λ_ _ _ _ _ _ _ I=>BX.on (X:=X.nox) bx I rfl rfl) src ⟨ho.hk,ho.hb,ho.hm,ho.hin⟩ hs)) λ σ H Q ⟨G,δ,g0,h0,o⟩=>by
  refine⟨G,δ,g0,h0, ?_⟩;cases e:Cl m fi fg p f δ with
  |ok w=>rw[e]at o;exact o
  |ex x=>exact(au_8 e).elim
  |no=>rw[e]at o;exact o
def aj_2{e:HX}:BX (hand X e):=.inr ⟨e.a,_,_,e.us,rfl,Cb,rfl,e.c2⟩
end
def HdF(A:Around)(H:Hp):Prop:=A.handled=none\/∃(x:Addr) (o:Obj) (u:HO) (us:Array Value),A.handled=some (.ref x)/\H x=some (.frz o u)/\o.data=.fields us/\us[2]? =some .none
def BX.F{zd:AE}{σ:Sg}{s:Shared}(b:BX X)(I:Inv X zd σ H s):HdF X.A H:=by
 rcases b with b|⟨x,o,u,us,e,h,d⟩
 ·exact .inl b
 ·exact .inr ⟨x,o,u,us,e,I.base.frzs x o u h,d⟩
def dx_5{P:Program}{w:World}{N:List Str}{qual:Str}{scope:Scope}{f:Addr}{cd:Value}{A:Around}{outer:List Env}{s:Shared}{E:XK}(h:HdF A H):BX (Di false P w K mg base N qual scope f cd A outer s H E):=h
structure FnB(P:Program)(w:World)(K:Frag)(mg:AB)(base:Heap)(k:Nat)(f:Addr)(fd:FuncData)(ps:List Str)(sp:Sp):Prop where
 len:∀vs H Q E,sp vs H Q E->vs.length=ps.length
 run:∀(A:Around) (outer:List Env) (s:Shared) (H:Hp) (args:Args) (us:List Value) (vs:List V) (Q:VK) (E:XK),RoomC false k A->HdF A H->Env0 P w K mg base A outer s H->BindsTo s fd args (ps.zip us)->Vals vs us->sp vs H Q E->
  codeAny (model P w) A (.call (.ref f) args) (CR (CXr P w) outer P w H s Q E) s
def FnX.b{P:Program}{w:World}{k:Nat}{f:Addr}{ps:List Str}{sp:Sp}(F:FnX P w K mg base false k f fd ps sp):FnB P w K mg base k f fd ps sp:=⟨F.len,λA outer s H args us vs Q E hr _=>F.run A outer s H args us vs Q E hr⟩
def FnDB(P:Program)(w:World)(K:Frag)(mg:AB)(base:Heap)(x:Str)(k:Nat)(ps:List Str)(F:AF):Prop:=
 ∃f fd,FnB P w K mg base k f fd ps (Bx K ps.length F)/\mg x=some (.ref f)/\keepIn K (.ref f)=true/\Binds K fd ps []
def ds_3{P:Program}{w:World}{k:Nat}{f:Addr}{name qual:Str}{params:Arguments}{body:List Stmt}{scope:Scope}{dV kV doc pm zp ct oc:Value}{an od:Option Addr}
  {osl:Array (Option Value)} {N ps:List Str} {sp:Sp} (lk:K.lookup f=some ⟨oc,od,.func (fnOf name qual params body scope dV kV doc pm an zp ct),osl⟩) (hcd:codeIn K zp qual=true) (S:FnScope N ps scope)
  (len:∀vs H Q E,sp vs H Q E->vs.length=ps.length)
  (zj:∀(A:Around) (outer:List Env) (s:Shared) (H:Hp) (vs:List V) (Q:VK) (E:XK),HdF A H->RoomC false k (A.deeper (envOfC qual scope s.heap.objs.size f zp))->sp vs H Q E->
   ∃t,PSs (Di false P w K mg base N qual scope f zp A outer s H E) body t/\t {nx:=λ_ H'=>Q .non H',rt:=Q} (Gm N vs) H):
  FnB P w K mg base (k + 1) f (fnOf name qual params body scope dV kV doc pm an zp ct) ps sp:=by
 refine⟨len,λA outer s H args us vs Q E hr hz e0 hb r hsp=> ?_⟩;have hl:=len _ _ _ _ hsp;have KX:K.In s.heap:=e0.mod.kin.keeps λb o e=>(e0.bs b o e).1;have lim:s.heap.NoLimit:=e0.mod.nolimit.keeps λb o e=>(e0.bs b o e).1;have bg:∀y∈ps.zip us,scope.names.lookup y.1=some .local\/(scope.names.lookup y.1=some .cell/\((cellsFrom (s.heap.objs.size + 1) scope.names []).lookup y.1).isSome=true):=λ⟨n,v⟩ hy=>by
  rcases S.par n (X8 hy).1 with q|q
  ·exact .inl q
  ·exact .inr ⟨q,Y8 _ _ _ (.inl q)⟩
 have dp:A.depth < recursionLimit:=by have:=hr.dp;omega
 refine codeAny_call_function dp (KX _ _ lk) rfl S.co S.gen rfl (codeRec_of KX hcd) (hb _ _ _ _ ?_);refine Z1 S.kind bg λenv he s1 x=> ?_;subst he;refine⟨lim.keeps x.toInCall.keep,codeAny_func ?_⟩;obtain⟨t,ht,hq⟩:=zj A outer s H vs Q E hz (hr.deeper _) hsp;have I:Inv (Di false P w K mg base N qual scope f zp A outer s H E) [] (Gm N vs) H s1:=au_5 S hr.hd e0 hl r x;refine D2 (ht [] s1 (Gm N vs) H _ I hq) (λfl s' hs=> ?_) λe s' hs=>hs;have fin:∀{σ':Sg} {H':Hp} {v:V} {u:Value},Inv (Di false P w K mg base N qual scope f zp A outer s H E) [] σ' H' s'->RelV v u->Q v H'->CE outer P w H s Q u s':=
  λ{σ' H' v u} J rv q=>⟨v,H',J.os,J.bare,J.base,J.hok,rv,q⟩
 cases fl with
 |ret u=>
  obtain⟨v,σ',H',J,rv,q⟩:=hs;exact fin J rv q
 |next=>
  obtain⟨σ',H',J,q⟩:=hs;exact fin (v:=V.non) (u:=Value.none) J rfl q
 |brk=>
  obtain⟨_,_,_,q⟩:=hs;exact False.elim q
 |cont=>
  obtain⟨_,_,_,q⟩:=hs;exact False.elim q
def Fun.okB{P:Program}{w:World}{x qual:Str}{st:Stmt}{f:Addr}{N ps:List Str}{k:Nat}{sp:Sp}(F:Fun K x qual st f fd)(S:FnScope N ps (Bz st))(len:∀vs H Q E,sp vs H Q E->vs.length=ps.length)
  (zj:∀(zp:Value) (A:Around) (outer:List Env) (s:Shared) (H:Hp) (vs:List V) (Q:VK) (E:XK),HdF A H->RoomC false k (A.deeper (envOfC qual (Bz st) s.heap.objs.size f zp))->sp vs H Q E->
   ∃t,PSs (Di false P w K mg base N qual (Bz st) f zp A outer s H E) (Ey st) t/\t {nx:=λ_ H'=>Q .non H',rt:=Q} (Gm N vs) H):FnB P w K mg base (k + 1) f fd ps sp:=by
 obtain⟨oc,od,kV,doc,pm,an,zp,ct,osl,rfl,lk,hcd⟩:=F.ex;exact ds_3 lk hcd S len λA outer s H vs Q E hz hr hsp=>zj zp A outer s H vs Q E hz hr hsp
section
variable{X:Cx}{EX:Bb}{e:Expr}{es:List Expr}{fa:FA}{x:Str}{pp pos:Pos}{k k':Nat}{ps:List Str}{F:AF}
def df_8{zd:AE}{σ:Sg}{s:Shared}{Q:VK}{vs:List V}{f:Addr}{sp:Sp}(F:FnB X.prog X.w X.K X.mg X.base k f fd ps sp)(bx:BX X)(hr:RoomC false k X.A)(hb:Binds X.K fd ps [])(lk:Lk X EX)
  (I:Inv X zd σ H s) (r:Vals vs us) (h:sp vs H Q (EXE X.K (EX σ))):wpAny (model X.prog X.w) X.A (call (.ref f) us) (EP X zd σ Q) X.xe s:=by
 have hl:us.length=ps.length:=by rw[<-r.length];exact F.len _ _ _ _ h
 have hb':=hb s us I.kIn (by rw[D3];exact hl);rw[D3]at hb';refine R6 (Q9 (F.run X.A X.stack s H ⟨us,[]⟩ us vs Q _ hr (bx.F I) I.env0 hb' r h) λr s' hq=> ?_);cases r with
 |error e=>exact lk zd σ H s e s' I hq
 |ok fl=>
  cases fl with
  |ret u=>exact I.after hq
  |next=>exact False.elim hq
  |brk=>exact False.elim hq
  |cont=>exact False.elim hq
def ab_7(bx:BX X)(hr:RoomC false k' X.A)(lk:Lk X EX)(h:FnDB X.prog X.w X.K X.mg X.base x k ps F)(ha:AD X EX (e::es) fa)(hk:k<=k':=by decide)(hg:Gl X x:=by rfl)(hdb:AG x:=by decide)
  (he:starEach (e::es) X.env=(false,eval e X.env)::starEach es X.env:=by rfl) (hpl:(backTo pos (starEach es X.env)).any (·.1)=false:=by rfl):
  ED X EX (.Call (.Name x pp) (e::es) [] pos) (Au ps.length F fa):=by
 obtain⟨f,fd,ok,hm,kp,hb⟩:=h;intro zd s σ H Q I q;obtain⟨G,δ,g0,s0,o⟩:=q;refine M8 (s_3 I hg hm ?_ hdb);have ta:tDa X.K EX fa σ H λvs H1=>Bx X.K ps.length F vs H1 Q (EXE X.K (EX σ)):=by
  refine tDa.seq g0 s0 o λds vs G' H' _ st r o'=> ?_
  split at o'
  ·rename_i hl;refine⟨by rw[r.length];exact hl,G',ds,st.gh,r, ?_⟩;cases q:F ds with
   |ok w=>rw[q]at o';exact o'
   |ex x=>rw[q]at o';exact EXof.in o'
   |no=>rw[q]at o';exact o'.elim
  ·exact o'.elim
 refine W8 (h₀:=X.base) I.ok.mod.kin kp (Be (ha pos zd s σ H _ I ta) λus s1 ⟨vs,H1,I1,r,q⟩=>⟨I1.kIn, ?_⟩) he hpl;exact df_8 ok bx (hr.mono hk) hb lk I1 r q
end
section
variable{X:Cx}{EX:Bb}{tg a:Expr}{fa:FA}{p pos:Pos}
end
def fn_B{P:Program}{w:World}{x qual:Str}{st:Stmt}{f:Addr}{N ps:List Str}{k:Nat}{g:FS}(F:Fun K x qual st f fd)(S:FnScope N ps (Bz st))
  (zj:∀(zp:Value) (A:Around) (outer:List Env) (s:Shared) (H:Hp) (E:XK),HdF A H->RoomC false k (A.deeper (envOfC qual (Bz st) s.heap.objs.size f zp))->
   BD (Di false P w K mg base N qual (Bz st) f zp A outer s H E) (λ_=>EXof K E) (Ey st) g):FnB P w K mg base (k + 1) f fd ps (Bx K ps.length (Al N.length g)):=by
 refine Fun.okB F S (λvs H Q E h=>h.1) λzp A outer s H vs Q E hz hr h=>⟨_,zj zp A outer s H E hz hr, ?_⟩;obtain⟨hl,G,ds,g0,r,o⟩:=h;refine⟨⟨H,λ_=>0⟩,G,G,_,_,au_7 g0 r, ?_⟩;unfold Al at o;cases e:g (An N.length ds) with
 |nx Δ=>rw[e]at o;exact λ σ G' H' O E' _=>(WP.mono (w:=.sh .non) (Q:=Q) E'.st o).use E'.st.gh .non
 |rt w=>rw[e]at o;exact o
 |rv d Δ=>rw[e]at o;exact o.elim
 |ex x Δ=>rw[e]at o;exact λ σ G' H' O E' _=>(EXof K E).mono _ _ _ _ _ E'.st o
 |bk Δ=>rw[e]at o;exact o.elim
 |ct Δ=>rw[e]at o;exact o.elim
 |no=>rw[e]at o;exact o
def dx_6{P:Program}{w:World}{x qual:Str}{st:Stmt}{f:Addr}{N ps:List Str}{k:Nat}{g:FS}(F:Fun K x qual st f fd)
  (zj:∀{zp:Value} {A:Around} {outer:List Env} {s:Shared} {Hb:Hp} {E:XK},BX (Di false P w K mg base N qual (Bz st) f zp A outer s Hb E)->RoomC false k (Cx.A (Di false P w K mg base N qual (Bz st) f zp A outer s Hb E))->(Cx.A (Di false P w K mg base N qual (Bz st) f zp A outer s Hb E)).units + 64 < cLine->N.Nodup->Lk (Di false P w K mg base N qual (Bz st) f zp A outer s Hb E) (λ_=>EXof K E)->
   BD (Di false P w K mg base N qual (Bz st) f zp A outer s Hb E) (λ_=>EXof K E) (Ey st) g)
  (S:FnScope N ps (Bz st):=by exact⟨rfl,rfl,rfl,by decide +kernel,rfl,by decide +kernel,by decide +kernel⟩):FnB P w K mg base (k + 1) f fd ps (Bx K ps.length (Al N.length g)):=
 fn_B F S λzp A outer s H E hz hr=>zj (dx_5 hz) hr (RoomC.units hr) S.nd bi_9
def df_9{P:Program}{w:World}{k:Nat}{ps:List Str}{st:Stmt}{Fn:AF}{x:Str}{h:Heap}(X:K.In h)(G:h.Ns mainGlobals mg)(W:FnTop K x st)(ok:∀{f:Addr} {fd:FuncData},Fun K x x st f fd->FnB P w K mg base k f fd ps (Bx K ps.length Fn)/\Binds K fd ps []):FnDB P w K mg base x k ps Fn:=by
 obtain⟨f,a,fd,F⟩:=W;exact⟨f,fd,(ok F).1,mg_of X G a,F.kp,(ok F).2⟩
def Gn:HO->Bool
 | .ins _ _ _=>true
 | .dK _=>true
 |_=>false
mutual
def Tn.lends:Tn->Bool
 | .sh _=>true
 | .lst _=>false
 | .tup _=>false
 | .dic zm=>Tn.lendsK zm
 | .obj _ _ ts=>Tn.lendsL ts
def Tn.lendsL:List Tn->Bool
 | []=>true
 |t::ts=>t.lends && Tn.lendsL ts
def Tn.lendsK:List (Ar×Tn)->Bool
 | []=>true
 |(_,t)::ts=>t.lends && Tn.lendsK ts
end
theorem Tn.lendsK_eq:∀zm:List (Ar×Tn),Tn.lendsL (zm.map (·.2))=Tn.lendsK zm
 | []=>by simp only[N2,Tn.lendsL,Tn.lendsK]
 |(k,t)::zm=>by simp only[B2,Tn.lendsL,Tn.lendsK,Tn.lendsK_eq zm]
mutual
theorem Ow.lend{G H:Hp}:∀{v:V} {t:Tn} {S:AS},Ow K G H v t S->t.lends=true->∃S':AS,(∀b,S' b->S b/\∃o,H b=some o/\Gn o=true)/\Ow K G H v t S'
 |_,_,_,.sh h,_=>⟨λ_=>False,λ_ z=>z.elim,.sh h⟩
 |_,_,_,.lst h ha sub r,e=>by simp only[Tn.lends]at e;cases e
 |_,_,_,.tup h ha sub r,e=>by simp only[Tn.lends]at e;cases e
 |_,_,_,.dic (a:=a) h hk ha sub r,e=>by
  simp only[Tn.lends]at e;obtain⟨S1,f,r'⟩:=OwL.lend r (by rw[Tn.lendsK_eq];exact e);refine⟨λb=>b=a\/S1 b,λb hb=> ?_,.dic h hk (.inl rfl) (λb hb=>⟨.inr hb,(sub b (f b hb).1).2⟩) r'⟩;rcases hb with rfl|hb
  ·exact⟨ha,_,h,rfl⟩
  ·exact⟨(sub b (f b hb).1).1,(f b hb).2⟩
 |_,_,_,.obj (a:=a) hc h hl ha sub r,e=>by
  simp only[Tn.lends]at e;obtain⟨S1,f,r'⟩:=OwL.lend r e;refine⟨λb=>b=a\/S1 b,λb hb=> ?_,.obj hc h hl (.inl rfl) (λb hb=>⟨.inr hb,(sub b (f b hb).1).2⟩) r'⟩;rcases hb with rfl|hb
  ·exact⟨ha,_,h,rfl⟩
  ·exact⟨(sub b (f b hb).1).1,(f b hb).2⟩
theorem OwL.lend{G H:Hp}:∀{vs:List V} {ts:List Tn} {S:AS},OwL K G H vs ts S->Tn.lendsL ts=true->∃S':AS,(∀b,S' b->S b/\∃o,H b=some o/\Gn o=true)/\OwL K G H vs ts S'
 |_,_,_,.nil,_=>⟨λ_=>False,λ_ z=>z.elim,.nil⟩
 |_,_,_,.cons h r dj s1 s2,e=>by
  simp only[Tn.lendsL,D0]at e;obtain⟨A,fA,hA⟩:=Ow.lend h e.1;obtain⟨B,fB,hB⟩:=OwL.lend r e.2;exact⟨λb=>A b\/B b,λb hb=>hb.elim (λz=>⟨s1 b (fA b z).1,(fA b z).2⟩) λz=>⟨s2 b (fB b z).1,(fB b z).2⟩,.cons hA hB (λb x y=>dj b (fA b x).1 (fB b y).1) (λ_ z=> .inl z) λ_ z=> .inr z⟩
end
mutual
def v_2:D->Bool
 | .non=>true
 | .bl _=>true
 | .int _=>true
 | .str _=>true
 | .lst ds=>z_0 ds
 | .tup ds=>z_0 ds
 |_=>false
def z_0:List D->Bool
 | []=>true
 |d::ds=>v_2 d && z_0 ds
end
mutual
def v_3:Tn->Bool
 | .sh d=>v_2 d
 | .lst ts=>s_7 ts
 | .tup ts=>s_7 ts
 | .dic zm=>aj_3 zm
 | .obj _ _ ts=>s_7 ts
def s_7:List Tn->Bool
 | []=>true
 |t::ts=>v_3 t && s_7 ts
def aj_3:List (Ar×Tn)->Bool
 | []=>true
 |(_,t)::ts=>v_3 t && aj_3 ts
end
theorem aw_7:∀zm:List (Ar×Tn),s_7 (zm.map (·.2))=aj_3 zm
 | []=>by simp only[N2,s_7,aj_3]
 |(k,t)::zm=>by simp only[B2,s_7,aj_3,aw_7 zm]
def by_6:W->Bool
 | .sh d=>v_2 d
 | .ow d=>v_3 (Tn.of d)
 | .tr t=>v_3 t
open Classical in
def offQ(G:Hp)(S:AS):Hp:=λb=>if S b then none else G b
section
variable{K:Frag}{G H:Hp}{S:AS}
def offQ_sub:Same (offQ G S) G:=λb o e=>by
 unfold offQ at e
 split at e
 ·cases e
 ·exact e
def aj_4{b:Addr}(h:¬S b):offQ G S b=G b:=by unfold offQ;rw[if_neg h]
def bl_5{b:Addr}(h:S b):offQ G S b=none:=by unfold offQ;rw[if_pos h]
def am_1(hs:∀b o,S b->G b=some o->Gn o=true){b:Addr}{o:HO}(e:G b=some o)(n:Gn o=false):offQ G S b=some o:=by
 rw[aj_4 λz=>by have:=hs b o z e;rw[n]at this;cases this];exact e
def cd_7(hs:∀b o,S b->G b=some o->Gn o=true){a:Addr}{u:HO}(h:Rd G a u)(n:Gn u=false):Rd (offQ G S) a u:=by
 rcases h with h|⟨o,h⟩
 ·exact .inl (am_1 hs h n)
 ·exact .inr ⟨o,am_1 hs h rfl⟩
mutual
theorem Has.offQ(hs:∀b o,S b->G b=some o->Gn o=true):∀{v:V} {d:D},Has K G v d->v_2 d=true->Has K (L3.offQ G S) v d
 |_,_,.non,_=> .non
 |_,_,.bl b,_=> .bl b
 |_,_,.int i,_=> .int i
 |_,_,.str x,_=> .str x
 |_,_,.lst h r,e=>by
  simp only[v_2]at e;exact .lst (h.elim (λz=> .inl (cd_7 hs z rfl)) .inr) (HasL.offQ hs r e)
 |_,_,.tup h r,e=>by
  simp only[v_2]at e;exact .tup (h.elim (λz=> .inl (cd_7 hs z rfl)) .inr) (HasL.offQ hs r e)
 |_,_,.exn0 _ _,e=>by simp only[v_2]at e;cases e
 |_,_,.exn1 _ _ _ _ _,e=>by simp only[v_2]at e;cases e
 |_,_,.dic _ _ _,e=>by simp only[v_2]at e;cases e
 |_,_,.obj _ _ _ _,e=>by simp only[v_2]at e;cases e
theorem HasL.offQ(hs:∀b o,S b->G b=some o->Gn o=true):∀{vs:List V} {ds:List D},HasL K G vs ds->z_0 ds=true->HasL K (L3.offQ G S) vs ds
 |_,_,.nil,_=> .nil
 |_,_,.cons h r,e=>by
  simp only[z_0,D0]at e;exact .cons (Has.offQ hs h e.1) (HasL.offQ hs r e.2)
end
mutual
theorem Ow.offQ(hs:∀b o,S b->G b=some o->Gn o=true):∀{v:V} {t:Tn} {S':AS},Ow K G H v t S'->v_3 t=true->Ow K (L3.offQ G S) H v t S'
 |_,_,_,.sh h,e=>by simp only[v_3]at e;exact .sh (h.offQ hs e)
 |_,_,_,.lst h ha sub r,e=>by simp only[v_3]at e;exact .lst h ha sub (OwL.offQ hs r e)
 |_,_,_,.tup h ha sub r,e=>by simp only[v_3]at e;exact .tup h ha sub (OwL.offQ hs r e)
 |_,_,_,.dic h hk ha sub r,e=>by simp only[v_3]at e;exact .dic h hk ha sub (OwL.offQ hs r (by rw[aw_7];exact e))
 |_,_,_,.obj hc h hl ha sub r,e=>by simp only[v_3]at e;exact .obj hc h hl ha sub (OwL.offQ hs r e)
theorem OwL.offQ(hs:∀b o,S b->G b=some o->Gn o=true):∀{vs:List V} {ts:List Tn} {S':AS},OwL K G H vs ts S'->s_7 ts=true->OwL K (L3.offQ G S) H vs ts S'
 |_,_,_,.nil,_=> .nil
 |_,_,_,.cons h r dj s1 s2,e=>by
  simp only[s_7,D0]at e;exact .cons (Ow.offQ hs h e.1) (OwL.offQ hs r e.2) dj s1 s2
end
theorem ExcAt.offQ(hs:∀b o,S b->G b=some o->Gn o=true){cls:Value}{dx:Option Addr}{x:Xn}(h:ExcAt K G cls dx x)(e:z_0 x.vs=true):ExcAt K (L3.offQ G S) cls dx x:=by
 cases h with
 |bare hc=>exact .bare hc
 |with_ hc hd hl r=>exact .with_ hc (am_1 hs hd rfl) hl (r.offQ hs e)
end
def ao_5(js:List Nat):Nat->SE->DE
 |_,[]=> []
 |n,s::Δ=>(if js.contains n=true then s.any else s.pub)::ao_5 js (n + 1) Δ
def Gb(js:List Nat)(Δ:SE):DE:=ao_5 js 0 Δ
theorem be_6(js:List Nat):∀(Δ:SE) (n i:Nat),(ao_5 js n Δ)[i]? =(Δ[i]?).map λs=>if js.contains (n + i)=true then s.any else s.pub
 | [],n,i=>by simp only[ao_5,List.getElem?_nil,Option.map_none]
 |s::Δ,n,0=>by simp only[ao_5,S3,M3,Nat.add_zero]
 |s::Δ,n,i + 1=>by
  simp only[ao_5,S0];rw[be_6 js Δ (n + 1) i,show n + 1 + i=n + (i + 1) by omega]
theorem be_7(js:List Nat):∀(Δ:SE) (n:Nat),(ao_5 js n Δ).length=Δ.length
 | [],_=>rfl
 |s::Δ,n=>by simp only[ao_5,C6,be_7 js Δ]
def ab_8(js:List Nat)(Δ:SE):Bool:=js.all λj=>match Δ[j]? with
 |some s=>(match s.own with
  |some t=>t.lends
  |none=>true)
 |none=>true
section
variable{K:Frag}{H0:HB}{G0 G H:Hp}{σ:Sg}{Δ:SE}{O:OS}
def Sl.any_own{s:Sl}{d:D}(e:s.any=some d):s=.sh d\/∃t,s.own=some t/\t.d=d:=by
 cases s with
 |no=>cases e
 |sh d'=>cases e;exact .inl rfl
 |ow d'=>cases e;exact .inr ⟨_,rfl,Tn.of_d _⟩
 |tr t=>cases e;exact .inr ⟨_,rfl,rfl⟩
 |lk d'=>cases e;exact .inr ⟨_,rfl,Tn.of_d _⟩
 |lt t=>cases e;exact .inr ⟨_,rfl,rfl⟩
theorem Ev.lend(E:Ev K H0 G0 G H σ Δ O)(js:List Nat)(hl:ab_8 js Δ=true):∃S:AS,(∀b,S b->∃i,O i b)/\(∀b,S b->∃o,H b=some o/\Gn o=true)/\HasS K (Dk G H S) σ (Gb js Δ):=by
 let S:AS:=λb=>∃(i:Nat) (s:Sl) (t:Tn) (v:V) (S':AS),Δ[i]? =some s/\s.own=some t/\σ[i]? =some (some v)/\(∀b,S' b->O i b/\∃o,H b=some o/\Gn o=true)/\S' b
 have hS:∀b,S b->∃i,O i b:=λb ⟨i,s,t,v,S',_,_,_,f,hb⟩=>⟨i,(f b hb).1⟩;have sg:Same G (Dk G H S):=λb o q=>by
  unfold Dk
  split
  ·rename_i hb;obtain⟨i,hi⟩:=hS b hb;rw[(E.out i b hi).1]at q;cases q
  ·exact q
 refine⟨S,hS,λb ⟨i,s,t,v,S',_,_,_,f,hb⟩=>(f b hb).2,by unfold Gb;rw[be_7];exact E.len,λi d q=> ?_⟩;unfold Gb at q;rw[be_6,N6]at q;obtain⟨s,es,q⟩:=N5.mp q
 split at q
 ·rename_i hj;rcases Sl.any_own q with rfl|⟨t,to,rfl⟩
  ·obtain⟨v,e1,r⟩:=E.sh i d es;exact⟨v,e1,r.mono sg⟩
  ·obtain⟨v,e1,w⟩:=E.ow i s t es to;have lt:t.lends=true:=by
    have:=F4.mp hl i (T4.mp hj);rw[es]at this;simp only[to]at this;exact this
   obtain⟨S',f,w'⟩:=w.lend lt;refine⟨v,e1,w'.has sg λb o hb hq=> ?_⟩;unfold Dk;rw[if_pos ⟨i,s,t,v,S',es,to,e1,f,hb⟩];exact hq
 ·cases s with
  |sh d'=>cases q;obtain⟨v,e1,r⟩:=E.sh i _ es;exact⟨v,e1,r.mono sg⟩
  |_=>cases q
def bt_0(E:Ev K H0 G0 G H σ Δ O){S:AS}(hS:∀b,S b->∃i,O i b):offQ (Dk G H S) S=G:=by
 funext b
 by_cases hb:S b
 ·rw[bl_5 hb];obtain⟨i,hi⟩:=hS b hb;exact(E.out i b hi).1.symm
 ·rw[aj_4 hb];unfold Dk;rw[if_neg hb]
def cu_0(E:Ev K H0 G0 G H σ Δ O){S:AS}:Same (Dk G H S) H:=λb o q=>by
 unfold Dk at q
 split at q
 ·exact q
 ·exact E.st.gh b o q
def cu_1{S:AS}(hk:∀b,S b->∃o,H b=some o/\Gn o=true):∀b,S b->∃o,Dk G H S b=some o/\Gn o=true:=λb hb=>by
 obtain⟨o,e,l⟩:=hk b hb;exact⟨o,by unfold Dk;rw[if_pos hb];exact e,l⟩
end
theorem Step.offQ{G H G2 H2:Hp}{S:AS}(st:Step G H G2 H2):Step (L3.offQ G S) H (L3.offQ G2 S) H2:=
 ⟨st.hh,λb o q=>st.gh b o (offQ_sub b o q),λb o q=>by
  by_cases hb:S b
  ·rw[bl_5 hb]at q;cases q
  ·rw[aj_4 hb]at q⊢;exact st.gg b o q,λb n z=>by
  by_cases hb:S b
  ·exact bl_5 hb
  ·rw[aj_4 hb]at n⊢;exact st.nw b n z⟩
def Step.lentK{G H G2 H2:Hp}{S:AS}(st:Step G H G2 H2)(hk:∀b,S b->∃o,G b=some o/\Gn o=true):∀b,S b->∃o,G2 b=some o/\Gn o=true:=λb hb=>by
 obtain⟨o,e,l⟩:=hk b hb;exact⟨o,st.gg b o e,l⟩
def kin{G:Hp}{S:AS}(hk:∀b,S b->∃o,G b=some o/\Gn o=true):∀b o,S b->G b=some o->Gn o=true:=λb o hb q=>by
 obtain⟨o',e,l⟩:=hk b hb;rw[e]at q;cases q;exact l
def dx_7(EX:EXT):EXT:=⟨λx G H=>z_0 x.vs=true/\∃S:AS,(∀b,S b->∃o,G b=some o/\Gn o=true)/\EX.p x (offQ G S) H,
 λ_ _ _ _ _ st ⟨pl,S,k,q⟩=>⟨pl,S,st.lentK k,EX.mono _ _ _ _ _ st.offQ q⟩⟩
def by_7(EX:Bb):Bb:=λ σ=>dx_7 (EX σ)
def Lk.lend{EX:Bb}(lk:Lk X EX):Lk X (by_7 EX):=λzd σ H s e s' I c=>by
 obtain⟨a,C,dx,T,H',h1,h2,h3,h4,h5,h6,h7,h8,h9,h10,x,G,sg,ea,pl,S,k,q⟩:=c;exact lk zd σ H s e s' I ⟨a,C,dx,T,H',h1,h2,h3,h4,h5,h6,h7,h8,h9,h10,x,offQ G S,offQ_sub.trans sg,ea.offQ (kin k) pl,q⟩
section
variable{K:Frag}{EX:Bb}{H0:HB}{G0 G H:Hp}{σ:Sg}{Δ:SE}{O:OS}{f:FE}{Q:VK}{js:List Nat}{w:W}{x:Xn}
def dg_0(E:Ev K H0 G0 G H σ Δ O)(hl:ab_8 js Δ=true)(e:f (Gb js Δ)=.ok w)(pw:by_6 w=true)(q:WP K G H w Q):tD K EX f σ H Q:=by
 obtain⟨S,hS,hk,hs⟩:=E.lend js hl;have k1:=cu_1 (G:=G) hk;refine⟨Dk G H S,Gb js Δ,cu_0 E,hs, ?_⟩;rw[e];have st':∀{G2 H2:Hp},Step (Dk G H S) H G2 H2->Step G H (offQ G2 S) H2:=λst=>by
  have:=st.offQ (S:=S);rw[bt_0 E hS]at this;exact this
 cases w with
 |sh d=>exact λv G2 H2 st r=>q v (offQ G2 S) H2 (st' st) (r.offQ (kin (st.lentK k1)) pw)
 |ow d=>exact λv S' G2 H2 st fr t=>q v S' (offQ G2 S) H2 (st' st) (λa ha=>⟨(fr a ha).1,offQ_sub.free (fr a ha).2.1,(fr a ha).2.2⟩) (t.offQ (kin (st.lentK k1)) pw)
 |tr t=>exact λv S' G2 H2 st fr t=>q v S' (offQ G2 S) H2 (st' st) (λa ha=>⟨(fr a ha).1,offQ_sub.free (fr a ha).2.1,(fr a ha).2.2⟩) (t.offQ (kin (st.lentK k1)) pw)
def dg_1(E:Ev K H0 G0 G H σ Δ O)(hl:ab_8 js Δ=true)(e:f (Gb js Δ)=.ex x)(pl:z_0 x.vs=true)(q:(EX σ).p x G H):tD K (by_7 EX) f σ H Q:=by
 obtain⟨S,hS,hk,hs⟩:=E.lend js hl;refine⟨Dk G H S,Gb js Δ,cu_0 E,hs, ?_⟩;rw[e];exact⟨pl,S,cu_1 hk,by rw[bt_0 E hS];exact q⟩
end
inductive FM where
 |ok (d:D) (Δ:SE)|ex (x:Xn) (Δ:SE)|no
def OutM(K:Frag)(EX:Bb)(H0:HB)(G0 G1:Hp)(σ:Sg)(r:FM)(Q:VK):Prop:=match r with
 | .ok d Δ=>∀v G H O,Ev K H0 G0 G H σ Δ O->Same G1 G->Has K G v d->Q v H
 | .ex x Δ=>∀G H O,Ev K H0 G0 G H σ Δ O->Same G1 G->(EX σ).p x G H
 | .no=>False
def tM(K:Frag)(EX:Bb)(g:SE->FM):TE:=λ σ H Q=>∃H0 G0 G Δ O,Ev K H0 G0 G H σ Δ O/\OutM K EX H0 G0 G σ (g Δ) Q
abbrev EM(X:Cx)(EX:Bb)(e:Expr)(g:SE->FM):Prop:=PE X e (tM X.K EX g)
def bt_1(js:List Nat)(f:FE):SE->FM:=λ Δ=>if ab_8 js Δ=true then(match f (Gb js Δ) with
 | .ok w=>if by_6 w=true then .ok w.d Δ else .no
 | .ex x=>if z_0 x.vs=true then .ex x Δ else .no
 | .no=> .no) else .no
section
variable{X:Cx}{EX:Bb}{a b e:Expr}{f:FE}{p:FT}{g g2:SE->FM}{pos:Pos}
def dg_2(js:List Nat)(he:ED X (by_7 EX) e f):EM X EX e (bt_1 js f):=PE.imp he λ σ H Q ⟨H0,G0,G,Δ,O,E,q⟩=>by
 unfold bt_1 at q
 split at q
 ·rename_i hl;cases e1:f (Gb js Δ) with
  |ok w=>
   simp only[e1]at q
   split at q
   ·rename_i pw;exact dg_0 E hl e1 pw (WP.intro λv G' H' st r=>q v G' H' O (E.grow st) st.gg r)
   ·exact q.elim
  |ex x=>
   simp only[e1]at q
   split at q
   ·rename_i pl;exact dg_1 E hl e1 pl (q G H O E (Same.refl _))
   ·exact q.elim
  |no=>simp only[e1]at q;exact q.elim
 ·exact q.elim
end
def bt_2(i:Nat)(g:SE->FM):FS:=λ Δ=>match g Δ with
 | .ok d Δ1=> .nx (Δ1.set i (.sh d))
 | .ex x Δ1=> .ex x Δ1
 | .no=> .no
section
variable{X:Cx}{EX:Bb}{e:Expr}{g:SE->FM}{g1 g2:FS}{pos:Pos}
def dg_3{i:Nat}{x:Str}{pos':Pos}(he:EM X EX e g)(hN:X.N.Nodup)(hi:X.N[i]? =some x:=by rfl)(hx:Loc X.env.scope x:=by trivial)(hs:swapsWith e (some (.Name x pos')) pos.line X.env=pure false:=by rfl)
  (hf:X.fn x=true\/X.env.scope.names.lookup x=some .local:=by trivial):SD X EX (.Assign [.Name x pos'] e pos) (bt_2 i g):=
 PS.imp (co_0 hN hi hx he hs hf) λD σ H ⟨H0,G0,G,Δ,O,E,q⟩=>by
  refine⟨H0,G0,G,Δ,O,E, ?_⟩;unfold bt_2 at q;cases e1:g Δ with
  |ok d Δ1=>simp only[e1]at q;exact λv G1 H1 O1 E1 s1 r1=>q _ G1 H1 O1 (E1.put r1) s1
  |ex x Δ1=>simp only[e1]at q;exact λG1 H1 O1 E1 s1=>q σ G1 H1 O1 E1 s1
  |no=>simp only[e1]at q;exact q.elim
end
def dg_4{Δ:SE}{i:Nat}{s:Sl}{t t':Tn}{lk:Bool}(e:Δ[i]? =some s)(q:s.tree=some (t,lk)):Bg (Δ.set i (Sl.mk lk t'))=Bg Δ:=by
 unfold Bg;rw[List.map_set];apply P0;intro j
 by_cases h:i=j
 ·subst h;have hlt:i < Δ.length:=(A9.mp e).1;rw[F9 (by rw[A4];exact hlt),B4,e];cases lk <;> cases s <;> first|rfl|cases q
 ·rw[C9 h]
def sSdb(i:Nat)(f1 f2:FE):FS:=λ Δ=>match(Δ[i]?).bind Sl.tree with
 |some (.dic zm,lk)=>(match f1 (Ax Δ) with
   | .ok z1=>(match Ef z1.d with
    |some k1=>if zm.length < 16777216 then(match De (sdK zm k1) k1 with
     |some (.lst ts)=>if ts.length < 16777216 then(match f2 (Bg Δ) with
      | .ok z2=> .nx (Δ.set i (Sl.mk lk (.dic (Dx (sdK zm k1) k1 (.lst (ts ++ [.sh z2.d]))))))
      |_=> .no) else .no
     |_=> .no) else .no
    |none=> .no)
   |_=> .no)
 |_=> .no
section
variable{X:Cx}{EX:Bb}{pos:Pos}
def cd_8{H0:HB}{G0 G H:Hp}{σ:Sg}{Δ:SE}{O:OS}{D:Ends}{i:Nat}{s:Sl}{zm:List (Ar×Tn)}{lk:Bool}{k:Ar}{ts:List Tn}{f2:FE}{z2:W}(E:Ev K H0 G0 G H σ Δ O)(e1:Δ[i]? =some s)(etr:s.tree=some (.dic zm,lk))(ev:De zm k=some (.lst ts))(hz:ts.length < 16777216)(ef:f2 (Bg Δ)=.ok z2)
  (q:∀σ' G' H' O',Ev K H0 G0 G' H' σ' (Δ.set i (Sl.mk lk (.dic (Dx zm k (.lst (ts ++ [.sh z2.d])))))) O'->Same G G'->D.nx σ' H'):
  ∃c a kvs,σ[i]? =some (some (.ref a))/\H a=some (.dK kvs)/\Dc kvs k=some (.ref c)/\tyV K "list" (.ref c) H/\tD K EX f2 σ H λy H2=>bh_6 (.ref c) [y] H2 λ_ H3=>D.nx σ H3:=by
 obtain⟨v0,s1,t⟩:=E.ow i _ _ e1 (Sl.tree_own etr);obtain⟨a,kvs,S1,rfl,m,hH,hk,sub,rl⟩:=t.dic_of;obtain⟨vc,Sc,ec,tc,ic,fc⟩:=OwL.focusK k hk rl ev;cases tc with
 |lst hc mc subc rc=>
  rename_i c vs S2;have hca:c≠a:=(sub c (ic c mc)).2;refine⟨c,a,kvs,s1,hH,ec,.inl ⟨rfl,_,SqL.of hc⟩,G,Bg Δ,E.st.gh,E.gsh, ?_⟩;rw[ef];refine WP.intro λy G2 H2 st2 r2=> ?_;have E2:=E.grow st2;have zk:vs.length < sizeLine:=by rw[rc.length,D5];exact hz
  refine⟨c,vs,y,rfl,rfl,st2.hh _ _ hc,zk, ?_⟩;refine q σ G2 _ _ (E2.writeIn e1 etr s1 (sub c (ic c mc)).1 ?_) st2.gg;obtain⟨vc',Sc',ec',tc',ic',fc'⟩:=OwL.focusK k hk (OwL.mono st2.gg rl (λ_ _ _ z=>z) λ_ z=>z) ev;rw[ec]at ec';cases ec';cases tc' with
  |lst hc' mc' subc' rc'=>
   rename_i vs' S2';rw[hc]at hc';cases hc';refine Ow.dic (S1:=S1) (by rw[Ba (Ne.symm hca)];exact st2.hh _ _ hH) (by rw[be_2];exact hk) m sub ?_;refine fc' (λb o hb nb z=> ?_) ?_
   ·rw[Ba (show b≠c from λw=>nb (by rw[w];exact mc'))];exact st2.hh _ _ z
   ·refine Ow.lst (S1:=S2') Cb mc' subc' (OwL.append (S2:=λ_=>False) (rc'.mono (Same.refl _) (λb o hb z=> ?_) λ_ z=>z) (.cons (S1:=λ_=>False) (S2:=λ_=>False) (.sh r2) .nil (λ_ z=>z.elim) (λ_ z=>z) λ_ z=>z) (λ_ _ z=>z) (λ_ z=>z) λ_ z=>z.elim);rw[Ba (subc' b hb).2];exact st2.hh _ _ z
def ds_4{i:Nat}{x:Str}{e1 e2:Expr}{f1 f2:FE}{p1 lp a1 c1 zh zf:Pos}(h1:ED X EX e1 f1)(h2:ED X EX e2 f2)(hN:X.N[i]? =some x:=by rfl)(hv:Vis X.env.scope x:=by trivial)(hd:AG x:=by decide)
  (hcd:(x ==("__classdict__" :Str))=false:=by decide) (hm:M2 X (.Name x p1) "setdefault" a1 e1 (.List [] lp) c1:=by exact⟨rfl,rfl,rfl,rfl⟩)
  (hsw:swapsWith (.Call (.Attribute (.Call (.Attribute (.Name x p1) "setdefault" a1) [e1,.List [] lp] [] c1) "append" zh) [e2] [] zf) none pos.line X.env=pure false:=by rfl)
  (af:attributeBase (.Call (.Attribute (.Name x p1) "setdefault" a1) [e1,.List [] lp] [] c1) "append" X.env (eval (.Call (.Attribute (.Name x p1) "setdefault" a1) [e1,.List [] lp] [] c1) X.env)=eval (.Call (.Attribute (.Name x p1) "setdefault" a1) [e1,.List [] lp] [] c1) X.env:=by rfl)
  (az:((backTo zf (starEach [e2] X.env)).all (λx=> !x.1) && (backToKw zf (keywordEach [] X.env)).all (λx=>x.1.isSome)
   && decide ([e2].length + ([]:List Keyword).length + (if([]:List Keyword).isEmpty then 0 else 1) < 30))=true:=by rfl)
  (ag:(zh.endLine ==zf.line)=true:=by rfl) (hs:starEach [e2] X.env=(false,eval e2 X.env)::starEach [] X.env:=by rfl) (aa:(backTo zf (starEach [] X.env)).any (·.1)=false:=by rfl):
  SD X EX (.Expr (.Call (.Attribute (.Call (.Attribute (.Name x p1) "setdefault" a1) [e1,.List [] lp] [] c1) "append" zh) [e2] [] zf) pos) (sSdb i f1 f2):=
 PS.imp (ah_7 (cb_4 V4 U4 U5 w_0 (df_7 (o_1 hN hv hd hcd) h1 (bx_1 o_2) hm) (h_8 h2 o_2 hs) af az ag hs aa) hsw) λD σ H ⟨H0,G0,G,Δ,O,E,q⟩=>by
  unfold sSdb at q
  split at q
  ·rename_i zm lk e0;obtain⟨s,e1,etr⟩:=V5.mp e0;obtain⟨v0,s1,t⟩:=E.ow i _ _ e1 (Sl.tree_own etr);obtain⟨a,kvs,S1,rfl,m,hH,hk,sub,rl⟩:=t.dic_of;refine⟨.ref a,s1,a,rfl,.inl ⟨kvs,.inl hH⟩,Db G H O,Ax Δ,E.aH,E.gall, ?_⟩;cases e3:f1 (Ax Δ) with
   |ex x=>simp only[e3]at q;exact q.elim
   |no=>simp only[e3]at q;exact q.elim
   |ok z1=>
    simp only[e3]at q;refine WP.intro λv1 G1 H1 st1 r1=> ?_
    split at q
    ·rename_i k1 ek1
     split at q
     ·rename_i hl
      split at q
      ·rename_i ts ev
       split at q
       ·rename_i hz;cases e4:f2 (Bg Δ) with
        |ex x=>simp only[e4]at q;exact q.elim
        |no=>simp only[e4]at q;exact q.elim
        |ok z2=>
         simp only[e4]at q
         ·have hv1:=av_8 r1 ek1;subst hv1;refine⟨K0 _,λp hp=> ?_⟩;have E3:=E.keep st1.hh;have E5:=E3.keep (j_6 hp (.lst []));have hle:kvs.length=zm.length:=by
           have:=L6 List.length hk
           rwa[A4,A4]at this
          have hH5:upd H1 p (.lst []) a=some (.dK kvs):=j_6 hp _ _ _ (st1.hh _ _ hH);refine⟨kvs,k1,hH5,rfl,by rw[hle,D5];exact hl,λv hv=> ?_,λhn=> ?_⟩
          ·have hA:sdK zm k1=zm:=by
            unfold sdK;cases hA:De zm k1 with
            |some t=>rfl
            |none=>rw[bs_8 hk hA]at hv;cases hv
           rw[hA]at ev q;obtain⟨c,a',gu,s1',hH',ec,ty,td⟩:=cd_8 (D:=D) (EX:=EX) E5 e1 etr ev hz e4 q;rw[s1]at s1';cases s1';rw[hH5]at hH';cases hH';rw[hv]at ec;cases ec;exact⟨ty,td⟩
          ·have hA:De zm k1=none:=by
            cases hA:De zm k1 with
            |none=>rfl
            |some t=>
             obtain⟨v',_,ev',_⟩:=OwL.focusK k1 hk rl hA;rw[hn]at ev';cases ev'
           have hK:sdK zm k1=zm ++ [(k1,.lst [])]:=by unfold sdK;rw[hA]
           rw[hK]at ev q;have npO:∀j b,O j b->b≠p:=λj b hb z=>by
            have h0:=(E.out j b hb).2.2;cases e:H b with
            |none=>exact h0 e
            |some o=>rw[z]at e;rw[st1.hh _ _ e]at hp;cases hp
           have hap:a≠p:=npO i a m;have ja:(kvs.any λkv=>decide (kv.1=k1))=false:=by
            rw[ab_0,hn];rfl
           have fq:Ga kvs k1 (.ref p)=kvs ++ [(k1,.ref p)]:=by
            rw[cc_6];unfold Fq;rw[ja];rfl
           rw[fq];have Gp:G p=none:=E3.st.gh.free hp;have old:∀b o,H1 b=some o->upd H1 p (.lst []) b=some o:=λb o z=>j_6 hp _ b o z;have hp1:upd H1 p (.lst []) p=some (.lst []):=Cb;have ms:MStep2 (O i) G H1 G (upd (upd H1 p (.lst [])) a (.dK (kvs ++ [(k1,.ref p)]))):=⟨λb o nb z=>by rw[Ba (λw=>nb (by rw[w];exact m))];exact old b o z,λb o z=>by
            have:b≠a:=λw=>by rw[w,(E.out i a m).1]at z;cases z
            rw[Ba this];exact old b o (E3.st.gh b o z),Same.refl _,λb _ z _=>z⟩
           have E6:Ev X.K H0 G0 G (upd (upd H1 p (.lst [])) a (.dK (kvs ++ [(k1,.ref p)]))) σ (Δ.set i (Sl.mk lk (.dic (zm ++ [(k1,.lst [])])))) (Gh O i λb=>O i b\/b=p):=by
            refine E3.step2 (S:=λb=>O i b\/b=p) (Sl.mk_own lk _) (Sl.mk_lk lk _) (E3.mk_lt e1 etr _) ms s1 (λb hb=> ?_) ?_
            ·rcases hb with hb|hb
             ·refine⟨.inl hb,(E3.out i b hb).1, ?_⟩
              by_cases w:b=a
              ·rw[w,Cb];simp
              ·rw[Ba w];cases e:H1 b with
               |none=>exact absurd e (E3.out i b hb).2.2
               |some o=>rw[old b o e];simp
             ·subst hb;exact⟨.inr hp,Gp,by rw[Ba (Ne.symm hap),hp1];simp⟩
            ·refine Ow.dic (S1:=λb=>S1 b\/b=p) Cb (by rw[F7,F7,hk];rfl) (.inl m) (λb hb=> ?_) ?_
             ·rcases hb with hb|hb
              ·exact⟨.inl (sub b hb).1,(sub b hb).2⟩
              ·subst hb;exact⟨.inr rfl,Ne.symm hap⟩
             ·rw[F7,F7];refine OwL.append (S2:=λb=>b=p) (rl.mono (Same.refl _) (λb o hb z=> ?_) λ_ z=>z) (.cons (S1:=λb=>b=p) (S2:=λ_=>False) (.lst (S1:=λ_=>False) (by rw[Ba (Ne.symm hap)];exact hp1) rfl (λ_ z=>z.elim) .nil) .nil (λ_ _ z=>z) (λ_ z=>z) λ_ z=>z.elim) (λb z1 z2=>npO i b (sub b z1).1 z2) (λb z=> .inl z) λb z=> .inr z;rw[Ba (sub b hb).2];exact old _ _ (st1.hh _ _ z)
           have hlt:i < Δ.length:=(A9.mp e1).1;obtain⟨c,a',gu,s1',hH',ec,ty,td⟩:=cd_8 (D:=D) (EX:=EX) (lk:=lk) E6 (s:=Sl.mk lk (.dic (zm ++ [(k1,.lst [])]))) (by rw[F9 hlt]) (by cases lk <;> rfl) ev hz (by rw[dg_4 e1 etr];exact e4) (λ σ' G' H' O' E' sg=>q σ' G' H' O' (by rw[List.set_set]at E';exact E') sg);rw[s1]at s1';cases s1';rw[Cb]at hH';cases hH';rw[<-fq,cq_1,if_pos rfl]at ec;cases ec;exact⟨ty,td⟩
       ·exact q.elim
      ·exact q.elim
     ·exact q.elim
    ·exact q.elim
  ·exact q.elim
end
end L3
namespace PySem.W
open PySem PySem.Calls PyProof.Rows PySem.Spec
section
variable{prog:Program}{w:World}{A:Around}{E:AA}{s:Shared}{T:String}{r d:Addr}{n:Nat}{P:Nat->Value->Prop}{OK:Heap->Prop}
def collect_kdl{Q:List Value->Shared->Prop}(K:KdlSrc prog w T r d n P OK)(hh:A.handled=none)(hok:OK s.heap)(hn:n<=sizeLine)
  (hQ:∀h' tk zn,(∀b o,s.heap.get? b=some o->h'.get? b=some o)->s.heap.objs.size<=h'.objs.size->ItemsOf P zn n->Q zn.toList {s with heap:=h',toks:=tk}):wpAny (model prog w) A (collect (.ref r)) Q E s:=by
 have hlt:=K.there _ hok;unfold collect;refine A3 (wpAny_runValue (X9 PySem.F.entry_proto_collect ?_));rw[X7 PySem.F.plain_proto_collect _];show wpAny _ A.in1 (newList [] >>=λl=>again (.builtin "list.__iadd__" ⟨[l,.ref r],[]⟩)) _ _ s;refine A3 (O9 ?_);refine C5 ⟨plainId_quiet ZB5 _,X9 PySem.F.entry_list_iadd ?_⟩;rw[X7 ZB5 _];have hS₁:(s.heap.push {cls:=.type "list",data:=.seq ([]:List Value).toArray}).get? s.heap.objs.size=some {cls:=.type "list",data:=.seq #[] 0}:=B7 _ rfl;show wpAny _ A.in1 (Builtin.List.listExtendWith (.ref s.heap.objs.size) (.ref r) (.ref s.heap.objs.size)) _ _ _;have fin:∀{rr:Result} {s':Shared},(∃h' tk ba c',rr=.ok (.ret (.ref s.heap.objs.size))/\s'={s with heap:=h',toks:=tk}/\(∀b o,b≠s.heap.objs.size->(s.heap.push {cls:=.type "list",data:=.seq ([]:List Value).toArray}).get? b=some o->h'.get? b=some o)/\h'.get? s.heap.objs.size=some {cls:=.type "list",dict:=none,data:=.seq ba c',slots:= #[]}/\ItemsOf P ba n)->
   rr=.ok (.ret (.ref s.heap.objs.size))/\wpAny (model prog w) A (load s.heap.objs.size >>=λo=>match o.data with| .seq xs _=>pure xs.toList|_=>unsupported "internal:collect") Q E s':=by
  rintro rr s' ⟨h',tk,ba,c',rfl,rfl,hk,hS',di⟩
  refine⟨rfl,A3 (wpAny_load hS' ?_)⟩;exact C5 (hQ h' tk ba (λb o e=>hk b o (C1 (A6 e)) (A5 _ e)) (S5 (A6 hS')) di)
 refine D2 (kdl_extend (R:=λrr s'=>∃h' tk ba c',rr=.ok (.ret (.ref s.heap.objs.size))/\s'={s with heap:=h',toks:=tk}/\(∀b o,b≠s.heap.objs.size->(s.heap.push {cls:=.type "list",data:=.seq ([]:List Value).toArray}).get? b=some o->h'.get? b=some o)/\h'.get? s.heap.objs.size=some {cls:=.type "list",dict:=none,data:=.seq ba c',slots:= #[]}/\ItemsOf P ba n)
  (s:={s with heap:=s.heap.push {cls:=.type "list",data:=.seq ([]:List Value).toArray}}) K hh (K.keep _ _ hok λb _ o e=>A5 _ e) s.heap.objs.size (Y6 hlt.1) (Y6 hlt.2) (.ref s.heap.objs.size) 0 hS₁ (λh' tk ba c' hk hS' di=>⟨h',tk,ba,c',rfl,rfl,hk,hS',di⟩) hn) (λf s' hf=> ?_) λe s' hf=> ?_
 ·cases f with
  |done f=>
   obtain⟨e,q⟩:=fin hf;cases e;exact q
  |again c'=>
   refine⟨hf.1,Q9 hf.2 λrr s'' h=> ?_⟩;obtain⟨e,q⟩:=fin h;cases e;exact q
 ·obtain⟨e,_⟩:=fin hf;cases e
end
section
variable{prog:Program}{w:World}{A:Around}{E:AA}{s:Shared}{a kS:Addr}{vs:List Value}{kz:List Int}{e1:Nat}{P:PySem.Fin->Shared->Prop}
end
end PySem.W
namespace L3
open PySem PySem.Spec PyProof.Rows L2
variable{K:Frag}{fd:FuncData}{mg:AB}{us:List Value}{base:Heap}{H:Hp}{X:Cx}{pos:Pos}
def z_1(F:AF):List D->R (List (Int×D))
 | []=> .ok []
 |d::ds=>(F [d]).bind λw=>match w.d with
  | .int n=>(z_1 F ds).bind λr=> .ok ((n,d)::r)
  |_=> .no
def insK(p:Int×D):List (Int×D)->List (Int×D)
 | []=> [p]
 |q::r=>if p.1<=q.1 then p::q::r else q::insK p r
def Gg:List (Int×D)->List (Int×D)
 | []=> []
 |p::r=>insK p (Gg r)
def be_8(F:AF)(ds:List D):R W:=match z_1 F ds with
 | .ok ps=>if ps.length < 64/\(ps.map (·.1)).Nodup then .ok (.ow (.lst ((Gg ps).map (·.2)))) else .no
 |_=> .no
section
variable{X:Cx}{zd:AE}{σ:Sg}{H:Hp}{s:Shared}
end
theorem am_2(p:Int×D):∀l:List (Int×D),(insK p l).Perm (p::l)
 | []=> .refl _
 |q::r=>by
  unfold insK
  split
  ·exact .refl _
  ·exact(List.Perm.cons q (am_2 p r)).trans (List.Perm.swap p q r)
theorem ah_2:∀l:List (Int×D),(Gg l).Perm l
 | []=> .refl _
 |p::r=>(am_2 p (Gg r)).trans (.cons p (ah_2 r))
theorem ao_6(p:Int×D):∀{l:List (Int×D)},l.Pairwise (λa b=>a.1<=b.1)->(insK p l).Pairwise (λa b=>a.1<=b.1)
 | [],_=>by unfold insK;simp
 |q::r,h=>by
  rw[Q0]at h;unfold insK
  split
  ·rename_i hl;refine Q0.mpr ⟨λz hz=> ?_,Q0.mpr h⟩;rcases B8.mp hz with rfl|hz
   ·exact hl
   ·exact ZE7 hl (h.1 z hz)
  ·rename_i hl;refine Q0.mpr ⟨λz hz=> ?_,ao_6 p h.2⟩;rcases B8.mp ((am_2 p r).mem_iff.mp hz) with rfl|hz
   ·omega
   ·exact h.1 z hz
theorem z_2:∀l:List (Int×D),(Gg l).Pairwise (λa b=>a.1<=b.1)
 | []=> .nil
 |p::r=>ao_6 p (z_2 r)
theorem aw_8{α β:Type}{R:α->β->Prop}{a:α}:∀{A:List α} {B:List β},Paired R A B->a∈A->∃l1 l2 m1 m2 b,A=l1 ++ a::l2/\B=m1 ++ b::m2/\R a b/\Paired R (l1 ++ l2) (m1 ++ m2)
 |_,_,.cons (a:=x) (b:=y) (l₁:=A) (l₂:=B) r t,h=>by
  by_cases e:a=x
  ·subst e;exact⟨[],A,[],B,y,rfl,rfl,r,t⟩
  ·rcases B8.mp h with z|h
   ·exact absurd z e
   ·obtain⟨l1,l2,m1,m2,b,rfl,rfl,rb,pr⟩:=aw_8 t h;exact⟨x::l1,l2,y::m1,m2,b,rfl,rfl,rb,.cons r pr⟩
theorem ab_9{α β:Type}{R:Int×α->Int×β->Prop}(hR:∀p q,R p q->p.1=q.1):∀{A:List (Int×α)} {A0:List (Int×α)} {B0 B:List (Int×β)},Paired R A0 B0->A.Perm A0->B.Perm B0->(B0.map (·.1)).Nodup->A.Pairwise (λp q=>p.1<=q.1)->B.Pairwise (λp q=>p.1<=q.1)->Paired R A B
 | [],A0,B0,B,r,pa,pb,_,_,_=>by
  have:A0= []:=pa.symm.eq_nil;subst this;cases r;have:B= []:=pb.eq_nil;subst this;exact .nil
 |a::A,A0,B0,B,r,pa,pb,nd,sa,sb=>by
  obtain⟨l1,l2,m1,m2,b,rfl,rfl,rb,pr⟩:=aw_8 r (pa.mem_iff.mp (.head _));have pa':A.Perm (l1 ++ l2):=(List.perm_cons a).mp (pa.trans X0);have bB:b∈B:=pb.mem_iff.mpr (by simp);rw[Q0]at sa;cases B with
  |nil=>cases bB
  |cons c B=>
   rw[Q0]at sb;have jb:∀z∈m1 ++ m2,a.1<=z.1:=λz hz=>by
    have:∀{A:List (Int×α)} {B:List (Int×β)},Paired R A B->∀z∈B,∃y∈A,y.1=z.1:=λ{A B} p=>by
     induction p with
     |nil=>intro z hz;cases hz
     |cons rr _ ih=>
      intro z hz;rcases B8.mp hz with rfl|hz
      ·exact⟨_,.head _,hR _ _ rr⟩
      ·obtain⟨y,hy,e⟩:=ih z hz;exact⟨y,.tail _ hy,e⟩
    obtain⟨y,hy,e⟩:=this pr z hz;rw[<-e];exact sa.1 y (pa'.mem_iff.mpr hy)
   have eb:a.1=b.1:=hR _ _ rb;have cb:c=b:=by
    have hc:c∈m1 ++ b::m2:=pb.mem_iff.mp (.head _);have hc':c=b\/c∈m1 ++ m2:=by
     rcases F6.mp hc with h|h
     ·exact .inr (L9 _ h)
     ·rcases B8.mp h with h|h
      ·exact .inl h
      ·exact .inr (B1 _ h)
    rcases hc' with h|h
    ·exact h
    ·exfalso;have h1:=jb c h;have h2:c.1<=b.1:=by
      rcases B8.mp bB with z|z
      ·rw[z];exact Int.le_refl _
      ·exact sb.1 b z
     have h3:c.1=b.1:=by omega
     have nd':((b::(m1 ++ m2)).map (·.1)).Nodup:=(List.Perm.map _ (X0 (a:=b) (l₁:=m1) (l₂:=m2))).nodup_iff.mp nd;rw[B2,K3]at nd';exact nd'.1 (by rw[<-h3];exact List.mem_map_of_mem h)
   subst cb;have pb':B.Perm (m1 ++ m2):=(List.perm_cons c).mp (pb.trans X0);have nd':((m1 ++ m2).map (·.1)).Nodup:=by
    have nd':((c::(m1 ++ m2)).map (·.1)).Nodup:=(List.Perm.map _ (X0 (a:=c) (l₁:=m1) (l₂:=m2))).nodup_iff.mp nd;rw[B2,K3]at nd';exact nd'.2
   exact .cons rb (ab_9 hR pr pa' pb' nd' sa.2 sb.2)
theorem be_9{F:AF}:∀{ds:List D} {ps:List (Int×D)},z_1 F ds=.ok ps->Paired (λd (p:Int×D)=>p.2=d/\∃w,F [d]=.ok w/\w.d=.int p.1) ds ps
 | [],_,e=>by cases e;exact .nil
 |d::ds,ps,e=>by
  unfold z_1 at e;cases ef:F [d] with
  |ok w=>
   rw[ef]at e;simp only[R.bind_ok]at e;cases ew:w.d with
   |int n=>
    rw[ew]at e;simp only at e;cases er:z_1 F ds with
    |ok r=>rw[er]at e;cases e;exact .cons ⟨rfl,w,ef,ew⟩ (be_9 er)
    |ex x=>rw[er]at e;cases e
    |no=>rw[er]at e;cases e
   |_=>rw[ew]at e;cases e
  |ex x=>rw[ef]at e;cases e
  |no=>rw[ef]at e;cases e
def cu_2{v:V}{k:Ar}{u:Value}(r:RelV v u)(q:RelV (kV k) u):v=kV k:=by
 cases k with
 |inl i=>
  obtain⟨t,rfl⟩:=q;cases v with
  |int j=>obtain⟨t',e⟩:=r;cases e;rfl
  |str x=>obtain⟨t',e⟩:=r;cases e
  |byt x=>obtain⟨t',e⟩:=r;cases e
  |flt x=>obtain⟨t',e⟩:=r;cases e
  |_=>cases r
 |inr x=>
  obtain⟨t,rfl⟩:=q;cases v with
  |str y=>obtain⟨t',e⟩:=r;cases e;rfl
  |int j=>obtain⟨t',e⟩:=r;cases e
  |byt x=>obtain⟨t',e⟩:=r;cases e
  |flt x=>obtain⟨t',e⟩:=r;cases e
  |_=>cases r
abbrev RelK(p:Int×Value)(q:Int×D):Prop:=p.1=q.1/\∃k0,q.2=kD k0/\RelV (kV k0) p.2
theorem zipR{F:AF}:∀{ks:List Ar} {vs:List Value} {ps:List (Int×D)},Vals (ks.map kV) vs->Paired (λd (p:Int×D)=>p.2=d/\∃w,F [d]=.ok w/\w.d=.int p.1) (ks.map kD) ps->Paired RelK ((ps.map (·.1)).zip vs) ps
 | [],_,_,r,q=>by cases r;cases q;exact .nil
 |k::ks,_,_,r,q=>by
  rw[B2]at r q;cases r with
  |cons h t=>
   cases q with
   |cons h2 t2=>exact .cons ⟨rfl,k,h2.1,h⟩ (zipR t t2)
theorem outR{G:Hp}:∀{ps:List (Int×Value)} {qs:List (Int×D)} {us:List V},Paired RelK ps qs->Vals us (ps.map Prod.snd)->HasL K G us (qs.map (·.2))
 | [],_,_,r,h=>by cases r;cases h;exact .nil
 |p::ps,_,_,r,h=>by
  rw[B2]at h;cases r with
  |cons r t=>
   cases h with
   |cons hv ht=>
    obtain⟨_,k0,e,rk⟩:=r;rw[B2,e];exact .cons (by rw[cu_2 hv rk];exact cs_3 k0) (outR t ht)
theorem Paired.getL{α β:Type}{R:α->β->Prop}:∀{A:List α} {B:List β} {i:Nat} {a:α} {b:β},Paired R A B->A[i]? =some a->B[i]? =some b->R a b
 |_,_,_,_,_,.nil,e,_=>by simp at e
 |_,_,0,_,_,.cons r _,e,e'=>by
  simp at e e';subst e e';exact r
 |_,_,i + 1,_,_,.cons _ t,e,e'=>Paired.getL (i:=i) t (by simpa using e) (by simpa using e')
section
variable{X:Cx}{EX:Bb}{pos:Pos}
end
end L3
namespace L3
open PySem PySem.W PyProof.Rows
variable{K:Frag}{fd:FuncData}{mg:AB}{us:List Value}{base:Heap}{H:Hp}{X:Cx}{pos:Pos}
section
variable{N:Nat}{key:Nat->Int}{cmp:Nat->Nat->(Bool->Shared->Prop)->Shared->Prop}{s:Shared}
structure GoodP(N:Nat)(p:Array Nat):Prop where
 size:p.size=N
 perm:p.toList.Perm (List.range N)
abbrev kp(key:Nat->Int)(p:Array Nat)(i:Nat):Int:=key (p.getD i 0)
def GoodP.lt{p:Array Nat}(g:GoodP N p){i:Nat}(h:i < N):p.getD i 0 < N:=by
 have h':i < p.size:=by rw[g.size];exact h
 have e:p.getD i 0=p[i]:=by simp[Array.getD,h']
 rw[e];exact J8.mp (g.perm.mem_iff.mp (by simp))
def GoodP.inj{p:Array Nat}(g:GoodP N p){i j:Nat}(hi:i < N)(hj:j < N)(e:p.getD i 0=p.getD j 0):i=j:=by
 have h1:i < p.size:=by rw[g.size];exact hi
 have h2:j < p.size:=by rw[g.size];exact hj
 have e1:p.getD i 0=p[i]:=by simp[Array.getD,h1]
 have e2:p.getD j 0=p[j]:=by simp[Array.getD,h2]
 rw[e1,e2]at e;have nd:p.toList.Nodup:=g.perm.nodup_iff.mpr List.nodup_range;have pw:=K8.mp nd;rcases R3 i j with h|h|h
 ·exact absurd (by rw[U1,U1];exact e) (pw i j _ _ h)
 ·exact h
 ·exact absurd (by rw[U1,U1];exact e.symm) (pw j i _ _ h)
def as_6{p q:Array Nat}{i j:Nat}(h:p[i]? =q[j]?):p.getD i 0=q.getD j 0:=by
 rw[Y7,Y7,h]
def GoodP.rev{p:Array Nat}(g:GoodP N p)(i j:Nat):GoodP N (kas_rev p i j):=⟨(mirror_size _ _ _ _).trans g.size,(Z6.mp (mirror_perm p i j _)).trans g.perm⟩
def GoodP.bub{p:Array Nat}(g:GoodP N p)(i j:Nat):GoodP N (bubble p i j):=⟨(bubble_size _ _ _).trans g.size,(Z6.mp (bubble_perm p i j)).trans g.perm⟩
def Asc(key:Nat->Int)(p:Array Nat)(n:Nat):Prop:=∀i j,i < j->j < n->kp key p i < kp key p j
def Des(key:Nat->Int)(p:Array Nat)(n:Nat):Prop:=∀i j,i < j->j < n->kp key p j < kp key p i
def dk_8(N:Nat)(key:Nat->Int)(cmp:Nat->Nat->(Bool->Shared->Prop)->Shared->Prop)(s:Shared):Prop:=(∀i j,i < N->j < N->key i=key j->i=j)/\∀i j C,i < N->j < N->i≠j->C (decide (key i < key j)) s->cmp i j C s
variable(T:dk_8 N key cmp s)
include T
theorem aj_5{p:Array Nat}(g:GoodP N p){i j:Nat}(hi:i < N)(hj:j < N)(hn:i≠j){C:Bool->Shared->Prop}(h1:kp key p i < kp key p j->C true s)(h2:kp key p j < kp key p i->C false s):cmp (p.getD i 0) (p.getD j 0) C s:=by
 refine T.2 _ _ _ (g.lt hi) (g.lt hj) (λe=>hn (g.inj hi hj e)) ?_
 by_cases h:key (p.getD i 0) < key (p.getD j 0)
 ·rw[F1 h];exact h1 h
 ·rw[E4 h];have:key (p.getD i 0)≠key (p.getD j 0):=λe=>hn (g.inj hi hj (T.1 _ _ (g.lt hi) (g.lt hj) e));exact h2 (show key _ < key _ by omega)
theorem Asc.up{p:Array Nat}{n:Nat}(h:Asc key p n)(h1:1<=n)(hn:kp key p (n - 1) < kp key p n):Asc key p (n + 1):=λi j hij hj=>by
 by_cases e:j=n
 ·subst e
  by_cases e2:i=j - 1
  ·subst e2;exact hn
  ·exact W2 (h i (j - 1) () ()) hn
 ·exact h i j hij ()
theorem Des.up{p:Array Nat}{n:Nat}(h:Des key p n)(h1:1<=n)(hn:kp key p n < kp key p (n - 1)):Des key p (n + 1):=λi j hij hj=>by
 by_cases e:j=n
 ·subst e
  by_cases e2:i=j - 1
  ·subst e2;exact hn
  ·exact W2 hn (h i (j - 1) () ())
 ·exact h i j hij ()
theorem by_9{p:Array Nat}(g:GoodP N p):∀(f n:Nat) {Q:Nat->Shared->Prop},1<=n->n + f<=N->Asc key p n->(∀m,n<=m->m<=n + f->Asc key p m->(m < n + f->kp key p m < kp key p (m - 1))->Q m s)->(kas_asc p f n).kasWp cmp Q s
 |0,n,Q,_,_,ha,hq=>hq n (A8 _) (A8 _) ha λh=>absurd h (D7 _)
 |f + 1,n,Q,h1,hN,ha,hq=>by
  show cmp (p.getD n 0) (p.getD (n - 1) 0) _ s;refine aj_5 T g () () () (λh=> ?_) λh=> ?_
  ·simp only[if_true];exact hq n (A8 _) () ha λ_=>h
  ·simp only[E7,N0];exact by_9 g f (n + 1) () () (Asc.up T ha h1 h) λm a1 a2 a3 a4=>hq m () () a3 λhm=>a4 ()
theorem cd_9{p:Array Nat}(g:GoodP N p):∀(f n:Nat) {Q:Array Nat×Nat×Nat->Shared->Prop},1<=n->n + f<=N->Des key p n->(∀m,n<=m->m<=n + f->Des key p m->Q (p,m,0) s)->(kas_desc f p n 0).kasWp cmp Q s
 |0,n,Q,_,_,ha,hq=>hq n (A8 _) (A8 _) ha
 |f + 1,n,Q,h1,hN,ha,hq=>by
  show cmp (p.getD n 0) (p.getD (n - 1) 0) _ s;refine aj_5 T g () () () (λh=> ?_) λh=> ?_
  ·simp only[if_true,D7,gt_iff_lt,N0];exact cd_9 g f (n + 1) () () (Des.up T ha h1 h) λm a1 a2 a3=>hq m () () a3
  ·simp only[E7,N0];show cmp (p.getD (n - 1) 0) (p.getD n 0) _ s;refine aj_5 T g () () () (λh'=> ?_) λh'=> ?_
   ·simp only[if_true];exact hq n (A8 _) () ha
   ·exact absurd (W2 h h') (Int.lt_irrefl _)
theorem dg_6{p:Array Nat}(g:GoodP N p){n:Nat}(hn:n<=N)(h:Des key p n):Asc key (kas_rev p 0 n) n:=λi j hij hj=>by
 have at':∀k,k < n->kp key (kas_rev p 0 n) k=kp key p (n - 1 - k):=λk hk=>by
  have:=getElem?_mirror_all (xs:=p) (i:=0) (j:=n) (by rw[g.size];exact hn) k;rw[if_pos ⟨K0 _,hk⟩,N6]at this;exact L6 key (as_6 this)
 rw[at' i (),at' j hj];exact h (n - 1 - j) (n - 1 - i) () ()
theorem dg_7{p:Array Nat}(g:GoodP N p){n:Nat}{Q:Nat×Array Nat->Shared->Prop}(h1:1<=n)(hn:n + 1<=N)(hd:Des key p (n + 1))(hq:∀m q,1<=m->m<=N->GoodP N q->Asc key q m->Q (m,q) s):(kas_descPart n N p).kasWp cmp Q s:=by
 unfold kas_descPart;rw[V0];refine cd_9 T g (N - (n + 1)) (n + 1) () () hd λm a1 a2 a3=> ?_;simp only[gt_iff_lt,D7,N0];unfold kas_tail3;rw[V0];refine by_9 T (g.rev 0 m) (N - m) m () () (dg_6 T g () a3) λm' b1 b2 b3 _=> ?_;exact hq m' _ () () (g.rev 0 m) b3
theorem cu_3{p:Array Nat}(g:GoodP N p){Q:Nat×Array Nat->Shared->Prop}(h1:1<=N)(hq:∀m q,1<=m->m<=N->GoodP N q->Asc key q m->Q (m,q) s):(kas_count N p).kasWp cmp Q s:=by
 unfold kas_count;rw[V0];refine by_9 T g (N - 1) 1 (A8 _) () (λi j hij hj=>by omega) λn a1 a2 a3 a4=> ?_
 by_cases e:n=N
 ·subst e;simp only[O6,if_true];exact hq n p a1 (A8 _) g a3
 ·have e':(n ==N)=false:=by simpa using e
  simp only[e',E7,N0]
  by_cases h2:n > 1
  ·rw[if_pos h2];show cmp (p.getD 0 0) (p.getD (n - 1) 0) _ s;refine aj_5 T g () () () (λh=> ?_) λh=> ?_
   ·simp only[if_true];exact hq n p a1 () g a3
   ·exact absurd (W2 h (a3 0 (n - 1) () ())) (Int.lt_irrefl _)
  ·rw[if_neg h2];have:n=1:=by omega
   subst this;have h10:=a4 ();exact dg_7 T g (A8 _) () (λi j hij hj=>by
    have:i=0/\j=1:=by omega
    obtain⟨rfl,rfl⟩:=this;exact h10) hq
theorem aw_9{p:Array Nat}(g:GoodP N p){k:Nat}(hk:k < N):∀(f l r:Nat) {Q:Nat->Shared->Prop},r - l<=f->l<=r->r<=k->(∀i,i < l->kp key p i < kp key p k)->(∀i,r<=i->i < k->kp key p k < kp key p i)->(∀m,m<=k->(∀i,i < m->kp key p i < kp key p k)->(∀i,m<=i->i < k->kp key p k < kp key p i)->Asc key p k->Q m s)->Asc key p k->(kas_place p k f l r).kasWp cmp Q s
 |0,l,r,Q,hf,hlr,hrk,h1,h2,hq,ha=>hq l () h1 (λi hi hk=>h2 i () hk) ha
 |f + 1,l,r,Q,hf,hlr,hrk,h1,h2,hq,ha=>by
  unfold kas_place
  by_cases e:l≥r
  ·rw[if_pos e];exact hq l () h1 (λi hi hk=>h2 i () hk) ha
  ·rw[if_neg e];show cmp (p.getD k 0) (p.getD ((l + r) / 2) 0) _ s;refine aj_5 T g hk () () (λh=> ?_) λh=> ?_
   ·simp only[if_true];refine aw_9 g hk f l ((l + r) / 2) () () () h1 (λi hi hik=> ?_) hq ha
    by_cases e2:i=(l + r) / 2
    ·subst e2;exact h
    ·exact W2 h (ha _ i () hik)
   ·simp only[E7,N0];refine aw_9 g hk f ((l + r) / 2 + 1) r () () hrk (λi hi=> ?_) h2 hq ha
    by_cases e2:i=(l + r) / 2
    ·subst e2;exact h
    ·exact W2 (ha i _ () ()) h
theorem dg_8{p:Array Nat}(g:GoodP N p){k l:Nat}(hk:k < N)(hl:l<=k)(h1:∀i,i < l->kp key p i < kp key p k)(h2:∀i,l<=i->i < k->kp key p k < kp key p i)(ha:Asc key p k):Asc key (bubble p k (k - l)) (k + 1):=λi j hij hj=>by
 have b:=getElem?_bubble (xs:=p) (src:=k) (by rw[g.size];exact hk) (k - l) ();have e:k - (k - l)=l:=by omega
 have at0:kp key (bubble p k (k - l)) l=kp key p k:=L6 key (as_6 (by rw[b l,e,if_pos rfl]));have at1:∀x,x < l->kp key (bubble p k (k - l)) x=kp key p x:=λx hx=>L6 key (as_6 (by rw[b x,e,if_neg (),if_neg ()]));have at2:∀x,l < x->x<=k->kp key (bubble p k (k - l)) x=kp key p (x - 1):=λx hx hxk=>L6 key (as_6 (by rw[b x,e,if_neg (),if_pos ⟨hx,hxk⟩]));rcases R3 i l with h|h|h
 ·rw[at1 i h];rcases R3 j l with h'|h'|h'
  ·rw[at1 j h'];exact ha i j hij ()
  ·rw[h',at0];exact h1 i h
  ·rw[at2 j h' ()];exact ha i (j - 1) () ()
 ·rw[h,at0,at2 j () ()];exact h2 (j - 1) () ()
 ·rw[at2 i h (),at2 j () ()];exact ha (i - 1) (j - 1) () ()
theorem cu_4:∀(f:Nat) (p:Array Nat) (k:Nat) {Q:Array Nat->Shared->Prop},GoodP N p->f + k=N->Asc key p k->(∀q,GoodP N q->Asc key q N->Q q s)->(kas_bin f p k).kasWp cmp Q s
 |0,p,k,Q,g,hk,ha,hq=>hq p g (by rw[N6]at hk;rw[<-hk];exact ha)
 |f + 1,p,k,Q,g,hk,ha,hq=>by
  unfold kas_bin;rw[V0];refine aw_9 T g () k 0 k () () (A8 _) (λi hi=>by omega) (λi h1 h2=>by omega) (λm a1 a2 a3 a4=> ?_) ha;exact cu_4 f _ (k + 1) (g.bub k (k - m)) () (dg_8 T g () a1 a2 a3 a4) hq
theorem dg_9(h1:1<=N){Q:Array Nat->Shared->Prop}(hq:∀q,GoodP N q->Asc key q N->Q q s):(kas_sort N).kasWp cmp Q s:=by
 unfold kas_sort;rw[V0];have g0:GoodP N (List.toArray (List.range N)):=⟨by simp,by simp⟩;refine cu_3 T g0 h1 λm q a1 a2 a3 a4=> ?_
 by_cases h:m < N
 ·rw[if_pos h];have e:max m 1=m:=by omega
  rw[e];exact cu_4 T (N - m) q m a3 () a4 hq
 ·rw[if_neg h];have:m=N:=by omega
  subst this;exact hq q a3 a4
end
end L3
namespace L3
open PySem PySem.Spec PySem.W PyProof.Rows L2
variable{K:Frag}{fd:FuncData}{mg:AB}{us:List Value}{base:Heap}{H:Hp}{X:Cx}{pos:Pos}
abbrev z_3:Str:= "numbers_by_bucket.<locals>.<lambda>"
def LamC(H:Hp)(P c:Addr):Prop:=∃o us t,H c=some (.frz o (.own P))/\o.data=.fields us/\us[1]? =some (.str "numbers_by_bucket.<locals>.<lambda>" t)
def LamC.mono{H H':Hp}{P c:Addr}(s:Same H H')(h:LamC H P c):LamC H' P c:=let⟨o,us,t,e,r⟩:=h;⟨o,us,t,s _ _ e,r⟩
def bz_0{pos pos':Pos}{c cv:Value}(l:List Value)(h:TriplesOk l)(e:codeAmong pos' (l ++ [rawInt pos.line,rawInt pos.col,c])=some cv):codeAmong pos' l=some cv\/cv=c:=by
 fun_induction TriplesOk l with
 |case1=>
  simp only[P2,codeAmong,rawInt]at e
  split at e
  ·cases e;exact .inr rfl
  ·cases e
 |case2 a t b u x x_7 ih=>
  simp only[O5,codeAmong]at e⊢
  split at e
  ·rename_i hc;rw[if_pos hc];exact .inl e
  ·rename_i hc;rw[if_neg hc];exact ih h e
 |case3 l h1 h2=>exact h.elim
section
variable{X:Cx}{zd:AE}{σ:Sg}{H:Hp}{s:Shared}{A:Around}{E:AA}
def Inv.pinned{h':Heap}{tk:Nat}{o:Obj}(I:Inv X zd σ H {s with heap:=h',toks:=tk})(hd:∀v,o.data≠ .cell v)(hfr:o.isFreed=false):Inv X ((h'.objs.size,o)::zd) σ H {s with heap:=h'.push o,toks:=tk}:=by
 have I2:Inv X zd σ H {s with heap:=h'.push o,toks:=tk}:=I.kept (t':=tk) λb u e=>A5 _ e;refine I2.pins_of λp hp=> ?_;rcases B8.mp hp with rfl|hp
 ·refine⟨B7 _ hfr,I.hok.fresh (A8 _),λz=> ?_,I.nofs (A8 _),hd⟩;have:=I.lt;rw[<-z]at this;exact absurd this (D7 _)
 ·exact I2.pin p (B1 _ hp)
def cu_5{params:Arguments}{body:Expr}{scope:Scope}{c P:Addr}{clos:List (Str×Addr)}{Q:AA}(I:Inv X zd σ H s)(ht:tabIn X.K "numbers_by_bucket" =some (c,P))(hcd:codeHdIn X.K c P=true)(ai:X.env.code=.ref c)
  (hq:X.env.qual ++ "<lambda>" =z_3) (iw:defaultsOf params X.env=([],[])) (hcl:closureFor scope X.env=pure clos)
  (h:∀f c' pm ctv H' s',Same H H'->LamC H' P c'->Inv X ((f,kla_obj "<lambda>" z_3 params body scope clos pm c' ctv)::zd) σ H' s'->Q (.ref f) s'):wpAny (model X.prog X.w) A (eval (.Lambda params body scope pos) X.env) Q E s:=by
 refine kla_eval iw ?_;rw[hq];obtain⟨ps,hH⟩:=I.tab c P ht;obtain⟨vs,hP,tr,reg⟩:=I.hok P _ hH;have C:CodeHd s.heap c P:=codeHd_of_K I.kIn hcd;have hg:s.heap.Ns mainGlobals X.mg:=I.ok.mod.glob.keeps λb o e=>(I.bs b o e).1;have hgP:mainGlobals≠P:=λq=>by
  obtain⟨o,es,ep,e,hd,_⟩:=hg;rw[q,hP]at e;cases e;cases hd
 have hb:s.heap.BuiltinsAt X.mg P:=by
  obtain⟨bm,ob,b1,b2,b3,b4,b5,b6⟩:=I.ok.mod.bm;have b3':=(I.bs _ _ b3).1;refine⟨bm,ob,b1,b2,λq=> ?_,λq=> ?_,b3',b4,b5,b6⟩
  ·obtain⟨o,es,ep,e,hd,_⟩:=hg;rw[q,e]at b3';cases b3';rw[hd]at b6;cases b6
  ·rw[q,hP]at b3';cases b3';cases b4
 cases hf:codeAmong pos vs.toList with
 |some cv=>
  obtain⟨c',o,us,t,rfl,r⟩:=reg pos cv hf;refine kla_makeFunctionHit hcl I.ok.glob hg ai C hP tr hf hb λctv h' tk hk hsz=> ?_;exact h h'.objs.size c' _ ctv H _ (Same.refl _) ⟨o,us,t,r⟩ (Inv.pinned (I.kept (t':=tk) hk) (λv z=>by cases z) rfl)
 |none=>
  refine kla_makeFunction hcl I.ok.glob hg ai C hP tr hf hgP hb λc' ctv h' tk hx hge hlt gj htb=> ?_;obtain⟨c2,oc,us,t,e2,hoc,hd,hv⟩:=gj;cases e2;have hn:H c'=none:=I.hok.fresh hge;have up:Same H (upd H c' (.frz oc (.own P))):=j_6 hn _;have iq:HOk X.prog X.w (upd H c' (.frz oc (.own P))) h':=λb u e=>by
   by_cases z:b=c'
   ·subst z;rw[Cb]at e;cases e;exact⟨hoc,oc,hoc⟩
   ·rw[Ba z]at e
    by_cases z2:b=P
    ·subst z2;rw[hH]at e;cases e;refine⟨_,htb, ?_,λpos' cv q=> ?_⟩
     ·have:=TriplesOk_snoc pos.line pos.col (.ref c') vs.toList tr;simpa using this
     ·rcases bz_0 (pos:=pos) (c:=.ref c') vs.toList tr (by simpa using q) with q|rfl
      ·obtain⟨c3,o3,us3,t3,e3,e4,r⟩:=reg pos' cv q;exact⟨c3,o3,us3,t3,e3,up _ _ e4,r⟩
      ·exact⟨c',oc,us,t,rfl,Cb,hd,hv⟩
    ·refine(I.hok b u e).stay (λx v hxx r=>hx x v (λz3=> ?_) r) (λx r=>up _ _ r) (λx xs r=>up _ _ r) λx o r=>up _ _ r;rcases hxx with rfl|hxx
     ·exact z2 z3
     ·rw[z3,hH]at hxx;cases hxx
  have nP:∀b,H b=none->b≠P:=λb n z=>by rw[z,hH]at n;cases n
  have I1:Inv X zd σ (upd H c' (.frz oc (.own P))) {s with heap:=h',toks:=tk}:=I.un (t':=tk) ⟨λb o q n _ _=>hx b o (nP b n) q,λb o q n _ _=>⟨o.slots,hx b o (nP b n) q⟩,
   λb o q n _=>by rw[Ba (C1 (C4 (A6 q) hge))];exact n,λb o q _=>by
    by_cases z:b=P
    ·subst z;exact⟨_,htb⟩
    ·exact⟨o,hx b o z q⟩,λb xs e=>up _ _ e,λb o u e=>up _ _ e,λb ps e=>⟨#[],by rw[up _ _ e];simp⟩⟩ iq
  exact h h'.objs.size c' _ ctv _ _ up ⟨oc,us,t,Cb,hd,hv⟩ (Inv.pinned I1 (λv z=>by cases z) rfl)
structure LamN(X:Cx)(scope:Scope)(cl:List (Str×Addr)):Prop where
 clos:closureFor scope X.env=pure cl
 cell:∀y∈scope.names,y.2≠ .cell
 sub:∀y c,cl.lookup y=some c->X.env.cells.lookup y=some c
 has:∀y,scope.names.lookup y=some .free->∃c,cl.lookup y=some c
 old:∀(i:Nat) (y:Str),X.N[i]? =some y->Vis scope y->(X.env.scope.names.lookup y=some .cell\/X.env.scope.names.lookup y=some .free)/\scope.names.lookup y=some .free
def dh_0{scope:Scope}{x:Str}(ok:X.Ok)(hb:Gd scope.names X.env.scope.names X.N (X.N ++ [x])=true):LamN X scope (Ds X.env.cells scope.names []):=by
 unfold Gd at hb;rw[D0]at hb;obtain⟨h1,h2⟩:=hb;have h1:=F4.mp h1;have h2:=F4.mp h2;have fr:∀p∈scope.names,p.2=.free->∃c,X.env.cells.lookup p.1=some c:=λp hp hf=>by
  have z:=h1 p hp;simp only[hf,D0,Q3,bne_iff_ne,M0]at z;exact ok.has p.1 (by
   rcases z.2 with z|z
   ·exact absurd rfl z
   ·exact z)
 refine⟨af_5 fr,λp hp hc=> ?_,λy c e=> ?_,λy e=>R5.mp (av_1 (K6 e)),λi y e hv=> ?_⟩
 ·have z:=h1 p hp;rw[hc]at z;simp at z
 ·rcases av_0 (K6 e) with z|⟨z1,z2⟩
  ·exact absurd z (by simp)
  ·obtain⟨c',e'⟩:=fr (y,.free) z1 rfl;have z2:c=(X.env.cells.lookup y).getD 0:=z2;have e':X.env.cells.lookup y=some c':=e';rw[e']at z2⊢;cases z2;rfl
 ·have hi:i < X.N.length:=(A9.mp e).1;have z:=h2 i (J8.mpr hi);rw[B3 hi,e]at z;dsimp only at z;cases q:scope.names.lookup y with
  |none=>unfold Vis at hv;rw[q]at hv;simp at hv
  |some k=>
   unfold Vis at hv;rw[q]at z hv;cases k with
   |free=>
    simp only[D0,Q3,M0]at z;exact⟨z.2,rfl⟩
   |cell=>simp at z
   |«local»=>simp at z
   |globalExplicit=>simp at hv
   |globalImplicit=>simp at hv
def bf_0(X:Cx)(A:Around)(scope:Scope)(f c:Addr)(cl:List (Str×Addr))(x:Str)(s:Shared)(H:Hp)(zd:AE):Cx where
 prog:=X.prog
 w:=X.w
 K:=X.K
 mg:=X.mg
 base:=X.base
 A:=A.deeper (envX z_3 scope s.heap.objs.size f (.ref c) cl)
 N:=X.N ++ [x]
 s₀:=s
 H₀:=H
 env:=envX z_3 scope s.heap.objs.size f (.ref c) cl
 outer:=X.stack
 stack:=envX z_3 scope s.heap.objs.size f (.ref c) cl::X.stack
 ex:=[]
 fn:=λ_=>false
 calm:=true
 pn:=X.pn ++ zd
 xe:=λ_ _=>False
def cu_6{f c P:Addr}{cl:List (Str×Addr)}{pm ctv:Value}{params:Arguments}{body:Expr}{scope:Scope}{x:Str}{u:Value}{v:V}{d:D}{G:Hp}{δ:DE}{w:W}{fb:FE}{Q:VK}(I:Inv X zd σ H s)(hp:(f,kla_obj "<lambda>" z_3 params body scope cl pm c ctv)∈X.pn ++ zd)(hc:LamC H P c)(n:LamN X scope cl)
  (hk:scope.kind=.function) (hco:scope.isCoroutine=false) (hge:scope.isGenerator=false) (bu:scope.names.lookup x=some .local) (ao:bindArgs (kla_fn "<lambda>" z_3 params body scope cl pm (.ref c) ctv) ⟨[u],[]⟩=pure [(x,u)]) (hA:A.frames=X.A.frames) (hr:RoomC true 1 A)
  (g:Same G H) (h0:HasS X.K G σ δ) (rv:RelV v u) (hv:Has X.K G v d) (zj:ED (bf_0 X A scope f c cl x s H zd) Ed body fb) (e:fb (δ ++ [some d])=.ok w) (q:WP X.K G H w Q):wpAny (model X.prog X.w) A (call (.ref f) [u]) (EP X zd σ Q) (λ_ _=>False) s:=by
 have pf:=I.pin _ hp;obtain⟨o,us,t,eo,ed,et⟩:=hc;have hcr:s.heap.CodeRec (.ref c) z_3:=⟨c,o,us,t,rfl,(I.hok c _ eo).1,ed,et⟩;have lim:s.heap.NoLimit:=I.ok.mod.nolimit.keeps λb o e=>(I.bs b o e).1;have dp:A.depth < recursionLimit:=by have:=hr.dp;omega
 refine R6 (Q9 (R:=λr s'=>match r with| .ok (.ret z)=>EP X zd σ Q z s'|_=>False) (kla_callFunE dp pf.1 rfl hco hge rfl hcr ?_) λr s' hq=> ?_)
 ·rw[ao];refine C5 (X5 n.cell (λy hy=> ?_) (λh₁ hns hsb=>⟨lim.fresh _ hsb, ?_⟩) hk)
  ·rw[D8.mp hy];exact bu
  show codeAny _ _ (.expr body (envX z_3 scope s.heap.objs.size f (.ref c) cl)) _ _;have up:∀b o,s.heap.get? b=some o->h₁.get? b=some o:=λb o e=>hsb.extBut b o (C1 (A6 e)) (A5 _ e);have ok':(bf_0 X A scope f c cl x s H zd).Ok:=⟨I.ok.mod,hk,rfl,rfl,A8 _,λy z c h1 h2=>I.ok.inj y z c (n.sub y c h1) (n.sub z c h2),λy hy=>by
    have hy:scope.names.lookup y=some .cell\/scope.names.lookup y=some .free:=hy;rcases hy with hy|hy
    ·exact absurd rfl (n.cell _ (K6 hy))
    ·exact n.has y hy,λ_ _ z=>absurd z A7,λ_=>hr.hd rfl,X3 (hA.trans I.ok.frames),.inr ⟨rfl,rfl⟩,λb z=>absurd (show b∈([]:List Addr) from z) (by simp),I.bs,C7 I.ok.bsz I.sz,
    λb _ _ z=>absurd (show b∈([]:List Addr) from z) (by simp),λb z=>absurd (show b∈([]:List Addr) from z) (by simp),I.stack,I.stkFree,I.tab⟩
  have lenσ:σ.length=X.N.length:=I.len;have I4:Inv (bf_0 X A scope f c cl x s H zd) [] (σ ++ [some v]) H {s with heap:=h₁,toks:=s.toks + [(x,u)].length}:=by
   refine⟨ok',rfl,I.bare,Un.kept up,⟨_,hns,λi y v' e1 e2 e3=> ?_⟩,λy c e=> ?_,I.hok.fresh (A8 _),λy c e=>I.freeC y c (n.sub y c e),λp hp=> ?_,I.hok.kept up, ?_⟩
   ·have e1:(X.N ++ [x])[i]? =some y:=e1
    by_cases hi:i < X.N.length
    ·rw[B3 hi]at e1;rw[B3 (by rw[lenσ];exact hi)]at e2;obtain⟨n2,n4⟩:=n.old i y e1 e3;obtain⟨c1,n3⟩:=n.has y n4;obtain⟨mm,hnm,hl⟩:=I.loc;obtain⟨u',r,l⟩:=hl i y v' e1 e2 (.inr n2);refine⟨u',r,.inr ⟨.inr n4,c1,n3, ?_⟩⟩;have n3':=n.sub y c1 n3;rcases l with⟨k1,k2⟩|⟨k1,c',k2,k3⟩
     ·exfalso;have k1':X.env.scope.names.lookup y=some .local:=k1;rcases n2 with n2|n2
      ·rw[n2]at k1';cases k1'
      ·rw[n2]at k1';cases k1'
     ·rw[n3']at k2;cases k2;exact k3.keeps up
    ·have hi2:i=X.N.length:=by
      have:=(A9.mp e1).1;rw[B6,M5]at this;omega
     subst hi2;rw[D1 (A8 _),ZC8]at e1;rw[<-lenσ,D1 (A8 _),ZC8]at e2;cases e1;cases e2;exact⟨u,rv,.inl ⟨bu,by simp⟩⟩
   ·obtain⟨v,hv⟩:=I.cell y c (n.sub y c e);exact⟨v,hv.keeps up⟩
   ·have hp':p∈X.pn ++ zd:=by
     have hp2:p∈(X.pn ++ zd) ++ []:=hp
     rwa[D3]at hp2
    obtain⟨z1,z2,z3,z4,z5⟩:=I.pin p hp';refine⟨up _ _ z1,z2,C1 (A6 z1),λz=> ?_,z5⟩;rcases B8.mp (I.stkSub p.1 z) with z|z
    ·exact z3 z
    ·exact z4 z
   ·show(σ ++ [some v]).length=(X.N ++ [x]).length;rw[B6,B6,lenσ];rfl
  have hS:HasS X.K G (σ ++ [some v]) (δ ++ [some d]):=by
   refine⟨by rw[B6,B6,h0.len];rfl,λi d' e=> ?_⟩
   by_cases hh:i < δ.length
   ·rw[B3 hh]at e;obtain⟨v,e1,r⟩:=h0.get i d' e;exact⟨v,by rw[B3 (by rw[h0.len];exact hh)];exact e1,r⟩
   ·have hi2:i=δ.length:=by
     have:=(A9.mp e).1;rw[B6,M5]at this;omega
    subst hi2;rw[D1 (A8 _),ZC8]at e;cases e;exact⟨v,by rw[<-h0.len,D1 (A8 _),ZC8];rfl,hv⟩
  exact kla_codeExpr (D2 (zj [] _ (σ ++ [some v]) H Q I4 ⟨G,δ ++ [some d],g,hS,by rw[e];exact q⟩) (λz s' ⟨v',H',J,rv',q'⟩=>I.after ⟨v',H',J.os,J.bare,J.base,J.hok,rv',q'⟩) λ_ _ z=>False.elim z)
 ·cases r with
  |error e=>exact hq
  |ok fl=>
   cases fl with
   |ret z=>exact hq
   |next=>exact hq
   |brk=>exact hq
   |cont=>exact hq
end
end L3
namespace L3
open PySem PySem.W PySem.Spec PyProof.Rows
variable{K:Frag}{fd:FuncData}{mg:AB}{us:List Value}{base:Heap}{H:Hp}{X:Cx}{pos:Pos}
def am_3(h:Heap)(u:Value)(p:Int×Int):Prop:=∃a o xs n t t',u=.ref a/\h.get? a=some o/\o.cls=.type "tuple" /\o.data=.seq xs n/\xs.toList= [.int p.1 t,.int p.2 t']
def Eb(p:Int×Int):Int:=p.1 * 4611686018427387904 + p.2
def In62(p:Int×Int):Prop:=0<=p.2/\p.2 < 4611686018427387904
theorem ax_0{h:Heap}:∀{ks:List Value} {ps:List (Int×Int)},Paired (am_3 h) ks ps->∃fs,KatTups h ks fs/\IntsAre fs (ps.map (·.1))
 |_,_,.nil=>⟨[],.nil,.nil⟩
 |_,_,.cons r t=>by
  obtain⟨fs,q,i⟩:=ax_0 t;obtain⟨a,o,xs,n,t1,t2,rfl,ho,hc,hd,hx⟩:=r;exact⟨_,.cons ho hc hd (f:=.int _ t1) (by rw[<-Array.getElem?_toList,hx];rfl) q,.cons _ _ i⟩
theorem ax_1{h:Heap}:∀{ks:List Value} {ps:List (Int×Int)} {i:Nat},Paired (am_3 h) ks ps->i < ks.length->am_3 h (ks.getD i Value.none) (ps.getD i (0,0))
 |_,_,_,.nil,hi=>absurd hi (Y3 _)
 |_,_,0,.cons r t,hi=>by simpa using r
 |_,_,i + 1,.cons r t,hi=>by simpa using ax_1 (i:=i) t (by simpa using hi)
section
variable{prog:Program}{w:World}{A:Around}{E:AA}{s:Shared}{vs ks:List Value}{ps:List (Int×Int)}
def bt_3(t:Paired (am_3 s.heap) ks ps)(hb:∀p∈ps,In62 p)(nd:(ps.map Eb).Nodup):dk_8 ks.length (λi=>(ps.map Eb).getD i 0) (kas_ask prog w A (tuples' true) ks) s:=by
 have hl:ps.length=ks.length:=(S6 t).symm;have gk:∀i,i < ks.length->(ps.map Eb).getD i 0=Eb (ps.getD i (0,0)):=λi hi=>by
  have:i < ps.length:=by omega
  simp[this]
 have inj:∀i j,i < ks.length->j < ks.length->(ps.map Eb).getD i 0=(ps.map Eb).getD j 0->i=j:=λi j hi hj e=>by
  have h1:i < (ps.map Eb).length:=by rw[A4];omega
  have h2:j < (ps.map Eb).length:=by rw[A4];omega
  have e1:(ps.map Eb).getD i 0=(ps.map Eb)[i]:=by rw[F2,B5 h1];rfl
  have e2:(ps.map Eb).getD j 0=(ps.map Eb)[j]:=by rw[F2,B5 h2];rfl
  rw[e1,e2]at e;have pw:=K8.mp nd;rcases R3 i j with h|h|h
  ·exact absurd e (pw i j h1 h2 h)
  ·exact h
  ·exact absurd e.symm (pw j i h2 h1 h)
 refine⟨inj,λi j C hi hj hn hC=> ?_⟩;have hne:Eb (ps.getD i (0,0))≠Eb (ps.getD j (0,0)):=λz=>hn (inj i j hi hj (by rw[gk i hi,gk j hj];exact z));have mem:∀k,k < ks.length->In62 (ps.getD k (0,0)):=λk hk=>by
  have h1:k < ps.length:=by omega
  have:ps.getD k (0,0)=ps[k]:=by rw[F2,B5 h1];rfl
  rw[this];exact hb _ (R9 h1)
 obtain⟨b1,b2⟩:=mem i hi;obtain⟨d1,d2⟩:=mem j hj;obtain⟨a,o,xs,n,tk,tk2,e1,e2,_,e3,e4⟩:=ax_1 t hi;obtain⟨a',o',xs',n',tk',jj,f1,f2,_,f3,f4⟩:=ax_1 t hj;have ee:decide (Eb (ps.getD i (0,0)) < Eb (ps.getD j (0,0)))=decide ((ps.map Eb).getD i 0 < (ps.map Eb).getD j 0):=by rw[gk i hi,gk j hj]
 have hC:C (decide (Eb (ps.getD i (0,0)) < Eb (ps.getD j (0,0)))) s:=by rw[ee];exact hC
 unfold Eb at hC hne;unfold kas_ask;rw[e1,f1];refine kat_lt e2 e3 f2 f3 ?_;rw[e4,f4];generalize ps.getD i (0,0)=p at *
 generalize ps.getD j (0,0)=q at *
 show wpAny _ _ (eqBool _ _) _ _ _;refine ZA8 ?_
 by_cases hpq:p.1=q.1
 ·have ne:(p.1 ==q.1)=true:=by rw[M0];exact hpq
  have ne2:(p.2 ==q.2)=false:=by
   rw[N7];intro z;rw[hpq,z]at hne;exact hne rfl
  rw[ne];simp only[if_true];show wpAny _ _ (eqBool _ _) _ _ _;refine ZA8 ?_;rw[ne2];simp only[E7,N0];refine kat_one _ _ (wpAny_lt_int ?_);have ed:decide (p.1 * 4611686018427387904 + p.2 < q.1 * 4611686018427387904 + q.2)=decide (p.2 < q.2):=by
   rw[hpq];exact ZB6.mpr ()
  rw[ed]at hC
  first
   |exact hC
   |exact⟨_,rfl,hC⟩
 ·have ne:(p.1 ==q.1)=false:=by rw[N7];exact hpq
  rw[ne];simp only[E7,N0];have ed:decide (p.1 * 4611686018427387904 + p.2 < q.1 * 4611686018427387904 + q.2)=decide (p.1 < q.1):=ZB6.mpr ();rw[ed]at hC;exact oneLt_int hC
def ce_0{a kS:Addr}{e e1:Nat}{st:SortSt}{out:List Value}{P:PySem.Fin->Shared->Prop}(hk:s.heap.get? kS=some (seqObj "list" ks.toArray e))(ha:s.heap.get? a=some (seqObj "list" #[] e1))(hka:kS≠a)(gm:(arrOf st).map (·.2)=List.toArray out)(hz:out.length < 64)(hkz:ks.length < 64)(hf:failedOf st=none)
  (h:P (.done (.ret .none)) {s with heap:=(s.heap.update kS (Obj.mapSeq λ_=>(#[]:Array Value))).update a (Obj.mapSeq λ_=>List.toArray out)}):wpAny (model prog w) A (ksk_tail a false e1 (.ref kS) st) P E s:=by
 have s1:=N9 s.heap kS (Obj.mapSeq λ_=>(#[]:Array Value));have na:(s.heap.update kS (Obj.mapSeq λ_=>(#[]:Array Value))).get? a=some (seqObj "list" #[] e1):=(s1.2 a hka.symm).trans ha;unfold ksk_tail
 try dsimp only
 rw[gm];refine A3 (ZA5 hk rfl ?_ (by rw[C8,D5];omega) (K0 _));refine A3 (wpAny_letGo ?_);refine A3 (seqEpoch_at na rfl ?_);refine A3 (ZA5 na rfl ?_ (K0 _) (by simp only[E7,N0];rw[C8,D5];omega));rw[hf];simp only[bne_self_eq_false,E7,N0];exact C5 h
def cl_0{a kS:Addr}{e e1:Nat}{P:PySem.Fin->Shared->Prop}(hk:s.heap.get? kS=some (seqObj "list" ks.toArray e))(ha:s.heap.get? a=some (seqObj "list" #[] e1))(hka:kS≠a)(hl:ks.length=vs.length)(h64:vs.length < 64)(t:Paired (am_3 s.heap) ks ps)(hb:∀p∈ps,In62 p)(nd:(ps.map Eb).Nodup)
  (h:∀p:Array Nat,GoodP vs.length p->Asc (λi=>(ps.map Eb).getD i 0) p vs.length->P (.done (.ret .none)) {s with heap:=(s.heap.update kS (Obj.mapSeq λ_=>(#[]:Array Value))).update a (Obj.mapSeq λ_=>List.toArray (p.toList.map λi=>vs.getD i Value.none))}):
  wpAny (model prog w) A (ksk_end a false vs.toArray e1 (.ref kS) ks.toArray) P E s:=by
 have hsz:vs.toArray.size=vs.length:=by simp
 unfold ksk_end;simp only[E7,N0]
 try dsimp only
 by_cases h2:vs.toArray.size < 2
 ·rw[if_pos h2,if_pos h2];refine A3 (C5 ?_);rw[StateT.run_pure];refine A3 (C5 ?_)
  try dsimp only
  have g0:GoodP vs.length (List.toArray (List.range vs.length)):=⟨by simp,by simp⟩;have q:=h _ g0 (λi j hij hj=>by rw[hsz]at h2;omega);refine ce_0 hk ha hka (kat_snds hl ?_) (by rw[A4];simpa using h64) () rfl q;exact(kas_range (ks.toArray.zip vs.toArray)).symm.trans (by rw[show(ks.toArray.zip vs.toArray).size=vs.length by simp[hl]])
 ·rw[if_neg h2,if_neg h2];obtain⟨fs,tt,ia⟩:=ax_0 t;have hpl:ps.length=ks.length:=(S6 t).symm;have hf:0 < fs.length:=by
   have:fs.length=(ps.map (·.1)).length:=ia.length;rw[A4]at this;rw[hsz]at h2;omega
  refine A3 (kat_kind (T:=.type "int") tt hf (λv hv=> ?_) (by rfl) ?_)
  ·have:∀{fs:List Value} {kz:List Int},IntsAre fs kz->v∈fs->∃n t,v=.int n t:=λ{fs kz} ia=>by
    induction ia with
    |nil=>intro h;cases h
    |cons n t r ih=>
     intro h;rcases B8.mp h with rfl|h
     ·exact⟨n,t,rfl⟩
     ·exact ih h
   obtain⟨n,t,rfl⟩:=this ia hv;exact .now
  ·refine A3 (D2 (kat_run (Q:=λst' s'=>s'=s/\∃p:Array Nat,arrOf st'=p.map (kas_item (ks.toArray.zip vs.toArray))/\failedOf st'=none/\GoodP vs.length p/\Asc (λi=>(ps.map Eb).getD i 0) p vs.length) (G:=λp s'=>s'=s/\GoodP vs.length p/\Asc (λi=>(ps.map Eb).getD i 0) p vs.length)
    hl () h64 (λp' st' s' a1 a2 a3 a4=>⟨a4.1,p',a2,a3,a4.2⟩) (dg_9 (by rw[<-hl];exact bt_3 t hb nd) () λq g as=>⟨rfl,g,as⟩)) ?_ λ_ _ e=>e)
   rintro ⟨⟨⟩,st'⟩ s' ⟨rfl,p,har,hf',g,as⟩
   try dsimp only
   exact ce_0 hk ha hka (kat_snds hl har) (by rw[A4,N8,g.size];exact h64) () hf' (h p g as)
def cl_1{f:Value}{a kS:Addr}{e1:Nat}{P:PySem.Fin->Shared->Prop}(J:Nat->Array Value->Shared->Prop)(j0:J 0 #[] s)(h64:vs.length < 64)
  (turn:∀(i:Nat) (v:Value) (kA:Array Value) (s':Shared),vs[i]? =some v->J i kA s'->
   wpAny (model prog w) A (call f [v]) (λu s''=>∃e,s''.heap.get? kS=some (seqObj "list" kA e)/\kA.size=i/\J (i + 1) (kA.push u) {s'' with heap:=s''.heap.update kS (Obj.mapSeq (·.push u))}) (λ_ _=>False) s')
  (at_:∀i kA s',J i kA s'->∃e,s'.heap.get? kS=some (seqObj "list" kA e))
  (h:∀kA s',J vs.length kA s'->wpAny (model prog w) A (ksk_end a false vs.toArray e1 (.ref kS) kA) P E s'):
  wpAny (model prog w) A (ksk_rest a f false vs.toArray e1 (.ref kS)) P E s:=by
 unfold ksk_rest;refine A3 (wpAny_rule ?_)
 first
  |rw[List.forIn_toArray]
  |(rw[<-Array.forIn_toList];simp only[List.toList_toArray])
  |rw[<-Array.forIn_toList]
 refine A3 (ksk_fold (λi s'=>∃kA,J i kA s') vs 0 s ⟨#[],j0⟩ ?step ?done)
 case step=>
  rintro j x s' hx ⟨kA,hJ⟩
  simp only[N6]at hJ⊢;have hj:j < vs.length:=(A9.mp hx).1;refine A3 (X2 (D2 (turn j x kA s' hx hJ) (λv s'' he=> ?_) λ_ _ hF=>hF.elim));obtain⟨e2,hat,hz,hJ2⟩:=he
  try dsimp only
  refine A3 (ZA5 hat rfl ?_ (by rw[D5];omega) (C7 (Q6 (Array.size_push ..)) (by rw[D5];omega)));exact C5 ⟨rfl,kA.push v,hJ2⟩
 case done=>
  rintro s' ⟨kA,hJ⟩
  rw[N6]at hJ;obtain⟨e,hat⟩:=at_ _ _ _ hJ
  try dsimp only
  refine A3 (listItems_at hat rfl ?_);exact h kA s' hJ
end
end L3
namespace L3
open PySem PySem.Spec PySem.W PyProof.Rows L2
variable{K:Frag}{fd:FuncData}{mg:AB}{us:List Value}{base:Heap}{H:Hp}{X:Cx}{pos:Pos}
def Ew(fb:FE)(δ:DE):List D->R W
 | [d]=>(fb (δ ++ [some d])).bind λw=>match w.d with
  | .tup [.int a,.int b]=>if 0<=b/\b < 4611686018427387904 then .ok (.sh (.int (a * 4611686018427387904 + b))) else .no
  |_=> .no
 |_=> .no
def ac_0(fb:FE)(f:FE):FE:=λ δ=>(f δ).bind λw=>match w.d with
 | .dic kds=>be_8 (Ew fb δ) (kds.map λp=>kD p.1)
 |_=> .no
def cu_8{fb:FE}{δ:DE}{d:D}{w:W}{k:Int}(e:Ew fb δ [d]=.ok w)(ew:w.d=.int k):∃w' a b,fb (δ ++ [some d])=.ok w'/\w'.d=.tup [.int a,.int b]/\In62 (a,b)/\k=Eb (a,b):=by
 unfold Ew at e;dsimp only at e;cases q:fb (δ ++ [some d]) with
 |ok w'=>
  rw[q]at e;simp only[R.bind_ok]at e
  split at e
  ·rename_i a b e'
   split at e
   ·rename_i h;cases e;cases ew;exact⟨w',a,b,rfl,e',h,rfl⟩
   ·cases e
  ·cases e
 |ex x=>rw[q]at e;cases e
 |no=>rw[q]at e;cases e
def TupAt(K:Frag)(H:Hp)(u:Value)(p:Int×Int):Prop:=∃t,u=.ref t/\SqT K H t [.int p.1,.int p.2]
theorem TupAt.mono{K:Frag}{H H':Hp}(s:Same H H'):∀{us:List Value} {ps:List (Int×Int)},Paired (TupAt K H) us ps->Paired (TupAt K H') us ps
 |_,_,.nil=> .nil
 |_,_,.cons ⟨t,e,h⟩ r=> .cons ⟨t,e,Same.tupS s h⟩ (TupAt.mono s r)
theorem Paired.snoc{α β:Type}{R:α->β->Prop}{a:α}{b:β}:∀{A:List α} {B:List β},Paired R A B->R a b->Paired R (A ++ [a]) (B ++ [b])
 |_,_,.nil,r=> .cons r .nil
 |_,_,.cons q t,r=> .cons q (Paired.snoc t r)
section
variable{X:Cx}{zd:AE}{σ:Sg}{H:Hp}{s:Shared}
theorem TupAt.pair(I:Inv X zd σ H s):∀{us:List Value} {ps:List (Int×Int)},Paired (TupAt X.K H) us ps->Paired (am_3 s.heap) us ps
 |_,_,.nil=> .nil
 |_,_,.cons ⟨t,e,h⟩ r=>by
  refine .cons ?_ (TupAt.pair I r);obtain⟨its,v,⟨o,g,c,n,d⟩,_⟩:=I.tuple h;cases v with
  |cons r1 v=>
   cases v with
   |cons r2 v=>
    cases v;obtain⟨t1,rfl⟩:=r1;obtain⟨t2,rfl⟩:=r2;exact⟨t,o,_,n,t1,t2,e,g,c,d,rfl⟩
def Inv.track{a:Addr}{h':Heap}{its:List Value}{us:List V}{c tk:Nat}(I:Inv X zd σ H s)(sb:Heap.SameBut a s.heap h')(ho:h'.get? a=some (seqObj "list" its.toArray c))(hu:Vals us its)(hz:us.length<=sizeLine)(ha0:H a=none)(haz:X.s₀.heap.objs.size<=a)(haL:a≠X.env.locals)
  (hac:∀x c,X.env.cells.lookup x=some c->c≠a) (hap:∀p∈X.pn ++ zd,p.1≠a):Inv X zd σ (upd H a (.lst us)) {s with heap:=h',toks:=tk}:=by
 have up:∀b u,H b=some u->upd H a (.lst us) b=some u:=λb u e=>by rw[Ba (Ei e ha0)];exact e
 have k:∀b o,b≠a->s.heap.get? b=some o->h'.get? b=some o:=λb o hb e=>(sb.2 b hb).trans e;have nch:∀{b:Addr},b∉ [a]->b≠a:=λh z=>h (by simp[z]);refine I.step (g':=s.gens) (d':=s.drawn) (ch:=[a]) (λb hb=> ?_) (λb o _ _ hc e _=>k b o (nch hc) e) (λb o _ _ hc e _=>⟨o.slots,k b o (nch hc) e⟩) (λb o hc _ n=>by rw[Ba (nch hc)];exact n)
  (λb o hc e=>⟨o,k b o (nch hc) e⟩) (λb xs e=>up _ _ e) (λb o u e=>up _ _ e) (λb ps e=>⟨#[],by rw[up _ _ e];simp⟩) (λm hm=> ?_) (λb u e=> ?_) I.bare
 ·rw[D8.mp hb];exact⟨.inr haz,haL,hac,hap⟩
 ·obtain⟨o,es,ep,ho,r⟩:=hm;exact⟨o,es,ep,k _ o (Ne.symm haL) ho,r⟩
 ·by_cases z:b=a
  ·subst z;rw[Cb]at e;cases e;exact⟨hz,its,c,hu,ho⟩
  ·rw[Ba z]at e;refine(I.hok b u e).stay (λx v hx q=>k x v (λz3=> ?_) q) (λx q=>up _ _ q) (λx xs q=>up _ _ q) λx o q=>up _ _ q;rcases hx with rfl|hx
   ·exact z z3
   ·rw[z3,ha0]at hx;cases hx
def bz_1{A:Around}{E:AA}{P:PySem.Fin->Shared->Prop}{a:Addr}{n:Nat}{vs:List Value}{xs:List V}{ds:List D}{kz:List Int}{fb:FE}{δ:DE}{G:Hp}{f c Pt:Addr}{cl:List (Str×Addr)}{pm ctv:Value}{params:Arguments}{body:Expr}{scope:Scope}{x:Str}
  (I:Inv X zd σ H s) (ho:s.heap.get? a=some (seqObj "list" vs.toArray n)) (ha0:H a=none) (haz:X.s₀.heap.objs.size<=a) (haL:a≠X.env.locals)
  (hac:∀x c,X.env.cells.lookup x=some c->c≠a) (hap:∀p∈X.pn ++ zd,p.1≠a) (haf:a∉X.fs) (hv:Vals xs vs) (hx:∀(i:Nat) v d,xs[i]? =some v->ds[i]? =some d->∀G,Has X.K G v d) (hdl:ds.length=vs.length)
  (hkz:∀(i:Nat) d k,ds[i]? =some d->kz[i]? =some k->∃w,Ew fb δ [d]=.ok w/\w.d=.int k) (zk:kz.length=vs.length) (h64:vs.length < 64) (nd:kz.Nodup)
  (pf:(f,kla_obj "<lambda>" z_3 params body scope cl pm c ctv)∈X.pn ++ zd) (hc:LamC H Pt c) (nm:LamN X scope cl) (hk:scope.kind=.function) (hco:scope.isCoroutine=false) (hge:scope.isGenerator=false) (bu:scope.names.lookup x=some .local)
  (ao:∀u,bindArgs (kla_fn "<lambda>" z_3 params body scope cl pm (.ref c) ctv) ⟨[u],[]⟩=pure [(x,u)]) (hA:A.frames=X.A.frames) (hr:RoomC true 1 A) (g:Same G H) (h0:HasS X.K G σ δ) (zj:∀A s H zd,RoomC true 1 A->ED (bf_0 X A scope f c cl x s H zd) Ed body fb)
  (h:∀(s':Shared) (H':Hp) (ps:List (Int×Value)) (us:List V),Same H H'->H' a=none->ps.Perm (kz.zip vs)->ps.Pairwise (λp q=>p.1<=q.1)->Vals us (ps.map Prod.snd)->us.length=vs.length->Inv X zd σ (upd H' a (.lst us)) s'->P (.done (.ret .none)) s'):
  wpAny (model X.prog X.w) A (PyProof.Rows.ksk_tree a (.ref f) false) P E s:=by
 have ha:a < s.heap.objs.size:=A6 ho;have s1:=N9 s.heap a (Obj.mapSeq λ_=>(#[]:Array Value));obtain⟨e1,ho1⟩:∃e1,(s.heap.update a (Obj.mapSeq λ_=>(#[]:Array Value))).get? a=some (seqObj "list" #[] e1):=⟨_,get?_update_seq ho λ_=> #[]⟩;have hkS:((s.heap.update a (Obj.mapSeq λ_=>(#[]:Array Value))).push (seqObj "tuple" vs.toArray 0)).objs.size=s.heap.objs.size + 1:=by rw[size_push',Heap.size_update]
 generalize hq:((s.heap.update a (Obj.mapSeq λ_=>(#[]:Array Value))).push (seqObj "tuple" vs.toArray 0)).objs.size=kS at hkS;have hka:kS≠a:=by rw[hkS];exact Y6 (R1 ha)
 have z1:X.s₀.heap.objs.size<=kS:=by rw[hkS];exact Nat.le_succ_of_le I.sz
 have npk:∀p∈X.pn ++ zd,p.1≠kS:=λp hp z=>by
  have:=A6 (I.pin p hp).1;rw[z,hkS]at this;exact absurd this (Z3.mpr (P6 _))
 have I1:Inv X zd σ H {s with heap:=s.heap.update a (Obj.mapSeq λ_=>(#[]:Array Value))}:=I.turned (t':=s.toks) (λb o hb e=>(s1.2 b hb).trans e) ha0 haL (.inr haz) hac hap;have I2:Inv X zd σ H {s with heap:=((s.heap.update a (Obj.mapSeq λ_=>(#[]:Array Value))).push (seqObj "tuple" vs.toArray 0)).push (seqObj "list" #[] 0)}:=I1.kept (t':=s.toks) λb o e=>A5 _ (A5 _ e);have hk0:H kS=none:=I.hok.fresh (by rw[hkS];exact P6 _);have hkL:kS≠X.env.locals:=λz=>by have:=I.lt;rw[<-z,hkS]at this;exact absurd this (Z3.mpr (P6 _))
 have hkf:kS∉X.fs:=I.nofs (by rw[hkS];exact P6 _);have nc:∀(l:Array Value) (e:Nat) v,(seqObj "list" l e).data≠ .cell v:=λl e v z=>by cases z
 let J:Nat->Array Value->Shared->Prop:=λi kA s'=>∃H' e qs,Same H H'/\Inv X ((kS,seqObj "list" kA e)::(a,seqObj "list" #[] e1)::zd) σ H' s'/\kA.size=i/\Paired (TupAt X.K H') kA.toList qs/\qs.map Eb=kz.take i/\∀p∈qs,In62 p
 have bf:∀{kA:Array Value} {e:Nat} {H':Hp} {s':Shared},Inv X zd σ H' s'->s'.heap.get? kS=some (seqObj "list" kA e)->s'.heap.get? a=some (seqObj "list" #[] e1)->H' kS=none->H' a=none->Inv X ((kS,seqObj "list" kA e)::(a,seqObj "list" #[] e1)::zd) σ H' s':=λ{kA e H' s'} J0 g1 g2 n1 n2=>by
  refine J0.pins_of λp hp=> ?_;rcases B8.mp hp with rfl|hp
  ·exact⟨g1,n1,hkL,hkf,nc _ _⟩
  ·rcases B8.mp hp with rfl|hp
   ·exact⟨g2,n2,haL,haf,nc _ _⟩
   ·exact J0.pin p (B1 _ hp)
 have pf':∀kA e,(f,kla_obj "<lambda>" z_3 params body scope cl pm c ctv)∈X.pn ++ ((kS,seqObj "list" kA e)::(a,seqObj "list" #[] e1)::zd):=λkA e=>by
  rcases F6.mp pf with z|z
  ·exact L9 _ z
  ·exact B1 _ (.tail _ (.tail _ z))
 have cl':∀{kA:Array Value} {e:Nat} {H':Hp} {s':Shared},Inv X ((kS,seqObj "list" kA e)::(a,seqObj "list" #[] e1)::zd) σ H' s'->∀x c,X.env.cells.lookup x=some c->c≠kS:=λ{kA e H' s'} J2 x c hc z=>by
  obtain⟨v,o,ho,hd⟩:=J2.cell x c hc;have pk:=J2.pin (kS,seqObj "list" kA e) (B1 _ (.head _));rw[z,pk.1]at ho;cases ho;exact pk.2.2.2.2 v hd
 unfold PyProof.Rows.ksk_tree;refine A3 (listItems_at ho rfl ?_);refine A3 (ZA5 ho rfl ?_ (by rw[C8,D5];omega) (K0 _));refine A3 (seqEpoch_at ho1 rfl ?_);refine A3 (wpAny_newTuple ?_ (by show vs.length<=_;rw[D5];omega));refine A3 (wpAny_newList ?_ (K0 _));refine L4 ?_;show wpAny _ A (PyProof.Rows.ksk_rest a (.ref f) false vs.toArray e1 (.ref ((s.heap.update a (Obj.mapSeq λ_=>(#[]:Array Value))).push (seqObj "tuple" vs.toArray 0)).objs.size)) P E _;rw[hq];refine cl_1 J ?_ h64 (λi v kA s' ev hJ=> ?_) (λi kA s' hJ=> ?_) λkA s' hJ=> ?_
 ·refine⟨H,0,[],Same.refl _,bf I2 ?_ (A5 _ (A5 _ ho1)) hk0 ha0,rfl,.nil,rfl,λp hp=>nomatch hp⟩;rw[<-hq];exact B7 _ rfl
 ·obtain⟨H1,e,qs,sm,J1,hzk,tp,tk,tb⟩:=hJ;have hi:i < vs.length:=(A9.mp ev).1;have hix:i < xs.length:=by rw[hv.length];exact hi
  obtain⟨u,eu,ru⟩:=hv.get (B5 hix);rw[ev]at eu;cases eu;have hid:i < ds.length:=by rw[hdl];exact hi
  have hik:i < kz.length:=by rw[zk];exact hi
  obtain⟨w,ew,en⟩:=hkz i _ _ (B5 hid) (B5 hik);obtain⟨w',x1,x2,ew',en',h62,ek⟩:=cu_8 ew en;refine D2 (cu_6 (Q:=λv' H2=>Same H1 H2/\∃t,v'=.ref t/\SqT X.K H2 t [.int x1,.int x2]) J1 (pf' kA e) (hc.mono sm) nm hk hco hge bu (ao _) hA hr (g.trans sm) h0 ru (hx i _ _ (B5 hix) (B5 hid) G) (zj _ _ _ _ hr) ew' (WP.intro λv' G' H' st r=> ?_)) (λz s2 hz=> ?_) λ_ _ z=>z
  ·rw[en']at r;cases r with
   |tup hsq rl=>
    cases rl with
    |cons r1 rl=>
     cases rl with
     |cons r2 rl=>
      cases rl;cases r1;cases r2;exact⟨st.hh,_,rfl,Same.tupS st.gh hsq⟩
  ·obtain⟨v',H2,J2,rz,sm2,t,rfl,hsq⟩:=hz;obtain rfl:z=Value.ref t:=rz;have pk:=J2.pin (kS,seqObj "list" kA e) (B1 _ (.head _));have pa:=J2.pin (a,seqObj "list" #[] e1) (B1 _ (.tail _ (.head _)));refine⟨e,pk.1,hzk, ?_⟩;have J3:Inv X zd σ H2 s2:=J2.pins_of λp hp=>J2.pin p (B1 _ (.tail _ (.tail _ hp)));have sb:=N9 s2.heap kS (Obj.mapSeq (·.push (.ref t)));have J4:Inv X zd σ H2 {s2 with heap:=s2.heap.update kS (Obj.mapSeq (·.push (.ref t)))}:=J3.turned (t':=s2.toks) (λb o hb e=>(sb.2 b hb).trans e) pk.2.1 hkL (.inr z1) (cl' J2) npk;refine⟨H2,_,qs ++ [(x1,x2)],sm.trans sm2,bf J4 (get?_update_seq pk.1 (·.push (.ref t))) ((sb.2 a hka.symm).trans pa.1) pk.2.1 pa.2.1,by rw[Array.size_push,hzk], ?_, ?_,λp hp=> ?_⟩
   ·rw[Array.toList_push];exact Paired.snoc (TupAt.mono sm2 tp) ⟨t,rfl,hsq⟩
   ·rw[F7,tk,T7,B5 hik,ek];rfl
   ·rcases F6.mp hp with hp|hp
    ·exact tb p hp
    ·rw[D8.mp hp];exact h62
 ·obtain⟨H1,e,qs,sm,J1,_⟩:=hJ;exact⟨e,(J1.pin (kS,seqObj "list" kA e) (B1 _ (.head _))).1⟩
 ·obtain⟨H1,e,qs,sm,J1,hzk,tp,tk,tb⟩:=hJ;have pk:=J1.pin (kS,seqObj "list" kA e) (B1 _ (.head _));have pa:=J1.pin (a,seqObj "list" #[] e1) (B1 _ (.tail _ (.head _)));have tk:qs.map Eb=kz:=by rw[tk];exact List.take_of_length_le ()
  have J3:Inv X zd σ H1 s':=J1.pins_of λp hp=>J1.pin p (B1 _ (.tail _ (.tail _ hp)));rw[show kA=kA.toList.toArray by simp];refine cl_0 (ks:=kA.toList) (ps:=qs) (e:=e) (by simpa using pk.1) pa.1 hka (by rw[N8,hzk]) h64 (TupAt.pair J1 tp) tb (by rw[tk];exact nd) λp gp as=> ?_;rw[tk]at as;have sb:=N9 s'.heap kS (Obj.mapSeq λ_=>(#[]:Array Value));have J4:Inv X zd σ H1 {s' with heap:=s'.heap.update kS (Obj.mapSeq λ_=>(#[]:Array Value))}:=J3.turned (t':=s'.toks) (λb o hb e=>(sb.2 b hb).trans e) pk.2.1 hkL (.inr z1) (cl' J1) npk;have na:(s'.heap.update kS (Obj.mapSeq λ_=>(#[]:Array Value))).get? a=some (seqObj "list" #[] e1):=(sb.2 a hka.symm).trans pa.1;have lt:∀i∈p.toList,i < vs.length:=λi hi=>J8.mp (gp.perm.mem_iff.mp hi);have xl:xs.length=vs.length:=hv.length;have hus:Vals (p.toList.map λi=>xs.getD i V.non) (p.toList.map λi=>vs.getD i Value.none):=by
   have all:∀l:List Nat,(∀i∈l,i < vs.length)->Vals (l.map λi=>xs.getD i V.non) (l.map λi=>vs.getD i Value.none):=by
    intro l
    induction l with
    |nil=>intro _;exact .nil
    |cons i l ih=>
     intro hl;have hi:=hl i (.head _);refine .cons ?_ (ih λj hj=>hl j (.tail _ hj));obtain⟨u,eu,ru⟩:=hv.get (B5 (show i < xs.length by omega));show RelV (xs.getD i V.non) (vs.getD i Value.none);rw[F2,F2,B5 (show i < xs.length by omega),eu];exact ru
   exact all _ lt
  have hpl:p.toList.length=vs.length:=by rw[N8,gp.size]
  refine h _ H1 (p.toList.map λi=>(kz.getD i 0,vs.getD i Value.none)) (p.toList.map λi=>xs.getD i V.non) sm pa.2.1 ?_ ?_ ?_ (by rw[A4];exact hpl)
   (Inv.track (s:={s' with heap:=s'.heap.update kS (Obj.mapSeq λ_=>(#[]:Array Value))}) (tk:=s'.toks) J4 (N9 _ _ _) (get?_update_seq na λ_=>List.toArray (p.toList.map λi=>vs.getD i Value.none)) hus (by rw[A4,hpl,D5];omega) pa.2.1 haz haL hac hap)
  ·refine(gp.perm.map _).trans (List.Perm.of_eq ?_);refine List.ext_getElem (by rw[A4,K4,List.length_zip,zk,Nat.min_self]) λi h1 h2=> ?_;rw[A4,K4]at h1;rw[ZB7,List.getElem_range,List.getElem_zip];have q1:kz.getD i 0=kz[i]' ():=by rw[F2,B5 ()];rfl
   have q2:vs.getD i Value.none=vs[i]:=by rw[F2,B5 h1];rfl
   rw[q1,q2]
  ·refine K8.mpr λi j hi hj hij=> ?_;rw[A4]at hi hj;rw[ZB7,ZB7];have:=as i j hij ();have gi:∀k (hk:k < p.toList.length),p.getD k 0=p.toList[k]:=λk hk=>by
    have hk':k < p.size:=by rw[<-N8];exact hk
    simp[Array.getD,hk']
   unfold kp at this;rw[gi i hi,gi j hj]at this;exact Int.le_of_lt this
  ·rw[L7];exact hus
end
section
variable{X:Cx}{EX:Bb}{pos:Pos}
def cl_2{zd:AE}{σ:Sg}{G H:Hp}{s:Shared}{Q:VK}{a f c Pt:Addr}{k':Nat}{cl:List (Str×Addr)}{pm ctv:Value}{params:Arguments}{body:Expr}{scope:Scope}{x:Str}{fb:FE}{δ:DE}{kvs:List (Ar×V)}{kds:List (Ar×D)}(hc:X.calm=true)
  (I:Inv X ((f,kla_obj "<lambda>" z_3 params body scope cl pm c ctv)::zd) σ H s) (g:Same G H) (h0:HasS X.K G σ δ) (rd:Rd G a (.dK kvs)) (hk:kvs.map (·.1)=kds.map (·.1))
  (hlc:LamC H Pt c) (nm:LamN X scope cl) (hsk:scope.kind=.function) (hco:scope.isCoroutine=false) (hge:scope.isGenerator=false) (bu:scope.names.lookup x=some .local)
  (ao:∀u,bindArgs (kla_fn "<lambda>" z_3 params body scope cl pm (.ref c) ctv) ⟨[u],[]⟩=pure [(x,u)]) (zj:∀A s H zd,RoomC true 1 A->ED (bf_0 X A scope f c cl x s H zd) Ed body fb)
  (hr:RoomC true k' X.A) (hkk:2<=k') (o:Out X.K EX0 G H (be_8 (Ew fb δ) (kds.map λp=>kD p.1)) Q):
  wpAny (model X.prog X.w) X.A (call (.builtin "sorted") [.ref a] [(Str.ofString "key",.ref f)]) (EP X zd σ Q) X.xe s:=by
 unfold be_8 at o;cases eK:z_1 (Ew fb δ) (kds.map λp=>kD p.1) with
 |ex x=>rw[eK]at o;exact False.elim o
 |no=>rw[eK]at o;exact False.elim o
 |ok psD=>
  rw[eK]at o;simp only at o
  split at o
  ·rename_i hcond;obtain⟨h64,nd⟩:=hcond;have pK:=be_9 eK;have hkl:kds.length=kvs.length:=by
    have:=L6 List.length hk;rw[A4,A4]at this;exact this.symm
   have hpl:psD.length=kvs.length:=by
    rw[<-S6 pK,A4];exact hkl
   have ekd:(kds.map λp=>kD p.1)=(kvs.map (·.1)).map kD:=by rw[hk,L7];rfl
   obtain⟨z,lo,ws,kv,dd⟩:=au_0 I.hok (Same.rdD g rd);obtain⟨ep,da⟩:=dd.dictAt;refine call_function_entry_kw kind_sorted plain_sorted entry_sorted (ksk_s1 _ _) ?_;unfold Builtin.«sorted»;refine A3 (m:=checkCount "sorted" 1 1 _) (C5 ?_);refine A3 (PySem.W.collect_kdl (A:=X.A.in1) (kdl_dict lo) (I.ok.hd hc) da (by rw[<-kv.length];exact z) λh1 tk1 zn kk le it=> ?_);have rv':Vals ((kvs.map (·.1)).map kV) zn.toList:=be_3 kv (by rw[N8];exact it.1) λj v e=>it.2 j v (by rw[<-Array.getElem?_toList];exact e);have hal:zn.toList.length=kvs.length:=by rw[<-rv'.length,A4,A4]
   refine A3 (wpAny_newList ?_ (by rw[hal];exact z));have new:(h1.push (seqObj "list" zn.toList.toArray 0)).get? h1.objs.size=some (seqObj "list" zn.toList.toArray 0):=B7 _ rfl;have I0:Inv X ((f,kla_obj "<lambda>" z_3 params body scope cl pm c ctv)::zd) σ H {s with heap:=h1,toks:=tk1}:=I.kept (t':=tk1) kk;have I1:Inv X ((f,kla_obj "<lambda>" z_3 params body scope cl pm c ctv)::zd) σ H {s with heap:=h1.push (seqObj "list" zn.toList.toArray 0),toks:=tk1}:=I0.kept (t':=tk1) λb u e=>A5 _ e;have fr:H h1.objs.size=none:=I.hok.fresh le;refine A3 (L4 (wpAny_call_entry_kw slot_list_sort ⟨_,new,rfl⟩ entry_list_sort ?body (ksk_l1 _ _)))
   case body=>
    show wpAny (model X.prog X.w) X.A.in1.in1 (Builtin.«list.sort» ⟨[.ref h1.objs.size],[(Str.ofString "key",.ref f)]⟩) _ _ _;rw[ksk_t1];have hr':RoomC true 1 X.A.in1.in1:=⟨hr.hd,by have:=hr.dp;show X.A.depth + 3 * 1 + 5 < _;omega,by have:=hr.un;show X.A.units + 1 + 1 + 16 * 1 + 200 < _;omega⟩;refine bz_1 (kz:=psD.map (·.1)) (ds:=kds.map λp=>kD p.1) (fb:=fb) (δ:=δ) (G:=G) I1 new fr (C7 I.sz le) (λz=> ?_) (λx c e z=> ?_) (λp hp z=> ?_) (I0.nofs (A8 _)) rv' (λi v d e1 e2 G'=> ?_) (by rw[A4,hal];exact hkl) (λi d kx e1 e2=> ?_) (by rw[A4,hal];exact hpl) (by rw[hal,<-hpl];exact h64) nd
     (B1 _ (.head _)) hlc nm hsk hco hge bu ao rfl hr' g h0 zj λs' H' ps us sm na pm srt hu hul J=> ?_
    ·have:=I0.lt;rw[<-z]at this;exact absurd this (D7 _)
    ·obtain⟨v,hv⟩:=I0.cell x c e;have:=hv.lt;rw[z]at this;exact absurd this (D7 _)
    ·have:=A6 (I0.pin p hp).1;rw[z]at this;exact absurd this (D7 _)
    ·rw[ekd,B4]at e2;rw[B4]at e1;cases ek:(kvs.map (·.1))[i]? with
     |none=>rw[ek]at e1;cases e1
     |some k0=>rw[ek]at e1 e2;cases e1;cases e2;exact cs_3 k0
    ·rw[B4]at e2;cases ep2:psD[i]? with
     |none=>rw[ep2]at e2;cases e2
     |some p=>
      rw[ep2]at e2;cases e2;exact(Paired.getL pK e1 ep2).2
    ·have J':Inv X zd σ (upd H' h1.objs.size (.lst us)) s':=J.pins_of λp hp=>J.pin p (B1 _ (.tail _ hp));refine⟨_,rfl,C5 ⟨_,rfl,.ref h1.objs.size,_,J',rfl, ?_⟩⟩;rw[ekd]at pK;have pr:=ab_9 (R:=RelK) (λp q r=>r.1) (zipR rv' pK) pm (ah_2 psD) nd srt (z_2 psD);refine(show WP X.K G H (.ow (.lst ((Gg psD).map (·.2)))) Q from o) (.ref h1.objs.size) (λb=>b=h1.objs.size) G _ ⟨λb u e=> ?_,λb u e=> ?_,Same.refl _,λ_ n _=>n⟩ (λb e=> ?_) (Ow.list Cb rfl (outR pr hu))
     ·rw[Ba (Ei e fr)];exact sm b u e
     ·rw[Ba (Ei (g b u e) fr)];exact sm b u (g b u e)
     ·subst e;exact⟨fr,g.free fr,by rw[Cb];simp⟩
  ·exact False.elim o
structure LamOk(X:Cx)(params:Arguments)(body:Expr)(scope:Scope)(x:Str)(fb:FE):Prop where
 def0:defaultsOf params X.env=([],[])
 qual:X.env.qual ++ "<lambda>" =z_3
 kind:scope.kind=.function
 co:scope.isCoroutine=false
 gen:scope.isGenerator=false
 par:scope.names.lookup x=some .local
 names:Gd scope.names X.env.scope.names X.N (X.N ++ [x])=true
 bind:∀cl pm cd ctv u,bindArgs (kla_fn "<lambda>" z_3 params body scope cl pm cd ctv) ⟨[u],[]⟩=pure [(x,u)]
 body:∀A f c s H zd,(A.deeper (envX z_3 scope s.heap.objs.size f (.ref c) (Ds X.env.cells scope.names []))).units + 64 < cLine->ED (bf_0 X A scope f c (Ds X.env.cells scope.names []) x s H zd) Ed body fb
def cu_9{o:Expr}{f fb:FE}{x:Str}{k':Nat}{c P:Addr}{params:Arguments}{body:Expr}{scope:Scope}{p p2 p3:Pos}(hc:X.calm=true)(hr:RoomC true k' X.A)(hm:X.mg "sorted" =none)(ht:tabIn X.K "numbers_by_bucket" =some (c,P))(hcd:codeHdIn X.K c P=true)(he:ED X EX o f)(L:LamOk X params body scope x fb)(ai:X.env.code=.ref c:=by rfl)(hk:2<=k':=by decide)(hg:Gl X "sorted" :=by rfl)
  (hs1:starEach [o] X.env=(false,eval o X.env)::starEach [] X.env:=by rfl) (hb1:backTo pos (starEach [o] X.env)=(false,eval o X.env)::backTo pos (starEach [] X.env):=by rfl) (hpl:(backTo pos (starEach [o] X.env)).any (·.1)=false:=by rfl)
  (cf:(backToKw pos (keywordEach [⟨some "key",.Lambda params body scope p2,p3⟩] X.env)).all (·.1.isSome)=true:=by rfl) (hkw:(backToKw pos (keywordEach [⟨some "key",.Lambda params body scope p2,p3⟩] X.env)).any (·.1.isNone)=false:=by rfl)
  (hnm:(backToKw pos (keywordEach [⟨some "key",.Lambda params body scope p2,p3⟩] X.env)).filterMap (·.1)= [Str.ofString "key"]:=by rfl):
  ED X EX (.Call (.Name "sorted" p) [o] [⟨some "key",.Lambda params body scope p2,p3⟩] pos) (ac_0 fb f):=by
 intro zd s σ H Q I q;obtain⟨G,δ,g0,s0,q⟩:=q;have ta:co_9 (tD X.K EX f) tNil σ H λvs H1=>∃(G1:Hp) (a:Addr) (kvs:List (Ar×V)) (kds:List (Ar×D)),vs= [.ref a]/\Same G1 H1/\HasS X.K G1 σ δ/\Rd G1 a (.dK kvs)/\kvs.map (·.1)=kds.map (·.1)/\Out X.K (EX σ) G1 H1 (be_8 (Ew fb δ) (kds.map λp=>kD p.1)) Q:=by
  refine tD.seq g0 s0 q λw v G1 H1 _ st r o'=> ?_;revert o' r;cases w.d with
  |dic kds=>
   intro r o';cases r with
   |dic hr hk rr=>exact⟨G1,_,_,kds,rfl,st.gh,s0.mono st.gg,hr,hk,o'⟩
  |_=>intro _ o';exact False.elim o'
 refine M8 (r_3 I hg hm PyProof.Rows.boot_sorted (callWith_kw (Be ((h_8 he o_2 hs1) pos zd s σ H _ I ta) λus s1 ⟨vs,H1,I1,r1,G1,a,kvs,kds,ev,g1,s1',rd,hkk,o'⟩=> ?_) hb1 hpl cf hkw));subst ev;obtain⟨u,rfl,ru⟩:=r1.one;cases ru;have nm:=dh_0 I1.ok L.names;refine kws_cons (cu_5 I1 ht hcd ai L.qual L.def0 nm.clos λfa c' pm ctv H2 s2 sm lc I2=>kws_nil ?_);rw[hnm];refine cl_2 hc I2 (g1.trans sm) s1' rd hkk lc nm L.kind L.co L.gen L.par (L.bind _ _ _ _) (λA s H zd hr1=>L.body A fa c' s H zd (RoomC.units (RoomC.deeper hr1 _))) hr hk ?_;have st:Step G1 H1 G1 H2:=⟨sm,g1.trans sm,Same.refl _,λ_ n _=>n⟩;unfold be_8 at o'⊢;cases eK:z_1 (Ew fb δ) (kds.map λp=>kD p.1) with
 |ok psD=>
  rw[eK]at o';simp only at o'⊢
  split at o'
  ·rename_i hcond;rw[if_pos hcond];exact WP.mono (w:=.ow (.lst ((Gg psD).map (·.2)))) (Q:=Q) st (show WP X.K G1 H1 (.ow (.lst ((Gg psD).map (·.2)))) Q from o')
  ·exact False.elim o'
 |ex x=>rw[eK]at o';exact False.elim o'
 |no=>rw[eK]at o';exact False.elim o'
end
abbrev HBdT(c:Bool)(P:Program)(w:World)(K:Frag)(mg:AB)(base:Heap)(N:List Str)(qual:Str)(st:Stmt)(f:Addr)(k:Nat)(g:FS)(cd:Addr):Prop:=∀{A:Around} {outer:List Env} {s:Shared} {H:Hp} {E:XK},(Di c P w K mg base N qual (Bz st) f (.ref cd) A outer s H E).calm=c->RoomC c k (Cx.A (Di c P w K mg base N qual (Bz st) f (.ref cd) A outer s H E))->(Cx.A (Di c P w K mg base N qual (Bz st) f (.ref cd) A outer s H E)).units + 64 < cLine->N.Nodup->Lk (Di c P w K mg base N qual (Bz st) f (.ref cd) A outer s H E) (λ_=>EXof K E)->
   BD (Di c P w K mg base N qual (Bz st) f (.ref cd) A outer s H E) (λ_=>EXof K E) (Ey st) g
def dy_0{c:Bool}{P:Program}{w:World}{x qual:Str}{st:Stmt}{f cd:Addr}{N ps:List Str}{k:Nat}{g:FS}(F:Fun K x qual st f fd)(ai:fd.code=.ref cd)
  (zj:HBdT c P w K mg base N qual st f k g cd) (S:FnScope N ps (Bz st):=by exact⟨rfl,rfl,rfl,by decide +kernel,rfl,by decide +kernel,by decide +kernel⟩):FnX P w K mg base c (k + 1) f fd ps (Bx K ps.length (Al N.length g)):=by
 obtain⟨oc,od,kV,doc,pm,an,zp,ct,osl,rfl,lk,hcd⟩:=F.ex;cases ai;refine cq_8 lk hcd S (λvs H Q E h=>h.1) λA outer s H vs Q E hr h=>⟨_,zj rfl hr (RoomC.units hr) S.nd bi_9, ?_⟩;obtain⟨hl,G,ds,g0,r,o⟩:=h;refine⟨⟨H,λ_=>0⟩,G,G,_,_,au_7 g0 r, ?_⟩;unfold Al at o;cases e:g (An N.length ds) with
 |nx Δ=>rw[e]at o;exact λ σ G' H' O E' _=>(WP.mono (w:=.sh .non) (Q:=Q) E'.st o).use E'.st.gh .non
 |rt w=>rw[e]at o;exact o
 |rv d Δ=>rw[e]at o;exact o.elim
 |ex x Δ=>rw[e]at o;exact λ σ G' H' O E' _=>(EXof K E).mono _ _ _ _ _ E'.st o
 |bk Δ=>rw[e]at o;exact o.elim
 |ct Δ=>rw[e]at o;exact o.elim
 |no=>rw[e]at o;exact o
def cv_0{x:Str}{st:Stmt}{f c P:Addr}(a:nsIn K mainGlobals x=some (some (.ref f)))(F:Fun K x x st f fd)(ht:tabIn K x=some (c,P)):fd.code=.ref c:=by
 obtain⟨oc,od,kV,doc,pm,an,zp,ct,osl,rfl,lk,hcd⟩:=F.ex;unfold tabIn at ht;rw[a]at ht;simp only[lk]at ht;cases zp with
 |ref c2=>
  simp only at ht
  split at ht
  ·split at ht
   ·cases ht;rfl
   ·cases ht
  ·cases ht
 |_=>cases ht
def dh_1{P:Program}{w:World}{cc:Bool}{k:Nat}{ps:List Str}{Fn:AF}{st:Stmt}{x:Str}{h:Heap}{c Pt:Addr}(X:K.In h)(G:h.Ns mainGlobals mg)(W:FnTop K x st)(ht:tabIn K x=some (c,Pt))(ok:∀{f:Addr} {fd:FuncData},Fun K x x st f fd->fd.code=.ref c->FnX P w K mg base cc k f fd ps (Bx K ps.length Fn)/\Binds K fd ps []):FnD P w K mg base cc x k ps Fn:=by
 obtain⟨f,a,fd,F⟩:=W;have hc:=cv_0 a F ht;exact cr_1 F (mg_of X G a) (ok F hc).2 (ok F hc).1
def cv_1{x q:Str}{f c P:Addr}{oT oc2:Value}{od2 oe2 an2:Option Addr}{sl2 sm2:Array (Option Value)}{ar2:Arguments}{bd2:List Stmt}{sc2:Scope}{kV2 dc2 pm2 ct2:Value}{vs2:Array Value}(a:nsIn K mainGlobals x=some (some (.ref f)))
  (l:K.lookup f=some ⟨oT,od2,.func (fnOf q q ar2 bd2 sc2 .none kV2 dc2 pm2 an2 (.ref c) ct2),sl2⟩) (lc:K.lookup c=some ⟨oc2,oe2,.fields vs2,sm2⟩) (e:vs2[11]? =some (.ref P)):tabIn K x=some (c,P):=by
 unfold tabIn;rw[a];simp only[l,lc,e]
def cv_2{h:Heap}{c P:Addr}(X:K.In h)(ht:tabIn K "numbers_by_bucket" =some (c,P))(hcd:codeHdIn K c P=true)(hl:(K.lookup P).isNone=true)(hT:h.get? P=some (tabObj #[])):∀c P,tabIn K "numbers_by_bucket" =some (c,P)->isCodeTable h P/\h.get? P=some {cls:=.none,data:=.fields #[]}/\K.lookup P=none:=λc' P' e=>by
 rw[ht]at e;cases e;exact⟨((codeHd_of_K X hcd).tab hT).isCodeTable,hT,Option.isNone_iff_eq_none.mp hl⟩
def cv_3{h:Heap}{f c P:Addr}{oT oc2:Value}{od2 oe2 an2:Option Addr}{sl2 sm2:Array (Option Value)}{ar2:Arguments}{bd2:List Stmt}{sc2:Scope}{kV2 dc2 pm2 ct2:Value}{vs2:Array Value}(X:K.In h)(a:nsIn K mainGlobals "numbers_by_bucket" =some (some (.ref f)))
  (l:K.lookup f=some ⟨oT,od2,.func (fnOf "numbers_by_bucket" "numbers_by_bucket" ar2 bd2 sc2 .none kV2 dc2 pm2 an2 (.ref c) ct2),sl2⟩) (lc:K.lookup c=some ⟨oc2,oe2,.fields vs2,sm2⟩) (e:vs2[11]? =some (.ref P)) (hcd:codeHdIn K c P=true) (hl:(K.lookup P).isNone=true) (hT:h.get? P=some (tabObj #[])):
  ∀c P,tabIn K "numbers_by_bucket" =some (c,P)->isCodeTable h P/\h.get? P=some {cls:=.none,data:=.fields #[]}/\K.lookup P=none:=cv_2 X (cv_1 a l lc e) hcd hl hT
end L3
namespace PySem
namespace F
def slot_range_rev:Slot "range" "__reversed__" "range.__reversed__" :=Slot.of (owner:= "range") (n:= "__reversed__") (by simp only[typeLookup_type,builtinLookup_eq_fast];rfl') nofun nofun nofun (by first|exact .inl nofun|exact .inr nofun) (by simp only[isSubtype_type];rfl')
def code_range_rev:entryFor table "range.__reversed__" =some Builtin.«range.__reversed__»:=entryFor_of_tree ∅
def args_range_rev(a:Value):argsOk "range.__reversed__" ⟨[a],[]⟩:=by
 rw[argsOk,signature?_of (id:= "range.__reversed__") (n:= "__reversed__".toList.reverse) (o:= "range".toList.reverse) ∅ owner_range];rfl'
def rngit_no_rev:isSubtype (.type "range_iterator") (.type "reversed")=pure false:=by rw[isSubtype_type];rfl'
end F
section
variable{prog:Program}{w:World}{A:Around}{E:AA}{s:Shared}{r:Addr}{j:Int}{t u v:Tok}
abbrev rngO(j:Int)(t u v:Tok):Obj:={cls:=.type "range",data:=.fields #[.int 0 t,.int j u,.int 1 v]}
abbrev ce_1(n:Nat):Obj:={cls:=.type "range_iterator",dict:=none,data:=.fields #[rawInt ((n:Int) - 1),rawInt n,rawInt (-1)],slots:= #[]}
def ax_2{Q:AA}(hr:s.heap.get? r=some (rngO j t u v))(h1: -(2 ^ 62)<=j)(h2:j < 2 ^ 62)(h:Q (.ref s.heap.objs.size) {s with heap:=s.heap.push (ce_1 j.toNat)}):
  wpAny (model prog w) A (call (.builtin "range.__reversed__") [.ref r]) Q E s:=by
 refine wpAny_call_entry F.slot_range_rev ⟨_,hr,rfl⟩ F.code_range_rev ?_ (F.args_range_rev _);have hz:Builtin.Range.rangeSize 0 j 1=(j.toNat:Int):=by
  unfold Builtin.Range.rangeSize;rw[if_pos ⋯]
  split <;> omega
 unfold Builtin.«range.__reversed__»;refine A3 (P5 (a:=Value.ref r) rfl ?_);unfold Builtin.Range.rangeFields;refine A3 ?_;refine A3 (R0 hr rfl rfl ?_);refine A3 (P5 (a:=some (0:Int)) rfl ?_);refine A3 (R0 hr rfl rfl ?_);refine A3 (P5 (a:=some j) rfl ?_);refine A3 (R0 hr rfl rfl ?_);refine A3 (P5 (a:=some (1:Int)) rfl ?_);refine C5 ?_;dsimp only;rw[hz];have sm:(Builtin.Range.rangeFitsLong 0 && Builtin.Range.rangeFitsLong j && Builtin.Range.rangeFitsLong 1 && Builtin.Range.rangeFitsLong (-1) && Builtin.Range.rangeFitsLong (0 - 1) && Builtin.Range.rangeFitsLong (j.toNat:Int))=true:=by
  simp only[Builtin.Range.rangeFitsLong,D0,W3];omega
 rw[sm];simp only[ZA4,E7,N0,if_true];have e:(0:Int) + ((j.toNat:Int) - 1) * 1=(j.toNat:Int) - 1:=by omega
 rw[e];exact A3 (O9 (C5 ⟨_,rfl,h⟩))
def ae_6{Q:AA}(hr:s.heap.get? r=some (rngO j t u v))(h1: -(2 ^ 62)<=j)(h2:j < 2 ^ 62)(h:Q (.ref s.heap.objs.size) {s with heap:=s.heap.push (ce_1 j.toNat)}):
  wpAny (model prog w) A (call (.type "reversed") [.ref r]) Q E s:=by
 refine callType_other (U:= "range_iterator") (Q₁:=λobj s₁=>obj=.ref s.heap.objs.size/\s₁={s with heap:=s.heap.push (ce_1 j.toNat)}) nofun F.create_reversed ⟨_,_,F.mro_reversed⟩ F.made_reversed F.rngit_no_rev (F.typeCall_reversed_1 _) ?_ ?_
 ·refine ZD1 ?_;show wpAny _ A.in1.in1 (do checkBuiltinCall "reversed.__new__" ⟨[.type "reversed",.ref r],[]⟩;again (.builtin "reversed.__new__" ⟨[.type "reversed",.ref r],[]⟩)) _ _ s;refine A3 (P5 (F.newCall_reversed_1 _) (C5 ⟨plainId_quiet F.plain_reversed_new _,X9 F.entry_reversed_new ?_⟩));rw[X7 F.plain_reversed_new _];have T:s.TypeIs (.ref r) "range" :=⟨_,hr,rfl⟩;have n1:=F.slot_range_rev.lookup;have n4:=newClass_reversed (.ref r);unfold Builtin.«reversed.__new__»;refine A3 (P5 n4 ?_)
  try dsimp only
  refine A3 (P5 (a:=.unit) (by first|rfl|rfl') ?_);refine A3 (P5 (a:=.unit) (by first|rfl|rfl') ?_)
  try dsimp only
  refine A3 (wpAny_specialOf T n1 ?_)
  try dsimp only
  refine A3 (P5 (F.slot_range_rev.bind _) ?_)
  try dsimp only
  have ne:¬((Value.builtin "range.__reversed__" ==Value.none)=true):=A7
  first
   |rw[if_neg ne]
   |(show wpAny _ _ (if(Value.builtin "range.__reversed__" ==Value.none)=true then _ else _) _ _ _;rw[if_neg ne])
  refine A3 (wpAny_rule ?_);refine A3 (m:=runValue (.call (.builtin "range.__reversed__") ⟨[.ref r],[]⟩)) (show wpAny _ _ (call (.builtin "range.__reversed__") [.ref r]) _ _ _ from ax_2 hr h1 h2 ?_)
  first
   |exact C5 ⟨rfl,rfl⟩
   |exact A3 (C5 (C5 ⟨rfl,rfl⟩))
 ·rintro obj s₁ ⟨rfl,rfl⟩
  exact⟨⟨_,B7 _ rfl,rfl⟩,h⟩
end
end PySem
namespace L3
open PySem PySem.Spec PyProof.Rows L2
variable{K:Frag}{fd:FuncData}{mg:AB}{us:List Value}{base:Heap}{H:Hp}{X:Cx}{pos:Pos}
section
variable{X:Cx}{EX:Bb}{tg a:Expr}{fa:FA}{p p2 pos av:Pos}
def tRg(t:TA):TE:=λ σ H Q=>t σ H λvs H1=>∃j:Int,vs= [.int j]/\∀r,H1 r=none->Q (.ref r) (upd H1 r (.rng 0 j))
def iRvR(t:TA):TI:=λ σ H Q=>co_9 (tRg t) tNil σ H λvs H2=>∃(r:Addr) (j:Int),vs= [.ref r]/\H2 r=some (.rng 0 j)/\ -(2 ^ 62)<=j/\j < 2 ^ 62/\Q (Itr3 ((j.toNat:Int) - 1) (-1) j.toNat) H2
def dy_2{ta:TA}(hg:Gl X "range")(hm:X.mg "range" =none)(ha:PA X [a] ta)(hs:starEach [a] X.env= [(false,eval a X.env)]:=by rfl):PE X (.Call (.Name "range" p2) [a] [] av) (tRg ta):=by
 intro zd s σ H Q I h;refine Call_ (r_3 I hg hm boot_range (G6 (Be (ha av zd s σ H _ I h) λus s1 ⟨vs,H1,I1,r1,q1⟩=> ?_) hs rfl));obtain⟨j,rfl,q⟩:=q1;obtain⟨u,rfl,t,rfl⟩:=r1.one;refine ZE2 ?_;exact⟨.ref s1.heap.objs.size,_,I1.laid (o:=.rng 0 j) (t':=s1.toks + 1 + 1) (λb o e=>A5 _ e) (A8 _) ⟨_,_,_,B7 _ rfl⟩,rfl,q _ (I1.hok.fresh (A8 _))⟩
def dh_2{ta:TA}(hg:Gl X "reversed")(hm:X.mg "reversed" =none)(hg2:Gl X "range")(hm2:X.mg "range" =none)(ha:PA X [a] ta)(hs:starEach [a] X.env= [(false,eval a X.env)]:=by rfl)
  (hs1:starEach [.Call (.Name "range" p2) [a] [] av] X.env=(false,eval (.Call (.Name "range" p2) [a] [] av) X.env)::starEach [] X.env:=by rfl) (hs2:starEach [.Call (.Name "range" p2) [a] [] av] X.env= [(false,eval (.Call (.Name "range" p2) [a] [] av) X.env)]:=by rfl):
  PI X tg (.Call (.Name "reversed" p) [.Call (.Name "range" p2) [a] [] av] [] pos) (iRvR ta):=by
 intro zd s σ H Q I h;refine Call_ (r_3 I hg hm PyProof.Rows.boot_reversed (G6 (Be ((h_8 (dy_2 hg2 hm2 ha hs) o_2 hs1) pos zd s σ H _ I h) λus s1 ⟨vs,H1,I1,r1,q1⟩=> ?_) hs2 rfl));obtain⟨r,j,rfl,hr,h1,h2,q⟩:=q1;obtain⟨u,rfl,ru⟩:=r1.one;cases ru;obtain⟨t,u,v,ho⟩:=I1.hok r _ hr;refine ae_6 ho h1 h2 ?_;have st:IsRangeIter (s1.heap.push (ce_1 j.toNat)) s1.heap.objs.size (((j.toNat:Int) - 1) + ((0:Nat):Int) * (-1)) ((j.toNat:Int) - ((0:Nat):Int)) (-1):=by
  have e1:((j.toNat:Int) - 1) + ((0:Nat):Int) * (-1)=(j.toNat:Int) - 1:=by simp
  have e2:(j.toNat:Int) - ((0:Nat):Int)=(j.toNat:Int):=by simp
  rw[e1,e2];exact B7 _ rfl
 refine(ao_1 (P:=X.prog) (w:=X.w) (K:=X.K) (tg:=tg) s1.heap.objs.size ((j.toNat:Int) - 1) (-1) j.toNat).self X.A 0 _ _ _ st ?_;refine⟨s1.heap.objs.size,[s1.heap.objs.size],_,_,H1,rfl,I1.kept (t':=s1.toks) λb o e=>A5 _ e,ao_1 _ _ _ _,st,λb hb=> ?_,q⟩;have e:b=s1.heap.objs.size:=by simpa using hb
 subst e;exact I1.fpOk (A8 _) (I1.hok.fresh (A8 _))
def rngR:List D->R (List D)
 | [.int j]=>if j.natAbs < 4611686018427387904 then .ok (y_5 ((j.toNat:Int) - 1) (-1) j.toNat) else .no
 |_=> .no
def dh_3(hm:X.mg "reversed" =none)(hm2:X.mg "range" =none)(ha:AD X EX [a] fa)(hg:Gl X "reversed" :=by rfl)(hg2:Gl X "range" :=by rfl)(hs:starEach [a] X.env= [(false,eval a X.env)]:=by rfl)
  (hs1:starEach [.Call (.Name "range" p2) [a] [] av] X.env=(false,eval (.Call (.Name "range" p2) [a] [] av) X.env)::starEach [] X.env:=by rfl) (hs2:starEach [.Call (.Name "range" p2) [a] [] av] X.env= [(false,eval (.Call (.Name "range" p2) [a] [] av) X.env)]:=by rfl):
  ID X EX tg (.Call (.Name "reversed" p) [.Call (.Name "range" p2) [a] [] av] [] pos) (Bh rngR fa):=
 PI.imp (dh_2 hg hm hg2 hm2 ha hs hs1 hs2) λ σ H Q ⟨G,δ,g0,s0,o⟩=>tDa.seqI g0 s0 o λds vs G' H' st r o'=>by
  cases r with
  |nil=>exact False.elim o'
  |cons h t=>
   cases t with
   |cons _ _=>cases h <;> exact False.elim o'
   |nil=>
    cases h with
    |int j=>
     by_cases hc:j.natAbs < 4611686018427387904
     ·rw[show rngR [.int j]=.ok (y_5 ((j.toNat:Int) - 1) (-1) j.toNat) from if_pos hc]at o';refine⟨j,rfl,λr hr=>⟨r,j,rfl,Cb,by omega,by omega,o' _ G' _ (Step.own st.gh hr _) λG2 H2 _ g k=>⟨λd e=> ?_,λe=> ?_⟩⟩⟩
      ·obtain⟨hi,rfl⟩:=av_5 e;refine⟨hi,λx H' y=> ?_⟩;obtain⟨e1,e2⟩:=y;subst e1 e2;exact⟨G2,Step.refl g,.int _⟩
      ·rw[av_6]at e;exact Q6 e
     ·rw[show rngR [.int j]=.no from if_neg hc]at o';exact o'.elim
    |_=>exact False.elim o'
end
section
variable{X:Cx}{EX:Bb}{pos:Pos}
def bz_2{iter tg:Expr}{scope:Scope}{N':List Str}{fi:FI}{fg:Ft}{m:Nat}{lp:Pos}(hx0:∀e s,¬X.xe e s){B:Cx->Prop}(hk:scope.kind=.function)(hb:Gd scope.names X.env.scope.names X.N N'=true)
  (hm:N'.length=X.N.length + m)
  (hin:∀C s0 H0 fp pn,GC (m_2 X scope (Ds X.env.cells scope.names []) N' C s0 H0 fp pn) Ed tg fg)
  {zd:AE} {s:Shared} {σ:Sg} {δ:DE} (I:Inv X zd σ H s) {Z:Hp->Hp->Prop} (hZ:∀G2 H2,Z G2 H2->Same G2 H2/\HasS X.K G2 σ δ) (hB:∀C s0 H0 fp pn,Inv X zd σ H0 s0->B (m_2 X scope (Ds X.env.cells scope.names []) N' C s0 H0 fp pn))
  (hit:wpAny (model X.prog X.w) X.A (eval iter X.env) (λxv s₁=>wpAny (model X.prog X.w) X.A (pyIter xv) (λitv s₂=>∃(it:Addr) (fp:List Addr) (tn:Nat->Heap->Prop) (J:It) (H2:Hp) (ds:List D) (G2:Hp),itv=.ref it/\Inv X zd σ H2 s₂/\TurnZ X.prog X.w X.K tg J fp it tn B/\tn 0 s₂.heap/\(∀b∈fp,Fj X zd H2 b)/\fi δ=.ok ds/\Z G2 H2/\ItD X.K G2 J ds) X.xe s₁) X.xe s)
  {RR:Value->Addr->Result->Shared->Prop}
  (hds:∀ds,fi δ=.ok ds->ds.length<=16777216/\∀d∈ds,∃δ1,fg d (δ ++ List.replicate m none)=.ok δ1)
  (hRR:∀(Da C:Addr) (s1:Shared) (G2 H2 G' H':Hp) (vs:List V) (S:AS) (ds:List D),fi δ=.ok ds->Inv X zd σ H' s1->(∃m,s1.heap.Ns C m)->Fj X zd H' C->Z G2 H2->Step G2 H2 G' H'->H2 Da=none->H' Da=some (.lst vs)->G' Da=none->OwL X.K G' H' vs (List.replicate ds.length (.lst [])) S->(∀b,S b->H2 b=none/\G' b=none/\b≠Da/\H' b≠none)->RR (.ref Da) C (.ok .next) s1):
  wpAny (model X.prog X.w) X.A (eval iter X.env) (λx s₁=>wpAny (model X.prog X.w) X.A (pyIter x) (λit s₂=>wpAny (model X.prog X.w) X.A (newList []) (λzn s₃=>
   wpAny (model X.prog X.w) X.A (newFunctionEnv scope X.env.globals (Ds X.env.cells scope.names []) [] X.env.qual none .none (some X.env)) (λcenv s₄=>
    codeAny (model X.prog X.w) X.A (.compStart (.ListComp (.List [] lp) [⟨tg,iter,[],0⟩] scope pos) 0 it zn {cenv with scope:=relabel scope X.env}) (RR zn cenv.locals) s₄) X.xe s₃) X.xe s₂) X.xe s₁) X.xe s:=by
 have n:=ab_3 I.ok hk hb;generalize hcle:Ds X.env.cells scope.names []=cl at n hin hB⊢
 
 refine D2 hit (λxv s₁ h₁=>D2 h₁ (λitv s₂ h₂=> ?_) λ_ _ e=>(hx0 _ _ e).elim) λ_ _ e=>(hx0 _ _ e).elim;obtain⟨it,fp,tn,J,H2,ds,G2,rfl,I2,T,st2,f2,e2,hz2,itd⟩:=h₂;obtain⟨sg2,h0⟩:=hZ G2 H2 hz2;obtain⟨hz,o⟩:=hds ds e2
 
 have hfD:H2 s₂.heap.objs.size=none:=I2.hok.fresh (A8 _);refine O9 (X5 n.cell (by intro y hy;simp at hy) (λh₁ hns₁ hsb₁=> ?_) n.kind);dsimp only at hns₁ hsb₁⊢;generalize hDa:s₂.heap.objs.size=Da at hfD;have hDn: @Eq Nat s₂.heap.objs.size Da:=hDa;have I3:Inv X zd σ (upd H2 Da (.lst [])) {s₂ with heap:=s₂.heap.push {cls:=.type "list",dict:=none,data:=.seq ([]:List Value).toArray}}:=by
  rw[<-hDa];exact I2.lnew (t':=s₂.toks) .nil (K0 _)
 generalize hH3:s₂.heap.push {cls:=.type "list",dict:=none,data:=.seq ([]:List Value).toArray}=hp3 at hns₁ hsb₁ I3⊢;have hC:hp3.objs.size=Da + 1:=by rw[<-hH3,K9,hDa]
 generalize hCe:hp3.objs.size=C at hns₁ hsb₁ hC;have hCn: @Eq Nat hp3.objs.size C:=hCe;have hC2: @Eq Nat C (Da + 1):=hC;have dq:∀b o,s₂.heap.get? b=some o->hp3.get? b=some o:=λb o e=>by rw[<-hH3];exact A5 _ e
 have up:∀b o,hp3.get? b=some o->h₁.get? b=some o:=λb o e=>hsb₁.extBut b o (C1 (show @LT.lt Nat _ b C by rw[<-hCn];exact A6 e)) (A5 _ e)
 
 have fpC:∀b∈fp,b < s₂.heap.objs.size:=λb hb=>by
  obtain⟨o,e,_⟩:=T.obj _ _ st2 b hb;exact A6 e
 have hcl:∀x c,cl.lookup x=some c->c < hp3.objs.size/\c∉fp/\(upd H2 Da (.lst [])) c=none:=λx c e=>by
  have e':=n.sub x c e;obtain⟨v,hv⟩:=I3.cell x c e';exact⟨hv.lt,λz=>(f2 c z).2.2.2.2.1 x c e' rfl,I3.freeC x c e'⟩
 let X':=m_2 X scope cl N' C {s₂ with heap:=hp3} (upd H2 Da (.lst [])) fp (X.pn ++ zd)
 have ok':X'.Ok:=by
  refine⟨I.ok.mod,n.kind,I.ok.glob,I.ok.blt,Q6 hCe,λx y c h1 h2=>I.ok.inj x y c (n.sub x c h1) (n.sub y c h2),λx hx=>n.has x hx,λx c z=> ?_,I.ok.hd,I.ok.frames,.inl rfl,λb hb=>⟨?_,λx c e z=> ?_⟩,λb o e=> ?_, ?_,λb o e hb=> ?_,λb hb z=> ?_,I3.stack,I3.stkFree,I3.tab⟩
  ·exact absurd z A7
  ·exact C1 (C4 (fpC b hb) (show @LE.le Nat _ s₂.heap.objs.size C by omega))
  ·subst z;exact(hcl x c e).2.1 hb
  ·exact I3.bs b o e
  ·exact C7 I.ok.bsz I3.sz
  ·rcases(f2 b hb).2.2.2.1 with z|z
   ·exact I.ok.noex b o e z
   ·exact absurd (A6 (I.ok.bs b o e).1) (Nat.not_lt_of_le z)
  ·rcases B8.mp (I3.stkSub b z) with z|z
   ·exact(f2 b hb).2.1 z
   ·exact(f2 b hb).2.2.1 z
 have lenσ:σ.length=X.N.length:=I.len;have I4:Inv X' [] (σ ++ List.replicate m none) (upd H2 Da (.lst [])) {s₂ with heap:=h₁,toks:=s₂.toks + ([]:List (Str×Value)).length}:=by
  refine⟨ok',rfl,I2.bare,Un.kept up,⟨_,hns₁,λi x v e1 e2 e3=> ?_⟩,λx c e=> ?_, ?_,λx c e=>(hcl x c e).2.2,λp hp=> ?_,I3.hok.kept up, ?_⟩
  ·have hi:i < σ.length:=by
    by_cases hh:i < σ.length
    ·exact hh
    ·rw[D1 (),E8]at e2
     split at e2 <;> cases e2
   rw[B3 hi]at e2;obtain⟨n1,n2,⟨c,n3⟩,n4⟩:=n.old i x e1 () e3;obtain⟨mm,hnm,hl⟩:=I3.loc;obtain⟨u,r,l⟩:=hl i x v n1 e2 (.inr n2);refine⟨u,r,.inr ⟨n4,c,n3, ?_⟩⟩;have n3':=n.sub x c n3;rcases l with⟨k1,k2⟩|⟨k1,c',k2,k3⟩
   ·exfalso;have k1':X.env.scope.names.lookup x=some .local:=k1;rcases n2 with n2|n2
    ·rw[n2]at k1';cases k1'
    ·rw[n2]at k1';cases k1'
   ·rw[n3']at k2;cases k2;exact k3.keeps up
  ·obtain⟨v,hv⟩:=I3.cell x c (n.sub x c e);exact⟨v,hv.keeps up⟩
  ·show upd H2 Da (.lst []) C=none;exact I3.hok.fresh (by show hp3.objs.size<=C;omega)
  ·have hp':p∈X.pn ++ zd:=by
    have hp2:p∈(X.pn ++ zd) ++ []:=hp
    rwa[D3]at hp2
   obtain⟨z1,z2,z3,z4,z5⟩:=I3.pin p hp';refine⟨up _ _ z1,z2, ?_,λz=> ?_,z5⟩
   ·exact C1 (show @LT.lt Nat _ p.1 C by rw[<-hCn];exact A6 z1)
   ·rcases B8.mp (I3.stkSub p.1 z) with z|z
    ·exact z3 z
    ·exact z4 z
  ·rw[B6,J9,lenσ];exact hm.symm
 have hgc:=hin C {s₂ with heap:=hp3} (upd H2 Da (.lst [])) fp (X.pn ++ zd);have hS4:HasS X.K G2 (σ ++ List.replicate m none) (δ ++ List.replicate m none):=by
  refine⟨by rw[B6,B6,J9,J9,h0.len],λi d e=> ?_⟩
  by_cases hh:i < δ.length
  ·rw[B3 hh]at e;obtain⟨v,e1,r⟩:=h0.get i d e;exact⟨v,by rw[B3 (by rw[h0.len];exact hh)];exact e1,r⟩
  ·rw[D1 (),E8]at e
   split at e <;> cases e
 generalize hδ:δ ++ List.replicate m none=δ' at hS4 o;have stn:tn 0 h₁:=T.keep 0 _ _ st2 λb hb o e=>up b o (dq b o e);have fpn:∀b∈fp,(upd H2 Da (.lst [])) b=none:=λb hb=>by
  rw[Ba (C1 (show @LT.lt Nat _ b Da by rw[<-hDn];exact fpC b hb))];exact(f2 b hb).1
 have bp:∀{pl:AE} {H':Hp},pl= []->(∀b∈fp,H' b=none)->∀b∈fp,Fj X' pl H' b:=λ{pl H'} hpl hn b hb=>by
  subst hpl;refine⟨hn b hb, ?_,λz=> ?_,.inl hb,λx c e z=> ?_,λp hp z=> ?_⟩
  ·exact C1 (C4 (fpC b hb) (show @LE.le Nat _ s₂.heap.objs.size C by omega))
  ·rcases B8.mp (I3.stkSub b z) with z|z
   ·exact(f2 b hb).2.1 z
   ·exact(f2 b hb).2.2.1 z
  ·subst z;exact(hcl x c e).2.1 hb
  ·have hp':p∈X.pn ++ zd:=by
    have hp2:p∈(X.pn ++ zd) ++ []:=hp
    rwa[D3]at hp2
   exact(f2 b hb).2.2.2.2.2 p hp' z
 have loop:∀s4:Shared,Inv X' [] (σ ++ List.replicate m none) (upd H2 Da (.lst [])) s4->tn 0 s4.heap->codeAny (model X.prog X.w) X.A (.compLoop (.ListComp (.List [] lp) [⟨tg,iter,[],0⟩] scope pos) 0 (.ref it) (.ref Da) (compEnvC scope cl C X.env)) (RR (.ref Da) C) s4:=by
  intro s4 I4 tn4;refine au_9 (λk s'=>∃i σ' H' G' vs S,k=ds.length - i/\i<=ds.length/\Inv X' [] σ' H' s'/\tn i s'.heap/\(∀b∈fp,H' b=none)/\HasS X.K G' σ' δ'/\Step G2 H2 G' H'/\Same G2 G'/\H' Da=some (.lst vs)/\G' Da=none/\
   OwL X.K G' H' vs (List.replicate i (.lst [])) S/\(∀b,S b->H2 b=none/\G' b=none/\b≠Da/\H' b≠none)) ?_ ds.length
   ⟨0,_,_,G2,[],λ_=>False,by simp,K0 _,I4,tn4,fpn,hS4,Step.own sg2 hfD _,Same.refl _,Cb,sg2.free hfD,.nil,λ_ z=>z.elim⟩
  rintro k s' ⟨i,σ',H',G',vs,S,rfl,hi,I',tni,fn',hS,st,sg,hD,gD,rl,hl⟩
  obtain⟨i1,i2⟩:=itd G' H' sg st.gh i
  by_cases hlt:i < ds.length
  ·obtain⟨d,e1,e2⟩:=w_2 hlt;obtain⟨go,yl⟩:=i1 d e1;refine Be (T.item X' rfl rfl rfl i [] s' σ' H' _ (hB _ _ _ _ _ I3) I' (bp rfl fn') tni go) λr s1 ⟨u,hr,h1⟩=> ?_;subst hr;refine Be h1 λ_ s5 ⟨x,H5,I5,r5,y5,st5,fr5⟩=> ?_;obtain⟨G5,ae,hx5⟩:=yl x H5 y5;have I5':=I5.pinned (bp rfl fr5) (T.obj _ _ st5);obtain⟨δ1,ed1⟩:=o d (E9 e1);have hS5:HasS X.K G5 σ' δ':=hS.mono ae.gg;refine D2 (hgc _ s5 σ' H5 x u (λ σ6 H6=>H6=H5/\HasS X.K G5 σ6 δ1/\HasS X.K G5 σ6 δ') I5' r5 ⟨G5,δ',d,ae.gh,hS5,hx5, ?_⟩) (λ_ s6 ⟨σ6,H6,I6,eH,hS6,hS6'⟩=> ?_) λ_ _ z=>False.elim z
   ·rw[ed1];exact λ σ6 h6 h6'=>⟨rfl,h6,h6'⟩
   subst eH;refine wpAny_tests_nil ?_;rw[if_pos rfl]
   
   have gD7:G5 Da=none:=ae.nw Da gD (by rw[hD];simp);have hD7:H6 Da=some (.lst vs):=ae.hh _ _ hD;have bh:∀{σ9:Sg} {H9:Hp} {s9:Shared},Inv X' ([] ++ al_2 fp s5.heap) σ9 H9 s9->tn (i + 1) s9.heap/\∀b∈fp,H9 b=none:=λ{σ9 H9 s9} I9=>
    ⟨T.keep _ _ _ st5 λb hb o e=>(I9.pin (b,o) (B1 _ (B1 _ (q_4 hb e)))).1,λb hb=>by
     obtain⟨o,e,d⟩:=T.obj _ _ st5 b hb;exact(I9.pin (b,o) (B1 _ (B1 _ (q_4 hb e)))).2.1⟩
   refine D2 ((Dg (EX:=Ed) (X:=X') (pos:=lp) Ap) _ s6 σ6 H6 (λv H8=>∃S8 G8,Step G5 H6 G8 H8/\(∀b,S8 b->H6 b=none/\G8 b=none/\H8 b≠none)/\Ow X.K G8 H8 v (.lst []) S8) I6 ⟨G5,δ1,ae.gh,hS6,λv S8 G8 H8 st8 fr8 ow8=>⟨S8,G8,st8,fr8,ow8⟩⟩) (λu8 s8 ⟨v8,H8,I8,r8,S8,G8,stp8,fr8,ow8⟩=> ?_) λ_ _ z=>False.elim z;have gD8:G8 Da=none:=stp8.nw Da gD7 (by rw[hD7];simp);have hD8:H8 Da=some (.lst vs):=stp8.hh _ _ hD7;have hlv:vs.length=i:=by rw[rl.length,J9]
   refine D2 (w_0 (X:=X') _ s8 σ6 H8 (.ref Da) [v8] (.ref Da) [u8] (λ_ H9=>H9=upd H8 Da (.lst (vs ++ [v8]))) I8 rfl (.cons r8 .nil) ⟨Da,vs,v8,rfl,rfl,hD8,by rw[hlv,D5];omega,rfl⟩) (λ_ s9 ⟨_,H9,I9,_,e9⟩=> ?_) λ_ _ z=>False.elim z;subst e9;have stA:=st.trans (ae.trans stp8);have sD:∀b,S8 b->b≠Da:=λb z q=>by rw[q]at z;have:=(fr8 _ z).1;rw[hD7]at this;cases this
   have dh:∀b,S b->H6 b≠none:=λb z q=>by
    cases q2:H' b with
    |none=>exact(hl b z).2.2.2 q2
    |some o2=>rw[ae.hh _ _ q2]at q;cases q
   have fz:∀b,S b->H8 b≠none:=λb z q=>by
    cases q2:H6 b with
    |none=>exact dh b z q2
    |some o2=>rw[stp8.hh _ _ q2]at q;cases q
   refine⟨ds.length - (i + 1),by omega,i + 1,σ6,_,G8,vs ++ [v8],λb=>S b\/S8 b,rfl,hlt,I9.unpinned,(bh I9).1,(bh I9).2,hS6'.mono stp8.gg,⟨λb o z=> ?_,λb o z=> ?_,stA.gg,stA.nw⟩,sg.trans (ae.gg.trans stp8.gg),Cb,gD8, ?_,λb z=> ?_⟩
   ·rw[Ba (Ei z hfD)];exact stA.hh b o z
   ·rw[Ba (Ei z gD8)];exact stp8.gh b o z
   ·rw[List.replicate_succ'];refine OwL.append (S1:=S) (S2:=S8) (OwL.mono (ae.gg.trans stp8.gg) rl (λb o z q=>by rw[Ba (hl b z).2.2.1];exact stp8.hh _ _ (ae.hh _ _ q)) λ_ z=>z) (.cons (S1:=S8) (S2:=λ_=>False) (Ow.mono (Same.refl _) ow8 (λb o z q=>by rw[Ba (sD b z)];exact q) λ_ z=>z) .nil (λ_ _ z=>z) (λ_ z=>z) λ_ z=>z.elim) (λb z1 z2=>dh b z1 (fr8 b z2).1) (λ_ z=> .inl z) λ_ z=> .inr z
   ·rcases z with z|z
    ·obtain⟨z1,z2,z3,z4⟩:=hl b z;exact⟨z1,stp8.nw b (ae.nw b z2 z4) (dh b z),z3,by rw[Ba z3];exact fz b z⟩
    ·obtain⟨z1,z2,z3⟩:=fr8 b z;refine⟨?_,z2,sD b z,by rw[Ba (sD b z)];exact z3⟩;cases q:H2 b with
     |none=>rfl
     |some o2=>have:=(st.trans ae).hh _ _ q;rw[z1]at this;cases this
  ·have e:ds.length=i:=by omega
   refine Be (T.done X' rfl rfl rfl i [] s' σ' H' _ (hB _ _ _ _ _ I3) I' (bp rfl fn') tni (i2 e)) λr s1 ⟨hr,I1⟩=> ?_;subst hr;obtain⟨mm,hnm,_⟩:=I1.loc;have du:Inv X zd σ H' s1:=I3.call' (s':=s1) (ch:=fp) I1.os I1.base I1.hok I1.bare λb hb=>by
    obtain⟨f0,f1',f2',f3,f4,f5⟩:=f2 b hb;exact⟨f3,f1',f4,f5⟩
   rw[<-e]at rl;exact hRR Da C s1 G2 H2 G' H' vs S ds e2 du ⟨mm,hnm⟩ (I3.fpOk (by show hp3.objs.size<=C;omega) I1.free) hz2 st hfD hD gD rl hl
 exact ZC4 (loop _ I4 stn) (T.self X.A 0 _ _ _ stn (loop _ I4 stn))
def r_6(m:Nat)(fi:FI)(fg:Ft):FE:=λ δ=>((fi δ).bind λds=>if ds.length<=16777216/\(ds.all λd=>match fg d (δ ++ List.replicate m none) with| .ok _=>true|_=>false)=true then .ok (.tr (.lst (List.replicate ds.length (.lst [])))) else .no).calm
def bf_1{m:Nat}{fi:FI}{fg:Ft}{δ:DE}{x:Xn}(h:r_6 m fi fg δ=.ex x):False:=R.calm_never h
def cl_3{m:Nat}{fi:FI}{fg:Ft}{δ:DE}{w:W}(h:r_6 m fi fg δ=.ok w):∃ds,fi δ=.ok ds/\ds.length<=16777216/\(∀d∈ds,∃δ1,fg d (δ ++ List.replicate m none)=.ok δ1)/\w=.tr (.lst (List.replicate ds.length (.lst []))):=by
 unfold r_6 at h;cases e:fi δ with
 |ok ds=>
  rw[e]at h;simp only[R.bind_ok]at h
  split at h
  ·rename_i hc;cases h;refine⟨ds,rfl,hc.1,λd hd=> ?_,rfl⟩;have:=F4.mp hc.2 d hd;cases q:fg d (δ ++ List.replicate m none) with
   |ok δ1=>exact⟨δ1,rfl⟩
   |ex x=>rw[q]at this;cases this
   |no=>rw[q]at this;cases this
  ·cases h
 |ex x=>rw[e]at h;cases h
 |no=>rw[e]at h;cases h
def cv_4{iter tg:Expr}{scope:Scope}{N':List Str}{fi:FI}{fg:Ft}{m i:Nat}{y:Str}{lp py aw:Pos}(hx0:∀e s,¬X.xe e s)(hc:X.calm=true)(hi:ID X Ed tg iter fi)(hk:scope.kind=.function)(hb:Gd scope.names X.env.scope.names X.N N'=true)(hm:N'.length=X.N.length + m)
  (hin:∀C s0 H0 fp pn,GC (m_2 X scope (Ds X.env.cells scope.names []) N' C s0 H0 fp pn) Ed tg fg)
  (hN:X.N.Nodup) (hy:X.N[i]? =some y) (hx:Loc X.env.scope y) (hf:X.fn y=true\/X.env.scope.names.lookup y=some .local)
  (hsw:swapsWith (.ListComp (.List [] lp) [⟨tg,iter,[],0⟩] scope pos) (some (.Name y py)) aw.line X.env=pure true)
  (hs:∀x,foldedSetIterable iter X.env x=pure x):PS X (.Assign [.Name y py] (.ListComp (.List [] lp) [⟨tg,iter,[],0⟩] scope pos) aw) (tAsg (tD X.K Ed (r_6 m fi fg)) (bb_9 i)):=by
 intro zd s σ H D I q;obtain⟨G,δ,g0,h0,o⟩:=q;have n:=ab_3 I.ok hk hb;cases e:r_6 m fi fg δ with
 |ex x=>exact(bf_1 e).elim
 |no=>rw[e]at o;exact o.elim
 |ok w=>
  rw[e]at o;obtain⟨ds,e0,hz,ha,rfl⟩:=cl_3 e;rw[exec_Assign_Name_used _ _ _ _ hsw];refine A3 (P4 (A3 ?_));show wpAny _ X.A (do let _<-comprehension (.ListComp (.List [] lp) [⟨tg,iter,[],0⟩] scope pos) scope X.env _ (newList []) false (eval iter X.env) (some (assign (.Name y py) X.env))) _ _ s;refine A3 (D2 (U6 (use:=some (assign (.Name y py) X.env)) (Q:=λ_ s'=>SP X zd D .next s') rfl hs n.clos n.kind n.names
   (bz_2 (RR:=λzn C=>compPost (model X.prog X.w) X.A X.xe (some (assign (.Name y py) X.env)) (λ_ s'=>SP X zd D .next s') zn C) hx0 (B:=ao_0) hk hb hm hin I (Z:=Step G H) (λG2 H2 z=>⟨z.gh,h0.mono z.gg⟩) (λ_ _ _ _ _ _=>hc)
    (D2 ((PI.z hi) zd s σ H (λJ H2=>∃G2,Step G H G2 H2/\ItD X.K G2 J ds) I ⟨G,δ,g0,h0,by rw[e0];exact λJ G2 H2 st it=>⟨G2,st,it⟩⟩) (λxv s₁ h₁=>D2 h₁ (λitv s₂ h₂=>by
     obtain⟨it,fp,tn,J,H2,rfl,I2,T,st2,f2,G2,stp,itd⟩:=h₂;exact⟨it,fp,tn,J,H2,ds,G2,rfl,I2,T,st2,f2,e0,stp,itd⟩) λ_ _ e=>e) λ_ _ e=>e)
    (λds' e'=>by rw[e0]at e';cases e';exact⟨hz,ha⟩) λDa C s1 G2 H2 G' H' vs S ds' e' Io hm' fc z st h1 h2 h3 rl fr=> ?_)) (λ_ s' hq=>C5 (C5 hq)) λ_ _ e=>e)
  rw[e0]at e';cases e';obtain⟨mm,hnm⟩:=hm';obtain⟨c0,c1,c2,c3,c4,c5⟩:=fc;show wpAny _ X.A (assign (.Name y py) X.env (.ref Da)) _ _ _;refine ZA1 (al_1 Io hN hy hx (v:=.ref Da) rfl (λs2 I2 ⟨a,sb,ha⟩=> ?_) hf);have hCa:C≠a:=by
   rcases ha with rfl|ha
   ·exact c1
   ·exact λz=>c4 y a ha z.symm
  refine⟨mm,hnm.sameBut sb hCa,λh' sb'=>⟨_,H',I2.turned (t':=s2.toks) (λb ob hb e=>(sb'.2 b hb).trans e) c0 c1 c3 c4 c5, ?_⟩⟩;refine o (.ref Da) (λb=>b=Da\/S b) G' H' (z.trans st) (λa e=> ?_) (.lst h2 (.inl rfl) (λb q=>⟨.inr q,(fr b q).2.2.1⟩) rl);rcases e with rfl|e
  ·exact⟨z.hh.free h1,h3,by rw[h2];simp⟩
  ·obtain⟨f1,f2,f3,f4⟩:=fr a e;exact⟨z.hh.free f1,f2,f4⟩
def dh_4(js:List Nat){iter tg:Expr}{scope:Scope}{N':List Str}{fi:FI}{fg:Ft}{m i:Nat}{y:Str}{lp py aw:Pos}(hc:X.calm=true)(hi:ID X.nox Ed tg iter fi)(hk:scope.kind=.function)(hb:Gd scope.names X.env.scope.names X.N N'=true)(hm:N'.length=X.N.length + m)
  (hin:∀C s0 H0 fp pn,GC (m_2 X scope (Ds X.env.cells scope.names []) N' C s0 H0 fp pn) Ed tg fg)
  (hN:X.N.Nodup) (hy:X.N[i]? =some y:=by rfl) (hx:Loc X.env.scope y:=by trivial) (hf:X.fn y=true\/X.env.scope.names.lookup y=some .local:=by trivial)
  (hsw:swapsWith (.ListComp (.List [] lp) [⟨tg,iter,[],0⟩] scope pos) (some (.Name y py)) aw.line X.env=pure true:=by rfl)
  (hs:∀x,foldedSetIterable iter X.env x=pure x:=by intro _;rfl):SD X EX (.Assign [.Name y py] (.ListComp (.List [] lp) [⟨tg,iter,[],0⟩] scope pos) aw) (Ah i js (r_6 m fi fg)):=
 PS.imp (PS.nox (cv_4 (X:=X.nox) (λ_ _ z=>z) hc hi hk hb hm hin hN hy hx hf hsw hs)) λD σ H ⟨H0,G0,G,Δ,O,E,q⟩=>by
  refine au_6 (EX:=Ed) (js:=js) ⟨H0,G0,G,Δ,O,E, ?_⟩;cases e:Ah i js (r_6 m fi fg) Δ with
  |ex x Δ'=>exact(cc_1 (λ_ _ z=>bf_1 z) e).elim
  |_=>rw[e]at q;exact q
end
section
variable{X:Cx}{EX:Bb}{pos:Pos}
def ce_2(i:Nat)(fn f:FE):FS:=λ Δ=>match(Δ[i]?).bind Sl.tree with
 |some (t,lk)=>(match fn (Bg Δ) with
  | .ok wn=>(match wn.d with
   | .int k=>if 0<=k then(match t.kid k.toNat with
    |some ds=>if ds.length < 16777216 then(match f (Bg Δ) with
     | .ok w=> .nx (Δ.set i (Sl.mk lk (t.setKid k.toNat (ds ++ [w.d]))))
     |_=> .no) else .no
    |none=> .no) else .no
   |_=> .no)
  |_=> .no)
 |none=> .no
def dh_5{i:Nat}{x:Str}{en e:Expr}{fn f:FE}{p1 p2 zh zf:Pos}(hn:ED X EX en fn)(he:ED X EX e f)(hN:X.N[i]? =some x:=by rfl)(hv:Vis X.env.scope x:=by trivial)(hd:AG x:=by decide)
  (hcd:(x ==("__classdict__" :Str))=false:=by decide) (hn1:bh_1 en:=by intro _ _;rfl)
  (hsw:swapsWith (.Call (.Attribute (.Subscript (.Name x p1) en p2) "append" zh) [e] [] zf) none pos.line X.env=pure false:=by rfl)
  (af:attributeBase (.Subscript (.Name x p1) en p2) "append" X.env (eval (.Subscript (.Name x p1) en p2) X.env)=eval (.Subscript (.Name x p1) en p2) X.env:=by rfl)
  (az:((backTo zf (starEach [e] X.env)).all (λx=> !x.1) && (backToKw zf (keywordEach [] X.env)).all (λx=>x.1.isSome)
   && decide ([e].length + ([]:List Keyword).length + (if([]:List Keyword).isEmpty then 0 else 1) < 30))=true:=by rfl)
  (ag:(zh.endLine ==zf.line)=true:=by rfl) (hs:starEach [e] X.env=(false,eval e X.env)::starEach [] X.env:=by rfl) (aa:(backTo zf (starEach [] X.env)).any (·.1)=false:=by rfl):
  SD X EX (.Expr (.Call (.Attribute (.Subscript (.Name x p1) en p2) "append" zh) [e] [] zf) pos) (ce_2 i fn f):=
 PS.imp (ah_7 (cb_4 V4 U4 U5 w_0 (dj_8 ix_q (o_1 hN hv hd hcd) hn hn1) (h_8 he o_2 hs) af az ag hs aa) hsw) λD σ H ⟨H0,G0,G,Δ,O,E,q⟩=>by
  unfold ce_2 at q
  split at q
  ·rename_i t lk e0;obtain⟨s,e1,etr⟩:=V5.mp e0;obtain⟨v00,s1,_⟩:=E.ow i _ _ e1 (Sl.tree_own etr);cases en':fn (Bg Δ) with
   |ex x=>simp only[en']at q;exact q.elim
   |no=>simp only[en']at q;exact q.elim
   |ok wn=>
    simp only[en']at q;refine⟨v00,s1,G,Bg Δ,E.st.gh,E.gsh, ?_⟩;rw[en'];refine WP.intro λy G1 H1 st1 r1=> ?_;revert q r1;cases wn.d with
    |int k=>
     intro q r1;cases r1;have E1:=E.grow st1;obtain⟨v0,s1',t0⟩:=E1.ow i _ _ e1 (Sl.tree_own etr);rw[s1]at s1';cases s1';simp only at q
     split at q
     ·rename_i hk
      split at q
      ·rename_i ds ek
       split at q
       ·rename_i hz;obtain⟨a,vs,c,cs,rfl,hA,hc1,mc,hca,hcs,rc,_⟩:=t0.kid ek;have ik:((k.toNat:Nat):Int)=k:=Int.toNat_of_nonneg hk;have at':∀{Q:VK},Q (.ref c) H1->rIxQ X.K (.ref a) (.int k) H1 Q:=λ{Q} z=>by
         have:=rIxQ.at (K:=X.K) (Q:=Q) hA hc1 z;rw[ik]at this;exact this
        refine at' ⟨.inl ⟨rfl,_,SqL.of hcs⟩, ?_⟩;refine⟨G1,Bg Δ,E1.st.gh,E1.gsh, ?_⟩;cases e2:f (Bg Δ) with
        |ex x=>simp only[e2]at q;exact q.elim
        |no=>simp only[e2]at q;exact q.elim
        |ok w=>
         simp only[e2]at q;refine WP.intro λv G' H' st r=> ?_;have E2:=E1.grow st;obtain⟨v0',s1',t2⟩:=E2.ow i _ _ e1 (Sl.tree_own etr);rw[s1]at s1';cases s1';obtain⟨a',vs',c',cs',ea,hA',ej,mc',jl,fj,rc',fin⟩:=t2.kid ek;cases ea;have hvv:vs'=vs:=by
          rcases hA with z|z <;> rcases hA' with z'|z' <;> (rw[st.hh _ _ z]at z';cases z';try rfl)
         subst hvv;rw[hc1]at ej;cases ej;rw[st.hh _ _ hcs]at fj;cases fj;refine⟨c,cs,v,rfl,rfl,st.hh _ _ hcs,by rw[rc.length,D5];exact hz,q σ G' _ _ (E2.writeIn e1 etr s1 mc' (fin (λb o _ nb z=>by rw[Ba nb];exact z) Cb (rc'.append (.cons r .nil)))) (st1.gg.trans st.gg)⟩
       ·exact q.elim
      ·exact q.elim
     ·exact q.elim
    |_=>intro q _;exact q.elim
  ·exact q.elim
end
end L3
local macro_rules|`(#v[])=>`(L3.Ac)|`(#v[$n:num])=>`(L3.Aa (L3.Ab $n) L3.Ac)|`(#v[$x])=>`(L3.Aa $x L3.Ac)|`(#v[$n:num,$xs,*])=>`(L3.Aa (L3.Ab $n) #v[$xs,*])|`(#v[$x,$xs,*])=>`(L3.Aa $x #v[$xs,*])
namespace My
open PySem L2 L3
def bf_2:FS:=
  (Af (Bs [0,1] (Ao (Ae ltD (Ab 1) (Ak Df #v[0])))
   (As [0,1] (Ae Bw (Ab 0) (Ab 1)))
   Ay)
  (As [] (eC (.int 0))))
def j_9:List D->R W:=Al 2 bf_2
def bf_3:FS:=
  (Af (Ah 2 [0,1] (Ae Br (Ae El (Ae Az (Ab 0) (eC (.int 1))) (Ae Az (eC (.int 48271)) (Ae El (eC (.int 118)) (Ab 1)))) (eC (.int 2147483629))))
  (As [1,2] (Ae Br (Ae Az (Ae Az (Ae El (Ae Ck (Ab 2) (eC (.int 977))) (eC (.int 16807))) (Ae El (Ab 2) (Ae Az (Ae El (Ab 1) (Ab 1)) (eC (.int 7))))) (Ab 1)) (eC (.int 2147483587)))))
def g_7:List D->R W:=Al 3 bf_3
def ax_3:FS:=
  (As [0,1] (Au 2 g_7 #v[Ae Br (Au 2 j_9 #v[0,1]) (eC (.int 2147483647)),Ae Az (Ab 1) (eC (.int 101))]))
def g_9:List D->R W:=Al 2 ax_3
def ao_7:FS:=
  (As [0] (Ae Az (Ae El (Ae Az (Ae El (Au 2 g_7 #v[0,eC (.int 1)]) (eC (.int 2147483587))) (Au 2 g_7 #v[0,eC (.int 2)])) (eC (.int 2147483587))) (Au 2 g_7 #v[0,eC (.int 3)])))
def m_4:List D->R W:=Al 1 ao_7
def v_4:FE:=
  (Au 2 j_9 #v[0,Ae Az (Ab 1) (Ab 5)])
def v_5:FE:=
  (Au 1 m_4 #v[Au 2 g_7 #v[Au 2 g_9 #v[0,Ae Az (Ab 1) (Ae Br (Ab 5) (Ak maxD #v[eC (.int 1),3]))],5]])
def ac_1:FS:=
  (Af (Ah 3 [0,1] (Ak maxD #v[eC (.int 0),Ae Ej (Ak Df #v[0]) (Ab 1)]))
  (Af (Bs [0] (Ao (Ae Cj (Ae Br (Au 2 j_9 #v[0,eC (.int 0)]) (eC (.int 2))) (eC (.int 0))))
   (As [0,1,2,3] (Cl 1 (Bh Dw #v[Ak minD #v[2,3]]) (gC 5) (λ_=> .ok true) v_4))
   Ay)
  (Af (Ah 4 [0,2,3] (Ak minD #v[2,Ak maxD #v[3,Ae Az (eC (.int 1)) (Ae Br (Au 2 g_9 #v[0,eC (.int 0)]) (Ab 2))]]))
  (As [0,1,3,4] (Cl 1 (Bh Dw #v[4]) (gC 5) (λ_=> .ok true) v_5)))))
def o_9:List D->R W:=Al 5 ac_1
def ac_2:FS:=
  (Af (Ah 2 [2,5] (Ae Ck (Ab 2) (Ae Bw (Aw #v[eC (.int 12),eC (.int 39)]) (Ak Gi #v[Ae gtD (Ab 5) (eC (.int 0))]))))
  (Ah 3 [1,2,3] (Ae Az (Ab 3) (Ae Bw (Ab 1) (Ae Br (Ab 2) (eC (.int 39)))))))
def ae_1:FS:=
  (Af (Ah 1 [] (eC (.str "abcdefghijklmnopqrstuvwxyz0123456789-_ ")))
  (Af (Ah 2 [0] (Ae Ck (Ab 0) (eC (.int 3))))
  (Af (Bs [0] (Ao (Ae Cj (Ae Br (Ab 0) (eC (.int 3))) (eC (.int 0))))
   (As [2] (Ae Br (Ab 2) (Ae Fh (eC (.int 10)) (eC (.int 18)))))
   Ay)
  (Af (Bs [0] (Ao (Ae Cj (Ae Br (Ab 0) (eC (.int 3))) (eC (.int 2))))
   (As [2] (Ae Br (Ab 2) (eC (.int 50))))
   Ay)
  (Af (Ah 3 [] (eC (.str "")))
  (Af (Ah 4 [2] (Ae Br (Ab 2) (eC (.int 12))))
  (Af (Bv [4] (Bh Dw #v[4]) (gV 5) ac_2)
  (Cf 3))))))))
def p_0:List D->R W:=Al 6 ae_1
def s_8:FS:=
  (Af (Ah 5 [4] (Au 1 p_0 #v[4]))
  (Bs [3,5] (Ao (Ae (inD true) (Ab 5) (Ab 3)))
   (sApp 3 (Ab 5))
   Ay))
def ah_3:FS:=
  (Af (Ah 3 [] (Aw Ac))
  (Af (Bv [0,1,2] (Cg (Au 3 o_9 #v[0,1,2])) (gV 4) s_8)
  (Af (Bs [3] (Ao (Ae Cj (Ab 3) (Aw Ac)))
   (Ah 3 [0] (Aw #v[Au 1 p_0 #v[Ae Ck (Au 2 j_9 #v[0,eC (.int 0)]) (eC (.int 2))]]))
   Ay)
  (Cf 3))))
def q_8:List D->R W:=Al 6 ah_3
def v_6:FS:=
  (Af (Ah 1 [0] (Ae Bw (Aw #v[eC (.int 1),Ae Az (eC (.int 1)) (Ae Br (Ae Ck (Ab 0) (eC (.int 8))) (eC (.int 9))),Ae Az (Ae Fh (eC (.int 10)) (eC (.int 20))) (Ae Br (Ae Ck (Ab 0) (eC (.int 8))) (Ae Fh (eC (.int 10)) (eC (.int 9))))]) (Ae Br (Ae Ck (Ab 0) (eC (.int 2))) (eC (.int 3)))))
  (Af (Bs [0] (Ao (Ae Cj (Ae Br (Ab 0) (eC (.int 2))) (eC (.int 0))))
   (As [0,1] (Ae Bw (Aw #v[Ae Ej (eC (.int 0)) (Ab 1),Ae Az (Ae Ej (Ae Fh (eC (.int 10)) (eC (.int 18))) (eC (.int 1))) (Ab 1)]) (Ae Br (Ae Ck (Ab 0) (eC (.int 64))) (eC (.int 2)))))
   Ay)
  (Af (Ah 2 [0] (Ae Az (Ae Az (Ae mulT (eC (.str "a")) (Ae Br (Ae Ck (Ab 0) (eC (.int 64))) (eC (.int 9)))) (Ae Bw (eC (.str "A.?")) (Ae Br (Ae Ck (Ab 0) (eC (.int 8))) (eC (.int 3))))) (eC (.str "z"))))
  (As [0,2] (Ae Bw (Aw #v[Ae mulT (eC (.str "k")) (Ae Az (eC (.int 12)) (Ae Br (Ae Ck (Ab 0) (eC (.int 64))) (eC (.int 3)))),2,eC (.str "a\n")]) (Ae Br (Ae Ck (Ab 0) (eC (.int 2))) (eC (.int 3))))))))
def j_2:List D->R W:=Al 3 v_6
def n_1:FE:=
  (Ae Br (Ab 6) (eC (.int 200)))
def t_8:FS:=
  (Af (Ah 2 [1] (Ae Br (Ab 1) (eC (.int 6))))
  (Af (Ah 3 [0,1] (Ae Br (Ae Ck (Ab 1) (eC (.int 6))) (Ae Az (Ak Df #v[0]) (eC (.int 1)))))
  (Af (Ah 4 [1] (Au 1 j_2 #v[Ae Ck (Ab 1) (eC (.int 300))]))
  (Af (Bs [2] (Ao (Ae Cj (Ab 2) (eC (.int 0))))
   (Af (Ah 5 [1,4] (Ae Az (eRng Dw #v[Ae Az (eC (.int 201)) (Ae Br (Ae Ck (Ab 1) (eC (.int 6))) (eC (.int 9)))]) (eRep #v[4] (Ae Br (Ae Ck (Ab 1) (eC (.int 60))) (eC (.int 2))))))
  (As [1,5] (Ae Bw (Aw #v[Aw Ac,5]) (Ae Br (Ae Ck (Ab 1) (eC (.int 120))) (eC (.int 2))))))
   Ay)
  (Af (Bs [2] (Ao (Ae Cj (Ab 2) (eC (.int 1))))
   (As [] (Cl 1 (Bh Dw #v[eC (.int 201)]) (gC 6) (λ_=> .ok true) n_1))
   Ay)
  (Af (Bs [2] (Ao (Ae Cj (Ab 2) (eC (.int 2))))
   (As [0,3,4] (Ae Az (Ae Az (Bj (Ab 0) Cy (Co (Ab 3))) (Aw #v[4])) (Bj (Ab 0) (Co (Ab 3)) Cy)))
   Ay)
  (Af (Bs [2] (Ao (Ae Cj (Ab 2) (eC (.int 3))))
   (As [0,3,4] (Ae Az (Ae Az (Ae Az (Bj (Ab 0) Cy (Co (Ab 3))) (Aw #v[4])) (Bj (Ab 0) (Co (Ab 3)) Cy)) (Aw #v[4,Ae Bw (Ab 0) (eC (.int 0))])))
   Ay)
  (Af (Bs [2] (Ao (Ae Cj (Ab 2) (eC (.int 4))))
   (As [0,1,3] (Ae Az (Ae Az (Bj (Ab 0) Cy (Co (Ab 3))) (Aw #v[Ae Bw (Ab 0) (Ae Br (Ae Ck (Ab 1) (eC (.int 60))) (Ak Df #v[0]))])) (Bj (Ab 0) (Co (Ab 3)) Cy)))
   Ay)
  (As [0,1] (Ae Az (Ab 0) (Bj (Ab 0) Cy (Co (Ae Az (eC (.int 1)) (Ae Br (Ae Ck (Ab 1) (eC (.int 60))) (Ak Df #v[0])))))))))))))))
def m_5:List D->R W:=Al 6 t_8
def f_6:FS:=
  (Af (Bs [0,2] (Dt (Ao (Ae (inD true) (Ab 2) (eC (.str "abcdefghijklmnopqrstuvwxyz0123456789-_ ")))) (Ao (Ae gtD (Ak Df #v[0]) (eC (.int 11)))))
   (As [] (eC .non))
   Ay)
  (Ah 1 [1,2] (Ae Az (Ae Az (Ae El (Ab 1) (eC (.int 40))) (eMeth "str" ag_8 (eC (.str "abcdefghijklmnopqrstuvwxyz0123456789-_ ")) #v[2])) (eC (.int 1)))))
def p_1:FS:=
  (Af (Bs [0] (Bf (eIs "int" (Ab 0)))
   (As [0] (Ae Bw (Aw #v[eC .non,Ae El (eC (.int 2)) (Ab 0)]) (Ak Gi #v[u_8 leD ltD (eC (.int 0)) (Ab 0) (Ae Fh (eC (.int 10)) (eC (.int 18)))])))
   Ay)
  (Af (Ah 1 [] (eC (.int 0)))
  (Af (Bv [0] (Cg (Ab 0)) (gV 2) f_6)
  (As [1] (Ae Az (Ae El (eC (.int 2)) (Ab 1)) (eC (.int 1)))))))
def d_8:List D->R W:=Al 3 p_1
def g_5:FS:=
  (Bs [2] (Ao (Ae (Ee false) (Au 1 d_8 #v[2]) (eC .non)))
   (As [1] (Aw #v[eC (.str "key"),1]))
   Ay)
def g_6:FS:=
  (Bs [0,1,2] (Ao (Ae (inD false) (Ab 2) (Bj (Ab 0) Cy (Co (Ab 1)))))
   (As [1] (Aw #v[eC (.str "twice"),1]))
   Ay)
def t_0:FS:=
  (Af (Bs [0] (Dt (Ao (Ae ltD (Ak Df #v[0]) (eC (.int 1)))) (Ao (Ae gtD (Ak Df #v[0]) (eC (.int 200)))))
   (As [] (Aw #v[eC (.str "keys"),eC (.int 0)]))
   Ay)
  (Af (Bv [0] (t_5 (Ab 0)) (gV2 1 2) g_5)
  (Af (Bv [0] (t_5 (Ab 0)) (gV2 1 2) g_6)
  (As [] (eC .non)))))
def k_0:List D->R W:=Al 3 t_0
def ao_8:FS:=
  (Af (Ah 3 [] (eC (.int 2305843009213693951)))
  (Af (Ah 4 [1,3] (Ae Az (eC (.int 1)) (Ae Br (Ae Az (Ae El (eC (.int 1103515245)) (Ab 1)) (eC (.int 12345))) (Ae Ej (Ab 3) (eC (.int 1))))))
  (Af (Ah 5 [1,3] (Ae Br (Ae Az (Ae El (Ae El (eC (.int 69069)) (Ab 1)) (Ab 1)) (Ae El (eC (.int 7)) (Ab 1))) (Ab 3)))
  (Af (Ah 6 [0,3,4,5] (Ae Br (Ae Az (Ae El (Ab 4) (Ab 0)) (Ab 5)) (Ab 3)))
  (As [2,6] (Ae Br (Ae Az (Ab 6) (Ae Ck (Ab 6) (eC (.int 2147483648)))) (Ab 2)))))))
def i_1:List D->R W:=Al 7 ao_8
def i_3:FS:=
  (ce_2 2 (Au 3 i_1 #v[Au 1 d_8 #v[3],eC (.int 0),1]) (Au 1 d_8 #v[3]))
def w_9:FS:=
  (Af (Ah 2 [1] (r_6 1 (Bh Dw #v[1]) (gC 4)))
  (Af (Bv [0] (Cg (Ab 0)) (gV 3) i_3)
  (Cf 2)))
def k_1:List D->R W:=Al 4 w_9
def h_0:FE:=
  (Ak Df #v[3])
def o_0:FT:=
  (Ao (Ae Cj (Ak Df #v[Ae Bw (Ab 0) (Ab 3)]) (Ab 2)))
def i_7:FS:=
  (Ah 1 [0,1,2] (Ae Az (Ab 1) (Cl 1 (Bh Dw #v[Ak Df #v[0]]) (gC 3) o_0 (Ab 3))))
def af_9:FS:=
  (Af (Ah 1 [] (Aw Ac))
  (Af (Bv [0] (Bh rngR #v[(Ae Az (eC (.int 1)) (Ak Fz #v[(Cl 1 (Cg (Ab 0)) (gC 3) (λ_=> .ok true) h_0)]))]) (gV 2) i_7)
  (Cf 1)))
def j_3:List D->R W:=Al 3 af_9
def n_2:FE:=
  (Au 3 i_1 #v[5,Ae Az (Ab 1) (eC (.int 1)),3])
def s_9:FT:=
  (Ao (Ae (inK false) (Ab 5) (Ab 2)))
def ax_4:FS:=
  (Af (Ah 4 [0,1,3] (Cl 1 (Cg (Ab 0)) (gC 5) (λ_=> .ok true) n_2))
  (Af (Bs [4] (Ao (Ae ltD (ad_7 (Ab 4)) (Ak Df #v[4])))
   (As [] (eC (.bl false)))
   Ay)
  (As [2,4] (Ae Cj (Cl 1 (Cg (Ab 4)) (gC 5) s_9 (Ab 5)) (Aw Ac)))))
def z_4:List D->R W:=Al 5 ax_4
def n_7:FT:=
  (tAndF (Ao (Ae ltD (Ab 7) (Ab 2))) (Ci (Bf (Au 4 z_4 #v[Ae Bw (Ab 3) (Ab 6),7,4,Ak Df #v[0]]))))
def v_7:FS:=
  (Ah 7 [7] (Ae Az (Ab 7) (eC (.int 1))))
def n_8:FS:=
  (w_4 4 [] (Au 3 i_1 #v[8,Ae Az (Ab 7) (eC (.int 1)),Ak Df #v[0]]) (eC (.bl true)))
def f_7:FS:=
  (Af (Ah 7 [] (eC (.int 0)))
  (Af (n_4 [0,2,3,4,6,7] n_7 v_7 3000)
  (Af (Bs [2,7] (Ao (Ae Cj (Ab 7) (Ab 2)))
   (Cf 6)
   Ay)
  (Af (bq_2 5 (Ab 6) (Ab 7))
  (Bv [3,6] (Cg (Ae Bw (Ab 3) (Ab 6))) (gV 8) n_8)))))
def ao_9:FS:=
  (Af (Ah 3 [0,1] (Au 2 k_1 #v[0,1]))
  (Af (Ah 4 [] u_4)
  (Af (Ah 5 [1] (eRep #v[eC (.int 0)] (Ab 1)))
  (Af (Bv [3] (Cg (Au 1 j_3 #v[3])) (gV 6) f_7)
  (Cf 5)))))
def r_2:List D->R W:=Al 9 ao_9
def ba_8:FE:=
  (Ak Gi #v[2])
abbrev L51:List (Str×Bool):=[("NoFit",false),("NoKey",true),("NoKeys",false),("Twice",false)]
abbrev L52:List (Str×Bool):=[("NoFit",true),("NoKey",false),("NoKeys",false),("Twice",false)]
abbrev L53:List (Str×Bool):=[("NoFit",false),("NoKey",false),("NoKeys",true),("Twice",false)]
abbrev L54:List (Str×Bool):=[("NoFit",false),("NoKey",false),("NoKeys",false),("Twice",true)]
abbrev L55:List (Str×Bool):=[("NoFit",false),("NoKey",false),("NoKeys",false),("Twice",false)]
abbrev L56:List (Str×Bool):=[("NoFit",true),("NoKey",true),("NoKeys",true),("Twice",true)]
def bt_5:FS:=
  (Af (Bs [0] (Dt (Ci (Bf (Eg L56 (Ab 0)))) (Ci (Bf (Eg L56 (Ab 0)))))
   (As [] (eC (.int 0)))
   Ay)
  (Af (Ah 1 [0] (Aw #v[Eg L52 (Ab 0),Eg L51 (Ab 0)]))
  (Af (Ah 1 [0,1] (Ae Az (Ab 1) (Aw #v[Eg L53 (Ab 0),Eg L54 (Ab 0)])))
  (Af (Bs [0] (Bf (Eg L55 (Ab 0)))
   (As [] (eC (.int 0)))
   Ay)
  (Af (Bs [0] (Bf (Eg L55 (Ab 0)))
   (As [] (eC (.int 0)))
   Ay)
  (As [1] (Ak sumD #v[(Cl 1 (iLst (Ab 1)) (gC 2) (λ_=> .ok true) ba_8)])))))))
def m_6:List D->R W:=Al 2 bt_5
def h_1:FE:=
  (Ae (inD false) (Ab 1) (eC (.str "abcdefghijklmnopqrstuvwxyz0123456789-_ ")))
def r_0:FS:=
  (As [0] (eAnd (Ae leD (Ak Df #v[0]) (eC (.int 11))) (Ak allD #v[(Cl 1 (Cg (Ab 0)) (gC 1) (λ_=> .ok true) h_1)])))
def i_2:List D->R W:=Al 1 r_0
def x_0:FS:=
  (Af (Bs [0] (Bf (eIs "bool" (Ab 0)))
   (As [] (eC (.bl false)))
   Ay)
  (Af (Bs [0] (Bf (eIs "int" (Ab 0)))
   (As [0] (u_8 leD leD (eC (.int 0)) (Ab 0) (eC (.int 999999999999999999))))
   Ay)
  (As [0] (eAnd (eIs "str" (Ab 0)) (Au 1 i_2 #v[0])))))
def m_7:List D->R W:=Al 1 x_0
def g_8:FS:=
  (Bs [2] (Ci (Bf (Au 1 m_7 #v[2])))
   (r_5 "NoKey" "at" [1] (Ab 1))
   Ay)
def r_7:FS:=
  (Bv [0] (t_5 (Ab 0)) (gV2 1 2) g_8)
def e_0:List D->R W:=Al 3 r_7
def h_2:FS:=
  (Af (Bs [1,3] (Ao (Ae (inK false) (Ab 3) (Ab 1)))
   (r_5 "Twice" "at" [2] (Ab 2))
   Ay)
  (w_4 1 [] (Ab 3) (eC (.bl true))))
def v_8:FS:=
  (Af (Ah 1 [] u_4)
  (Bv [0] (t_5 (Ab 0)) (gV2 2 3) h_2))
def j_4:List D->R W:=Al 4 v_8
def p_2:FS:=
  (Af (Bs [0] (Dt (Ao (Ae Cj (Ak Df #v[0]) (eC (.int 0)))) (Ao (Ae gtD (Ak Df #v[0]) (eC (.int 200)))))
   (as_4 "NoKeys")
   Ay)
  (Af (Cc [0] (Au 1 e_0 #v[0]))
  (Af (Cc [0] (Au 1 j_4 #v[0]))
  (As [0] (Ak Df #v[0])))))
def c_9:List D->R W:=Al 1 p_2
def ce_3:FS:=
  (Af (Bs [2] (Ao (Ae Cj (Ab 2) (eC (.int 0))))
   (As [] (eC (.int 0)))
   Ay)
  (Af (Ah 3 [1] (Ae Az (eC (.int 1)) (Ae Br (Ae Az (Ae El (eC (.int 1103515245)) (Ab 1)) (eC (.int 12345))) (Ae Ej (eC (.int 2305843009213693951)) (eC (.int 1))))))
  (Af (Ah 4 [1] (Ae Br (Ae Az (Ae El (Ae El (eC (.int 69069)) (Ab 1)) (Ab 1)) (Ae El (eC (.int 7)) (Ab 1))) (eC (.int 2305843009213693951))))
  (Af (Ah 5 [0,3,4] (Ae Br (Ae Az (Ae El (Ab 3) (Ab 0)) (Ab 4)) (eC (.int 2305843009213693951))))
  (As [2,5] (Ae Br (Ae Az (Ab 5) (Ae Ck (Ab 5) (eC (.int 2147483648)))) (Ab 2)))))))
def ae_2:List D->R W:=Al 6 ce_3
def ap_0:FS:=
  (As [0,1] (Au 3 ae_2 #v[0,eC (.int 0),1]))
def m_8:List D->R W:=Al 2 ap_0
def d_0:FS:=
  (sSdb 2 (Au 2 m_8 #v[3,1]) (Ab 3))
def t_9:FS:=
  (Af (Ah 2 [] u_4)
  (Af (Bv [0] (Cg (Ab 0)) (gV 3) d_0)
  (Cf 2)))
def i_4:List D->R W:=Al 4 t_9
def bf_4:FS:=
  (As [0,1,2] (Au 3 ae_2 #v[0,Ae Az (Ab 1) (eC (.int 1)),2]))
def q_9:List D->R W:=Al 3 bf_4
def f_8:FS:=
  (Af (Ah 6 [1,2,5] (Au 3 q_9 #v[5,1,2]))
  (Af (Bs [3,4,6] (Dt (Ao (Ae (inK false) (Ab 6) (Ab 3))) (Ao (Ae (inK false) (Ab 6) (Ab 4))))
   (As [] (eC (.bl false)))
   Ay)
  (w_4 4 [] (Ab 6) (eC (.bl true)))))
def ap_1:FS:=
  (Af (Ah 4 [] u_4)
  (Af (Bv [0] (Cg (Ab 0)) (gV 5) f_8)
  (As [] (eC (.bl true)))))
def u_5:List D->R W:=Al 7 ap_1
def e_1:FS:=
  (Bs [0,1,2,4] (Bf (Au 4 u_5 #v[0,4,1,2]))
   (Cf 4)
   Ay)
def ac_3:FS:=
  (Af (Bv [3] (Bh Dw #v[3]) (gV 4) e_1)
  (As [] (eC .non)))
def k_2:List D->R W:=Al 5 ac_3
def b_6:FE:=
  (Fa #v[eNeg (Ak Df #v[Ae Ff (Ab 3) (Ab 9)]),9])
def g_4:FS:=
  (w_4 4 [] (Au 3 q_9 #v[8,7,Ak Df #v[0]]) (eC (.bl true)))
def c_0:FS:=
  (Af (bt_2 7 (bt_1 [4] (Au 4 k_2 #v[Ae Ff (Ab 3) (Ab 6),Ak Df #v[0],4,2])))
  (Af (Bs [7] (Ao (Ae (Ee false) (Ab 7) (eC .non)))
   (r_5 "NoFit" "at" [6] (Ab 6))
   Ay)
  (Af (w_4 5 [7] (Ab 6) (Ab 7))
  (Bv [3,6] (Cg (Ae Ff (Ab 3) (Ab 6))) (gV 8) g_4))))
def s_0:FS:=
  (Af (Ah 3 [0,1] (Au 2 i_4 #v[0,1]))
  (Af (Ah 4 [] u_4)
  (Af (Ah 5 [] u_4)
  (Af (Bv [3] (Cg (ac_0 b_6 (Ab 3))) (gV 6) c_0)
  (Cf 5)))))
def d_6:List D->R W:=Al 9 s_0
def am_4:FS:=
  (Ah 1 [1,2] (Ae Az (Ae Az (Ae El (eC (.int 40)) (Ab 1)) (eMeth "str" bq_0 (eC (.str "abcdefghijklmnopqrstuvwxyz0123456789-_ ")) #v[2])) (eC (.int 1))))
def ce_4:FS:=
  (Af (Ah 1 [] (eC (.int 0)))
  (Af (Bv [0] (Cg (Ab 0)) (gV 2) am_4)
  (Cf 1)))
def aj_6:List D->R W:=Al 3 ce_4
def as_7:FS:=
  (Af (Bs [0] (Ci (Bf (Au 1 m_7 #v[0])))
   (r_5 "NoKey" "at" [] (eC (.int 0)))
   Ay)
  (Af (Bs [0] (Bf (eIs "str" (Ab 0)))
   (As [0] (Ae Az (Ae El (eC (.int 2)) (Au 1 aj_6 #v[0])) (eC (.int 1))))
   Ay)
  (As [0] (Ae El (eC (.int 2)) (Ab 0)))))
def l_7:List D->R W:=Al 1 as_7
def v_9:FS:=
  (Fb 0 ["Buckets"] "how_many" [1] (Ab 1))
def c_2:List D->R (List Str×List D):=aw_2 2 "Buckets" v_9
def f_4:FE:=
  (Au 1 l_7 #v[4])
def o_5:FS:=
  (Af (y_9 0 "Buckets" [1] c_2 (Au 1 c_9 #v[1]))
  (Af (Fb 0 ["Buckets"] "many_buckets" [2] (Ab 2))
  (Fb 0 ["Buckets"] "by_bucket" [1,2,3] (Au 3 d_6 #v[(Cl 1 (Cg (Ab 1)) (gC 4) (λ_=> .ok true) f_4),2,3]))))
def e_4:List D->R (List Str×List D):=aw_2 4 "Buckets" o_5
def n_3:FS:=
  (Cc [0,1,2] (ao_3 "Buckets" 3 e_4 #v[0,1,2]))
def aj_7:FS:=
  (Ah 3 [4] (Aw #v[eC (.str "keys"),eC (.int 0),Au 1 m_6 #v[4]]))
abbrev Lf:List Str:=["NoFit","NoKey","Twice"]
def aj_8:FS:=
  (Ah 3 [4] (Aw #v[eC (.str "key"),Em Lf "at" (Ab 4),Au 1 m_6 #v[4]]))
def aj_9:FS:=
  (Ah 3 [4] (Aw #v[eC (.str "twice"),Em Lf "at" (Ab 4),Au 1 m_6 #v[4]]))
def ak_0:FS:=
  (Ah 3 [4] (Aw #v[eC (.str "fit"),Em Lf "at" (Ab 4),Au 1 m_6 #v[4]]))
def u_0:FS:=
  (Af (Ah 3 [] (eC .non))
  (Af (ao_4 n_3 [⟨some 4, L53,aj_7⟩,⟨some 4, L51,aj_8⟩,⟨some 4, L54,aj_9⟩,⟨some 4, L52,ak_0⟩])
  (Cf 3)))
def h_3:List D->R W:=Al 5 u_0
def u_6:FS:=
  (Af (Ah 3 [0] (Ak au_4 #v[0]))
  (Af (Ah 4 [0] (Au 1 k_0 #v[0]))
  (Af (Bs [4] (Ao (Ae (Ee false) (Ab 4) (eC .non)))
   (Af (Ah 6 [0,1,2] (Au 3 r_2 #v[0,1,2]))
  (Bs [6] (Bf (eIs "int" (Ab 6)))
   (Ah 4 [6] (Aw #v[eC (.str "fit"),6]))
   Ay))
   Ay)
  (Af (Ah 5 [1,2,3] (Au 3 h_3 #v[3,1,2]))
  (Af (Bs [0,3,4,5] (Dt (Ao (Ae neD (Ab 3) (Ab 0))) (Dt (Ao (Ae (Ee false) (Ab 5) (eC .non))) (Ao (Ae (Ee false) (Ab 4) (eC .non)))))
   (As [0,3,4,5] (eAnd (Ae Cj (Ab 3) (Ab 0)) (eAnd (Ae (Ee false) (Ab 5) (eC .non)) (Ae (Ee false) (Ab 4) (eC .non)))))
   Ay)
  (As [4,5] (eAnd (Ae Cj (Ab 5) (Ae Az (Ab 4) (Aw #v[eC (.int 1)]))) (eNot (eIs "bool" (Ae Bw (Ab 5) (eC (.int 1))))))))))))
def d_9:List D->R W:=Al 7 u_6
def ae_7:FS:=
  (As [0,1] (dk_2 (eFld ["Buckets"] "by_bucket" (Ab 0)) (Ab 1) (eC (.int 0))))
def h_6:List D->R W:=Al 2 ae_7
def x_1:FS:=
  (As [0,1] (Au 2 m_8 #v[Au 1 l_7 #v[1],eFld ["Buckets"] "many_buckets" (Ab 0)]))
def d_5:List D->R W:=Al 2 x_1
def s_1:FS:=
  (As [0,1] (Au 3 q_9 #v[Au 1 l_7 #v[1],t_6 "number_in" 1 [("Buckets",h_6)] (Ab 0) #v[t_6 "bucket" 1 [("Buckets",d_5)] (Ab 0) #v[1]],eFld ["Buckets"] "how_many" (Ab 0)]))
def c_6:List D->R W:=Al 2 s_1
def ac_4:FS:=
  (As [0,1] (Ak minD #v[t_6 "number_of" 1 [("Buckets",c_6)] (Ab 0) #v[1],Ae Ej (eFld ["Buckets"] "how_many" (Ab 0)) (eC (.int 1))]))
def e_8:List D->R W:=Al 2 ac_4
def ak_1:FE:=
  (t_6 "room" 1 [("Buckets",e_8)] (Ab 0) #v[2])
def aa_3:FS:=
  (Af (Cc [1] (Au 1 e_0 #v[1]))
  (As [0,1] (Cl 1 (Cg (Ab 1)) (gC 2) (λ_=> .ok true) ak_1)))
def f_0:List D->R W:=Al 2 aa_3
def k_3:FS:=
  (Bs [1] (Ao (Ae Cj (Ab 1) (eC (.int 0))))
   (Cc [0,2] (t_6 "room" 1 [("Buckets",e_8)] (Ab 0) #v[2]))
   (Bs [1] (Ao (Ae Cj (Ab 1) (eC (.int 1))))
   (Cc [0,2] (t_6 "bucket" 1 [("Buckets",d_5)] (Ab 0) #v[2]))
   (Cc [0,2,3] (t_6 "rooms" 1 [("Buckets",f_0)] (Ab 0) #v[Ae Az (Ae Az (Ae Az (Ab 3) (Aw #v[2])) (Ab 3)) (Aw #v[2])]))))
def ac_5:FS:=
  (Ah 4 [5] (Aw #v[Em Lf "at" (Ab 5),Au 1 m_6 #v[5]]))
def ak_2:FS:=
  (Af (Ah 4 [] (eC .non))
  (Af (ao_4 k_3 [⟨some 5, L51,ac_5⟩])
  (As [1,3,4] (Ae Cj (Ab 4) (Aw #v[Ae Bw (Aw #v[eC (.int 0),eC (.int 0),Ak Df #v[3]]) (Ab 1),eC (.int 1)])))))
def i_9:List D->R W:=Al 6 ak_2
def as_8:FS:=
  (Af (Ah 6 [2,3] (Ae Bw (Aw #v[2,eC (.int 0),eC (.int 0),Ae Ck (Ab 2) (eC (.int 9))]) (Ab 3)))
  (Af (Bs [3] (Dt (Ao (Ae Cj (Ab 3) (eC (.int 1)))) (Ao (Ae Cj (Ab 3) (eC (.int 2)))))
   (Ah 6 [0,2,3] (Au 2 g_7 #v[Ae Bw (Aw #v[Ae Br (Ab 2) (eC (.int 2147483647)),Au 2 g_9 #v[0,eC (.int 1)]]) (Ae Ej (Ab 3) (eC (.int 1))),Ae Az (eC (.int 7)) (Ab 3)]))
   Ay)
  (Af (sUnp (gP 8 9) [6] (Ae Bw (Aw #v[Fa #v[eC (.int 1),Ae Az (eC (.int 1)) (Ae Br (Ae Ck (Ab 6) (eC (.int 7))) (eC (.int 3)))],Fa #v[Ae Az (eC (.int 1)) (Ae Br (Ae Ck (Ab 6) (eC (.int 7))) (eC (.int 5))),eC (.int 1)],Fa #v[eC (.int 60),eC (.int 100)],Fa #v[eC (.int 2),eC (.int 200)]]) (Ae Br (Ab 6) (eC (.int 4)))))
  (Af (Ah 7 [1,6] (Au 2 m_5 #v[1,Ae Ck (Ab 6) (eC (.int 64))]))
  (Bs [1,7,8,9] (Dt (Ci (Bf (Au 3 d_9 #v[7,8,9]))) (Ci (Bf (Au 3 d_9 #v[1,8,9]))))
   (As [] (eC (.bl false)))
   Ay)))))
def as_9:FS:=
  (Bs [1,2,4,5] (Ci (Bf (Au 4 i_9 #v[4,5,Au 1 j_2 #v[Au 2 g_7 #v[Ae Br (Ab 2) (eC (.int 2147483647)),5]],1])))
   (As [] (eC (.bl false)))
   Ay)
def bl_6:FS:=
  (Ah 1 [0] (Au 3 q_8 #v[0,eC (.int 2),eC (.int 30)]))
def bl_7:FS:=
  (Ah 2 [0] (Au 2 j_9 #v[0,eC (.int 1)]))
def bl_8:FS:=
  (Bv [] (Bh Dw #v[eC (.int 4)]) (gV 3) as_8)
def bl_9:FS:=
  (Ah 4 [1,2] (ao_3 "Buckets" 3 e_4 #v[Bj (Ab 1) Cy (Co (eC (.int 1))),Ae Az (eC (.int 1)) (Ae Br (Ab 2) (eC (.int 9))),eC (.int 1)]))
def bm_0:FS:=
  (Bv [] (Bh Dw #v[eC (.int 3)]) (gV 5) as_9)
def ce_5:FS:=
  (As [1] (Au 3 d_9 #v[1,eC (.int 1),eC (.int 1)]))
def dk_9:FS:=
  (Af bl_6
  (Af bl_7
  (Af bl_8
  (Af bl_9
  (Af bm_0
  ce_5)))))
def dl_0:List D->R W:=Al 10 dk_9
end My
namespace L3
open PySem L2
def okD:Nat->D->Bool
 |_,.non=>true
 |_,.bl _=>true
 |_,.int _=>true
 |_,.str x=>x.cps.all (· < 0x110000)
 |n + 1,.lst ds=>ds.all (okD n)
 |n + 1,.tup ds=>ds.all (okD n)
 |_,_=>false
def cv_5:∀(n:Nat) (d:D),okD n d=true->(Ea d).canLay0=true/\(Ea d).depth<=n/\(Ea d).eqv (Ea d)=true:=by
 intro n
 induction n with
 |zero=>
  intro d h;cases d with
  |non=>exact⟨rfl,A8 _,rfl⟩
  |bl b=>exact⟨rfl,A8 _,by cases b <;> rfl⟩
  |int i=>exact⟨rfl,A8 _,by show(i ==i)=true;simp⟩
  |str x=>exact⟨h,A8 _,by show(x ==x)=true;simp⟩
  |_=>cases h
 |succ n ih=>
  have all:∀ds:List D,ds.all (okD n)=true->PyData.canLayAll0 (Fp ds)=true/\PyData.depthAll (Fp ds)<=n/\PyData.eqvAll (Fp ds) (Fp ds)=true:=by
   intro ds
   induction ds with
   |nil=>intro _;exact⟨rfl,K0 _,rfl⟩
   |cons d ds ih2=>
    intro h;rw[S7,D0]at h;obtain⟨a1,a2,a3⟩:=ih d h.1;obtain⟨b1,b2,b3⟩:=ih2 h.2;refine⟨?_, ?_, ?_⟩
    ·show(PyData.canLay0 (Ea d) && PyData.canLayAll0 (Fp ds))=true;rw[a1,b1];rfl
    ·show max (PyData.depth (Ea d)) (PyData.depthAll (Fp ds))<=n;exact Nat.max_le.mpr ⟨a2,b2⟩
    ·show(PyData.eqv (Ea d) (Ea d) && PyData.eqvAll (Fp ds) (Fp ds))=true;rw[a3,b3];rfl
  intro d h;cases d with
  |non=>exact⟨rfl,K0 _,rfl⟩
  |bl b=>exact⟨rfl,K0 _,by cases b <;> rfl⟩
  |int i=>exact⟨rfl,K0 _,by show(i ==i)=true;simp⟩
  |str x=>exact⟨h,K0 _,by show(x ==x)=true;simp⟩
  |lst ds=>
   obtain⟨b1,b2,b3⟩:=all ds h;exact⟨b1,Nat.succ_le_succ b2,b3⟩
  |tup ds=>
   obtain⟨b1,b2,b3⟩:=all ds h;exact⟨b1,Nat.succ_le_succ b2,b3⟩
  |_=>cases h
def bt_6{n:Nat}{d:D}(h:okD n d=true)(hn:n<=60):eqC d d=true/\eqvD d d=true:=by
 obtain⟨a1,a2,a3⟩:=cv_5 n d h;refine⟨?_,a3⟩;unfold eqC;rw[a1,F1 (C7 a2 hn)];rfl
def ax_5{d:D}(n:Nat)(h:okD n d=true)(hn:n<=60:=by decide):Cj d d=.ok (.sh (.bl true)):=by
 obtain⟨h1,h2⟩:=bt_6 h hn;unfold Cj
 split
 ·simp
 ·rw[if_pos h1,h2]
def cv_6{d:D}(n:Nat)(h:okD n d=true)(hn:n<=60:=by decide):neD d d=.ok (.sh (.bl false)):=by
 obtain⟨h1,h2⟩:=bt_6 h hn;unfold neD
 split
 ·simp
 ·rw[if_pos h1,h2];rfl
theorem bf_5{α:Type}(f:α->Int):∀l:List α,w_3 (l.map λa=>D.int (f a))=some (l.map f)
 | []=>rfl
 |a::l=>by
  show(w_3 (l.map λa=>D.int (f a))).map (f a:: ·)=_;rw[bf_5 f l];rfl
def dl_1{n i:Nat}(h:i < n):ixN n (i:Int)=some i:=by
 unfold ixN;rw[if_pos (),if_pos ()];simp
def Eh{α:Type}{xs:List α}{i:Nat}{x:α}(h:xs[i]? =some x):atI xs (i:Int)=some x:=by
 unfold atI;rw[dl_1 (A9.mp h).1];exact h
end L3
namespace My
open PySem L2 L3
def cv_7{α:Type}(l:List α)(a:Nat)(h:a<=l.length):Er l none (some (a:Int))=l.take a:=by
 unfold Er;have e1:HT.sIx l.length 0 none=0:=rfl;have e2:HT.sIx l.length l.length (some (a:Int))=a:=by
  show(if(a:Int) < 0 then((a:Int) + (l.length:Int)).toNat else min (a:Int).toNat l.length)=a;rw[if_neg ()];omega
 rw[e1,e2,ZD6,Nat.sub_zero]
def Fd(c k:Int):Int:=((c + 1) * (48271 + 118 * k) % 2147483629 / 977 * 16807 + (c + 1) * (48271 + 118 * k) % 2147483629 * (k * k + 7) + k) % 2147483587
def ac_6(c k:Int)(h1: -1000<=k)(h2:k<=1000):g_7 [.int c,.int k]=.ok (.sh (.int (Fd c k))):=by
 have hk: -18446744073709551616 < k * k + 7/\k * k + 7 < 18446744073709551616:=by
  have:k * k<=1000 * 1000:=by
   rcases Int.le_total 0 k with h|h
   ·exact Int.mul_le_mul h2 h2 h ⋯
   ·have:(-k) * (-k)<=1000 * 1000:=Int.mul_le_mul () () () ⋯
    rwa[Int.neg_mul_neg]at this
  have:0<=k * k:=by
   rcases Int.le_total 0 k with h|h
   ·exact Int.mul_nonneg h h
   ·have:=Int.mul_nonneg (a:= -k) (b:= -k) () ()
    rwa[Int.neg_mul_neg]at this
  omega
 have m1:Gc 118 k=true:=v_1 ⋯ ⋯;have m2:Gc (c + 1) (48271 + 118 * k)=true:=ag_9 () ();have m3:∀z:Int,Gc z 16807=true:=λz=>ag_9 ⋯ ⋯;have m4:Gc k k=true:=v_1 () ();have m5:∀z:Int,Gc z (k * k + 7)=true:=λz=>ag_9 hk.1 hk.2
 simp![g_7,bf_3,Am,m_3 m1,m_3 m2,m_3 (m3 _),m_3 m4,m_3 (m5 _),Ec,o_4 (show(0:Int) < 977 by decide) ⋯,Dp (show(0:Int) < 2147483629 by decide),Dp (show(0:Int) < 2147483587 by decide)]
 rfl
def am_5(ns:List Int)(k:Int)(h:0<=k):j_9 [.lst (ns.map .int),.int k]=.ok (.sh (.int (ns.getD k.toNat 0))):=by
 simp![j_9,bf_2,Am,En,Et,A4]
 by_cases hk:k < (ns.length:Int)
 ·have e:atI (ns.map D.int) k=some (.int (ns.getD k.toNat 0)):=by
   apply bj_9 h;rw[B4];have:k.toNat < ns.length:=by omega
   simp[List.getD,this]
  simp![hk,K7,if_true,Dz e,Am]
 ·simp![hk,L8,Am]
  have:ns.length<=k.toNat:=by omega
  simp[List.getD,this]
def bm_1(ns:List Int)(k:Int)(h:0<=k)(h2:k<=500):∃z,g_9 [.lst (ns.map .int),.int k]=.ok (.sh (.int z)):=by
 refine⟨Fd (ns.getD k.toNat 0 % 2147483647) (k + 101), ?_⟩
 simp![g_9,ax_3,Am,am_5 ns k h,Dp (show(0:Int) < 2147483647 by decide),Ec,ac_6 _ (k + 101) () ()]
def cv_8(c:Int):∃z,m_4 [.int c]=.ok (.sh (.int z)):=by
 have m:∀z:Int,Gc z 2147483587=true:=λz=>ag_9 ⋯ ⋯;refine⟨(Fd c 1 * 2147483587 + Fd c 2) * 2147483587 + Fd c 3, ?_⟩
 simp![m_4,ao_7,Am,ac_6 c 1 ⋯ ⋯,ac_6 c 2 ⋯ ⋯,ac_6 c 3 ⋯ ⋯,m_3 (m _),Ec]
def cv_9(ns:List Int)(s m:Int)(hn:ns.length<=63)(h0:0<=s)(h1:s<=60)(h2:1<=m)(h3:m<=200):
  ∃cs:List Int,(cs.length:Int)<=m/\o_9 [.lst (ns.map .int),.int s,.int m]=.ok (.ow (.lst (cs.map .int))):=by
 obtain⟨z0,hz0⟩:=bm_1 ns 0 ⋯ ⋯
 by_cases hp:ns.getD (0:Int).toNat 0 % 2=0
 ·obtain⟨cs,hl,hc⟩:=dk_4 (fg:=gC 5) (p:=λ_=> .ok true) (f:=Au 2 j_9 #v[0,Ae Az (Ab 1) (Ab 5)])
   (δ:=[some (.lst (ns.map .int)),some (.int s),some (.int m),some (.int (max 0 ((ns.length:Int) - s))),none,none]) (min m (max 0 ((ns.length:Int) - s))).toNat 0 (λk hk=>
    ⟨[some (.lst (ns.map .int)),some (.int s),some (.int m),some (.int (max 0 ((ns.length:Int) - s))),none,some (.int (0 + (k:Int)))],_,rfl,rfl,by
     simp![Am,Ec,am_5 ns (s + (0 + (k:Int))) ()]
     rfl⟩)
  refine⟨cs,by rw[hl];omega, ?_⟩;have e1:=n_5 (m:=1) (fi:=Bh Dw #v[Ak minD #v[2,3]]) (fg:=gC 5) (p:=λ_=> .ok true) (f:=Au 2 j_9 #v[0,Ae Az (Ab 1) (Ab 5)])
   (δ:=[some (.lst (ns.map .int)),some (.int s),some (.int m),some (.int (max 0 ((ns.length:Int) - s))),none]) (ds:=Ch 0 (min m (max 0 ((ns.length:Int) - s))).toNat) (rs:=cs.map .int) (by
    simp![Am,cs_5,y_8 (show -4611686018427387903<=min m (max 0 ((ns.length:Int) - s)) by omega) ()]) (by rw[l_2];omega) hc
  simp![o_9,ac_1,v_4,v_5,Am,En,A4,ah_0,bx_9,am_5 ns 0 ⋯,Dp (show(0:Int) < 2 by decide),h_9,hp,e1]
 ·have hmm:=λk:Int=>Q4 k (show m≠0 by omega);have hml:=λk:Int=>O7 k (show 0 < m by omega);have dz:∀k:Nat,∃z,g_9 [.lst (ns.map .int),.int (s + (0 + (k:Int)) % max 1 (max 0 ((ns.length:Int) - s)))]=.ok (.sh (.int z)):=λk=>by
   have b1:=Q4 (0 + (k:Int)) (show max 1 (max 0 ((ns.length:Int) - s))≠0 by omega);have b2:=O7 (0 + (k:Int)) (show 0 < max 1 (max 0 ((ns.length:Int) - s)) by omega);exact bm_1 ns _ () ()
  have b0:=hmm z0;have b1:=hml z0;obtain⟨cs,hl,hc⟩:=dk_4 (fg:=gC 5) (p:=λ_=> .ok true) (f:=Au 1 m_4 #v[Au 2 g_7 #v[Au 2 g_9 #v[0,Ae Az (Ab 1) (Ae Br (Ab 5) (Ak maxD #v[eC (.int 1),3]))],5]])
   (δ:=[some (.lst (ns.map .int)),some (.int s),some (.int m),some (.int (max 0 ((ns.length:Int) - s))),some (.int (min m (max (max 0 ((ns.length:Int) - s)) (1 + z0 % m)))),none]) (min m (max (max 0 ((ns.length:Int) - s)) (1 + z0 % m))).toNat 0 (λk hk=>by
    obtain⟨zc,hzc⟩:=dz k;obtain⟨zg,hzg⟩:=cv_8 (Fd zc (0 + (k:Int)));refine⟨[some (.lst (ns.map .int)),some (.int s),some (.int m),some (.int (max 0 ((ns.length:Int) - s))),some (.int (min m (max (max 0 ((ns.length:Int) - s)) (1 + z0 % m)))),some (.int (0 + (k:Int)))],zg,rfl,rfl, ?_⟩
    simp![Am,Ec,bx_9,Dp (show 0 < max 1 (max 0 ((ns.length:Int) - s)) by omega),hzc,ac_6 zc (0 + (k:Int)) () (),hzg])
  refine⟨cs,by rw[hl];omega, ?_⟩;have e1:=n_5 (m:=1) (fi:=Bh Dw #v[4]) (fg:=gC 5) (p:=λ_=> .ok true) (f:=Au 1 m_4 #v[Au 2 g_7 #v[Au 2 g_9 #v[0,Ae Az (Ab 1) (Ae Br (Ab 5) (Ak maxD #v[eC (.int 1),3]))],5]])
   (δ:=[some (.lst (ns.map .int)),some (.int s),some (.int m),some (.int (max 0 ((ns.length:Int) - s))),some (.int (min m (max (max 0 ((ns.length:Int) - s)) (1 + z0 % m))))]) (ds:=Ch 0 (min m (max (max 0 ((ns.length:Int) - s)) (1 + z0 % m))).toNat) (rs:=cs.map .int) (by
    simp![Am,y_8 (show -4611686018427387903<=min m (max (max 0 ((ns.length:Int) - s)) (1 + z0 % m)) by omega) ()]) (by rw[l_2];omega) hc
  simp![o_9,ac_1,v_4,v_5,Am,En,A4,ah_0,bx_9,cs_5,Ec,am_5 ns 0 ⋯,Dp (show(0:Int) < 2 by decide),Dp (show(0:Int) < m by omega),h_9,hp,hz0,e1]
def Bc{g h:FS}{Δ Δ':SE}(e:g Δ=.nx Δ'):Af g h Δ=h Δ':=by unfold Af;rw[e]
def Bl(l:List Nat):Str:=⟨l.toArray⟩
def m_9(l:List Nat):(Bl l).cps.toList=l:=by simp[Bl]
def l_8(l:List Nat):(Bl l).length=l.length:=by rw[cc_9,m_9]
def ce_6(a b:List Nat):Bl a ++ Bl b=Bl (a ++ b):=cc_8 (by rw[de_7,m_9,m_9,m_9])
def sgL:List Nat:=[97,98,99,100,101,102,103,104,105,106,107,108,109,110,111,112,113,114,115,116,117,118,119,120,121,122,48,49,50,51,52,53,54,55,56,57,45,95,32]
def dh_6:(Str.ofString "abcdefghijklmnopqrstuvwxyz0123456789-_ ").cps.toList=sgL:=by decide +kernel
def isKey(d:D):Prop:=(∃n:Int,d=.int n/\0<=n/\n<=999999999999999999)\/(∃l:List Nat,d=.str (Bl l)/\l.length<=11/\∀c∈l,c∈sgL)
def isKey.flat{d:D}(h:isKey d):Bk d=true:=by
 rcases h with⟨n,rfl,_⟩|⟨l,rfl,_⟩ <;> rfl
def dy_3(r:Int):∃c∈sgL,Bw (.str "abcdefghijklmnopqrstuvwxyz0123456789-_ ") (.int (r % 39))=.ok (.sh (.str (Bl [c]))):=by
 have h0:=Q4 r (show(39:Int)≠0 by decide);have h1:=O7 r (show(0:Int) < 39 by decide);have hl:(r % 39).toNat < sgL.length:=by show(r % 39).toNat < 39;omega
 refine⟨sgL[(r % 39).toNat],R9 hl,cd_0 nofun ?_⟩;rw[dh_6];exact bj_9 h0 (B5 hl)
def cw_0(z:Int):∃d,isKey d/\p_0 [.int z]=.ok (.sh d):=by
 have d3:=o_4 (i:=z) (show(0:Int) < 3 by decide) ⋯;have m3:=Dp (i:=z) (show(0:Int) < 3 by decide);have p18:=al_9 (w_5 (i:=10) (j:=18) ⋯ ⋯ ⋯ ⋯);have e18:(10:Int) ^ (18:Int).toNat=1000000000000000000:=by decide
 rw[e18]at p18;have:z % 3=0\/z % 3=2\/z % 3=1:=by omega
 rcases this with h|h|h
 ·refine⟨.int (z / 3 % 1000000000000000000),.inl ⟨_,rfl,by omega,by omega⟩, ?_⟩
  simp![p_0,ae_1,Am,d3,m3,h_9,h,p18,Dp (show(0:Int) < 1000000000000000000 by decide)]
 ·refine⟨.int (z / 3 % 50),.inl ⟨_,rfl,by omega,by omega⟩, ?_⟩;have n0:¬(2:Int)=0:=by decide
  simp![p_0,ae_1,Am,d3,m3,h_9,h,n0,Dp (show(0:Int) < 50 by decide)]
 ·have n0:¬(1:Int)=0:=by decide
  have n2:¬(1:Int)=2:=by decide
  have b0:=Q4 (z / 3) (show(12:Int)≠0 by decide);have b1:=O7 (z / 3) (show(0:Int) < 12 by decide);obtain⟨Δ',e,l,r,a5,rfl,hl,hc⟩:=ck_1 (gV 5) ac_2 (λk Δ=>∃(l:List Nat) (r:Int) (a5:Sl),Δ= [.sh (.int z),.sh (.str "abcdefghijklmnopqrstuvwxyz0123456789-_ "),.sh (.int r),.sh (.str (Bl l)),.sh (.int (z / 3 % 12)),a5]/\l.length=k/\∀c∈l,c∈sgL)
   (n:=(z / 3 % 12).toNat) (lo:=0) (Δ:=[.sh (.int z),.sh (.str "abcdefghijklmnopqrstuvwxyz0123456789-_ "),.sh (.int (z / 3)),.sh (.str ""),.sh (.int (z / 3 % 12)),.no]) ⟨[],z / 3,.no,rfl,rfl,λc hc=>absurd hc (by simp)⟩ (λk Δ hk hI=>by
   obtain⟨l,r,a5,rfl,hl,hc⟩:=hI;obtain⟨q,q0,q1,eq⟩:∃q:Int,0 < q/\q < 100/\Ae Bw (Aw #v[eC (.int 12),eC (.int 39)]) (Ak Gi #v[Ae gtD (Ab 5) (eC (.int 0))]) [some (.int z),some (.str "abcdefghijklmnopqrstuvwxyz0123456789-_ "),some (.int r),some (.str (Bl l)),some (.int (z / 3 % 12)),some (.int (0 + (k:Int)))]=.ok (.sh (.int q)):=by
    by_cases hk0:(0:Int) < 0 + (k:Int)
    ·refine⟨39,by decide,by decide, ?_⟩
     simp![Am,Fm,hk0,Gi]
     rfl
    ·refine⟨12,by decide,by decide, ?_⟩
     simp![Am,Fm,hk0,Gi]
     rfl
   obtain⟨c,hcs,ec⟩:=dy_3 (r / q);have zk:(Bl l).length + (Bl [c]).length<=16777216:=by rw[l_8,l_8];simp;omega
   refine⟨_,rfl,[.sh (.int z),.sh (.str "abcdefghijklmnopqrstuvwxyz0123456789-_ "),.sh (.int (r / q)),.sh (.str (Bl (l ++ [c]))),.sh (.int (z / 3 % 12)),.sh (.int (0 + (k:Int)))],.inl ?_,_,_,_,rfl,by simp[hl], ?_⟩
   ·simp only[ac_2];rw[Bc (Δ':=[.sh (.int z),.sh (.str "abcdefghijklmnopqrstuvwxyz0123456789-_ "),.sh (.int (r / q)),.sh (.str (Bl l)),.sh (.int (z / 3 % 12)),.sh (.int (0 + (k:Int)))])]
    ·simp![Am,Dp (show(0:Int) < 39 by decide),ec,cs_4 zk,ce_6]
    ·have:=eq;unfold Ah;simp only[Bg,B2,N2,cs_7,List.set_cons_succ,List.set_cons_zero,gV]at this⊢;have e9:Ae Ck (Ab 2) (Ae Bw (Aw #v[eC (.int 12),eC (.int 39)]) (Ak Gi #v[Ae gtD (Ab 5) (eC (.int 0))])) [some (.int z),some (.str "abcdefghijklmnopqrstuvwxyz0123456789-_ "),some (.int r),some (.str (Bl l)),some (.int (z / 3 % 12)),some (.int (0 + (k:Int)))]=.ok (.sh (.int (r / q))):=by
      show((Ab 2 _).bind λa=>(Ae Bw _ _ _).bind λb=>Ck a.d b.d)=_;rw[this]
      simp![Am,o_4 q0 (show q < 1361129467683753853853498429727072845824 by omega)]
     rw[e9]
   ·intro d hd;rcases F6.mp hd with hd|hd
    ·exact hc d hd
    ·have:d=c:=by simpa using hd
     rw[this];exact hcs)
  refine⟨.str (Bl l),.inr ⟨l,rfl,by omega,hc⟩, ?_⟩
  simp![p_0,ae_1,Am,d3,m3,h_9,h,n0,n2,Dp (show(0:Int) < 12 by decide),Bv,y_8 (show -4611686018427387903<=z / 3 % 12 by omega) (),e]
def ce_7{a b:D}(ha:isKey a)(hb:isKey b):eqF a b=true↔a=b:=by
 rcases ha with⟨n,rfl,_⟩|⟨l,rfl,_⟩ <;> rcases hb with⟨m,rfl,_⟩|⟨k,rfl,_⟩
 ·show(n ==m)=true↔_;rw[M0];exact⟨λh=>by rw[h],λh=>by injection h⟩
 ·show false=true↔_;exact⟨λh=>(by cases h),λh=>(by cases h)⟩
 ·show false=true↔_;exact⟨λh=>(by cases h),λh=>(by cases h)⟩
 ·show(Bl l ==Bl k)=true↔_;rw[M0];exact⟨λh=>by rw[h],λh=>by injection h⟩
def mem_iff{d:D}{ks:List D}(hd:isKey d)(hk:∀k∈ks,isKey k):Dv d ks=true↔d∈ks:=by
 unfold Dv;rw[X1];constructor
 ·rintro ⟨y,hy,h⟩
  rw[<-(ce_7 (hk y hy) hd).mp h];exact hy
 ·intro h;exact⟨d,h,(ce_7 hd hd).mpr rfl⟩
def bt_7{ks:List D}(hk:∀k∈ks,isKey k):ks.all Bk=true:=F4.mpr λk h=>(hk k h).flat
def cw_1{d:D}{ks:List D}(hd:isKey d)(hk:∀k∈ks,isKey k):inD true d (.lst ks)=.ok (.sh (.bl (!Dv d ks))):=by
 have h:(Bk d && ks.all Bk)=true:=by rw[hd.flat,bt_7 hk];rfl
 rcases hd with⟨n,rfl,_⟩|⟨l,rfl,_⟩
 ·exact if_pos h
 ·exact if_pos h
def dh_7{d:D}(h:isKey d):PyData.canLay0 (Ea d)=true/\PyData.depth (Ea d)=0:=by
 rcases h with⟨n,rfl,_⟩|⟨l,rfl,_,hc⟩
 ·exact⟨rfl,rfl⟩
 ·refine⟨?_,rfl⟩;show(Bl l).cps.all (· < 0x110000)=true;rw[<-ZB8,m_9,F4];intro c h;have:c∈sgL:=hc c h;have:∀c∈sgL,c < 0x110000:=by decide
  exact F1 (this c (hc c h))
theorem ak_3:∀{ks:List D},(∀k∈ks,isKey k)->PyData.canLayAll0 (Fp ks)=true/\PyData.depthAll (Fp ks)=0
 | [],_=>⟨rfl,rfl⟩
 |k::ks,h=>by
  obtain⟨a1,a2⟩:=dh_7 (h k K5);obtain⟨b1,b2⟩:=ak_3 λx hx=>h x (D4 _ hx);refine⟨?_, ?_⟩
  ·show(PyData.canLay0 (Ea k) && PyData.canLayAll0 (Fp ks))=true;rw[a1,b1];rfl
  ·show max (PyData.depth (Ea k)) (PyData.depthAll (Fp ks))=0;rw[a2,b2];rfl
def bt_8{ks js:List D}(hk:∀k∈ks,isKey k)(hj:∀k∈js,isKey k):eqC (.lst ks) (.lst js)=true:=by
 unfold eqC;rw[D0,D0];refine⟨⟨(ak_3 hk).1,(ak_3 hj).1⟩,F1 ?_⟩;show PyData.depthAll (Fp ks) + 1<=60;rw[(ak_3 hk).2];decide
def dh_8{a b:D}(ha:isKey a)(hb:isKey b):PyData.eqv (Ea a) (Ea b)=true↔a=b:=by
 rcases ha with⟨n,rfl,_⟩|⟨l,rfl,_⟩ <;> rcases hb with⟨m,rfl,_⟩|⟨k,rfl,_⟩
 ·show(n ==m)=true↔_;rw[M0];exact⟨λh=>by rw[h],λh=>by injection h⟩
 ·show false=true↔_;exact⟨λh=>(by cases h),λh=>(by cases h)⟩
 ·show false=true↔_;exact⟨λh=>(by cases h),λh=>(by cases h)⟩
 ·show(Bl l ==Bl k)=true↔_;rw[M0];exact⟨λh=>by rw[h],λh=>by injection h⟩
theorem bt_9:∀{ks js:List D},(∀k∈ks,isKey k)->(∀k∈js,isKey k)->(PyData.eqvAll (Fp ks) (Fp js)=true↔ks=js)
 | [],[],_,_=>⟨λ_=>rfl,λ_=>rfl⟩
 | [],_::_,_,_=>⟨λh=>(by cases h),λh=>(by cases h)⟩
 |_::_,[],_,_=>⟨λh=>(by cases h),λh=>(by cases h)⟩
 |k::ks,j::js,hk,hj=>by
  show(PyData.eqv (Ea k) (Ea j) && PyData.eqvAll (Fp ks) (Fp js))=true↔_;rw[D0,dh_8 (hk k K5) (hj j K5),bt_9 (λx hx=>hk x (D4 _ hx)) (λx hx=>hj x (D4 _ hx))];exact⟨λ⟨a,b⟩=>by rw[a,b],λh=>by injection h with a b;exact⟨a,b⟩⟩
def dh_9(a b:List D):Cj (.lst a) (.lst b)=if eqC (.lst a) (.lst b)=true then .ok (.sh (.bl (eqvD (.lst a) (.lst b)))) else .no:=rfl
def di_0(a b:List D):neD (.lst a) (.lst b)=if eqC (.lst a) (.lst b)=true then .ok (.sh (.bl (!eqvD (.lst a) (.lst b)))) else .no:=rfl
def ak_4{ks js:List D}(hk:∀k∈ks,isKey k)(hj:∀k∈js,isKey k):∃b:Bool,(b=true↔ks=js)/\Cj (.lst ks) (.lst js)=.ok (.sh (.bl b))/\neD (.lst ks) (.lst js)=.ok (.sh (.bl (!b))):=by
 refine⟨eqvD (.lst ks) (.lst js),bt_9 hk hj, ?_, ?_⟩
 ·rw[dh_9,if_pos (bt_8 hk hj)]
 ·rw[di_0,if_pos (bt_8 hk hj)]
def di_1(ns:List Int)(s m:Int)(hn:ns.length<=63)(h0:0<=s)(h1:s<=60)(h2:1<=m)(h3:m<=200):
  ∃ks:List D,ks≠ []/\(ks.length:Int)<=m/\(∀k∈ks,isKey k)/\ks.Nodup/\q_8 [.lst (ns.map .int),.int s,.int m]=.ok (.ow (.lst ks)):=by
 obtain⟨cs,hc,ec⟩:=cv_9 ns s m hn h0 h1 h2 h3;obtain⟨Δ',e,ks,a4,a5,rfl,hl,hk,hd⟩:=l_3 (gV 4) s_8 (λk Δ=>∃(ks:List D) (a4 a5:Sl),Δ= [.sh (.lst (ns.map .int)),.sh (.int s),.sh (.int m),.ow (.lst ks),a4,a5]/\ks.length<=k/\(∀k∈ks,isKey k)/\ks.Nodup)
  (ds:=cs.map .int) (Δ:=[.sh (.lst (ns.map .int)),.sh (.int s),.sh (.int m),.ow (.lst []),.no,.no]) ⟨[],.no,.no,rfl,A8 _,λk hk=>absurd hk (by simp),S4⟩ (λk d Δ hk hI=>by
  obtain⟨ks,a4,a5,rfl,hl,hks,hd⟩:=hI;rw[B4]at hk;cases q:cs[k]? with
  |none=>rw[q]at hk;cases hk
  |some c=>
   rw[q]at hk;cases hk;have hkl:k < cs.length:=(A9.mp q).1;obtain⟨d,hdk,ed⟩:=cw_0 c;have hl2:ks.length < 16777216:=by omega
   have hni:=cw_1 hdk hks;cases hm:Dv d ks with
   |true=>
    refine⟨_,rfl,[.sh (.lst (ns.map .int)),.sh (.int s),.sh (.int m),.ow (.lst ks),.sh (.int c),.sh d],.inl ?_,ks,_,_,rfl,by omega,hks,hd⟩;rw[hm]at hni
    simp![s_8,Am,ed,hni]
   |false=>
    refine⟨_,rfl,[.sh (.lst (ns.map .int)),.sh (.int s),.sh (.int m),.ow (.lst (ks ++ [d])),.sh (.int c),.sh d],.inl ?_,ks ++ [d],_,_,rfl,by simp;omega, ?_, ?_⟩
    ·rw[hm]at hni
     simp![s_8,Am,ed,hni,sApp,hl2]
    ·intro x hx;rcases F6.mp hx with hx|hx
     ·exact hks x hx
     ·have:x=d:=by simpa using hx
      rw[this];exact hdk
    ·rw[T8];refine⟨hd,by simp,λa ha b hb=> ?_⟩;have:b=d:=by simpa using hb
     subst this
     rintro rfl
     rw[(mem_iff hdk hks).mpr ha]at hm;cases hm)
 rw[A4]at hl;obtain⟨b,hb,eb,_⟩:=ak_4 hk (js:=[]) (λk hk=>absurd hk (by simp))
 by_cases hz:ks= []
 ·obtain⟨d,hdk,ed⟩:=cw_0 (ns.getD (0:Int).toNat 0 / 2);refine⟨[d],by simp,by simp;omega,λx hx=> ?_,by simp, ?_⟩
  ·have:x=d:=by simpa using hx
   rw[this];exact hdk
  ·have:b=true:=hb.mpr hz;subst this
   simp![q_8,ah_3,Am,Bv,ec,e,eb,am_5 ns 0 ⋯,o_4 (show(0:Int) < 2 by decide) ⋯,ed]
 ·refine⟨ks,hz,by omega,hk,hd, ?_⟩;have:b=false:=by
   cases b with
   |true=>exact absurd (hb.mp rfl) hz
   |false=>rfl
  subst this
  simp![q_8,ah_3,Am,Bv,ec,e,eb]
def sgI(c:Nat):Nat:=sgL.idxOf c
def bz_3:∀c∈sgL,Builtin.Str.occurrences "abcdefghijklmnopqrstuvwxyz0123456789-_ " ⟨#[c]⟩ 0 (Str.length "abcdefghijklmnopqrstuvwxyz0123456789-_ ") 1= [sgI c]:=by decide +kernel
def z_5(l:List Nat):Int:=l.foldl (λa c=>40 * a + (sgI c:Int) + 1) 0
def ap_2(l:List Nat)(k c:Nat)(h:l[k]? =some c):z_5 (l.take (k + 1))=40 * z_5 (l.take k) + (sgI c:Int) + 1:=by
 unfold z_5;rw[T7,h,List.foldl_append];rfl
def Bn:D->Int
 | .int n=>2 * n
 | .str x=>2 * z_5 x.cps.toList + 1
 |_=>0
def cw_2:∀c∈sgL,Txt.find "abcdefghijklmnopqrstuvwxyz0123456789-_ " ⟨#[c]⟩=((sgI c:Nat):Int):=by decide +kernel
def di_2{c:Nat}(h:c∈sgL):bq_0 (.str "abcdefghijklmnopqrstuvwxyz0123456789-_ ") [.str ⟨#[c]⟩]=.ok (.sh (.int (sgI c:Int))):=by
 show R.ok (W.sh (D.int (Txt.find "abcdefghijklmnopqrstuvwxyz0123456789-_ " ⟨#[c]⟩)))=_;rw[cw_2 c h]
def cw_3{c:Nat}(h:c∈sgL):ag_8 (.str "abcdefghijklmnopqrstuvwxyz0123456789-_ ") [.str ⟨#[c]⟩]=.ok (.sh (.int (sgI c:Int))):=by
 show(match Builtin.Str.occurrences "abcdefghijklmnopqrstuvwxyz0123456789-_ " ⟨#[c]⟩ 0 (Str.length "abcdefghijklmnopqrstuvwxyz0123456789-_ ") 1 with
  |i::_=>R.ok (W.sh (D.int (i:Nat)))
  | []=>R.no)=_
 rw[bz_3 c h]
def dy_4{c:Nat}(h:c∈sgL):inD false (.str ⟨#[c]⟩) (.str "abcdefghijklmnopqrstuvwxyz0123456789-_ ")=.ok (.sh (.bl true)):=by
 show R.ok (W.sh (D.bl (!(Builtin.Str.occurrences "abcdefghijklmnopqrstuvwxyz0123456789-_ " ⟨#[c]⟩ 0 (Str.length "abcdefghijklmnopqrstuvwxyz0123456789-_ ") 1).isEmpty)))=_;rw[bz_3 c h];rfl
def l_1(l:List Nat):r_8 (Bl l)=l.map λc=> .str ⟨#[c]⟩:=by unfold r_8;rw[m_9]
def cw_4(l:List Nat)(hl:l.length<=11)(hc:∀c∈l,c∈sgL):aj_6 [.str (Bl l)]=.ok (.sh (.int (z_5 l))):=by
 obtain⟨Δ',e,a2,rfl⟩:=l_3 (gV 2) am_4 (λk Δ=>∃a2,Δ= [.sh (.str (Bl l)),.sh (.int (z_5 (l.take k))),a2]) (ds:=r_8 (Bl l)) (Δ:=[.sh (.str (Bl l)),.sh (.int 0),.no]) ⟨.no,rfl⟩ (λk d Δ hk hI=>by
  obtain⟨a2,rfl⟩:=hI;rw[l_1,B4]at hk;cases q:l[k]? with
  |none=>rw[q]at hk;cases hk
  |some c=>
   rw[q]at hk;cases hk;refine⟨_,rfl,[.sh (.str (Bl l)),.sh (.int (z_5 (l.take (k + 1)))),.sh (.str ⟨#[c]⟩)],.inl ?_,_,rfl⟩;rw[ap_2 l k c q]
   simp![am_4,Am,m_3 (v_1 (show(-18446744073709551616:Int) < 40 by decide) ⋯),O6,di_2 (hc c (E9 q)),Ec])
 rw[l_1,A4,U3]at e
 simp![aj_6,ce_4,Am,Bv,l_1,e]
def am_6{d:D}(h:isKey d):m_7 [d]=.ok (.sh (.bl true)):=by
 rcases h with⟨n,rfl,h0,h1⟩|⟨l,rfl,hl,hc⟩
 ·simp![m_7,x_0,Am,u_8,ai_8,h0,h1]
 ·have hx:(Bl l).length<=16777216:=by rw[l_8];omega
  have ec:=w_7 (fg:=gC 1) (f:=h_1) (δ:=[some (.str (Bl l)),none]) (λ_=> .bl true) (r_8 (Bl l)) (λd hd=>by
   rw[l_1]at hd;obtain⟨c,hcl,rfl⟩:=F0.mp hd;exact⟨_,.sh (.bl true),rfl,by simp![h_1,Am,dy_4 (hc c hcl)],rfl⟩)
  have ec':=n_5 (m:=1) (fi:=Cg (Ab 0)) (fg:=gC 1) (p:=λ_=> .ok true) (f:=h_1) (δ:=[some (.str (Bl l))]) (by simp![Am]) (by rw[l_1,A4];omega) ec;have ha:allD [.lst ((r_8 (Bl l)).map λ_=>D.bl true)]=.ok (.sh (.bl true)):=by
   have hb:∀l:List D,ab_4 (l.map λ_=>D.bl true)=some (l.map λ_=>true):=by
    intro l
    induction l with
    |nil=>rfl
    |cons a l ih=>show(ab_4 (l.map λ_=>D.bl true)).map (true:: ·)=_;rw[ih];rfl
   unfold allD;simp only[hb]
   congr 3
   rw[F4];intro b hb';obtain⟨_,_,rfl⟩:=F0.mp hb';rfl
  have eg:((Bl l).length:Int)<=11:=by rw[l_8];omega
  have et:i_2 [.str (Bl l)]=.ok (.sh (.bl true)):=by
   simp![i_2,r_0,Am,w_6 hx,ai_8,eg,ec',ha]
  simp![m_7,x_0,Am,et]
def cw_5{d:D}(h:isKey d):l_7 [d]=.ok (.sh (.int (Bn d))):=by
 have hk:=am_6 h;have m2:=λj:Int=>m_3 (v_1 (j:=j) (show(-18446744073709551616:Int) < 2 by decide) ⋯);rcases h with⟨n,rfl,h0,h1⟩|⟨l,rfl,hl,hc⟩
 ·simp![l_7,as_7,Am,hk,m2,Bn]
 ·simp![l_7,as_7,Am,hk,cw_4 l hl hc,m2,Ec,Bn,m_9]
def ah_4(n s z:Int):Int:=
 (((1 + (1103515245 * s + 12345) % (2305843009213693951 - 1)) * n + (69069 * s * s + 7 * s) % 2305843009213693951) % 2305843009213693951 + ((1 + (1103515245 * s + 12345) % (2305843009213693951 - 1)) * n + (69069 * s * s + 7 * s) % 2305843009213693951) % 2305843009213693951 / 2147483648) % z
def ac_7(n s z:Int)(h1: -18446744073709551616 < s)(h2:s < 18446744073709551616)(hz:0 < z):ae_2 [.int n,.int s,.int z]=.ok (.sh (.int (ah_4 n s z)))/\i_1 [.int n,.int s,.int z]=.ok (.sh (.int (ah_4 n s z))):=by
 have n0:¬z=0:=by omega
 have f0:=Q4 (1103515245 * s + 12345) (show(2305843009213693951 - 1:Int)≠0 by decide);have f1:=O7 (1103515245 * s + 12345) (show(0:Int) < 2305843009213693951 - 1 by decide);have a1:=m_3 (v_1 (i:=1103515245) (j:=s) ⋯ ⋯);have a2:=m_3 (v_1 (i:=69069) (j:=s) ⋯ ⋯);have a3:=m_3 (ag_9 (i:=69069 * s) (j:=s) h1 h2);have a4:=m_3 (v_1 (i:=7) (j:=s) ⋯ ⋯);have a5:=m_3 (v_1 (i:=1 + (1103515245 * s + 12345) % (2305843009213693951 - 1)) (j:=n) () ());have c1:=λi:Int=>Dp (i:=i) (show(0:Int) < 2305843009213693951 - 1 by decide);have c2:=λi:Int=>Dp (i:=i) (show(0:Int) < 2305843009213693951 by decide);have c3:=λi:Int=>Dp (i:=i) hz;have c4:=λi:Int=>o_4 (i:=i) (show(0:Int) < 2147483648 by decide) ⋯;refine⟨?_, ?_⟩
 ·simp![ae_2,ce_3,Am,h_9,n0,ah_0,Ec,a1,a2,a3,a4,c1,c2,a5,c4,c3]
  rfl
 ·simp![i_1,ao_8,Am,ah_0,Ec,a1,a2,a3,a4,c1,c2,a5,c4,c3]
  rfl
end My
namespace L3
open PySem L2
def outF:Fl->Bool
 | .ex _ _=>true
 | .rt _=>true
 | .no=>true
 |_=>false
def x_2(fg:FG)(g:FS)(I:Nat->SE->Prop){ds:List D}{Δ:SE}{n:Nat}{r:Fl}{d:D}(h0:I 0 Δ)(hd:ds[n]? =some d)
  (step:∀k d Δ,k < n->ds[k]? =some d->I k Δ->∃Δ1,fg d Δ=.ok Δ1/\∃Δ2,(g Δ1=.nx Δ2\/g Δ1=.ct Δ2)/\I (k + 1) Δ2)
  (last:∀Δ,I n Δ->∃Δ1,fg d Δ=.ok Δ1/\g Δ1=r) (hr:outF r=true):Ca fg g ds Δ=r:=by
 have all:∀(m k:Nat) (Δ:SE),k + m=n->I k Δ->Ca fg g (ds.drop k) Δ=r:=by
  intro m
  induction m with
  |zero=>
   intro k Δ e h;have:k=n:=by omega
   subst this;have hl:k < ds.length:=(A9.mp hd).1;obtain⟨x,d1,d2⟩:=w_2 hl;rw[hd]at d1;cases d1;obtain⟨Δ1,e1,e2⟩:=last Δ h;rw[d2];show(match fg d Δ with
    | .ok Δ1=>(match g Δ1 with
     | .nx Δ2=>Ca fg g (ds.drop (k + 1)) Δ2
     | .ct Δ2=>Ca fg g (ds.drop (k + 1)) Δ2
     | .bk Δ2=> .nx Δ2
     |r=>r)
    | .ex _=> .no
    | .no=> .no)=_
   rw[e1];simp only[e2];cases r with
   |nx _=>cases hr
   |ct _=>cases hr
   |bk _=>cases hr
   |_=>rfl
  |succ m ih=>
   intro k Δ e h;have hl:n < ds.length:=(A9.mp hd).1;obtain⟨x,d1,d2⟩:=w_2 (l:=ds) (i:=k) ();obtain⟨Δ1,e1,Δ2,e2,h2⟩:=step k x Δ () d1 h;have e3:=ih (k + 1) Δ2 () h2;rw[d2];show(match fg x Δ with
    | .ok Δ1=>(match g Δ1 with
     | .nx Δ2=>Ca fg g (ds.drop (k + 1)) Δ2
     | .ct Δ2=>Ca fg g (ds.drop (k + 1)) Δ2
     | .bk Δ2=> .nx Δ2
     |r=>r)
    | .ex _=> .no
    | .no=> .no)=_
   rw[e1];rcases e2 with e2|e2
   ·simp only[e2];exact e3
   ·simp only[e2];exact e3
 have:=all n 0 Δ () h0
 rwa[ZD6]at this
theorem x_3:∀{ds:List D} {k i:Nat} {d:D},ds[i]? =some d->(Eo k ds)[i]? =some (.tup [.int ((k + i:Nat):Int),d])
 | [],_,_,_,h=>by simp at h
 |x::ds,k,0,d,h=>by simp at h;subst h;rfl
 |x::ds,k,i + 1,d,h=>by
  have:=x_3 (ds:=ds) (k:=k + 1) (i:=i) (d:=d) (by simpa using h);show(Eo (k + 1) ds)[i]? =_;rw[this,show k + 1 + i=k + (i + 1) by omega]
end L3
namespace My
open PySem L2 L3
def u_7(d:D):Prop:=(∃n:Int,d=.int n/\(n < 0\/999999999999999999 < n))\/(∃l:List Nat,d=.str (Bl l)/\l.length<=100/\(11 < l.length\/∃c∈l,∃b,inD false (.str ⟨#[c]⟩) (.str "abcdefghijklmnopqrstuvwxyz0123456789-_ ")=.ok (.sh (.bl b))/\b=false))
def Ex(c:Nat):Bool:= !(Builtin.Str.occurrences "abcdefghijklmnopqrstuvwxyz0123456789-_ " ⟨#[c]⟩ 0 (Str.length "abcdefghijklmnopqrstuvwxyz0123456789-_ ") 1).isEmpty
def in_B(c:Nat):inD false (.str ⟨#[c]⟩) (.str "abcdefghijklmnopqrstuvwxyz0123456789-_ ")=.ok (.sh (.bl (Ex c))):=rfl
theorem ax_7:∀l:List Nat,ab_4 (l.map λc=>D.bl (Ex c))=some (l.map Ex)
 | []=>rfl
 |a::l=>by
  show(ab_4 (l.map λc=>D.bl (Ex c))).map (Ex a:: ·)=_;rw[ax_7 l];rfl
def bf_6{d:D}(h:u_7 d):m_7 [d]=.ok (.sh (.bl false)):=by
 rcases h with⟨n,rfl,h⟩|⟨l,rfl,hl,h⟩
 ·by_cases h0:0<=n
  ·have h1:¬n<=999999999999999999:=by omega
   simp![m_7,x_0,Am,u_8,ai_8,h0,h1]
  ·simp![m_7,x_0,Am,u_8,ai_8,h0]
 ·have hx:(Bl l).length<=16777216:=by rw[l_8];omega
  have et:i_2 [.str (Bl l)]=.ok (.sh (.bl false)):=by
   by_cases h11:((Bl l).length:Int)<=11
   ·have hin:∃c∈l,Ex c=false:=by
     rcases h with h|⟨c,hc,b,e,hb⟩
     ·rw[l_8]at h11;omega
     ·refine⟨c,hc, ?_⟩;rw[in_B]at e;subst hb;injection e with e
      injection e with e
      injection e
    have ec:=w_7 (fg:=gC 1) (f:=h_1) (δ:=[some (.str (Bl l)),none]) (λd=>match d with| .str x=> .bl (Ex (x.cps.toList.headD 0))|d=>d) (r_8 (Bl l)) (λd hd=>by
     rw[l_1]at hd;obtain⟨c,hcl,rfl⟩:=F0.mp hd;exact⟨_,.sh (.bl (Ex c)),rfl,by simp![h_1,Am,in_B c],rfl⟩)
    have ec':=n_5 (m:=1) (fi:=Cg (Ab 0)) (fg:=gC 1) (p:=λ_=> .ok true) (f:=h_1) (δ:=[some (.str (Bl l))]) (by simp![Am]) (by rw[l_1,A4];omega) ec;have em:(r_8 (Bl l)).map (λd=>match d with| .str x=>D.bl (Ex (x.cps.toList.headD 0))|d=>d)=l.map λc=>D.bl (Ex c):=by
     rw[l_1,L7];rfl
    rw[em]at ec';have ha:allD [.lst (l.map λc=>D.bl (Ex c))]=.ok (.sh (.bl false)):=by
     unfold allD;simp only[ax_7]
     congr 3
     obtain⟨c,hc,e⟩:=hin;cases q:(l.map Ex).all id with
     |false=>rfl
     |true=>
      have:=F4.mp q (Ex c) (F0.mpr ⟨c,hc,rfl⟩);rw[e]at this;cases this
    simp![i_2,r_0,Am,w_6 hx,ai_8,h11,ec',ha]
   ·simp![i_2,r_0,Am,w_6 hx,ai_8,h11]
  simp![m_7,x_0,Am,et]
def kOf:D->Ar
 | .int i=> .inl i
 | .str x=> .inr x
 |_=> .inl 0
def bu_0{d:D}(h:isKey d):Ef d=some (kOf d):=by
 rcases h with⟨n,rfl,_⟩|⟨l,rfl,_⟩ <;> rfl
def ce_8{a b:D}(ha:isKey a)(hb:isKey b)(e:kOf a=kOf b):a=b:=by
 rcases ha with⟨n,rfl,_⟩|⟨l,rfl,_⟩ <;> rcases hb with⟨m,rfl,_⟩|⟨k,rfl,_⟩
 ·injection e with e;rw[e]
 ·cases e
 ·cases e
 ·injection e with e;rw[e]
def Fu(n:Nat):Xn:=⟨"NoKey",["at"],[.int (n:Int)]⟩
def bm_2(n:Nat):Xn:=⟨"Twice",["at"],[.int (n:Int)]⟩
def ce_9{ks:List D}(hk:∀k∈ks,isKey k):e_0 [.lst ks]=.ok (.sh .non):=by
 obtain⟨Δ',e,a1,a2,rfl⟩:=l_3 (gV2 1 2) g_8 (λk Δ=>∃a1 a2,Δ= [.sh (.lst ks),a1,a2]) (ds:=Eo 0 ks) (Δ:=[.sh (.lst ks),.no,.no]) ⟨_,_,rfl⟩ (λk d Δ hd hI=>by
  obtain⟨a1,a2,rfl⟩:=hI;obtain⟨d',e1,rfl⟩:=q_7 hd;refine⟨_,rfl,_,.inl ?_,.sh (.int ((0 + k:Nat):Int)),.sh d',rfl⟩
  simp![g_8,Am,am_6 (hk d' (E9 e1))])
 simp![e_0,r_7,Am,Bv,t_5,av_4,e]
def bu_1{l:List D}{d:D}{r:List D}(hk:∀k∈l,isKey k)(hd:u_7 d):e_0 [.lst (l ++ d::r)]=.ex (Fu l.length):=by
 have e:=x_2 (gV2 1 2) g_8 (λk Δ=>∃a1 a2,Δ= [.sh (.lst (l ++ d::r)),a1,a2]) (ds:=Eo 0 (l ++ d::r)) (Δ:=[.sh (.lst (l ++ d::r)),.no,.no]) (n:=l.length) (r:=.ex (Fu l.length) [.sh (.lst (l ++ d::r)),.sh (.int (l.length:Int)),.sh d])
  (d:=.tup [.int ((0 + l.length:Nat):Int),d]) ⟨_,_,rfl⟩ (x_3 (by simp)) (λk d' Δ hkl hd' hI=>by
   obtain⟨a1,a2,rfl⟩:=hI;obtain⟨x,e1,rfl⟩:=q_7 hd';rw[B3 hkl]at e1;refine⟨_,rfl,_,.inl ?_,.sh (.int ((0 + k:Nat):Int)),.sh x,rfl⟩
   simp![g_8,Am,am_6 (hk x (E9 e1))]) (λ Δ hI=>by
   obtain⟨a1,a2,rfl⟩:=hI;refine⟨_,rfl, ?_⟩
   simp![g_8,Am,bf_6 hd,r_5,Fu]) rfl
 simp![e_0,r_7,Am,Bv,t_5,av_4,e]
def q_3(ks:List D):List (Ar×D):=ks.map λd=>(kOf d,.bl true)
def ax_8{ks:List D}{d:D}(hk:∀k∈ks,isKey k)(hd:isKey d):Es (q_3 ks) (kOf d)=true↔d∈ks:=by
 unfold Es De q_3;rw[ZA2,List.find?_isSome];constructor
 ·rintro ⟨p,hp,e⟩
  obtain⟨x,hx,rfl⟩:=F0.mp hp;have:kOf x=kOf d:=by simpa using e
  rw[<-ce_8 (hk x hx) hd this];exact hx
 ·intro h;exact⟨(kOf d,.bl true),F0.mpr ⟨d,h,rfl⟩,by simp⟩
def bu_2{ks:List D}{d:D}(hk:∀k∈ks,isKey k)(hd:isKey d)(n:d∉ks):Fq (q_3 ks) (kOf d) (.bl true)=q_3 (ks ++ [d]):=by
 unfold Fq;have h:((q_3 ks).any λkv=>decide (kv.1=kOf d))=false:=by
  cases q:(q_3 ks).any λkv=>decide (kv.1=kOf d) with
  |false=>rfl
  |true=>
   exfalso;obtain⟨p,hp,e⟩:=X1.mp q;obtain⟨x,hx,rfl⟩:=F0.mp hp;have:kOf x=kOf d:=by simpa using e
   have:=ce_8 (hk x hx) hd this;subst this;exact n hx
 rw[h];unfold q_3;rw[F7];rfl
def ap_3{ks:List D}{l:List D}{d:D}{k:Nat}(hl:∀x∈l,isKey x)(hd:isKey d)(n:d∉l)(hn:l.length < 16777216):
  h_2 [.sh (.lst ks),.ow (.dic (q_3 l)),.sh (.int (k:Int)),.sh d]=.nx [.sh (.lst ks),.ow (.dic (q_3 (l ++ [d]))),.sh (.int (k:Int)),.sh d]:=by
 have h:Es (q_3 l) (kOf d)=false:=by
  cases q:Es (q_3 l) (kOf d) with
  |false=>rfl
  |true=>exact absurd ((ax_8 hl hd).mp q) n
 have hs:(q_3 l).length < 16777216:=by unfold q_3;rw[A4];exact hn
 simp![h_2,Am,inK,bu_0 hd,h,w_4,hs,bu_2 hl hd n]
def cl_4{ks:List D}(hk:∀k∈ks,isKey k)(nd:ks.Nodup)(hl:ks.length < 16777216):j_4 [.lst ks]=.ok (.sh .non):=by
 obtain⟨Δ',e,a2,a3,rfl⟩:=l_3 (gV2 2 3) h_2 (λk Δ=>∃a2 a3,Δ= [.sh (.lst ks),.ow (.dic (q_3 (ks.take k))),a2,a3]) (ds:=Eo 0 ks) (Δ:=[.sh (.lst ks),.ow (.dic []),.no,.no]) ⟨_,_,rfl⟩ (λk d Δ hd hI=>by
  obtain⟨a2,a3,rfl⟩:=hI;obtain⟨d',e1,rfl⟩:=q_7 hd;have hlt:k < ks.length:=(A9.mp e1).1;have nin:d'∉ks.take k:=λhm=>by
   obtain⟨j,hj,e⟩:=R7 hm;rw[M9]at hj;rw[List.getElem_take]at e;have:=K8.mp nd j k () hlt ();rw[e]at this;rw[B5 hlt]at e1;injection e1 with e1
   exact this e1.symm
  refine⟨_,rfl,_,.inl (ap_3 (k:=0 + k) (λx hx=>hk x (R4 hx)) (hk d' (E9 e1)) nin (by rw[M9];omega)),.sh (.int ((0 + k:Nat):Int)),.sh d', ?_⟩;rw[T7,e1];rfl)
 have e':Ca (gV2 2 3) h_2 (Eo 0 ks) [.sh (.lst ks),.ow (.dic []),.no,.no]=_:=e
 simp![j_4,v_8,Am,u_4,Bv,t_5,av_4,e']
def bz_4{l:List D}{d:D}(hk:∀k∈l,isKey k)(nd:l.Nodup)(hl:l.length < 16777216)(hd:d∈l)(r:List D):j_4 [.lst (l ++ d::r)]=.ex (bm_2 l.length):=by
 have hdk:=hk d hd;have e:=x_2 (gV2 2 3) h_2 (λk Δ=>∃a2 a3,Δ= [.sh (.lst (l ++ d::r)),.ow (.dic (q_3 (l.take k))),a2,a3]) (ds:=Eo 0 (l ++ d::r)) (Δ:=[.sh (.lst (l ++ d::r)),.ow (.dic []),.no,.no]) (n:=l.length)
  (r:=.ex (bm_2 l.length) [.sh (.lst (l ++ d::r)),.ow (.dic (q_3 l)),.sh (.int (l.length:Int)),.sh d]) (d:=.tup [.int ((0 + l.length:Nat):Int),d]) ⟨_,_,rfl⟩ (x_3 (by simp)) (λk d' Δ hkl hd' hI=>by
   obtain⟨a2,a3,rfl⟩:=hI;obtain⟨x,e1,rfl⟩:=q_7 hd';rw[B3 hkl]at e1;have nin:x∉l.take k:=λhm=>by
    obtain⟨j,hj,e⟩:=R7 hm;rw[M9]at hj;rw[List.getElem_take]at e;have:=K8.mp nd j k () hkl ();rw[e]at this;rw[B5 hkl]at e1;injection e1 with e1
    exact this e1.symm
   refine⟨_,rfl,_,.inl (ap_3 (k:=0 + k) (λy hy=>hk y (R4 hy)) (hk x (E9 e1)) nin (by rw[M9];omega)),.sh (.int ((0 + k:Nat):Int)),.sh x, ?_⟩;rw[T7,e1];rfl) (λ Δ hI=>by
   obtain⟨a2,a3,rfl⟩:=hI;refine⟨_,rfl, ?_⟩;rw[U3]
   simp![h_2,Am,inK,bu_0 hdk,(ax_8 hk hdk).mpr hd,r_5,bm_2]) rfl
 simp![j_4,v_8,Am,u_4,Bv,t_5,av_4,e]
def di_3{ks:List D}(hk:∀k∈ks,isKey k)(nd:ks.Nodup)(h1:1<=ks.length)(h2:ks.length<=200):c_9 [.lst ks]=.ok (.sh (.int (ks.length:Int))):=by
 have c1:¬(ks.length:Int)=0:=by omega
 have c2:¬(200:Int) < (ks.length:Int):=by omega
 simp![c_9,p_2,Am,En,h_9,c1,Fm,c2,ce_9 hk,cl_4 hk nd ()]
def di_4{l:List D}{d:D}{r:List D}(hk:∀k∈l,isKey k)(hd:u_7 d)(h2:l.length + r.length < 200):c_9 [.lst (l ++ d::r)]=.ex (Fu l.length):=by
 have zk:((l ++ d::r).length:Int)=(l.length:Int) + (r.length:Int) + 1:=by simp;omega
 have c1:¬((l ++ d::r).length:Int)=0:=by omega
 have c2:¬(200:Int) < ((l ++ d::r).length:Int):=by omega
 simp![c_9,p_2,Am,En,h_9,c1,Fm,c2,bu_1 hk hd,exG]
def badT(d:D):Prop:=u_7 d/\okD 0 d=true
def Gk(d:D):Prop:=isKey d\/badT d
def dy_5:∀c∈sgL,c < 0x110000:=by decide
def cw_8{d:D}(h:Gk d):okD 0 d=true:=by
 rcases h with(⟨n,rfl,_⟩|⟨l,rfl,_,hc⟩)|h
 ·rfl
 ·show(Bl l).cps.all (· < 0x110000)=true;rw[<-ZB8,m_9,F4];intro c h;exact F1 (dy_5 c (hc c h))
 ·exact h.2
def cl_5{xs:List D}(h:∀d∈xs,Gk d):okD 1 (.lst xs)=true:=by
 show xs.all (okD 0)=true;rw[F4];exact λd hd=>cw_8 (h d hd)
def ds_6{c:Nat}(h:c∈sgL):inD true (.str ⟨#[c]⟩) (.str "abcdefghijklmnopqrstuvwxyz0123456789-_ ")=.ok (.sh (.bl false)):=by
 show R.ok (W.sh (D.bl (!!(Builtin.Str.occurrences "abcdefghijklmnopqrstuvwxyz0123456789-_ " ⟨#[c]⟩ 0 (Str.length "abcdefghijklmnopqrstuvwxyz0123456789-_ ") 1).isEmpty)))=_;rw[bz_3 c h];rfl
def cf_0(c:Nat):inD true (.str ⟨#[c]⟩) (.str "abcdefghijklmnopqrstuvwxyz0123456789-_ ")=.ok (.sh (.bl (!Ex c))):=rfl
def cl_6{c:Nat}(h:Ex c=true):∃z:Int,ag_8 (.str "abcdefghijklmnopqrstuvwxyz0123456789-_ ") [.str ⟨#[c]⟩]=.ok (.sh (.int z)):=by
 unfold Ex at h;show∃z:Int,(match Builtin.Str.occurrences "abcdefghijklmnopqrstuvwxyz0123456789-_ " ⟨#[c]⟩ 0 (Str.length "abcdefghijklmnopqrstuvwxyz0123456789-_ ") 1 with
  |i::_=>R.ok (W.sh (D.int (i:Nat)))
  | []=>R.no)=_
 cases e:Builtin.Str.occurrences "abcdefghijklmnopqrstuvwxyz0123456789-_ " ⟨#[c]⟩ 0 (Str.length "abcdefghijklmnopqrstuvwxyz0123456789-_ ") 1 with
 |nil=>rw[e]at h;cases h
 |cons i r=>exact⟨(i:Int),rfl⟩
def z_6{d:D}(h:isKey d):d_8 [d]=.ok (.sh (.int (Bn d))):=by
 have m2:=λj:Int=>m_3 (v_1 (j:=j) (show(-18446744073709551616:Int) < 2 by decide) ⋯);have p18:=al_9 (w_5 (i:=10) (j:=18) ⋯ ⋯ ⋯ ⋯);have e18:(10:Int) ^ (18:Int).toNat=1000000000000000000:=by decide
 rw[e18]at p18;rcases h with⟨n,rfl,h0,h1⟩|⟨l,rfl,hl,hc⟩
 ·have c1:n < 1000000000000000000:=by omega
  have x1:Bw (.lst [.non,.int (2 * n)]) (.int 1)=.ok (.sh (.int (2 * n))):=Dz (Eh (i:=1) rfl);have i1:Gi [.bl true]=.ok (.sh (.int 1)):=rfl
  simp![d_8,p_1,Am,m2,Bn,p18,u_8,ai_8,Et,h0,c1,K7,i1,x1]
 ·have hx:(Bl l).length<=16777216:=by rw[l_8];omega
  have eg:¬(11:Int) < ((Bl l).length:Int):=by rw[l_8];omega
  obtain⟨Δ',e,a2,rfl⟩:=l_3 (gV 2) f_6 (λk Δ=>∃a2,Δ= [.sh (.str (Bl l)),.sh (.int (z_5 (l.take k))),a2]) (ds:=r_8 (Bl l)) (Δ:=[.sh (.str (Bl l)),.sh (.int 0),.no]) ⟨.no,rfl⟩ (λk d Δ hk hI=>by
   obtain⟨a2,rfl⟩:=hI;rw[l_1,B4]at hk;cases q:l[k]? with
   |none=>rw[q]at hk;cases hk
   |some c=>
    rw[q]at hk;cases hk;refine⟨_,rfl,[.sh (.str (Bl l)),.sh (.int (z_5 (l.take (k + 1)))),.sh (.str ⟨#[c]⟩)],.inl ?_,_,rfl⟩;rw[ap_2 l k c q,Int.mul_comm 40]
    simp![f_6,Am,ds_6 (hc c (E9 q)),w_6 hx,Fm,eg,L8,m_3 (ag_9 (show(-18446744073709551616:Int) < 40 by decide) ⋯),O6,cw_3 (hc c (E9 q)),Ec])
  rw[l_1,A4,U3]at e
  simp![d_8,p_1,Am,Bv,l_1,e,m2,Ec,Bn,m_9]
def cl_7(l:List Nat)(h:∃c∈l,Ex c=false):∃(n:Nat) (c:Nat),l[n]? =some c/\Ex c=false/\∀k a,k < n->l[k]? =some a->Ex a=true:=by
 induction l with
 |nil=>obtain⟨c,hc,_⟩:=h;simp at hc
 |cons x l ih=>
  cases q:Ex x with
  |false=>exact⟨0,x,rfl,q,λk a hk=>absurd hk (Y3 k)⟩
  |true=>
   obtain⟨n,c,h1,h2,h3⟩:=ih (by
    obtain⟨c,hc,hb⟩:=h;rcases B8.mp hc with rfl|hc
    ·rw[q]at hb;cases hb
    ·exact⟨c,hc,hb⟩)
   refine⟨n + 1,c,h1,h2,λk a hk ha=> ?_⟩;cases k with
   |zero=>simp only[S3,Option.some.injEq]at ha;rw[<-ha];exact q
   |succ k=>exact h3 k a () (by simpa using ha)
def bm_3{d:D}(h:u_7 d):d_8 [d]=.ok (.sh .non):=by
 have m2:=λj:Int=>m_3 (v_1 (j:=j) (show(-18446744073709551616:Int) < 2 by decide) ⋯);have p18:=al_9 (w_5 (i:=10) (j:=18) ⋯ ⋯ ⋯ ⋯);have e18:(10:Int) ^ (18:Int).toNat=1000000000000000000:=by decide
 rw[e18]at p18;rcases h with⟨n,rfl,h0⟩|⟨l,rfl,hl,hc⟩
 ·have x0:Bw (.lst [.non,.int (2 * n)]) (.int 0)=.ok (.sh .non):=Dz (Eh (i:=0) rfl);have i0:Gi [.bl false]=.ok (.sh (.int 0)):=rfl
  by_cases c0:0<=n
  ·have c1:¬n < 1000000000000000000:=by omega
   simp![d_8,p_1,Am,m2,p18,u_8,ai_8,Et,c0,c1,K7,L8,i0,x0]
  ·simp![d_8,p_1,Am,m2,p18,u_8,ai_8,Et,c0,L8,i0,x0]
 ·have hx:(Bl l).length<=16777216:=by rw[l_8];omega
  have key:Ca (gV 2) f_6 (l.map λc=> .str ⟨#[c]⟩) [.sh (.str (Bl l)),.sh (.int 0),.no]=.rt (.sh .non):=by
   by_cases hb:11 < l.length
   ·have hb':(11:Int) < ((Bl l).length:Int):=by rw[l_8];omega
    obtain⟨c,hc0⟩:∃c,l[0]? =some c:=⟨_,B5 ()⟩;refine x_2 (gV 2) f_6 (λ_ Δ=>Δ= [.sh (.str (Bl l)),.sh (.int 0),.no]) (n:=0) (d:=.str ⟨#[c]⟩) rfl (by rw[B4,hc0];rfl) (λk d Δ hk=>absurd hk (Y3 k)) (λ Δ hI=> ?_) rfl;subst hI;refine⟨_,rfl, ?_⟩;cases q:Ex c with
    |true=>simp![f_6,Am,cf_0,q,w_6 hx,Fm,hb',K7,ZA4]
    |false=>simp![f_6,Am,cf_0,q,ZD7]
   ·have hb':¬(11:Int) < ((Bl l).length:Int):=by rw[l_8];omega
    obtain⟨n,c,g1,g2,g3⟩:=cl_7 l (by
     rcases hc with z|⟨c,hc,b,eb,hb⟩
     ·exact absurd z hb
     ·refine⟨c,hc, ?_⟩;rw[in_B]at eb;subst hb;injection eb with eb;injection eb with eb;injection eb)
    refine x_2 (gV 2) f_6 (λ_ Δ=>∃(z:Int) (a2:Sl),Δ= [.sh (.str (Bl l)),.sh (.int z),a2]) (n:=n) (d:=.str ⟨#[c]⟩) ⟨_,_,rfl⟩ (by rw[B4,g1];rfl) (λk d Δ hk hd hI=> ?_) (λ Δ hI=> ?_) rfl
    ·obtain⟨z,a2,rfl⟩:=hI;rw[B4]at hd;cases q:l[k]? with
     |none=>rw[q]at hd;cases hd
     |some a=>
      rw[q]at hd;cases hd;have ha:=g3 k a hk q;obtain⟨y,hy⟩:=cl_6 ha;refine⟨_,rfl,[.sh (.str (Bl l)),.sh (.int (z * 40 + y + 1)),.sh (.str ⟨#[a]⟩)],.inl ?_,_,_,rfl⟩
      simp![f_6,Am,cf_0,ha,w_6 hx,Fm,hb',L8,ZA4,m_3 (ag_9 (show(-18446744073709551616:Int) < 40 by decide) ⋯),O6,hy,Ec]
    ·obtain⟨z,a2,rfl⟩:=hI;refine⟨_,rfl, ?_⟩
     simp![f_6,Am,cf_0,g2,ZD7]
  simp![d_8,p_1,Am,Bv,l_1,key]
def bm_4:Xn:=⟨"NoKeys",[],[]⟩
def cl_8{xs:List D}(h:xs.length < 1\/200 < xs.length):c_9 [.lst xs]=.ex bm_4:=by
 by_cases c1:(xs.length:Int)=0
 ·simp![c_9,p_2,Am,En,h_9,c1,as_4,bm_4]
 ·have c2:(200:Int) < (xs.length:Int):=by omega
  simp![c_9,p_2,Am,En,h_9,c1,Fm,c2,as_4,bm_4]
def bz_5{l:List D}{d:D}{r:List D}(hk:∀k∈l ++ d::r,isKey k)(nd:l.Nodup)(hd:d∈l)(h2:l.length + r.length < 200):c_9 [.lst (l ++ d::r)]=.ex (bm_2 l.length):=by
 have zk:((l ++ d::r).length:Int)=(l.length:Int) + (r.length:Int) + 1:=by simp;omega
 have c1:¬((l ++ d::r).length:Int)=0:=by omega
 have c2:¬(200:Int) < ((l ++ d::r).length:Int):=by omega
 simp![c_9,p_2,Am,En,h_9,c1,Fm,c2,ce_9 hk,bz_4 (λk h=>hk k (L9 _ h)) nd () hd r,exG]
theorem bf_7:∀{xs:List D},(∀d∈xs,Gk d)->(∀d∈xs,isKey d)\/∃l d r,xs=l ++ d::r/\(∀k∈l,isKey k)/\badT d/\∀k∈r,Gk k
 | [],_=> .inl λd h=>absurd h (by simp)
 |x::xs,h=>by
  rcases h x (by simp) with hx|hx
  ·rcases bf_7 (xs:=xs) (λd hd=>h d (by simp[hd])) with h'|⟨l,d,r,rfl,h1,h2,h3⟩
   ·exact .inl λd hd=>by
     rcases B8.mp hd with rfl|hd
     ·exact hx
     ·exact h' d hd
   ·exact .inr ⟨x::l,d,r,rfl,λk hk=>by
     rcases B8.mp hk with rfl|hk
     ·exact hx
     ·exact h1 k hk,h2,h3⟩
  ·exact .inr ⟨[],x,xs,rfl,λk hk=>absurd hk (by simp),hx,λk hk=>h k (by simp[hk])⟩
def bu_3(xs:List D):xs.Nodup\/∃l d r,xs=l ++ d::r/\l.Nodup/\d∈l:=by
 have:∀n,n<=xs.length->(xs.take n).Nodup\/∃l d r,xs=l ++ d::r/\l.Nodup/\d∈l:=by
  intro n
  induction n with
  |zero=>intro _;exact .inl (by simp)
  |succ n ih=>
   intro hn;rcases ih () with h|h
   ·by_cases hm:xs[n]∈xs.take n
    ·refine .inr ⟨xs.take n,xs[n],xs.drop (n + 1), ?_,h,hm⟩;rw[<-ZA0 (),List.take_append_drop]
    ·left;rw[T7,B5 ()];show(xs.take n ++ [xs[n]]).Nodup;rw[T8];exact⟨h,by simp,λa ha b hb=>by
      have:b=xs[n]:=by simpa using hb
      rintro rfl
      exact hm (this▸ha)⟩
   ·exact .inr h
 have h:=this xs.length (A8 _)
 rwa[U3]at h
def di_5{d:D}{ks:List D}(hd:isKey d)(hk:∀k∈ks,isKey k):inD false d (.lst ks)=.ok (.sh (.bl (Dv d ks))):=by
 unfold inD;simp only[hd.flat,bt_7 hk,ZD9,if_true,E7,N0]
def di_6(b n:Nat):repS (Bl [b]) n=Bl (List.replicate n b):=by
 refine cc_8 ?_;rw[m_9];have all:∀(m:Nat) (a:Array Nat),((List.replicate m (Bl [b]).cps).foldl (· ++ ·) a).toList=a.toList ++ List.replicate m b:=by
  intro m
  induction m with
  |zero=>intro a;simp
  |succ m ih=>
   intro a;rw[K1,U8,ih,K1];simp[Bl]
 show((List.replicate n (Bl [b]).cps).foldl (· ++ ·) #[]).toList=_;rw[all];rfl
def bu_4{b:Nat}{n:Int}(h0:0<=n)(h1:n<=1000):mulT (.str (Bl [b])) (.int n)=.ok (.sh (.str (Bl (List.replicate n.toNat b)))):=by
 unfold mulT;simp only;rw[if_pos ⟨by omega,by rw[l_8];exact Nat.le_of_ble_eq_true rfl⟩,di_6]
def ar_6{x:Str}{l:List Nat}(h:x.cps.toList=l)(hl:l.length<=100){n:Int}(h0:0<=n)(h1:n < l.length):∃c∈l,Bw (.str x) (.int n)=.ok (.sh (.str (Bl [c]))):=by
 have hn:n.toNat < l.length:=by omega
 refine⟨l[n.toNat],R9 hn,cd_0 (by rw[cc_9,h];omega) ?_⟩;rw[h];exact bj_9 h0 (B5 hn)
def cw_9{a b c:Int}(z:Int):∃q:Int,(q=a\/q=b\/q=c)/\Bw (.lst [D.int a,.int b,.int c]) (.int (z % 3))=.ok (.sh (.int q)):=by
 rcases(show z % 3=0\/z % 3=1\/z % 3=2 by omega) with h|h|h <;> rw[h]
 ·exact⟨a,.inl rfl,Dz (Eh (i:=0) rfl)⟩
 ·exact⟨b,.inr (.inl rfl),Dz (Eh (i:=1) rfl)⟩
 ·exact⟨c,.inr (.inr rfl),Dz (Eh (i:=2) rfl)⟩
def oddL:(Str.ofString "A.?").cps.toList= [65,46,63]:=by decide +kernel
def ds_7:∀c∈ [65,46,63],Ex c=false:=by decide +kernel
def cf_1{l:List Nat}(h:∀c∈l,c < 0x110000):okD 0 (.str (Bl l))=true:=by
 show(Bl l).cps.all (· < 0x110000)=true;rw[<-ZB8,m_9,F4];exact λc hc=>F1 (h c hc)
def ax_9(c:Int):∃d,badT d/\j_2 [.int c]=.ok (.sh d):=by
 have p20:=al_9 (w_5 (i:=10) (j:=20) ⋯ ⋯ ⋯ ⋯);have p18:=al_9 (w_5 (i:=10) (j:=18) ⋯ ⋯ ⋯ ⋯);have p9:=al_9 (w_5 (i:=10) (j:=9) ⋯ ⋯ ⋯ ⋯);have e18:(10:Int) ^ (18:Int).toNat=1000000000000000000:=by decide
 have e20:(10:Int) ^ (20:Int).toNat=100000000000000000000:=by decide
 have e9:(10:Int) ^ (9:Int).toNat=1000000000:=by decide
 rw[e18]at p18;rw[e20]at p20;rw[e9]at p9;have d8:=o_4 (i:=c) (show(0:Int) < 8 by decide) ⋯;have d2:=o_4 (i:=c) (show(0:Int) < 2 by decide) ⋯;have d64:=o_4 (i:=c) (show(0:Int) < 64 by decide) ⋯;have m9:=λi:Int=>Dp (i:=i) (show(0:Int) < 9 by decide);have mb:=λi:Int=>Dp (i:=i) (show(0:Int) < 1000000000 by decide);have m3:=λi:Int=>Dp (i:=i) (show(0:Int) < 3 by decide);have m2:=λi:Int=>Dp (i:=i) (show(0:Int) < 2 by decide);obtain⟨far,hf,ef⟩:=cw_9 (a:=1) (b:=1 + c / 8 % 9) (c:=100000000000000000000 + c / 8 % 1000000000) (c / 2);have hf1:1<=far:=by rcases hf with h|h|h <;> omega
 have t1:Ah 1 [0] (Ae Bw (Aw #v[eC (.int 1),Ae Az (eC (.int 1)) (Ae Br (Ae Ck (Ab 0) (eC (.int 8))) (eC (.int 9))),Ae Az (Ae Fh (eC (.int 10)) (eC (.int 20))) (Ae Br (Ae Ck (Ab 0) (eC (.int 8))) (Ae Fh (eC (.int 10)) (eC (.int 9))))]) (Ae Br (Ae Ck (Ab 0) (eC (.int 2))) (eC (.int 3)))) (An 3 [.int c])=.nx [.sh (.int c),.sh (.int far),.no]:=by
  simp![Am,d8,m9,Ec,p20,p9,mb,d2,m3,ef]
 by_cases hc:c % 2=0
 ·obtain⟨d,hd,ed⟩:∃d,badT d/\Bw (.lst [.int (0 - far),.int (1000000000000000000 - 1 + far)]) (.int (c / 64 % 2))=.ok (.sh d):=by
   rcases(show c / 64 % 2=0\/c / 64 % 2=1 by omega) with h|h <;> rw[h]
   ·exact⟨_,⟨.inl ⟨0 - far,rfl,.inl ()⟩,rfl⟩,Dz (Eh (i:=0) rfl)⟩
   ·exact⟨_,⟨.inl ⟨1000000000000000000 - 1 + far,rfl,.inr ()⟩,rfl⟩,Dz (Eh (i:=1) rfl)⟩
  refine⟨d,hd,k_9 ?_⟩;unfold v_6;rw[Bc t1]
  simp![Am,m2,hc,h_9,K7,ah_0,p18,Ec,d64,ed]
 ·have r9:=bu_4 (b:=97) (n:=c / 64 % 9) () ();have r9:mulT (.str "a") (.int (c / 64 % 9))=.ok (.sh (.str (Bl (List.replicate (c / 64 % 9).toNat 97)))):=r9;have r12:=bu_4 (b:=107) (n:=12 + c / 64 % 3) () ();have r12:mulT (.str "k") (.int (12 + c / 64 % 3))=.ok (.sh (.str (Bl (List.replicate (12 + c / 64 % 3).toNat 107)))):=r12;obtain⟨o,ho,eo⟩:=ar_6 oddL ⋯ (n:=c / 8 % 3) () (by show c / 8 % 3 < ((3:Nat):Int);omega);have ca:∀x y:List Nat,x.length + y.length<=1000->Az (.str (Bl x)) (.str (Bl y))=.ok (.sh (.str (Bl (x ++ y)))):=λx y h=>by
   rw[cs_4 (by rw[l_8,l_8];omega),ce_6]
  have c1:=ca (List.replicate (c / 64 % 9).toNat 97) [o] (by simp;omega);have c2:=ca (List.replicate (c / 64 % 9).toNat 97 ++ [o]) [122] (by simp;omega);have c2:Az (.str (Bl (List.replicate (c / 64 % 9).toNat 97 ++ [o]))) (.str "z")=.ok (.sh (.str (Bl (List.replicate (c / 64 % 9).toNat 97 ++ [o] ++ [122])))):=c2;have t2:Ah 2 [0] (Ae Az (Ae Az (Ae mulT (eC (.str "a")) (Ae Br (Ae Ck (Ab 0) (eC (.int 64))) (eC (.int 9)))) (Ae Bw (eC (.str "A.?")) (Ae Br (Ae Ck (Ab 0) (eC (.int 8))) (eC (.int 3))))) (eC (.str "z"))) [.sh (.int c),.sh (.int far),.no]=.nx [.sh (.int c),.sh (.int far),.sh (.str (Bl (List.replicate (c / 64 % 9).toNat 97 ++ [o] ++ [122])))]:=by
   simp![Am,d64,m9,r9,d8,m3,eo,c1,c2]
  have ho':o < 0x110000:=by
   simp only[B8,List.not_mem_nil,or_false]at ho;omega
  obtain⟨d,hd,ed⟩:∃d,badT d/\Bw (.lst [.str (Bl (List.replicate (12 + c / 64 % 3).toNat 107)),.str (Bl (List.replicate (c / 64 % 9).toNat 97 ++ [o] ++ [122])),.str "a\n"]) (.int (c / 2 % 3))=.ok (.sh d):=by
   rcases(show c / 2 % 3=0\/c / 2 % 3=1\/c / 2 % 3=2 by omega) with h|h|h <;> rw[h]
   ·exact⟨_,⟨.inr ⟨_,rfl,by simp;omega,.inl (by simp;omega)⟩,cf_1 λa ha=>by rw[ZA6 ha];decide⟩,Dz (Eh (i:=0) rfl)⟩
   ·refine⟨_,⟨.inr ⟨_,rfl,by simp;omega,.inr ⟨o,by simp,Ex o,in_B o,ds_7 o ho⟩⟩,cf_1 λa ha=> ?_⟩,Dz (Eh (i:=1) rfl)⟩;rcases F6.mp ha with ha|ha
    ·rcases F6.mp ha with ha|ha
     ·rw[ZA6 ha];decide
     ·rw[D8.mp ha];exact ho'
    ·rw[D8.mp ha];decide
   ·exact⟨_,⟨.inr ⟨[97,10],rfl,by decide,.inr ⟨10,by decide,Ex 10,in_B 10,by decide +kernel⟩⟩,by decide +kernel⟩,Dz (Eh (i:=2) rfl)⟩
  refine⟨d,hd,k_9 ?_⟩;unfold v_6;rw[Bc t1];have t3:Bs [0] (Ao (Ae Cj (Ae Br (Ab 0) (eC (.int 2))) (eC (.int 0)))) (As [0,1] (Ae Bw (Aw #v[Ae Ej (eC (.int 0)) (Ab 1),Ae Az (Ae Ej (Ae Fh (eC (.int 10)) (eC (.int 18))) (eC (.int 1))) (Ab 1)]) (Ae Br (Ae Ck (Ab 0) (eC (.int 64))) (eC (.int 2))))) Ay [.sh (.int c),.sh (.int far),.no]=.nx [.sh (.int c),.sh (.int far),.no]:=by
   simp![Am,m2,hc,h_9,L8]
  rw[Bc t3,Bc t2]
  simp![Am,d64,m3,Ec,r12,d2,ed]
open Classical
def cx_0{l:List D}(nd:l.Nodup){i k:Nat}(hi:i < l.length)(hk:k < l.length)(e:l[i]=l[k]):i=k:=by
 rcases R3 i k with h|h|h
 ·exact absurd e (K8.mp nd i k hi hk h)
 ·exact h
 ·exact absurd e.symm (K8.mp nd k i hk hi h)
def cx_1{xs:List D}(h:xs.length < 1\/200 < xs.length):k_0 [.lst xs]=.ok (.ow (.lst [.str "keys",.int 0])):=by
 by_cases c1:(xs.length:Int) < 1
 ·simp![k_0,t_0,Am,En,Et,c1,K7]
 ·have c2:(200:Int) < (xs.length:Int):=by omega
  simp![k_0,t_0,Am,En,Et,c1,L8,Fm,c2,K7]
section
variable{xs l r:List D}{d:D}
def bm_5(h1:1<=xs.length)(h2:xs.length<=200):Bs [0] (Dt (Ao (Ae ltD (Ak Df #v[0]) (eC (.int 1)))) (Ao (Ae gtD (Ak Df #v[0]) (eC (.int 200))))) (As [] (Aw #v[eC (.str "keys"),eC (.int 0)])) Ay (An 3 [.lst xs])=.nx [.sh (.lst xs),.no,.no]:=by
 have c1:¬(xs.length:Int) < 1:=by omega
 have c2:¬(200:Int) < (xs.length:Int):=by omega
 simp![Am,En,Et,c1,L8,Fm,c2]
def ak_5{a1 a2:Sl}:t_5 (Ab 0) (Bg [.sh (.lst xs),a1,a2])=.ok (Eo 0 xs):=rfl
def cf_2{k:Nat}{e:D}(h:(Eo 0 xs)[k]? =some e):∃x,xs[k]? =some x/\e=.tup [.int (k:Int),x]:=by
 cases q:xs[k]? with
 |none=>
  have hl:xs.length<=k:=List.getElem?_eq_none_iff.mp q;have he:∀(ys:List D) (j:Nat),(Eo j ys).length=ys.length:=by
   intro ys
   induction ys with
   |nil=>intro j;rfl
   |cons y ys ih=>intro j;show(Eo (j + 1) ys).length + 1=_;rw[ih];rfl
  rw[D9 (by rw[he];exact hl)]at h;cases h
 |some x=>
  have:=x_3 (k:=0) q;rw[N6]at this;rw[this]at h;exact⟨x,rfl,(K2 h).symm⟩
def cf_3(hk:∀k∈xs,isKey k):∃a1 a2,Bv [0] (t_5 (Ab 0)) (gV2 1 2) g_5 [.sh (.lst xs),.no,.no]=.nx [.sh (.lst xs),a1,a2]:=by
 obtain⟨Δ',e,a1,a2,rfl⟩:=l_3 (gV2 1 2) g_5 (λ_ Δ=>∃a1 a2,Δ= [.sh (.lst xs),a1,a2]) (ds:=Eo 0 xs) (Δ:=[.sh (.lst xs),.no,.no]) ⟨_,_,rfl⟩ (λk e Δ he hI=>by
  obtain⟨a1,a2,rfl⟩:=hI;obtain⟨x,hx,rfl⟩:=cf_2 he;refine⟨_,rfl,[.sh (.lst xs),.sh (.int (k:Int)),.sh x],.inl ?_,_,_,rfl⟩;show g_5 [.sh (.lst xs),.sh (.int (k:Int)),.sh x]=_
  simp![g_5,Am,z_6 (hk x (E9 hx))])
 refine⟨a1,a2, ?_⟩;unfold Bv;rw[ak_5];exact e
def di_7(hk:∀k∈l,isKey k)(hd:u_7 d)(h2:l.length + r.length < 200):k_0 [.lst (l ++ d::r)]=.ok (.ow (.lst [.str "key",.int (l.length:Int)])):=by
 have zk:(l ++ d::r).length=l.length + r.length + 1:=by simp;omega
 have t1:=bm_5 (xs:=l ++ d::r) () ();have hat:(l ++ d::r)[l.length]? =some d:=by simp
 have e1:=x_2 (gV2 1 2) g_5 (λ_ Δ=>∃a1 a2,Δ= [.sh (.lst (l ++ d::r)),a1,a2]) (ds:=Eo 0 (l ++ d::r)) (Δ:=[.sh (.lst (l ++ d::r)),.no,.no]) (n:=l.length) (d:=.tup [.int (l.length:Int),d]) (r:=.rt (.ow (.lst [.str "key",.int (l.length:Int)]))) ⟨_,_,rfl⟩
  (by have:=x_3 (k:=0) hat;rw[N6]at this;exact this) (λk e Δ hkl he hI=>by
   obtain⟨a1,a2,rfl⟩:=hI;obtain⟨x,hx,rfl⟩:=cf_2 he;rw[B3 hkl]at hx;refine⟨_,rfl,[.sh (.lst (l ++ d::r)),.sh (.int (k:Int)),.sh x],.inl ?_,_,_,rfl⟩;show g_5 [.sh (.lst (l ++ d::r)),.sh (.int (k:Int)),.sh x]=_
   simp![g_5,Am,z_6 (hk x (E9 hx))])
  (λ Δ hI=>by
   obtain⟨a1,a2,rfl⟩:=hI;refine⟨_,rfl, ?_⟩;show g_5 [.sh (.lst (l ++ d::r)),.sh (.int (l.length:Int)),.sh d]=_
   simp![g_5,Am,bm_3 hd]) rfl
 have t2:Bv [0] (t_5 (Ab 0)) (gV2 1 2) g_5 [.sh (.lst (l ++ d::r)),.no,.no]=.rt (.ow (.lst [.str "key",.int (l.length:Int)])):=by
  unfold Bv;rw[ak_5];exact e1
 refine k_9 ?_;unfold t_0;rw[Bc t1];unfold Af;rw[t2]
def bz_6(hk:∀k∈xs,isKey k){k:Nat}{x:D}(hx:xs[k]? =some x):inD false x (.lst (Er xs none (some (k:Int))))=.ok (.sh (.bl (decide (x∈xs.take k)))):=by
 have hlt:k < xs.length:=(A9.mp hx).1;rw[cv_7 xs k (),di_5 (hk x (E9 hx)) (λy hy=>hk y (R4 hy))];have:=mem_iff (hk x (E9 hx)) (λy hy=>hk y (R4 hy):∀y∈xs.take k,isKey y)
 congr 3
 rw[P1,this,decide_eq_true_iff]
def cl_9(hk:∀k∈l ++ d::r,isKey k)(nd:l.Nodup)(hd:d∈l)(h2:l.length + r.length < 200):k_0 [.lst (l ++ d::r)]=.ok (.ow (.lst [.str "twice",.int (l.length:Int)])):=by
 have zk:(l ++ d::r).length=l.length + r.length + 1:=by simp;omega
 have t1:=bm_5 (xs:=l ++ d::r) () ();obtain⟨b1,b2,t2⟩:=cf_3 hk;have hat:(l ++ d::r)[l.length]? =some d:=by simp
 have e1:=x_2 (gV2 1 2) g_6 (λ_ Δ=>∃a1 a2,Δ= [.sh (.lst (l ++ d::r)),a1,a2]) (ds:=Eo 0 (l ++ d::r)) (Δ:=[.sh (.lst (l ++ d::r)),b1,b2]) (n:=l.length) (d:=.tup [.int (l.length:Int),d]) (r:=.rt (.ow (.lst [.str "twice",.int (l.length:Int)]))) ⟨_,_,rfl⟩
  (by have:=x_3 (k:=0) hat;rw[N6]at this;exact this) (λk e Δ hkl he hI=>by
   obtain⟨a1,a2,rfl⟩:=hI;obtain⟨x,hx,rfl⟩:=cf_2 he;have hin:=bz_6 hk hx;have hno:decide (x∈(l ++ d::r).take k)=false:=by
    rw[B3 hkl]at hx;rw[List.take_append_of_le_length ()];refine E4 λhm=> ?_;obtain⟨i,hi,e⟩:=R7 hm;rw[M9]at hi;have hx':l[k]=x:=(A9.mp hx).2;have:l[i]' ()=l[k]:=by rw[hx',<-e];simp
    have:=cx_0 nd _ _ this;omega
   rw[hno]at hin;refine⟨_,rfl,[.sh (.lst (l ++ d::r)),.sh (.int (k:Int)),.sh x],.inl ?_,_,_,rfl⟩;show g_6 [.sh (.lst (l ++ d::r)),.sh (.int (k:Int)),.sh x]=_
   simp![g_6,Am,Bj,t_4,hin])
  (λ Δ hI=>by
   obtain⟨a1,a2,rfl⟩:=hI;refine⟨_,rfl, ?_⟩;have hin:=bz_6 hk hat;rw[F1 (by rw[List.take_left'];exact hd;rfl)]at hin;show g_6 [.sh (.lst (l ++ d::r)),.sh (.int (l.length:Int)),.sh d]=_
   simp![g_6,Am,Bj,t_4,hin]) rfl
 have t3:Bv [0] (t_5 (Ab 0)) (gV2 1 2) g_6 [.sh (.lst (l ++ d::r)),b1,b2]=.rt (.ow (.lst [.str "twice",.int (l.length:Int)])):=by
  unfold Bv;rw[ak_5];exact e1
 refine k_9 ?_;unfold t_0;rw[Bc t1,Bc t2];unfold Af;rw[t3]
def cx_2(hk:∀k∈xs,isKey k)(nd:xs.Nodup)(h1:1<=xs.length)(h2:xs.length<=200):k_0 [.lst xs]=.ok (.sh .non):=by
 have t1:=bm_5 h1 h2;obtain⟨b1,b2,t2⟩:=cf_3 hk;obtain⟨Δ',e1,a1,a2,rfl⟩:=l_3 (gV2 1 2) g_6 (λ_ Δ=>∃a1 a2,Δ= [.sh (.lst xs),a1,a2]) (ds:=Eo 0 xs) (Δ:=[.sh (.lst xs),b1,b2]) ⟨_,_,rfl⟩ (λk e Δ he hI=>by
   obtain⟨a1,a2,rfl⟩:=hI;obtain⟨x,hx,rfl⟩:=cf_2 he;have hin:=bz_6 hk hx;have hno:decide (x∈xs.take k)=false:=by
    refine E4 λhm=> ?_;obtain⟨i,hi,e⟩:=R7 hm;rw[M9]at hi;have hx':=(A9.mp hx);have hlt:=hx'.1;have:xs[i]' ()=xs[k]:=by rw[hx'.2,<-e];simp
    have:=cx_0 nd _ _ this;omega
   rw[hno]at hin;refine⟨_,rfl,[.sh (.lst xs),.sh (.int (k:Int)),.sh x],.inl ?_,_,_,rfl⟩;show g_6 [.sh (.lst xs),.sh (.int (k:Int)),.sh x]=_
   simp![g_6,Am,Bj,t_4,hin])
 have t3:Bv [0] (t_5 (Ab 0)) (gV2 1 2) g_6 [.sh (.lst xs),b1,b2]=.nx [.sh (.lst xs),a1,a2]:=by
  unfold Bv;rw[ak_5];exact e1
 refine k_9 ?_;unfold t_0;rw[Bc t1,Bc t2,Bc t3];rfl
end
section
variable{L a b:D}{x:Xn}
def ae_3(h:e_4 [L,a,b]=.ex x):n_3 [.sh L,.sh a,.sh b,.sh .non,.no]=.ex x [.sh L,.sh a,.sh b,.sh .non,.no]:=by
 have hm:ao_3 "Buckets" 3 e_4 #v[0,1,2] [some L,some a,some b,some .non,none]=.ex x:=by
  unfold ao_3;rw[show #v[0,1,2] [some L,some a,some b,some D.non,none]=.ok [L,a,b] from rfl,R.bind_ok,if_pos (show [L,a,b].length=3 from rfl),h];rfl
 simp![n_3,Am,exG,hm]
def at_0{t:D}(h:n_3 [.sh L,.sh a,.sh b,.sh .non,.no]=.ex x [.sh L,.sh a,.sh b,.sh .non,.no])(r:tryH [⟨some 4, L53,aj_7⟩,⟨some 4, L51,aj_8⟩,⟨some 4, L54,aj_9⟩,⟨some 4, L52,ak_0⟩] x [.sh L,.sh a,.sh b,.sh .non,.no]=.nx [.sh L,.sh a,.sh b,.ow t,.no]):h_3 [L,a,b]=.ok (.ow t):=by
 have e:u_0 [.sh L,.sh a,.sh b,.no,.no]=.rt (.ow t):=by
  unfold u_0;refine(Bc (Δ':=[.sh L,.sh a,.sh b,.sh .non,.no]) rfl).trans ((Bc (Δ':=[.sh L,.sh a,.sh b,.ow t,.no]) ?_).trans rfl);unfold ao_4;rw[h];exact r
 unfold h_3 Al;rw[show An 5 [L,a,b]= [.sh L,.sh a,.sh b,.no,.no] from rfl,e]
def cm_0(h:e_4 [L,a,b]=.ex ⟨"NoKeys",[],[]⟩):h_3 [L,a,b]=.ok (.ow (.lst [.str "keys",.int 0,.int 1])):=at_0 (ae_3 h) rfl
def cx_3{n:Int}(h:e_4 [L,a,b]=.ex ⟨"NoKey",["at"],[.int n]⟩):h_3 [L,a,b]=.ok (.ow (.lst [.str "key",.int n,.int 1])):=at_0 (ae_3 h) rfl
def bz_7{n:Int}(h:e_4 [L,a,b]=.ex ⟨"Twice",["at"],[.int n]⟩):h_3 [L,a,b]=.ok (.ow (.lst [.str "twice",.int n,.int 1])):=at_0 (ae_3 h) rfl
def cx_4{n:Int}(h:e_4 [L,a,b]=.ex ⟨"NoFit",["at"],[.int n]⟩):h_3 [L,a,b]=.ok (.ow (.lst [.str "fit",.int n,.int 1])):=at_0 (ae_3 h) rfl
end
def am_7{xs:List D}{a b:D}{x:Xn}(h:c_9 [.lst xs]=.ex x):e_4 [.lst xs,a,b]=.ex x:=by
 have e:Au 1 c_9 #v[1] (Bg (gsome [1] (v_0 4 "Buckets" [.lst xs,a,b])))=.ex x:=by
  rw[<-h];rfl
 have q:y_9 0 "Buckets" [1] c_2 (Au 1 c_9 #v[1]) (v_0 4 "Buckets" [.lst xs,a,b])=.ex x (gsome [1] (v_0 4 "Buckets" [.lst xs,a,b])):=by
  unfold y_9;rw[show(gsome [1] (v_0 4 "Buckets" [.lst xs,a,b]))[0]? =some (.lt (.obj "Buckets" [] [])) from rfl];simp only[if_true,e]
 unfold e_4 aw_2 o_5;rw[show∀(g:FS),Af (y_9 0 "Buckets" [1] c_2 (Au 1 c_9 #v[1])) g (v_0 4 "Buckets" [.lst xs,a,b])=.ex x (gsome [1] (v_0 4 "Buckets" [.lst xs,a,b])) from λg=>by unfold Af;rw[q]]
def am_8{xs:List D}{a b:D}{w:Str}{n:Int}(hx:okD 1 (.lst xs)=true)(hw:okD 0 (.str w)=true)(hd:k_0 [.lst xs]=.ok (.ow (.lst [.str w,.int n])))(hm:h_3 [.lst xs,a,b]=.ok (.ow (.lst [.str w,.int n,.int 1]))):d_9 [.lst xs,a,b]=.ok (.sh (.bl true)):=by
 have hn:=cv_6 1 hx;have he:Cj (.lst [.str w,.int n,.int 1]) (.lst [.str w,.int n,.int 1])=.ok (.sh (.bl true)):=ax_5 1 (by show([D.str w,.int n,.int 1].all (okD 0))=true;simp only[S7,List.all_nil,hw,ZD9];rfl);have e:u_6 [.sh (.lst xs),.sh a,.sh b,.no,.no,.no,.no]=.rt (.sh (.bl true)):=by
  unfold u_6;refine(Bc (Δ':=[.sh (.lst xs),.sh a,.sh b,.ow (.lst xs),.no,.no,.no]) (by simp![Am,au_4])).trans ?_;refine(Bc (Δ':=[.sh (.lst xs),.sh a,.sh b,.ow (.lst xs),.ow (.lst [.str w,.int n]),.no,.no]) (by simp![Am,hd])).trans ?_;refine(Bc (by simp![Am];rfl)).trans ?_;refine(Bc (Δ':=[.sh (.lst xs),.sh a,.sh b,.sh (.lst xs),.ow (.lst [.str w,.int n]),.ow (.lst [.str w,.int n,.int 1]),.no]) (by simp![Am,hm])).trans ?_;refine(Bc (by simp![Am,hn];rfl)).trans ?_
  simp![Am,Az,O5,P2,he]
  rfl
 unfold d_9 Al;rw[show An 7 [.lst xs,a,b]= [.sh (.lst xs),.sh a,.sh b,.no,.no,.no,.no] from rfl,e]
def cm_1{xs:List D}(h:∀d∈xs,Gk d)(a b:D):d_9 [.lst xs,a,b]=.ok (.sh (.bl true))\/((∀d∈xs,isKey d)/\xs.Nodup/\1<=xs.length/\xs.length<=200):=by
 have hx:=cl_5 h
 by_cases hl:xs.length < 1\/200 < xs.length
 ·exact .inl (am_8 hx nofun (cx_1 hl) (cm_0 (am_7 (cl_8 hl))))
 ·have h1:1<=xs.length:=by omega
  have h2:xs.length<=200:=by omega
  rcases bf_7 h with hk|⟨l,d,r,rfl,hk,hd,hr⟩
  ·rcases bu_3 xs with nd|⟨l,d,r,rfl,nd,hd⟩
   ·exact .inr ⟨hk,nd,h1,h2⟩
   ·have zk:l.length + r.length < 200:=by simp at h2;omega
    exact .inl (am_8 hx nofun (cl_9 hk nd hd zk) (bz_7 (am_7 (bz_5 hk nd hd zk))))
  ·have zk:l.length + r.length < 200:=by simp at h2;omega
   exact .inl (am_8 hx nofun (di_7 hk hd.1 zk) (cx_3 (am_7 (di_4 hk hd.1 zk))))
def bm_6{α:Type}(l:List α)(a b:Option Int):(Er l a b).length<=l.length:=by
 unfold Er;rw[M9,List.length_drop];omega
def bm_7{α:Type}{l:List α}{a b:Option Int}{x:α}(h:x∈Er l a b):x∈l:=List.mem_of_mem_drop (R4 h)
def bf_8(z:Int)(h0:0<=z)(h1:z<=999999999999999999):Gk (.int z):=.inl (.inl ⟨z,rfl,h0,h1⟩)
def bu_5{n:Nat}(hn:n<=1000):∀d∈Ch 0 n,Gk d:=λd hd=>by
 unfold Ch at hd;obtain⟨k,hk,rfl⟩:=F0.mp hd;have:=J8.mp hk;exact bf_8 _ () ()
def bu_6(xs:List D):Prop:=(∀d∈xs,Gk d)/\(xs.length<=63\/200 < xs.length)
def bu_7{ks:List D}(hk:∀k∈ks,isKey k)(h1:1<=ks.length)(h2:ks.length<=30)(c:Int):∃xs,bu_6 xs/\∃w,m_5 [.lst ks,.int c]=.ok w/\(w=.sh (.lst xs)\/w=.ow (.lst xs)):=by
 have m6:=Dp (i:=c) (show(0:Int) < 6 by decide);have d6:=o_4 (i:=c) (show(0:Int) < 6 by decide) ⋯;have d60:=o_4 (i:=c) (show(0:Int) < 60 by decide) ⋯;have ib:=o_4 (i:=c) (show(0:Int) < 120 by decide) ⋯;have gr:=o_4 (i:=c) (show(0:Int) < 300 by decide) ⋯;have m9:=λi:Int=>Dp (i:=i) (show(0:Int) < 9 by decide);have m2:=λi:Int=>Dp (i:=i) (show(0:Int) < 2 by decide);have ml:=λi:Int=>Dp (i:=i) (show(0:Int) < (ks.length:Int) by omega);have mk:=λi:Int=>Dp (i:=i) (show(0:Int) < (ks.length:Int) + 1 by omega);obtain⟨bd,hbd,ebd⟩:=ax_9 (c / 300);have hbt:Gk bd:=.inr hbd;have hkt:∀k∈ks,Gk k:=λk h=> .inl (hk k h);have s1:Ah 2 [1] (Ae Br (Ab 1) (eC (.int 6))) (An 6 [.lst ks,.int c])=.nx [.sh (.lst ks),.sh (.int c),.sh (.int (c % 6)),.no,.no,.no]:=by
  simp![Am,m6]
 generalize hat:c / 6 % ((ks.length:Int) + 1)=at_;have s2:Ah 3 [0,1] (Ae Br (Ae Ck (Ab 1) (eC (.int 6))) (Ae Az (Ak Df #v[0]) (eC (.int 1)))) [.sh (.lst ks),.sh (.int c),.sh (.int (c % 6)),.no,.no,.no]=.nx [.sh (.lst ks),.sh (.int c),.sh (.int (c % 6)),.sh (.int at_),.no,.no]:=by
  simp![Am,d6,En,Ec,mk,hat]
 have s3:Ah 4 [1] (Au 1 j_2 #v[Ae Ck (Ab 1) (eC (.int 300))]) [.sh (.lst ks),.sh (.int c),.sh (.int (c % 6)),.sh (.int at_),.no,.no]=.nx [.sh (.lst ks),.sh (.int c),.sh (.int (c % 6)),.sh (.int at_),.sh bd,.no]:=by
  simp![Am,gr,ebd]
 have pre:∀(r:Fl),(∀g,Af (Ah 2 [1] (Ae Br (Ab 1) (eC (.int 6)))) (Af (Ah 3 [0,1] (Ae Br (Ae Ck (Ab 1) (eC (.int 6))) (Ae Az (Ak Df #v[0]) (eC (.int 1))))) (Af (Ah 4 [1] (Au 1 j_2 #v[Ae Ck (Ab 1) (eC (.int 300))])) g)) (An 6 [.lst ks,.int c])=g [.sh (.lst ks),.sh (.int c),.sh (.int (c % 6)),.sh (.int at_),.sh bd,.no]):=λ_ g=>by
  rw[Bc s1,Bc s2,Bc s3]
 have cat:∀x y:List D,x.length + y.length<=10000->Az (.lst x) (.lst y)=.ok (.ow (.lst (x ++ y))):=λx y h=>as_2 ();have la:=bm_6 ks none (some at_);have lb:=bm_6 ks (some at_) none;have two:∀x y:List D,(∀d∈x,Gk d)->(∀d∈y,Gk d)->∀d∈x ++ y,Gk d:=λx y hx hy d hd=>by
  rcases F6.mp hd with h|h
  ·exact hx d h
  ·exact hy d h
 have ta:∀d∈Er ks none (some at_),Gk d:=λd hd=>hkt d (bm_7 hd);have tb:∀d∈Er ks (some at_) none,Gk d:=λd hd=>hkt d (bm_7 hd);have t1:∀a,Gk a->∀d∈ [a],Gk d:=λa ha d hd=>by rw[D8.mp hd];exact ha
 have at1:∀z:Int,∃x,Gk x/\Bw (.lst ks) (.int (z % (ks.length:Int)))=.ok (.sh x):=λz=>by
  have b0:=Q4 z (show(ks.length:Int)≠0 by omega);have b1:=O7 z (show(0:Int) < (ks.length:Int) by omega);have hz:(z % (ks.length:Int)).toNat < ks.length:=by omega
  exact⟨_,hkt _ (R9 hz),Dz (bj_9 b0 (B5 hz))⟩
 have no:∀(f k:Int) (g:FS),f≠k->Bs [2] (Ao (Ae Cj (Ab 2) (eC (.int k)))) g Ay [.sh (.lst ks),.sh (.int c),.sh (.int f),.sh (.int at_),.sh bd,.no]=.nx [.sh (.lst ks),.sh (.int c),.sh (.int f),.sh (.int at_),.sh bd,.no]:=λf k g h=>by
  simp![Am,h_9,h,L8]
 have yes:∀(k:Int) (g h:FS) (w:W),g [.sh (.lst ks),.sh (.int c),.sh (.int k),.sh (.int at_),.sh bd,.no]=.rt w->Af (Bs [2] (Ao (Ae Cj (Ab 2) (eC (.int k)))) g Ay) h [.sh (.lst ks),.sh (.int c),.sh (.int k),.sh (.int at_),.sh bd,.no]=.rt w:=λk g h w e=>by
  have:Bs [2] (Ao (Ae Cj (Ab 2) (eC (.int k)))) g Ay [.sh (.lst ks),.sh (.int c),.sh (.int k),.sh (.int at_),.sh bd,.no]=.rt w:=by
   unfold Bs;rw[show Ao (Ae Cj (Ab 2) (eC (.int k))) (Ax [.sh (.lst ks),.sh (.int c),.sh (.int k),.sh (.int at_),.sh bd,.no])=.ok true by
    rw[show Ax [.sh (.lst ks),.sh (.int c),.sh (.int k),.sh (.int at_),.sh bd,.no]= [some (.lst ks),some (.int c),some (.int k),some (.int at_),some bd,none] from rfl]
    simp![Am,h_9,K7]]
   exact e
  unfold Af;rw[this]
 suffices H:∃xs,bu_6 xs/\∃w,t_8 (An 6 [.lst ks,.int c])=.rt w/\(w=.sh (.lst xs)\/w=.ow (.lst xs)) by
  obtain⟨xs,hx,w,e,hw⟩:=H;exact⟨xs,hx,w,k_9 e,hw⟩
 unfold t_8;rw[pre .no];have bb:∀x:List D,(∀d∈x,Gk d)->x.length<=63->bu_6 x:=λx h l=>⟨h,.inl l⟩;rcases(show c % 6=0\/c % 6=1\/c % 6=2\/c % 6=3\/c % 6=4\/c % 6=5 by omega) with h|h|h|h|h|h <;> rw[h]
 ·have hr:Dw [.int (201 + c / 6 % 9)]=.ok (Ch 0 (201 + c / 6 % 9).toNat):=y_8 () ();have hl:(Ch 0 (201 + c / 6 % 9).toNat).length=(201 + c / 6 % 9).toNat:=l_2 _ _;obtain⟨q,hq,eq⟩:∃q:List D,(q= []\/q= [bd])/\repD [bd] (.int (c / 60 % 2))=.ok (.ow (.lst q)):=by
   rcases(show c / 60 % 2=0\/c / 60 % 2=1 by omega) with e|e <;> rw[e]
   ·exact⟨[],.inl rfl,rfl⟩
   ·exact⟨[bd],.inr rfl,rfl⟩
  have hql:q.length<=1:=by rcases hq with rfl|rfl <;> simp
  have hqt:∀d∈q,Gk d:=by
   rcases hq with rfl|rfl
   ·intro d hd;simp at hd
   ·exact t1 bd hbt
  have hc:=cat (Ch 0 (201 + c / 6 % 9).toNat) q ();have hl2:(Ch 0 (201 + c / 6 % 9).toNat).length<=16777216:=by omega
  obtain⟨xs,hx,ex⟩:∃xs,bu_6 xs/\Bw (.lst [.lst [],.lst (Ch 0 (201 + c / 6 % 9).toNat ++ q)]) (.int (c / 120 % 2))=.ok (.sh (.lst xs)):=by
   rcases(show c / 120 % 2=0\/c / 120 % 2=1 by omega) with e|e <;> rw[e]
   ·exact⟨[],⟨λd hd=>by simp at hd,.inl (by simp)⟩,Dz (Eh (i:=0) rfl)⟩
   ·exact⟨_,⟨two _ _ (bu_5 ()) hqt,.inr (by rw[B6,hl];omega)⟩,Dz (Eh (i:=1) rfl)⟩
  refine⟨xs,hx,.sh (.lst xs),yes _ _ _ _ ?_,.inl rfl⟩
  simp![Am,eRng,d6,m9,Ec,hr,hl2,eRep,d60,m2,eq,hc,ib,ex]
 ·have hl:(Ch 0 201).length=201:=l_2 _ _;have hc:=w_7 (fg:=gC 6) (f:=n_1) (δ:=[some (.lst ks),some (.int c),some (.int 1),some (.int at_),some bd,none,none]) (λd=>match d with| .int z=> .int (z % 200)|d=>d) (Ch 0 201) (λd hd=>by
   unfold Ch at hd;obtain⟨k,_,rfl⟩:=F0.mp hd;refine⟨[some (.lst ks),some (.int c),some (.int 1),some (.int at_),some bd,none,some (.int (0 + (k:Int)))],.sh (.int ((0 + (k:Int)) % 200)),rfl, ?_,rfl⟩
   simp![n_1,Am,Dp (show(0:Int) < 200 by decide)])
  have ec:=n_5 (m:=1) (fi:=Bh Dw #v[eC (.int 201)]) (fg:=gC 6) (p:=λ_=> .ok true) (f:=n_1) (δ:=[some (.lst ks),some (.int c),some (.int 1),some (.int at_),some bd,none]) (ds:=Ch 0 201) rfl (by rw[hl];omega) hc;refine⟨_,⟨?_,.inr ?_⟩,.ow (.lst _),(Bc (no 1 0 _ ⋯)).trans (yes _ _ _ _ (by simp![Am,ec];rfl)),.inr rfl⟩
  ·intro d hd;obtain⟨e,he,rfl⟩:=F0.mp hd;unfold Ch at he;obtain⟨k,hk,rfl⟩:=F0.mp he;exact bf_8 _ () ()
  ·rw[A4,hl];decide
 ·have c1:=cat (Er ks none (some at_)) [bd] (by simp;omega);have c2:=cat (Er ks none (some at_) ++ [bd]) (Er ks (some at_) none) (by simp;omega);refine⟨_,bb _ (two _ _ (two _ _ ta (t1 bd hbt)) tb) (by simp;omega),.ow (.lst _),(Bc (no 2 0 _ ⋯)).trans ((Bc (no 2 1 _ ⋯)).trans (yes _ _ _ _ (by simp![Am,Bj,t_4,c1,c2]))),.inr rfl⟩
 ·obtain⟨x,hx,ex⟩:=at1 0;rw[Int.zero_emod]at ex;have c1:=cat (Er ks none (some at_)) [bd] (by simp;omega);have c2:=cat (Er ks none (some at_) ++ [bd]) (Er ks (some at_) none) (by simp;omega);have c3:=cat (Er ks none (some at_) ++ [bd] ++ Er ks (some at_) none) [bd,x] (by simp;omega);refine⟨_,bb _ (two _ _ (two _ _ (two _ _ ta (t1 bd hbt)) tb) (two [bd] [x] (t1 bd hbt) (t1 x hx))) (by simp;omega),.ow (.lst _),(Bc (no 3 0 _ ⋯)).trans ((Bc (no 3 1 _ ⋯)).trans ((Bc (no 3 2 _ ⋯)).trans (yes _ _ _ _ (by simp![Am,Bj,t_4,c1,c2,ex,c3])))),.inr rfl⟩
 ·obtain⟨x,hx,ex⟩:=at1 (c / 60);have c1:=cat (Er ks none (some at_)) [x] (by simp;omega);have c2:=cat (Er ks none (some at_) ++ [x]) (Er ks (some at_) none) (by simp;omega);refine⟨_,bb _ (two _ _ (two _ _ ta (t1 x hx)) tb) (by simp;omega),.ow (.lst _),(Bc (no 4 0 _ ⋯)).trans ((Bc (no 4 1 _ ⋯)).trans ((Bc (no 4 2 _ ⋯)).trans ((Bc (no 4 3 _ ⋯)).trans (yes _ _ _ _ (by simp![Am,Bj,t_4,d60,En,ml,ex,c1,c2]))))),.inr rfl⟩
 ·have lc:=bm_6 ks none (some (1 + c / 60 % (ks.length:Int)));have c1:=cat ks (Er ks none (some (1 + c / 60 % (ks.length:Int)))) ();refine⟨ks ++ Er ks none (some (1 + c / 60 % (ks.length:Int))),bb _ (two _ _ hkt (λd hd=>hkt d (bm_7 hd))) (by rw[B6];omega),.ow (.lst _),(Bc (no 5 0 _ ⋯)).trans ((Bc (no 5 1 _ ⋯)).trans ((Bc (no 5 2 _ ⋯)).trans ((Bc (no 5 3 _ ⋯)).trans ((Bc (no 5 4 _ ⋯)).trans (by simp![Am,Bj,t_4,d60,En,ml,Ec,c1]))))),.inr rfl⟩
def am_9(n s z:Int)(hz:0 < z):0<=ah_4 n s z/\ah_4 n s z < z:=⟨Q4 _ (),O7 _ hz⟩
def ap_4{fg:FG}{g:FS}{d:D}{ds:List D}{Δ Δ1 Δ2:SE}(h1:fg d Δ=.ok Δ1)(h2:g Δ1=.nx Δ2):Ca fg g (d::ds) Δ=Ca fg g ds Δ2:=by
 rw[Ca];simp only[h1,h2]
def cx_5{fg:FG}{g:FS}{d:D}{ds:List D}{Δ Δ1:SE}{w:W}(h1:fg d Δ=.ok Δ1)(h2:g Δ1=.rt w):Ca fg g (d::ds) Δ=.rt w:=by
 rw[Ca];simp only[h1,h2]
def dy_6{fg:FG}{g:FS}{d:D}{ds:List D}{Δ Δ1 Δ2:SE}{x:Xn}(h1:fg d Δ=.ok Δ1)(h2:g Δ1=.ex x Δ2):Ca fg g (d::ds) Δ=.ex x Δ2:=by
 rw[Ca];simp only[h1,h2]
def Bp(n:Nat)(s x:Int):Int:=ah_4 x (s + 1) (n:Int)
def an_0{n:Nat}(s x:Int)(h1:1<=n):0<=Bp n s x/\Bp n s x < (n:Int):=am_9 _ _ _ ()
def Bm(T:List Int):List (Ar×D):=q_3 (T.map .int)
def Rms(n:Nat)(T:List Int):Prop:=∀r∈T,0<=r/\r < (n:Int)
def at_1{r:Int}(h:0<=r)(h2:r < 1000000):isKey (.int r):=.inl ⟨r,rfl,h,by omega⟩
def Rms.keys{n:Nat}{T:List Int}(h:Rms n T)(hn:n<=1000):∀k∈T.map D.int,isKey k:=λk hk=>by
 obtain⟨r,hr,rfl⟩:=F0.mp hk;have:=h r hr;exact at_1 this.1 ()
def mem_mapI{r:Int}{T:List Int}:D.int r∈T.map D.int↔r∈T:=⟨λh=>by obtain⟨x,hx,e⟩:=F0.mp h;cases e;exact hx,λh=>List.mem_map_of_mem h⟩
def an_1{n:Nat}{T:List Int}{r:Int}(h:Rms n T)(hn:n<=1000)(hr:0<=r/\r < (n:Int)):Es (Bm T) (.inl r)=decide (r∈T):=by
 have:=ax_8 (h.keys hn) (at_1 hr.1 ());rw[mem_mapI]at this;rw[P1,W3];exact this
def an_2{n:Nat}{T:List Int}{r:Int}(h:Rms n T)(hn:n<=1000)(hr:0<=r/\r < (n:Int))(no:r∉T):Fq (Bm T) (.inl r) (.bl true)=Bm (T ++ [r]):=by
 have:=bu_2 (h.keys hn) (at_1 hr.1 ()) (λz=>no (mem_mapI.mp z));unfold Bm;rw[F7];exact this
def an_3(T:List Int):(Bm T).length=T.length:=by unfold Bm q_3;rw[A4,A4]
def ak_6(kvs:List (Ar×D))(r:Int):inK false (.int r) (.dic kvs)=.ok (.sh (.bl (Es kvs (.inl r)))):=rfl
def Rms.snoc{n:Nat}{T:List Int}{r:Int}(h:Rms n T)(hr:0<=r/\r < (n:Int)):Rms n (T ++ [r]):=λx hx=>by
 rcases F6.mp hx with hx|hx
 ·exact h x hx
 ·rw[D8.mp hx];exact hr
def Dl(T rs:List Int):Bool:=decide (rs.Nodup/\∀r∈rs,r∉T)
def ay_0(n:Nat)(s x:Int)(s0:0<=s)(s1:s<=1000)(h1:1<=n):q_9 [.int x,.int s,.int (n:Int)]=.ok (.sh (.int (Bp n s x))):=by
 simp![q_9,bf_4,Am,Ec,(ac_7 x (s + 1) (n:Int) () () ()).1,Bp]
section
variable{n:Nat}{T:List Int}{s:Int}{L:D}
theorem bu_8(h1:1<=n)(hn:n<=1000)(hT:Rms n T)(s0:0<=s)(s1:s<=1000):∀(X O:List Int) (a5 a6:Sl),Rms n O->O.length + X.length < 100000->
  (((X.map (Bp n s)).Nodup/\(∀r∈X.map (Bp n s),r∉T/\r∉O))/\∃O' b5 b6,Ca (gV 5) f_8 (X.map .int) [.sh L,.sh (.int s),.sh (.int (n:Int)),.sh (.dic (Bm T)),.ow (.dic (Bm O)),a5,a6]=.nx [.sh L,.sh (.int s),.sh (.int (n:Int)),.sh (.dic (Bm T)),.ow (.dic (Bm O')),b5,b6])\/
  (¬((X.map (Bp n s)).Nodup/\(∀r∈X.map (Bp n s),r∉T/\r∉O))/\Ca (gV 5) f_8 (X.map .int) [.sh L,.sh (.int s),.sh (.int (n:Int)),.sh (.dic (Bm T)),.ow (.dic (Bm O)),a5,a6]=.rt (.sh (.bl false)))
 | [],O,a5,a6,_,_=> .inl ⟨⟨S4,λr hr=>by simp at hr⟩,O,a5,a6,rfl⟩
 |x::X,O,a5,a6,hO,hl=>by
  have hr:=an_0 s x h1;have e1:=ay_0 n s x s0 s1 h1;have hT':=an_1 hT hn hr;have hO':=an_1 hO hn hr;simp only[C6]at hl;have hfg:gV 5 (.int x) [.sh L,.sh (.int s),.sh (.int (n:Int)),.sh (.dic (Bm T)),.ow (.dic (Bm O)),a5,a6]=.ok [.sh L,.sh (.int s),.sh (.int (n:Int)),.sh (.dic (Bm T)),.ow (.dic (Bm O)),.sh (.int x),a6]:=rfl
  by_cases c:Bp n s x∈T\/Bp n s x∈O
  ·refine .inr ⟨λz=> ?_, ?_⟩
   ·have:=z.2 (Bp n s x) (by simp);rcases c with c|c
    ·exact this.1 c
    ·exact this.2 c
   ·refine cx_5 hfg ?_;rcases c with c|c
    ·simp![f_8,Am,e1,ak_6,hT',c,K7]
    ·by_cases c2:Bp n s x∈T
     ·simp![f_8,Am,e1,ak_6,hT',c2,K7]
     ·simp![f_8,Am,e1,ak_6,hT',hO',c,c2,K7,L8]
  ·have c1:Bp n s x∉T:=λz=>c (.inl z);have c2:Bp n s x∉O:=λz=>c (.inr z);have hz:(Bm O).length < 16777216:=by rw[an_3];omega
   have hb:f_8 [.sh L,.sh (.int s),.sh (.int (n:Int)),.sh (.dic (Bm T)),.ow (.dic (Bm O)),.sh (.int x),a6]=.nx [.sh L,.sh (.int s),.sh (.int (n:Int)),.sh (.dic (Bm T)),.ow (.dic (Bm (O ++ [Bp n s x]))),.sh (.int x),.sh (.int (Bp n s x))]:=by
    simp![f_8,Am,e1,ak_6,hT',hO',c1,c2,L8]
    simp![w_4,Am,Ef,hz,an_2 hO hn hr c2,if_true]
   have nd:((x::X).map (Bp n s)).Nodup/\(∀r∈(x::X).map (Bp n s),r∉T/\r∉O)↔(X.map (Bp n s)).Nodup/\(∀r∈X.map (Bp n s),r∉T/\r∉O ++ [Bp n s x]):=by
    rw[B2,K3];constructor
    ·rintro ⟨⟨z1,z2⟩,z3⟩
     refine⟨z2,λr hr=>⟨(z3 r (.tail _ hr)).1,λq=> ?_⟩⟩;rcases F6.mp q with q|q
     ·exact(z3 r (.tail _ hr)).2 q
     ·rw[D8.mp q]at hr;exact z1 hr
    ·rintro ⟨z2,z3⟩
     refine⟨⟨λq=>(z3 _ q).2 (by simp),z2⟩,λr hr=> ?_⟩;rcases B8.mp hr with rfl|hr
     ·exact⟨c1,c2⟩
     ·exact⟨(z3 r hr).1,λq=>(z3 r hr).2 (by simp[q])⟩
   rw[nd,B2 (f:=D.int),ap_4 hfg hb];exact bu_8 h1 hn hT s0 s1 X (O ++ [Bp n s x]) _ _ (hO.snoc hr) (by rw[B6,M5];omega)
def bm_8(h1:1<=n)(hn:n<=1000)(hT:Rms n T)(s0:0<=s)(s1:s<=1000)(X:List Int)(hX:X.length<=1000):u_5 [.lst (X.map .int),.int s,.int (n:Int),.dic (Bm T)]=.ok (.sh (.bl (Dl T (X.map (Bp n s))))):=by
 have q1:Ah 4 [] u_4 (An 7 [.lst (X.map .int),.int s,.int (n:Int),.dic (Bm T)])=.nx [.sh (.lst (X.map .int)),.sh (.int s),.sh (.int (n:Int)),.sh (.dic (Bm T)),.ow (.dic (Bm [])),.no,.no]:=rfl;have hf:∀Δ',Ca (gV 5) f_8 (X.map .int) [.sh (.lst (X.map .int)),.sh (.int s),.sh (.int (n:Int)),.sh (.dic (Bm T)),.ow (.dic (Bm [])),.no,.no]=Δ'->Bv [0] (Cg (Ab 0)) (gV 5) f_8 [.sh (.lst (X.map .int)),.sh (.int s),.sh (.int (n:Int)),.sh (.dic (Bm T)),.ow (.dic (Bm [])),.no,.no]=Δ':=λ Δ' e=>by
  rw[<-e];simp![Bv,Am]
 refine k_9 ?_;unfold ap_1;rw[Bc q1];rcases bu_8 (L:=.lst (X.map .int)) h1 hn hT s0 s1 X [] .no .no (λ_ h=>by simp at h) (by simp;omega) with⟨z,O',b5,b6,e⟩|⟨z,e⟩
 ·have:Dl T (X.map (Bp n s))=true:=F1 ⟨z.1,λr hr=>(z.2 r hr).1⟩;rw[this,Bc (hf _ e)];rfl
 ·have:Dl T (X.map (Bp n s))=false:=E4 λy=>z ⟨y.1,λr hr=>⟨y.2 r hr,by simp⟩⟩;rw[this];unfold Af;rw[hf _ e]
end
def cf_4(l:List Int):w_3 (l.map .int)=some l:=by
 have e:=bf_5 (λi:Int=>i) l
 rwa[ZE8]at e
def cx_6{l:List Int}(h:l.length<=4000):as_0 (.lst (l.map .int))=.ok (.sh (.int (met l).length)):=by
 unfold as_0;simp only[cf_4,if_pos h]
theorem bu_9:∀(l zn:List Int),(l.foldl PyProof.Rows.step_dedup zn).length<=zn.length + l.length/\((l.foldl PyProof.Rows.step_dedup zn).length=zn.length + l.length↔l.Nodup/\∀x∈l,x∉zn)
 | [],zn=>⟨A8 _,λ_=>⟨S4,λx hx=>by simp at hx⟩,λ_=>rfl⟩
 |x::l,zn=>by
  rw[U8];obtain⟨i1,i2⟩:=bu_9 l (PyProof.Rows.step_dedup zn x)
  by_cases c:zn.any (· ==x)=true
  ·have e:PyProof.Rows.step_dedup zn x=zn:=by unfold PyProof.Rows.step_dedup;rw[if_pos c]
   have hx:x∈zn:=by
    obtain⟨y,hy,e2⟩:=X1.mp c;rw[<-eq_of_beq e2];exact hy
   rw[e]at i1 i2⊢;simp only[C6];exact⟨by omega,λz=>by omega,λz=>absurd hx (z.2 x (by simp))⟩
  ·have e:PyProof.Rows.step_dedup zn x=zn ++ [x]:=by unfold PyProof.Rows.step_dedup;rw[if_neg c]
   have hx:x∉zn:=λhx=>c (X1.mpr ⟨x,hx,by simp⟩);rw[e]at i1 i2⊢;simp only[B6,C6,P3]at i1 i2⊢;refine⟨by omega,λz=> ?_,λz=> ?_⟩
   ·obtain⟨j1,j2⟩:=i2.mp ();refine⟨K3.mpr ⟨λhm=>j2 x hm (by simp),j1⟩,λy hy=> ?_⟩;rcases B8.mp hy with rfl|hy
    ·exact hx
    ·exact λhm=>j2 y hy (by simp[hm])
   ·have:=i2.mpr ⟨(K3.mp z.1).2,λy hy q=>by
     rcases F6.mp q with q|q
     ·exact z.2 y (by simp[hy]) q
     ·rw[D8.mp q]at hy;exact(K3.mp z.1).1 hy⟩
    omega
def di_8(l:List Int):(met l).length<=l.length/\((met l).length=l.length↔l.Nodup):=by
 unfold met PyProof.Rows.firstMet;have e:(List.range l.length).map (λi=>l.getD i 0)=l:=by
  refine P0 λi=> ?_;rw[B4]
  by_cases hi:i < l.length
  ·rw[F3 hi,B5 hi];simp[List.getD,hi]
  ·rw[D9 (by simp;omega),D9 ()];rfl
 rw[e];obtain⟨a,b⟩:=bu_9 l [];simp only[P3,N6]at a b;exact⟨a,b.trans ⟨λz=>z.1,λz=>⟨z,λ_ _=>by simp⟩⟩⟩
section
variable{n:Nat}{T:List Int}{s:Int}
def bv_0(h1:1<=n)(hn:n<=1000)(hT:Rms n T)(s0:0<=s)(s1:s<=1000)(X:List Int)(hX:X.length<=1000):z_4 [.lst (X.map .int),.int s,.dic (Bm T),.int (n:Int)]=.ok (.sh (.bl (Dl T (X.map (Bp n s))))):=by
 have hc:=w_7 (fg:=gC 5) (f:=n_2) (δ:=[some (.lst (X.map .int)),some (.int s),some (.dic (Bm T)),some (.int (n:Int)),none,none]) (λd=>match d with| .int x=>D.int (Bp n s x)|d=>d) (X.map .int) (λd hd=>by
  obtain⟨x,hx,rfl⟩:=F0.mp hd;refine⟨[some (.lst (X.map .int)),some (.int s),some (.dic (Bm T)),some (.int (n:Int)),none,some (.int x)],.sh (.int (Bp n s x)),rfl, ?_,rfl⟩
  simp![n_2,Am,Ec,(ac_7 x (s + 1) (n:Int) () () ()).2,Bp])
 have hm:(X.map D.int).map (λd=>match d with| .int x=>D.int (Bp n s x)|d=>d)=(X.map (Bp n s)).map .int:=by rw[L7,L7];rfl
 rw[hm]at hc;have ec:=n_5 (m:=1) (fi:=Cg (Ab 0)) (fg:=gC 5) (p:=λ_=> .ok true) (f:=n_2) (δ:=[some (.lst (X.map .int)),some (.int s),some (.dic (Bm T)),some (.int (n:Int)),none]) (ds:=X.map .int) (by simp![Am]) (by rw[A4];omega) hc;have hR:Rms n (X.map (Bp n s)):=λr hr=>by
  obtain⟨x,_,rfl⟩:=F0.mp hr;exact an_0 s x h1
 have hRl:(X.map (Bp n s)).length<=1000:=by rw[A4];exact hX
 generalize X.map (Bp n s)=rs at *
 have q1:Ah 4 [0,1,3] (Cl 1 (Cg (Ab 0)) (gC 5) (λ_=> .ok true) n_2) (An 5 [.lst (X.map .int),.int s,.dic (Bm T),.int (n:Int)])=.nx [.sh (.lst (X.map .int)),.sh (.int s),.sh (.dic (Bm T)),.sh (.int (n:Int)),.ow (.lst (rs.map .int))]:=by
  unfold Ah;show(match Cl 1 (Cg (Ab 0)) (gC 5) (λ_=> .ok true) n_2 [some (.lst (X.map .int)),some (.int s),some (.dic (Bm T)),some (.int (n:Int)),none] with| .ok (.sh d)=>_| .ok (.ow d)=>_| .ok (.tr t)=>_| .ex x=>_| .no=>_)=_;rw[ec];rfl
 obtain⟨m1,m2⟩:=di_8 rs;have ls:=cx_6 (l:=rs) ();refine k_9 ?_;unfold ax_4;rw[Bc q1]
 by_cases nd:rs.Nodup
 ·have c:¬(((met rs).length:Int) < (rs.length:Int)):=by have:=m2.mpr nd;omega
  have q2:Bs [4] (Ao (Ae ltD (ad_7 (Ab 4)) (Ak Df #v[4]))) (As [] (eC (.bl false))) Ay [.sh (.lst (X.map .int)),.sh (.int s),.sh (.dic (Bm T)),.sh (.int (n:Int)),.ow (.lst (rs.map .int))]=.nx [.sh (.lst (X.map .int)),.sh (.int s),.sh (.dic (Bm T)),.sh (.int (n:Int)),.ow (.lst (rs.map .int))]:=by
   simp![Am,ad_7,ls,En,A4,Et,c,L8]
  rw[Bc q2];have hc2:=ad_9 (fg:=gC 5) (p:=s_9) (f:=Ab 5) (δ:=[some (.lst (X.map .int)),some (.int s),some (.dic (Bm T)),some (.int (n:Int)),some (.lst (rs.map .int)),none]) (λd=>match d with| .int r=>decide (r∈T)|_=>false) (λd=>d) (rs.map .int) (λd hd=>by
   obtain⟨r,hr,rfl⟩:=F0.mp hd;refine⟨[some (.lst (X.map .int)),some (.int s),some (.dic (Bm T)),some (.int (n:Int)),some (.lst (rs.map .int)),some (.int r)],rfl, ?_,λ_=>⟨_,rfl,rfl⟩⟩
   simp![s_9,Am,ak_6,an_1 hT hn (hR r hr)])
  rw[ZE8,List.filter_map]at hc2;have ec2:=n_5 (m:=1) (fi:=Cg (Ab 4)) (fg:=gC 5) (p:=s_9) (f:=Ab 5) (δ:=[some (.lst (X.map .int)),some (.int s),some (.dic (Bm T)),some (.int (n:Int)),some (.lst (rs.map .int))]) (ds:=rs.map .int) (by simp![Am]) (by rw[A4];omega) hc2;have kf:∀k∈(rs.filter ((λd=>match d with| .int r=>decide (r∈T)|_=>false) ∘ D.int)).map D.int,isKey k:=λk hk=>by
   obtain⟨r,hr,rfl⟩:=F0.mp hk;have:=hR r (Q1.mp hr).1;exact at_1 this.1 ()
  obtain⟨b,hb,eb,_⟩:=ak_4 kf (js:=[]) (λ_ h=>by simp at h);have hv:Ax [.sh (.lst (X.map .int)),.sh (.int s),.sh (.dic (Bm T)),.sh (.int (n:Int)),.ow (.lst (rs.map .int))]= [some (.lst (X.map .int)),some (.int s),some (.dic (Bm T)),some (.int (n:Int)),some (.lst (rs.map .int))]:=rfl;have fin:Dl T rs=b:=by
   unfold Dl;rw[P1,W3,hb,List.map_eq_nil_iff,List.filter_eq_nil_iff];constructor
   ·intro z r hr q;exact z.2 r hr (F5 q)
   ·intro z;exact⟨nd,λr hr q=>z r hr (F1 q)⟩
  rw[fin];unfold As;rw[hv]
  simp![Am,ec2,eb]
 ·have c:((met rs).length:Int) < (rs.length:Int):=by
   have:(met rs).length≠rs.length:=λz=>nd (m2.mp z);omega
  have:Dl T rs=false:=E4 λz=>nd z.1;rw[this];have q2:Bs [4] (Ao (Ae ltD (ad_7 (Ab 4)) (Ak Df #v[4]))) (As [] (eC (.bl false))) Ay [.sh (.lst (X.map .int)),.sh (.int s),.sh (.dic (Bm T)),.sh (.int (n:Int)),.ow (.lst (rs.map .int))]=.rt (.sh (.bl false)):=by
   simp![Am,ad_7,ls,En,A4,Et,c,K7]
  unfold Af;rw[q2]
end
def l_0(n jm:Nat)(T X:List Int):Option Nat:=(List.range jm).find? λ(s:Nat)=>Dl T (X.map (Bp n (s:Int)))
def numD:Option Nat->D
 |some s=> .int (s:Int)
 |none=> .non
def cm_3{p:Nat->Bool}{n:Nat}(h:(List.range n).find? p=none):∀s,s < n->p s=false:=λs hs=>by
 have:=List.find?_eq_none.mp h s (J8.mpr hs);simpa using this
def ae_4{p:Nat->Bool}{n s:Nat}(h:(List.range n).find? p=some s):s < n/\p s=true/\∀t,t < s->p t=false:=by
 have h1:=List.find?_some h;have h2:=J8.mp (List.mem_of_find?_eq_some h);refine⟨h2,h1,λt ht=> ?_⟩;obtain⟨_,as,bs,e,ha⟩:=List.find?_eq_some_iff_append.mp h;have hl:as.length=s:=by
  have q:(List.range n)[as.length]? =some s:=by rw[e];simp
  have hlt:as.length < n:=by
   have:=L6 List.length e;simp at this;omega
  rw[F3 hlt]at q;exact K2 q
 have hta:t∈as:=by
  have q:(List.range n)[t]? =some t:=F3 ();rw[e,B3 ()]at q;exact E9 q
 have:=ha t hta;simpa using this
section
variable{n jm:Nat}{T X:List Int}
theorem ay_1(h1:1<=n)(hn:n<=1000)(hT:Rms n T)(hX:X.length<=1000):∀(ts:List Nat) (a4:Sl),(∀t∈ts,t<=1000)->match ts.find? (λ(s:Nat)=>Dl T (X.map (Bp n (s:Int)))) with
  |some s=>Ca (gV 4) e_1 (ts.map λ(t:Nat)=>D.int (t:Int)) [.sh (.lst (X.map .int)),.sh (.int (n:Int)),.sh (.dic (Bm T)),.sh (.int (jm:Int)),a4]=.rt (.sh (.int (s:Int)))
  |none=>∃b4,Ca (gV 4) e_1 (ts.map λ(t:Nat)=>D.int (t:Int)) [.sh (.lst (X.map .int)),.sh (.int (n:Int)),.sh (.dic (Bm T)),.sh (.int (jm:Int)),a4]=.nx [.sh (.lst (X.map .int)),.sh (.int (n:Int)),.sh (.dic (Bm T)),.sh (.int (jm:Int)),b4]
 | [],a4,_=>⟨a4,rfl⟩
 |t::ts,a4,ht=>by
  have e:=bm_8 h1 hn hT (s:=(t:Int)) () (by have:=ht t (by simp);omega) X hX;have hfg:gV 4 (.int (t:Int)) [.sh (.lst (X.map .int)),.sh (.int (n:Int)),.sh (.dic (Bm T)),.sh (.int (jm:Int)),a4]=.ok [.sh (.lst (X.map .int)),.sh (.int (n:Int)),.sh (.dic (Bm T)),.sh (.int (jm:Int)),.sh (.int (t:Int))]:=rfl;rw[M6];cases c:Dl T (X.map (Bp n (t:Int))) with
  |true=>
   refine cx_5 hfg ?_
   simp![e_1,Am,e,c]
  |false=>
   have hb:e_1 [.sh (.lst (X.map .int)),.sh (.int (n:Int)),.sh (.dic (Bm T)),.sh (.int (jm:Int)),.sh (.int (t:Int))]=.nx [.sh (.lst (X.map .int)),.sh (.int (n:Int)),.sh (.dic (Bm T)),.sh (.int (jm:Int)),.sh (.int (t:Int))]:=by
    simp![e_1,Am,e,c]
   rw[B2,ap_4 hfg hb];exact ay_1 h1 hn hT hX ts _ λq hq=>ht q (by simp[hq])
def cx_7(h1:1<=n)(hn:n<=1000)(hm:jm<=1000)(hT:Rms n T)(hX:X.length<=1000):k_2 [.lst (X.map .int),.int (n:Int),.dic (Bm T),.int (jm:Int)]=.ok (.sh (numD (l_0 n jm T X))):=by
 have hz:Ch 0 jm=(List.range jm).map λ(t:Nat)=>D.int (t:Int):=by
  unfold Ch;refine L5 λk _=> ?_;rw[ZE9]
 have hl:=ay_1 (jm:=jm) h1 hn hT hX (List.range jm) .no λt ht=>by have:=J8.mp ht;omega
 rw[<-hz]at hl;have hf:∀r,Ca (gV 4) e_1 (Ch 0 jm) [.sh (.lst (X.map .int)),.sh (.int (n:Int)),.sh (.dic (Bm T)),.sh (.int (jm:Int)),.no]=r->Bv [3] (Bh Dw #v[3]) (gV 4) e_1 (An 5 [.lst (X.map .int),.int (n:Int),.dic (Bm T),.int (jm:Int)])=r:=λr e=>by
  show Bv [3] (Bh Dw #v[3]) (gV 4) e_1 [.sh (.lst (X.map .int)),.sh (.int (n:Int)),.sh (.dic (Bm T)),.sh (.int (jm:Int)),.no]=r;rw[<-e]
  simp![Bv,Am,y_8 (show(-4611686018427387903:Int)<=(jm:Int) by omega) (),N3]
 refine k_9 ?_;unfold ac_3;unfold l_0;cases e:(List.range jm).find? (λ(s:Nat)=>Dl T (X.map (Bp n (s:Int)))) with
 |none=>
  rw[e]at hl;obtain⟨b4,e1⟩:=hl;rw[Bc (hf _ e1)];rfl
 |some s=>
  rw[e]at hl;unfold Af;rw[hf _ hl];rfl
end
def bk(B:Nat)(x:Int):Nat:=(ah_4 x 0 (B:Int)).toNat
def cx_8{B:Nat}(x:Int)(h:1<=B):bk B x < B:=by
 have:=am_9 x 0 (B:Int) ();unfold bk;omega
def cx_9{B:Nat}(x:Int)(h:1<=B):ah_4 x 0 (B:Int)=((bk B x:Nat):Int):=by
 have:=am_9 x 0 (B:Int) ();unfold bk;omega
def Bi(B:Nat)(L:List Int)(b:Nat):List Int:=L.filter λx=>decide (bk B x=b)
def x_4(B:Nat)(L:List Int)(x:Int)(b:Nat):Bi B (L ++ [x]) b=if b=bk B x then Bi B L b ++ [x] else Bi B L b:=by
 unfold Bi;rw[List.filter_append]
 by_cases h:b=bk B x
 ·rw[if_pos h,ZB9,if_pos (F1 h.symm)];rfl
 ·rw[if_neg h,ZB9,if_neg (by simpa using λz=>h z.symm)];simp
def at_2(B:Nat)(L:List Int)(b:Nat):(Bi B L b).length<=L.length:=W6 _ _
section
variable{α:Type}
def t_1(x:Ar)(v:α)(l:List (Ar×α))(k:Ar):De ((x,v)::l) k=if x=k then some v else De l k:=by
 unfold De;rw[M6]
 by_cases h:x=k
 ·rw[if_pos h,F1 h];rfl
 ·rw[if_neg h,E4 h]
def cy_0(l r:List (Ar×α))(k:Ar):De (l ++ r) k=(De l k).or (De r k):=by
 induction l with
 |nil=>rfl
 |cons q l ih=>
  obtain⟨x,v⟩:=q;rw[O5,t_1,t_1,ih]
  split <;> rfl
end
def shI(l:List Int):List Tn:=l.map λx=> .sh (.int x)
def gkT(g:Nat->List Int)(os:List Nat):List (Ar×Tn):=os.map λ(b:Nat)=>(Sum.inl (b:Int),Tn.lst (shI (g b)))
def inl_ne{a b:Nat}:(Sum.inl (a:Int):Ar)=.inl (b:Int)↔a=b:=⟨λz=>by injection z with z;omega,λz=>by rw[z]⟩
theorem cy_1(f:Nat->Tn)(b:Nat):∀os:List Nat,De (os.map λ(b:Nat)=>((Sum.inl (b:Int):Ar),f b)) (.inl (b:Int))=if b∈os then some (f b) else none
 | []=>rfl
 |o::os=>by
  rw[B2,t_1,cy_1 f b os]
  by_cases h:o=b
  ·subst h;rw[if_pos rfl,if_pos (by simp)]
  ·rw[if_neg (λz=>h (inl_ne.mp z))]
   by_cases h2:b∈os
   ·rw[if_pos h2,if_pos (by simp[h2])]
   ·rw[if_neg h2,if_neg (λz=>(B8.mp z).elim (λz=>h z.symm) h2)]
theorem cy_2(f:Nat->Tn)(b:Nat)(v:Tn):∀os:List Nat,os.Nodup->Dx (os.map λ(b:Nat)=>((Sum.inl (b:Int):Ar),f b)) (.inl (b:Int)) v=os.map λ(q:Nat)=>((Sum.inl (q:Int):Ar),if q=b then v else f q)
 | [],_=>rfl
 |o::os,nd=>by
  rw[B2,Dx,B2];obtain⟨n1,n2⟩:=K3.mp nd
  by_cases h:o=b
  ·subst h;rw[if_pos rfl,if_pos rfl];refine L6 _ (L5 λq hq=> ?_);rw[if_neg (λz:q=o=>n1 (by rw[<-z];exact hq))]
  ·rw[if_neg (λz=>h (inl_ne.mp z)),if_neg h,cy_2 f b v os n2]
theorem cf_5{α:Type}(v:α)(k:Ar)(v0:α):∀l:List (Ar×α),De l k=none->Dx (l ++ [(k,v0)]) k v=l ++ [(k,v)]
 | [],_=>by rw[P2,Dx,if_pos rfl];rfl
 |(x,w)::l,h=>by
  rw[t_1]at h;rw[O5,Dx]
  by_cases e:x=k
  ·rw[if_pos e]at h;cases h
  ·rw[if_neg e]at h⊢;rw[cf_5 v k v0 l h];rfl
structure GK(B:Nat)(L:List Int)(os:List Nat)(zm:List (Ar×Tn)):Prop where
 eq:zm=gkT (Bi B L) os
 nd:os.Nodup
 mem:∀b,b∈os↔Bi B L b≠ []
def GK.lt{B:Nat}{L:List Int}{os:List Nat}{zm:List (Ar×Tn)}(h:GK B L os zm)(hB:1<=B):∀b∈os,b < B:=λb hb=>by
 obtain⟨x,hx⟩:=List.exists_mem_of_ne_nil _ ((h.mem b).mp hb);have:=F5 (Q1.mp hx).2;rw[<-this];exact cx_8 x hB
def bm_9{B:Nat}(x:Int)(h:1<=B):m_8 [.int x,.int (B:Int)]=.ok (.sh (.int ((bk B x:Nat):Int))):=by
 simp![m_8,ap_0,Am,(ac_7 x 0 (B:Int) ⋯ ⋯ ()).1,cx_9 x h]
def cf_6{B:Nat}{L:List Int}{os:List Nat}{zm:List (Ar×Tn)}(h:GK B L os zm)(hB:1<=B)(x:Int)(hl:L.length<=1000)(hos:os.length<=1000){Ld:D}:∃os' au,d_0 [.sh Ld,.sh (.int (B:Int)),.tr (.dic zm),.sh (.int x)]=.nx [.sh Ld,.sh (.int (B:Int)),.tr (.dic au),.sh (.int x)]/\GK B (L ++ [x]) os' au/\os'.length<=os.length + 1:=by
 have hv:De zm (.inl ((bk B x:Nat):Int))=if bk B x∈os then some (.lst (shI (Bi B L (bk B x)))) else none:=by rw[h.eq];exact cy_1 _ _ os
 have hlk:zm.length=os.length:=by rw[h.eq];exact A4 _
 have gl:=at_2 B L (bk B x);have e:=bm_9 x hB;have go:∀cq,sdK zm (.inl ((bk B x:Nat):Int))=cq->∀ts,De cq (.inl ((bk B x:Nat):Int))=some (.lst ts)->ts.length < 16777216->d_0 [.sh Ld,.sh (.int (B:Int)),.tr (.dic zm),.sh (.int x)]=.nx [.sh Ld,.sh (.int (B:Int)),.tr (.dic (Dx cq (.inl ((bk B x:Nat):Int)) (.lst (ts ++ [.sh (.int x)])))),.sh (.int x)]:=λcq e2 ts e3 e4=>by
  have ht:(([.sh Ld,.sh (.int (B:Int)),.tr (.dic zm),.sh (.int x)]:SE)[2]?).bind Sl.tree=some (.dic zm,false):=rfl;have f1:Au 2 m_8 #v[3,1] (Ax [.sh Ld,.sh (.int (B:Int)),.tr (.dic zm),.sh (.int x)])=.ok (.sh (.int ((bk B x:Nat):Int))):=by simp![Am,e]
  unfold d_0 sSdb;rw[ht];simp only[f1,W.d_sh,Ef,e2,e3];rw[if_pos (),if_pos e4];rfl
 by_cases hb:bk B x∈os
 ·rw[if_pos hb]at hv;have hs:sdK zm (.inl ((bk B x:Nat):Int))=zm:=by unfold sdK;rw[hv]
  refine⟨os,_,go zm hs _ hv (by unfold shI;rw[A4];omega),⟨?_,h.nd,λb=> ?_⟩,by omega⟩
  ·rw[h.eq];unfold gkT;rw[cy_2 _ _ _ os h.nd];refine L5 λq _=> ?_;rw[x_4]
   by_cases z:q=bk B x
   ·rw[if_pos z,if_pos z,z];unfold shI;rw[F7];rfl
   ·rw[if_neg z,if_neg z]
  ·rw[x_4]
   by_cases z:b=bk B x
   ·rw[if_pos z,z];exact⟨λ_=>by simp,λ_=>hb⟩
   ·rw[if_neg z];exact h.mem b
 ·rw[if_neg hb]at hv;have hg:Bi B L (bk B x)= []:=by
   by_cases z:Bi B L (bk B x)= []
   ·exact z
   ·exact absurd ((h.mem _).mpr z) hb
  have hs:sdK zm (.inl ((bk B x:Nat):Int))=zm ++ [(.inl ((bk B x:Nat):Int),.lst [])]:=by unfold sdK;rw[hv]
  have hv2:De (zm ++ [(.inl ((bk B x:Nat):Int),Tn.lst [])]) (.inl ((bk B x:Nat):Int))=some (.lst []):=by
   rw[cy_0,hv,t_1,if_pos rfl];rfl
  refine⟨os ++ [bk B x],_,go _ hs [] hv2 ⋯,⟨?_, ?_,λb=> ?_⟩,by simp⟩
  ·rw[cf_5 _ _ _ _ hv,h.eq];unfold gkT;rw[F7];have e1:os.map (λ(b:Nat)=>((Sum.inl (b:Int):Ar),Tn.lst (shI (Bi B L b))))=os.map λ(b:Nat)=>(Sum.inl (b:Int),Tn.lst (shI (Bi B (L ++ [x]) b))):=L5 λq hq=>by
    rw[x_4,if_neg (λz:q=bk B x=>hb (by rw[<-z];exact hq))]
   rw[e1];refine L6 _ ?_;rw[B2,x_4,if_pos rfl,hg];rfl
  ·exact T8.mpr ⟨h.nd,by simp,λa ha b hb2=>by rw[D8.mp hb2];exact λz=>hb (by rw[<-z];exact ha)⟩
  ·rw[x_4,F6,D8]
   by_cases z:b=bk B x
   ·rw[if_pos z];exact⟨λ_=>by simp,λ_=> .inr z⟩
   ·rw[if_neg z];exact⟨λy=>y.elim (h.mem b).mp λy=>absurd y z,λy=> .inl ((h.mem b).mpr y)⟩
theorem cf_7{B:Nat}(hB:1<=B){Ld:D}:∀(X L:List Int) (os:List Nat) (zm:List (Ar×Tn)) (a3:Sl),GK B L os zm->L.length + X.length<=1000->os.length<=L.length->∃os' au b3,Ca (gV 3) d_0 (X.map .int) [.sh Ld,.sh (.int (B:Int)),.tr (.dic zm),a3]=.nx [.sh Ld,.sh (.int (B:Int)),.tr (.dic au),b3]/\GK B (L ++ X) os' au/\os'.length<=(L ++ X).length
 | [],L,os,zm,a3,h,_,ho=>⟨os,zm,a3,rfl,by rw[D3];exact h,by rw[D3];exact ho⟩
 |x::X,L,os,zm,a3,h,hl,ho=>by
  simp only[C6]at hl;obtain⟨os1,ck,e1,h1,l1⟩:=cf_6 h hB x () () (Ld:=Ld);obtain⟨os',au,b3,e2,h2,l2⟩:=cf_7 hB (Ld:=Ld) X (L ++ [x]) os1 ck (.sh (.int x)) h1 (by simp;omega) (by simp;omega);rw[N1]at h2 l2;refine⟨os',au,b3, ?_,h2,l2⟩;rw[B2,ap_4 (Δ1:=[.sh Ld,.sh (.int (B:Int)),.tr (.dic zm),.sh (.int x)]) rfl e1];exact e2
def bn_0{B:Nat}(hB:1<=B)(L:List Int)(hl:L.length<=1000):∃os zm w,i_4 [.lst (L.map .int),.int (B:Int)]=.ok w/\GK B L os zm/\os.length<=L.length/\(L≠ []->w=.tr (.dic zm)):=by
 cases L with
 |nil=>exact⟨[],[],_,rfl,⟨rfl,S4,λb=>by simp[Bi]⟩,A8 _,λz=>absurd rfl z⟩
 |cons x X=>
  have q1:Ah 2 [] u_4 (An 4 [.lst ((x::X).map .int),.int (B:Int)])=.nx [.sh (.lst ((x::X).map .int)),.sh (.int (B:Int)),.ow (.dic []),.no]:=rfl;have g0:GK B [] [] []:=⟨rfl,S4,λb=>by simp[Bi]⟩;obtain⟨os1,ck,e1,h1,l1⟩:=cf_6 g0 hB x (by simp) (by simp) (Ld:=.lst ((x::X).map .int));have e1':d_0 [.sh (.lst ((x::X).map .int)),.sh (.int (B:Int)),.ow (.dic []),.sh (.int x)]=.nx [.sh (.lst ((x::X).map .int)),.sh (.int (B:Int)),.tr (.dic ck),.sh (.int x)]:=e1;simp only[C6]at hl;obtain⟨os',au,b3,e2,h2,l2⟩:=cf_7 hB (Ld:=.lst ((x::X).map .int)) X [x] os1 ck (.sh (.int x)) h1 (by simp;omega) (by simpa using l1);refine⟨os',au,.tr (.dic au), ?_,h2,l2,λ_=>rfl⟩;refine k_9 ?_;unfold t_9;have hf:Bv [0] (Cg (Ab 0)) (gV 3) d_0 [.sh (.lst ((x::X).map .int)),.sh (.int (B:Int)),.ow (.dic []),.no]=.nx [.sh (.lst ((x::X).map .int)),.sh (.int (B:Int)),.tr (.dic au),b3]:=by
   have:Ca (gV 3) d_0 ((x::X).map .int) [.sh (.lst ((x::X).map .int)),.sh (.int (B:Int)),.ow (.dic []),.no]=.nx [.sh (.lst ((x::X).map .int)),.sh (.int (B:Int)),.tr (.dic au),b3]:=by
    rw[B2,ap_4 (Δ1:=[.sh (.lst ((x::X).map .int)),.sh (.int (B:Int)),.ow (.dic []),.sh (.int x)]) rfl e1'];exact e2
   rw[<-this]
   simp![Bv,Am]
  rw[Bc q1,Bc hf];rfl
def Dr(g:Nat->List Int)(B:Nat):List Tn:=(List.range B).map λb=> .lst (shI (g b))
def Dh(g:Nat->List Int)(B:Nat):List D:=(List.range B).map λb=> .lst ((g b).map .int)
theorem cf_8:∀l:List Int,unT (shI l)=some (l.map .int)
 | []=>rfl
 |x::l=>by
  show(unT (shI l)).map (D.int x:: ·)=_;rw[cf_8 l];rfl
theorem bz_8:∀l:List Int,Tn.ds (shI l)=l.map .int
 | []=>rfl
 |x::l=>by
  show(Tn.sh (.int x)).d::Tn.ds (shI l)=_;rw[bz_8 l];rfl
theorem dl_2(g:Nat->List Int):∀l:List Nat,Tn.ds (l.map λb=>Tn.lst (shI (g b)))=l.map λb=>D.lst ((g b).map .int)
 | []=>rfl
 |b::l=>by
  rw[B2,B2,Tn.ds,dl_2 g l,Tn.d,bz_8]
def so_d(g:Nat->List Int)(B:Nat):(Tn.lst (Dr g B)).d=.lst (Dh g B):=by
 rw[Tn.d];exact L6 _ (dl_2 g _)
def bf_9{α:Type}(f:Nat->α)(v:α)(B n:Nat):((List.range B).map f).set n v=(List.range B).map λb=>if b=n then v else f b:=by
 refine P0 λi=> ?_;rw[List.getElem?_set,B4,B4]
 by_cases h:n=i
 ·subst h;rw[if_pos rfl]
  by_cases hi:n < B
  ·rw[if_pos (by simpa using hi),F3 hi];simp
  ·rw[if_neg (by simpa using hi),D9 (by simp;omega)];rfl
 ·rw[if_neg h]
  by_cases hi:i < B
  ·rw[F3 hi];simp only[M3];rw[if_neg (λz:i=n=>h z.symm)]
  ·rw[D9 (by simp;omega)];rfl
def di_9{B:Nat}{L:List Int}{d:D}(hB:1<=B)(hd:isKey d)(hl:L.length<=1000){Kd:D}:i_3 [.sh Kd,.sh (.int (B:Int)),.tr (.lst (Dr (Bi B L) B)),.sh d]=.nx [.sh Kd,.sh (.int (B:Int)),.tr (.lst (Dr (Bi B (L ++ [Bn d])) B)),.sh d]:=by
 have e:=z_6 hd;have hb:=cx_8 (Bn d) hB;have gl:=at_2 B L (bk B (Bn d));have f1:Au 3 i_1 #v[Au 1 d_8 #v[3],eC (.int 0),1] (Bg [.sh Kd,.sh (.int (B:Int)),.tr (.lst (Dr (Bi B L) B)),.sh d])=.ok (.sh (.int ((bk B (Bn d):Nat):Int))):=by
  have m:=(ac_7 (Bn d) 0 (B:Int) ⋯ ⋯ ()).2;rw[cx_9 _ hB]at m;show((((d_8 [d]).bind λw=>R.ok [w.d,.int 0,.int (B:Int)])).bind λds=>if ds.length=3 then i_1 ds else .no)=_;rw[e];exact m
 have f2:Au 1 d_8 #v[3] (Bg [.sh Kd,.sh (.int (B:Int)),.tr (.lst (Dr (Bi B L) B)),.sh d])=.ok (.sh (.int (Bn d))):=e;have hk:(Tn.lst (Dr (Bi B L) B)).kid (bk B (Bn d))=some ((Bi B L (bk B (Bn d))).map .int):=by
  show((Dr (Bi B L) B)[bk B (Bn d)]?).bind Tn.flat=_;unfold Dr;rw[B4,F3 hb];exact cf_8 _
 have ht:(([.sh Kd,.sh (.int (B:Int)),.tr (.lst (Dr (Bi B L) B)),.sh d]:SE)[2]?).bind Sl.tree=some (.lst (Dr (Bi B L) B),false):=rfl;unfold i_3 ce_2;rw[ht];simp only[f1,W.d_sh,f2];rw[if_pos (),N3,hk];simp only;rw[if_pos (by rw[A4];omega)];have hs:(Tn.lst (Dr (Bi B L) B)).setKid (bk B (Bn d)) ((Bi B L (bk B (Bn d))).map .int ++ [.int (Bn d)])=.lst (Dr (Bi B (L ++ [Bn d])) B):=by
  show Tn.lst ((Dr (Bi B L) B).set (bk B (Bn d)) (Tn.of (.lst ((Bi B L (bk B (Bn d))).map .int ++ [.int (Bn d)]))))=_;unfold Dr;rw[bf_9];refine L6 _ (L5 λb _=> ?_);rw[x_4]
  by_cases z:b=bk B (Bn d)
  ·rw[if_pos z,if_pos z,z];show Tn.lst (((Bi B L (bk B (Bn d))).map D.int ++ [D.int (Bn d)]).map Tn.sh)=_;unfold shI;rw[F7,F7,L7];rfl
  ·rw[if_neg z,if_neg z]
 rw[hs];rfl
theorem cf_9{B:Nat}(hB:1<=B){Kd:D}:∀(ks:List D) (L:List Int) (a3:Sl),(∀k∈ks,isKey k)->L.length + ks.length<=1000->∃b3,Ca (gV 3) i_3 ks [.sh Kd,.sh (.int (B:Int)),.tr (.lst (Dr (Bi B L) B)),a3]=.nx [.sh Kd,.sh (.int (B:Int)),.tr (.lst (Dr (Bi B (L ++ ks.map Bn)) B)),b3]
 | [],L,a3,_,_=>⟨a3,by rw[N2,D3];rfl⟩
 |d::ks,L,a3,hk,hl=>by
  simp only[C6]at hl;obtain⟨b3,e⟩:=cf_9 hB (Kd:=Kd) ks (L ++ [Bn d]) (.sh d) (λk h=>hk k (by simp[h])) (by simp;omega);refine⟨b3, ?_⟩;rw[ap_4 (Δ1:=[.sh Kd,.sh (.int (B:Int)),.tr (.lst (Dr (Bi B L) B)),.sh d]) rfl (di_9 hB (hk d (by simp)) ()),e,N1];rfl
def l_2(n:Nat):(Ch 0 n).length=n:=by unfold Ch;rw[A4,K4]
def ba_9{B:Nat}(hB:1<=B)(hB2:B<=1000){ks:List D}(hk:∀k∈ks,isKey k)(hl:ks.length<=1000):k_1 [.lst ks,.int (B:Int)]=.ok (.tr (.lst (Dr (Bi B (ks.map Bn)) B))):=by
 have hr:Bh Dw #v[1] [some (.lst ks),some (.int (B:Int)),none,none]=.ok (Ch 0 B):=by
  simp![Am,y_8 (show(-4611686018427387903:Int)<=(B:Int) by omega) (),N3]
 have q1:Ah 2 [1] (r_6 1 (Bh Dw #v[1]) (gC 4)) (An 4 [.lst ks,.int (B:Int)])=.nx [.sh (.lst ks),.sh (.int (B:Int)),.tr (.lst (Dr (Bi B []) B)),.no]:=by
  have ec:r_6 1 (Bh Dw #v[1]) (gC 4) [some (.lst ks),some (.int (B:Int)),none,none]=.ok (.tr (.lst (Dr (Bi B []) B))):=by
   unfold r_6;rw[hr];simp only[R.bind_ok,l_2];rw[if_pos ⟨by omega,F4.mpr λ_ _=>rfl⟩];refine L6 (λt=>R.ok (W.tr (Tn.lst t))) ?_;unfold Dr;refine P0 λi=> ?_;rw[B4,E8]
   by_cases hi:i < B
   ·rw[if_pos hi,F3 hi];rfl
   ·rw[if_neg hi,D9 (by simp;omega)];rfl
  unfold Ah;show(match r_6 1 (Bh Dw #v[1]) (gC 4) [some (.lst ks),some (.int (B:Int)),none,none] with| .ok (.sh d)=>_| .ok (.ow d)=>_| .ok (.tr t)=>_| .ex x=>_| .no=>_)=_;rw[ec];rfl
 obtain⟨b3,e⟩:=cf_9 hB (Kd:=.lst ks) ks [] .no hk (by simp;omega);refine k_9 ?_;unfold w_9;have hf:Bv [0] (Cg (Ab 0)) (gV 3) i_3 [.sh (.lst ks),.sh (.int (B:Int)),.tr (.lst (Dr (Bi B []) B)),.no]=.nx [.sh (.lst ks),.sh (.int (B:Int)),.tr (.lst (Dr (Bi B (ks.map Bn)) B)),b3]:=by
  rw[P2]at e;rw[<-e];rfl
 rw[Bc q1,Bc hf];rfl
def szs(g:Nat->List Int)(B z:Nat):List Nat:=(List.range B).filter λb=>decide ((g b).length=z)
def Ce(g:Nat->List Int)(B mx:Nat):Nat->List Nat
 |0=> []
 |k + 1=>Ce g B mx k ++ szs g B (mx - k)
def Dq(l:List Nat):List D:=l.map λ(b:Nat)=>D.int (b:Int)
theorem ay_2(g:Nat->List Int)(B mx:Nat):∀k,(Ce g B mx k).length<=k * B
 |0=>by simp[Ce]
 |k + 1=>by
  have h1:=ay_2 g B mx k;have h2:(szs g B (mx - k)).length<=B:=by unfold szs;exact C7 (W6 _ _) (by simp)
  rw[Ce,B6,ZE4];omega
def bv_1(l:List Nat):(Dq l).length=l.length:=A4 _
def cy_3(a b:List Nat):Dq (a ++ b)=Dq a ++ Dq b:=F7
def cm_4{g:Nat->List Int}{B mx k:Nat}(hB2:B<=1000)(hk:k<=mx)(hx:mx<=1000):i_7 [.sh (.lst (Dh g B)),.ow (.lst (Dq (Ce g B mx k))),.sh (.int ((mx:Int) - (k:Int)))]=.nx [.sh (.lst (Dh g B)),.ow (.lst (Dq (Ce g B mx (k + 1)))),.sh (.int ((mx:Int) - (k:Int)))]:=by
 have hsl:(Dh g B).length=B:=by unfold Dh;rw[A4,K4]
 have hr:∀a:Option D,Bh Dw #v[Ak Df #v[0]] [some (.lst (Dh g B)),a,some (.int ((mx:Int) - (k:Int)))]=.ok (Ch 0 B):=λa=>by
  simp![Am,En,hsl,y_8 (show(-4611686018427387903:Int)<=(B:Int) by omega) (),N3]
 have hz:Ch 0 B=(List.range B).map λ(t:Nat)=>D.int (t:Int):=by
  unfold Ch;exact L5 λk _=>by rw[ZE9]
 have ec:∀a:Option D,Cl 1 (Bh Dw #v[Ak Df #v[0]]) (gC 3) o_0 (Ab 3) [some (.lst (Dh g B)),a,some (.int ((mx:Int) - (k:Int)))]=.ok (.ow (.lst (Dq (szs g B (mx - k))))):=λa=>by
  have hc:=ad_9 (fg:=gC 3) (p:=o_0) (f:=Ab 3) (δ:=[some (.lst (Dh g B)),a,some (.int ((mx:Int) - (k:Int))),none]) (λd=>match d with| .int b=>decide ((g b.toNat).length=mx - k)|_=>false) (λd=>d) (Ch 0 B) (λd hd=>by
   rw[hz]at hd;obtain⟨b,hb,rfl⟩:=F0.mp hd;have hb:=J8.mp hb;refine⟨[some (.lst (Dh g B)),a,some (.int ((mx:Int) - (k:Int))),some (.int (b:Int))],rfl, ?_,λ_=>⟨_,rfl,rfl⟩⟩;have ix:Bw (.lst (Dh g B)) (.int (b:Int))=.ok (.sh (.lst ((g b).map .int))):=Dz (Eh (by unfold Dh;rw[B4,F3 hb];rfl));have ed:decide (((g b).length:Int)=(mx:Int) - (k:Int))=decide ((g b).length=mx - k):=ZB6.mpr ()
   simp![o_0,Am,ix,En,A4,h_9,ed,N3])
  rw[ZE8,hz,List.filter_map]at hc;have hm:((List.range B).filter ((λd=>match d with| .int b=>decide ((g b.toNat).length=mx - k)|_=>false) ∘ λ(t:Nat)=>D.int (t:Int)))=szs g B (mx - k):=by
   unfold szs;refine List.filter_congr λb _=> ?_;show decide ((g ((b:Int)).toNat).length=mx - k)=_;rw[N3]
  rw[hm,<-hz]at hc;exact n_5 (m:=1) (hr a) (by rw[l_2];omega) hc
 have hz2:(Dq (Ce g B mx k)).length + (Dq (szs g B (mx - k))).length<=16777216:=by
  have h1:=ay_2 g B mx k;have h2:(szs g B (mx - k)).length<=B:=by unfold szs;exact C7 (W6 _ _) (by simp)
  have h3:k * B<=1000 * 1000:=Nat.mul_le_mul () hB2;rw[bv_1,bv_1];omega
 simp![i_7,Am,ec,Az,hz2,Ce,cy_3,Bk,E7]
def bz_9{g:Nat->List Int}{B:Nat}(hB:1<=B)(hB2:B<=1000)(hg:∀b,(g b).length<=1000):∃mx:Nat,mx<=1000/\(∀b,b < B->(g b).length<=mx)/\j_3 [.lst (Dh g B)]=.ok (.ow (.lst (Dq (Ce g B mx (mx + 1))))):=by
 have hsl:(Dh g B).length=B:=by unfold Dh;rw[A4,K4]
 
 have hc:=w_7 (fg:=gC 3) (f:=h_0) (δ:=[some (.lst (Dh g B)),none,none,none]) (λd=>match d with| .lst l=>D.int (l.length:Int)|d=>d) (Dh g B) (λd hd=>by
  obtain⟨b,hb,rfl⟩:=F0.mp hd;refine⟨[some (.lst (Dh g B)),none,none,some (.lst ((g b).map .int))],.sh (.int (((g b).map D.int).length:Int)),rfl, ?_,rfl⟩
  simp![h_0,Am,En])
 have hm:(Dh g B).map (λd=>match d with| .lst l=>D.int (l.length:Int)|d=>d)=((List.range B).map λb=>((g b).length:Int)).map .int:=by
  unfold Dh;rw[L7,L7];exact L5 λb _=>by simp
 rw[hm]at hc;obtain⟨z,zs,ez⟩:∃z zs,(List.range B).map (λb=>((g b).length:Int))=z::zs:=by
  cases e:(List.range B).map (λb=>((g b).length:Int)) with
  |nil=>have:=L6 List.length e;simp at this;omega
  |cons z zs=>exact⟨z,zs,rfl⟩
 have cf:∀b,b < B->((g b).length:Int)<=Ep z zs:=λb hb=>by
  have:((g b).length:Int)∈z::zs:=by rw[<-ez];exact F0.mpr ⟨b,J8.mpr hb,rfl⟩
  obtain⟨h1,h2⟩:=as_5 zs z;rcases B8.mp this with e|e
  ·rw[e];exact h1
  ·exact h2 _ e
 have hin:∃b,Ep z zs=((g b).length:Int):=by
  have:=aw_6 zs z;rw[<-ez]at this;obtain⟨b,_,e⟩:=F0.mp this;exact⟨b,e.symm⟩
 obtain⟨b0,hb0⟩:=hin;refine⟨(g b0).length,hg b0,λb hb=>by have:=cf b hb;omega, ?_⟩;have hx:(g b0).length<=1000:=hg b0;generalize (g b0).length=mx at hb0 hx⊢;rw[ez]at hc;have ml:Fz [.lst ((z::zs).map .int)]=.ok (.sh (.int (mx:Int))):=by
  rw[<-hb0];simp only[Fz,cf_4]
 have ec:=n_5 (m:=1) (fi:=Cg (Ab 0)) (fg:=gC 3) (p:=λ_=> .ok true) (f:=h_0) (δ:=[some (.lst (Dh g B)),none,none]) (ds:=Dh g B) (by simp![Am]) (by rw[hsl];omega) hc;have q1:Ah 1 [] (Aw Ac) (An 3 [.lst (Dh g B)])=.nx [.sh (.lst (Dh g B)),.ow (.lst (Dq (Ce g B mx 0))),.no]:=rfl;have hr:rngR [.int (1 + (mx:Int))]=.ok (y_5 (((1 + (mx:Int)).toNat:Int) - 1) (-1) (1 + (mx:Int)).toNat):=if_pos ();have ht:(1 + (mx:Int)).toNat=mx + 1:=by omega
 rw[ht]at hr;have hi:Bh rngR #v[(Ae Az (eC (.int 1)) (Ak Fz #v[(Cl 1 (Cg (Ab 0)) (gC 3) (λ_=> .ok true) h_0)]))] [some (.lst (Dh g B)),none,none]=.ok (y_5 (((mx + 1:Nat):Int) - 1) (-1) (mx + 1)):=by
  have ml':Fz [.lst (.int z::zs.map .int)]=.ok (.sh (.int (mx:Int))):=ml
  simp![Am,ec,ml',Ec,hr]
 obtain⟨Δ',e1,a2,rfl⟩:=l_3 (gV 2) i_7 (λk Δ=>∃a2,Δ= [.sh (.lst (Dh g B)),.ow (.lst (Dq (Ce g B mx k))),a2]) (ds:=y_5 (((mx + 1:Nat):Int) - 1) (-1) (mx + 1)) (Δ:=[.sh (.lst (Dh g B)),.ow (.lst (Dq (Ce g B mx 0))),.no]) ⟨_,rfl⟩
  (λk d Δ hd hI=>by
   obtain⟨a2,rfl⟩:=hI;obtain⟨hk,rfl⟩:=av_5 hd;have e:((mx + 1:Nat):Int) - 1 + (k:Int) * (-1)=(mx:Int) - (k:Int):=by omega
   rw[e];exact⟨_,rfl,_,.inl (cm_4 hB2 () hx),_,rfl⟩)
 rw[av_6]at e1;have hf:Bv [0] (Bh rngR #v[(Ae Az (eC (.int 1)) (Ak Fz #v[(Cl 1 (Cg (Ab 0)) (gC 3) (λ_=> .ok true) h_0)]))]) (gV 2) i_7 [.sh (.lst (Dh g B)),.ow (.lst (Dq (Ce g B mx 0))),.no]=.nx [.sh (.lst (Dh g B)),.ow (.lst (Dq (Ce g B mx (mx + 1)))),a2]:=by
  unfold Bv;show(match Bh rngR #v[(Ae Az (eC (.int 1)) (Ak Fz #v[(Cl 1 (Cg (Ab 0)) (gC 3) (λ_=> .ok true) h_0)]))] [some (.lst (Dh g B)),none,none] with| .ok ds=>Ca (gV 2) i_7 ds [.sh (.lst (Dh g B)),.ow (.lst (Dq (Ce g B mx 0))),.no]| .ex x=>Fl.ex x [.sh (.lst (Dh g B)),.ow (.lst (Dq (Ce g B mx 0))),.no]| .no=>_)=_;rw[hi];exact e1
 refine k_9 ?_;unfold af_9;rw[Bc q1,Bc hf];rfl
def Fe(g:Nat->List Int)(b:Nat):Int:= -((g b).length:Int) * 4611686018427387904 + (b:Int)
def Cq(g:Nat->List Int)(os:List Nat):List (Ar×D):=os.map λ(b:Nat)=>(Sum.inl (b:Int),D.lst ((g b).map .int))
theorem dl_3(g:Nat->List Int):∀os:List Nat,Tn.ks (gkT g os)=Cq g os
 | []=>rfl
 |b::os=>by
  show(Sum.inl (b:Int),(Tn.lst (shI (g b))).d)::Tn.ks (gkT g os)=_;rw[dl_3 g os,Tn.d,bz_8];rfl
def gk_d(g:Nat->List Int)(os:List Nat):(Tn.dic (gkT g os)).d=.dic (Cq g os):=by
 rw[Tn.d,dl_3]
theorem cy_4(f:Nat->D)(b:Nat):∀os:List Nat,De (os.map λ(b:Nat)=>((Sum.inl (b:Int):Ar),f b)) (.inl (b:Int))=if b∈os then some (f b) else none
 | []=>rfl
 |o::os=>by
  rw[B2,t_1,cy_4 f b os]
  by_cases h:o=b
  ·subst h;rw[if_pos rfl,if_pos (by simp)]
  ·rw[if_neg (λz=>h (inl_ne.mp z))]
   by_cases h2:b∈os
   ·rw[if_pos h2,if_pos (by simp[h2])]
   ·rw[if_neg h2,if_neg (λz=>(B8.mp z).elim (λz=>h z.symm) h2)]
def cg_0{g:Nat->List Int}{os:List Nat}{b:Nat}(h:b∈os):Ff (.dic (Cq g os)) (.int (b:Int))=.ok (.sh (.lst ((g b).map .int))):=by
 have:=cy_4 (λb=>D.lst ((g b).map .int)) b os;rw[if_pos h]at this;unfold Ff;simp only[Ef];unfold Cq;rw[this]
theorem ap_5{α:Type}:∀l:List α,Paired Eq l l
 | []=> .nil
 |_::l=> .cons rfl (ap_5 l)
theorem bg_0{α:Type}:∀{a b:List α},Paired Eq a b->a=b
 |_,_,.nil=>rfl
 |_,_,.cons e t=>by rw[e,bg_0 t]
section
variable{g:Nat->List Int}{B mx:Nat}
def mem_szs{b z:Nat}:b∈szs g B z↔b < B/\(g b).length=z:=by
 unfold szs;rw[Q1,J8,W3]
theorem z_7{b:Nat}:∀k,b∈Ce g B mx k↔b < B/\∃j,j < k/\(g b).length=mx - j
 |0=>by simp[Ce]
 |k + 1=>by
  rw[Ce,F6,z_7 k,mem_szs];constructor
  ·rintro (⟨h,j,h1,h2⟩|⟨h,h2⟩)
   ·exact⟨h,j,by omega,h2⟩
   ·exact⟨h,k,by omega,h2⟩
  ·rintro ⟨h,j,h1,h2⟩
   by_cases e:j=k
   ·exact .inr ⟨h,by rw[h2,e]⟩
   ·exact .inl ⟨h,j,by omega,h2⟩
theorem ah_5(hB:B<=1000):∀k,k<=mx + 1->(Ce g B mx k).Pairwise λa b=>Fe g a < Fe g b
 |0,_=>List.Pairwise.nil
 |k + 1,hk=>by
  rw[Ce];refine List.pairwise_append.mpr ⟨ah_5 hB k (), ?_,λa ha b hb=> ?_⟩
  ·unfold szs;have h1:(List.range B).Pairwise λa b=>a < b:=List.pairwise_lt_range;have h2:((List.range B).filter λb=>decide ((g b).length=mx - k)).Pairwise λa b=>a < b:=h1.filter _;refine h2.imp_of_mem λ{a b} ha hb h=> ?_;have ea:=F5 (Q1.mp ha).2;have eb:=F5 (Q1.mp hb).2;unfold Fe;omega
  ·obtain⟨a1,j,a2,a3⟩:=(z_7 k).mp ha;obtain⟨b1,b2⟩:=mem_szs.mp hb;unfold Fe;omega
def x_5(hB:B<=1000){k:Nat}(hk:k<=mx + 1):(Ce g B mx k).Nodup:=(ah_5 hB k hk).imp λ{a b} h e=>by rw[e]at h;omega
def bv_2{os:List Nat}(hB:B<=1000)(nd:os.Nodup)(lt:∀b∈os,b < B)(mem:∀b,b∈os↔g b≠ [])(hx:∀b,b < B->(g b).length<=mx):(Ce g B mx mx).Perm os:=by
 refine(Z7 (x_5 hB ()) nd).mpr λb=> ?_;rw[z_7,mem];constructor
 ·rintro ⟨h,j,h1,h2⟩ e
  rw[e,P3]at h2;omega
 ·intro h;have hb:=lt b ((mem b).mpr h);have hp:=List.length_pos_iff.mpr h;have:=hx b hb;exact⟨hb,mx - (g b).length,by omega,by omega⟩
theorem ay_4{F:AF}{f:Nat->Int}:∀{os:List Nat},(∀b∈os,F [.int (b:Int)]=.ok (.sh (.int (f b))))->z_1 F (os.map λ(b:Nat)=>D.int (b:Int))=.ok (os.map λ(b:Nat)=>(f b,D.int (b:Int)))
 | [],_=>rfl
 |b::os,h=>by
  rw[B2,z_1,h b (by simp),R.bind_ok,W.d_sh];simp only;rw[ay_4 λq hq=>h q (by simp[hq])];rfl
def cy_5{fb:FE}{δ:DE}{d:D}{x y:Int}(h:fb (δ ++ [some d])=.ok (.sh (.tup [.int x,.int y])))(h0:0<=y/\y < 4611686018427387904):Ew fb δ [d]=.ok (.sh (.int (x * 4611686018427387904 + y))):=by
 unfold Ew;dsimp only;rw[h];exact if_pos h0
def cy_6{os:List Nat}(hB:B<=1000)(lt:∀b∈os,b < B){a0 a1 a2 a4 a5 a6 a7 a8:Option D}:∀b∈os,Ew b_6 [a0,a1,a2,some (.dic (Cq g os)),a4,a5,a6,a7,a8] [.int (b:Int)]=.ok (.sh (.int (Fe g b))):=λb hb=>by
 have e:b_6 ([a0,a1,a2,some (.dic (Cq g os)),a4,a5,a6,a7,a8] ++ [some (.int (b:Int))])=.ok (.sh (.tup [.int (-((g b).length:Int)),.int (b:Int)])):=by
  have h1:=cg_0 (g:=g) hb;show b_6 [a0,a1,a2,some (.dic (Cq g os)),a4,a5,a6,a7,a8,some (.int (b:Int))]=_
  simp![b_6,Am,h1,En,A4,eNeg,negD]
 have hb1:=lt b hb;exact cy_5 e ()
def cy_7{os:List Nat}(pm:(Ce g B mx mx).Perm os)(so:(Ce g B mx mx).Pairwise λa b=>Fe g a < Fe g b):((os.map λ(b:Nat)=>(Fe g b,D.int (b:Int))).map (·.1)).Nodup/\Gg (os.map λ(b:Nat)=>(Fe g b,D.int (b:Int)))=(Ce g B mx mx).map λ(b:Nat)=>(Fe g b,D.int (b:Int)):=by
 generalize Fe g=kf at so⊢;have ndk:((os.map λ(b:Nat)=>(kf b,D.int (b:Int))).map (·.1)).Nodup:=by
  rw[L7];refine(pm.map (kf)).nodup_iff.mp ?_;exact ZA3.mpr (so.imp λ{a b} h=>by omega)
 have e2:Gg (os.map λ(b:Nat)=>(kf b,D.int (b:Int)))=(Ce g B mx mx).map λ(b:Nat)=>(kf b,D.int (b:Int)):=
  (bg_0 (ab_9 (R:=Eq) (λp q e=>by rw[e]) (ap_5 (os.map λ(b:Nat)=>(kf b,D.int (b:Int)))) (pm.map _) (ah_2 _) ndk (ZA3.mpr (so.imp λ{a b} h=>by show kf a<=kf b;omega)) (z_2 _))).symm
 exact⟨ndk,e2⟩
def cy_8{os:List Nat}(hB:B<=1000)(nd:os.Nodup)(lt:∀b∈os,b < B)(mem:∀b,b∈os↔g b≠ [])(hx:∀b,b < B->(g b).length<=mx)(hl:os.length < 64){a0 a1 a2 a4 a5 a6 a7 a8:Option D}:ac_0 b_6 (Ab 3) [a0,a1,a2,some (.dic (Cq g os)),a4,a5,a6,a7,a8]=.ok (.ow (.lst (Dq (Ce g B mx mx)))):=by
 have hk:=cy_6 (g:=g) (a0:=a0) (a1:=a1) (a2:=a2) (a4:=a4) (a5:=a5) (a6:=a6) (a7:=a7) (a8:=a8) hB lt;have pm:=bv_2 hB nd lt mem hx;have so:=ah_5 (g:=g) (B:=B) (mx:=mx) hB mx ();obtain⟨ndk,e2⟩:=cy_7 pm so;have e1:(Cq g os).map (λp=>kD p.1)=os.map λ(b:Nat)=>D.int (b:Int):=by
  unfold Cq;rw[L7];rfl
 have ev:Ab 3 [a0,a1,a2,some (.dic (Cq g os)),a4,a5,a6,a7,a8]=.ok (.sh (.dic (Cq g os))):=Eq.refl _;generalize hF:Ew b_6 [a0,a1,a2,some (.dic (Cq g os)),a4,a5,a6,a7,a8]=F at hk;unfold ac_0;rw[ev];simp only[R.bind_ok,W.d_sh,hF];unfold be_8;rw[e1,ay_4 hk];simp only;rw[if_pos ⟨by rw[A4];exact hl,ndk⟩,e2,L7];rfl
end
def Go(n jm:Nat)(g:Nat->List Int):List Nat->List Int->(Nat->Nat)->Nat ⊕ (List Int×(Nat->Nat))
 | [],T,M=> .inr (T,M)
 |b::r,T,M=>match l_0 n jm T (g b) with
  |none=> .inl b
  |some s=>Go n jm g r (T ++ (g b).map (Bp n (s:Int))) λq=>if q=b then s else M q
section
variable{n jm:Nat}{g:Nat->List Int}
def cy_9(a:List Nat):∀(T:List Int) (M:Nat->Nat) (b:List Nat),Go n jm g (a ++ b) T M=match Go n jm g a T M with
  | .inl q=> .inl q
  | .inr p=>Go n jm g b p.1 p.2:=by
 induction a with
 |nil=>intro T M b;rfl
 |cons x a ih=>
  intro T M b;rw[O5,Go,Go];cases l_0 n jm T (g x) with
  |none=>rfl
  |some s=>exact ih _ _ b
def cm_5(hm:1<=jm)(T:List Int):l_0 n jm T []=some 0:=by
 obtain⟨k,rfl⟩:∃k,jm=k + 1:=⟨jm - 1,by omega⟩;unfold l_0;rw[List.range_succ_eq_map,M6];have:Dl T (([]:List Int).map (Bp n ((0:Nat):Int)))=true:=F1 ⟨S4,λr hr=>by simp at hr⟩;rw[this]
theorem bv_3(hm:1<=jm):∀(l:List Nat) (T:List Int) (M:Nat->Nat),(∀b∈l,g b= []/\M b=0)->Go n jm g l T M=.inr (T,M)
 | [],_,_,_=>rfl
 |b::l,T,M,h=>by
  obtain⟨h1,h2⟩:=h b (by simp);rw[Go,h1,cm_5 hm];simp only[N2,D3];have:(λq=>if q=b then 0 else M q)=M:=funext λq=>by
   by_cases e:q=b
   ·rw[if_pos e,e,h2]
   ·rw[if_neg e]
  rw[this];exact bv_3 hm l T M λq hq=>h q (by simp[hq])
structure Dealt(n jm:Nat)(g:Nat->List Int)(l:List Nat)(T:List Int)(M:Nat->Nat)(T':List Int)(M':Nat->Nat):Prop where
 out:∀q,q∉l->M' q=M q
 bd:∀q∈l,M' q < jm
 eq:T'=T ++ l.flatMap λb=>(g b).map (Bp n (M' b:Int))
 nd:T.Nodup->T'.Nodup
theorem cg_1:∀(l:List Nat) (T:List Int) (M:Nat->Nat) (T':List Int) (M':Nat->Nat),l.Nodup->Go n jm g l T M=.inr (T',M')->Dealt n jm g l T M T' M'
 | [],T,M,T',M',_,e=>by
  cases e;exact⟨λ_ _=>rfl,λq hq=>by simp at hq,by simp,λh=>h⟩
 |b::l,T,M,T',M',nd,e=>by
  rw[Go]at e;obtain⟨n1,n2⟩:=K3.mp nd;cases h:l_0 n jm T (g b) with
  |none=>rw[h]at e;cases e
  |some s=>
   rw[h]at e;obtain⟨s1,s2,_⟩:=ae_4 h;have s2:=F5 s2;have d:=cg_1 l _ _ T' M' n2 e;have mb:M' b=s:=by rw[d.out b n1,if_pos rfl]
   refine⟨λq hq=> ?_,λq hq=> ?_, ?_,λhT=>d.nd ?_⟩
   ·rw[d.out q (λz=>hq (by simp[z])),if_neg (λz=>hq (by simp[z]))]
   ·rcases B8.mp hq with rfl|hq
    ·rw[mb];exact s1
    ·exact d.bd q hq
   ·rw[d.eq,List.flatMap_cons,N1,mb]
   ·exact T8.mpr ⟨hT,s2.1,λa ha c hc z=>s2.2 c hc (z▸ha)⟩
end
def Cn(P:List Nat)(M:Nat->Nat):List (Ar×D):=P.map λ(b:Nat)=>(Sum.inl (b:Int),D.int (M b:Int))
def ds_8{P:List Nat}{M:Nat->Nat}{b s:Nat}(h:b∉P):Fq (Cn P M) (.inl (b:Int)) (.int (s:Int))=Cn (P ++ [b]) λq=>if q=b then s else M q:=by
 have e1:((Cn P M).any λkv=>decide (kv.1=Sum.inl (b:Int)))=false:=by
  rw[List.any_eq_false];intro kv hkv z;obtain⟨q,hq,rfl⟩:=F0.mp hkv;exact h (by rw[<-inl_ne.mp (F5 z)];exact hq)
 unfold Fq;rw[e1,if_neg A7];unfold Cn;rw[F7,List.map_singleton];simp only[if_true];refine L6 (· ++ _) (L5 λq hq=> ?_);rw[if_neg (λz:q=b=>h (z▸hq))]
def ds_9(P:List Nat)(M:Nat->Nat):(Cn P M).length=P.length:=A4 _
theorem bg_1{α:Type}(f:α->Ar×D):∀l:List α,Tn.lendsK (l.map λa=>((f a).1,Tn.sh (f a).2))=true
 | []=>by simp only[N2,Tn.lendsK]
 |a::l=>by simp only[B2,Tn.lendsK,Tn.lends,bg_1 f l,Bool.and_self]
def cm_6(kds:List (Ar×D)):(Tn.of (.dic kds)).lends=true:=by
 show Tn.lends (.dic (kds.map λp=>(p.1,.sh p.2)))=true;simp only[Tn.lends];exact bg_1 (λp:Ar×D=>p) kds
def xNF(b:Nat):Xn:=⟨"NoFit",["at"],[.int (b:Int)]⟩
section
variable{n jm:Nat}{g:Nat->List Int}
def Rms.app{T R:List Int}(h:Rms n T)(hR:Rms n R):Rms n (T ++ R):=λx hx=>(F6.mp hx).elim (h x) (hR x)
def Rms.rm(h1:1<=n)(s:Int)(X:List Int):Rms n (X.map (Bp n s)):=λr hr=>by
 obtain⟨x,_,rfl⟩:=F0.mp hr;exact an_0 s x h1
theorem ay_5{body:FS}{st:List Int->Sl->SE}{s:Nat}(h1:1<=n)(hn:n<=1000)
  (hg:∀T a x,gV 8 (.int x) (st T a)=.ok (st T (.sh (.int x))))
  (hb:∀T x,Rms n T->Bp n (s:Int) x∉T->T.length < 100000->body (st T (.sh (.int x)))=.nx (st (T ++ [Bp n (s:Int) x]) (.sh (.int x)))):∀(X T:List Int) (a:Sl),Rms n T->(X.map (Bp n (s:Int))).Nodup->(∀r∈X.map (Bp n (s:Int)),r∉T)->T.length + X.length < 100000->∃a',Ca (gV 8) body (X.map .int) (st T a)=.nx (st (T ++ X.map (Bp n (s:Int))) a')
 | [],T,a,_,_,_,_=>⟨a,by rw[N2,N2,D3];rfl⟩
 |x::X,T,a,hT,nd,no,hl=>by
  rw[B2]at nd no;obtain⟨n1,n2⟩:=K3.mp nd;rw[C6]at hl;obtain⟨a',e⟩:=ay_5 h1 hn hg hb X (T ++ [Bp n (s:Int) x]) (.sh (.int x)) (hT.snoc (an_0 _ _ h1)) n2 (λr hr q=>by
   rcases F6.mp q with q|q
   ·exact no r (by simp only[B8];exact .inr hr) q
   ·rw[D8.mp q]at hr;exact n1 hr) (by rw[B6,M5];omega)
  refine⟨a', ?_⟩;rw[B2,ap_4 (hg T a x) (hb T x hT (no _ (by simp)) ()),e,N1,B2];rfl
def Do(L:List Int)(Bd:D)(jm:Nat)(kd:List (Ar×D))(T:List Int)(N:List (Ar×D))(a6 a7 a8:Sl):SE:=[.sh (.lst (L.map .int)),.sh Bd,.sh (.int (jm:Int)),.sh (.dic kd),.ow (.dic (Bm T)),.ow (.dic N),a6,a7,a8]
def cz_0{L:List Int}{Bd:D}{kd N:List (Ar×D)}{a6:Sl}{s:Nat}(h1:1<=L.length)(hL:L.length<=1000)(hs:s<=1000)(T:List Int)(x:Int)(hT:Rms L.length T)(no:Bp L.length (s:Int) x∉T)(hl:T.length < 100000):
  g_4 (Do L Bd jm kd T N a6 (.sh (.int (s:Int))) (.sh (.int x)))=.nx (Do L Bd jm kd (T ++ [Bp L.length (s:Int) x]) N a6 (.sh (.int (s:Int))) (.sh (.int x))):=by
 have e1:=ay_0 L.length (s:Int) x () () h1;have hz:(Bm T).length < 16777216:=by rw[an_3];omega
 have hp:=an_2 hT hL (an_0 (s:Int) x h1) no
 simp![g_4,Do,w_4,Am,En,A4,e1,Ef,hz,hp,if_true]
theorem bg_2{L:List Int}{B:Nat}{os:List Nat}(h1:1<=L.length)(hL:L.length<=1000)(hm:jm<=1000)(hg:∀b,(g b).length<=1000){Bd:D}:∀(l P:List Nat) (T:List Int) (M:Nat->Nat) (a6 a7 a8:Sl),(∀b∈l,b∈os)->(P ++ l).Nodup->Rms L.length T->T.length + 1001 * l.length < 90000->P.length + l.length<=1000->
  match Go L.length jm g l T M with
  | .inl q=>∃Δ',Ca (gV 6) c_0 (Dq l) (Do L Bd jm (Cq g os) T (Cn P M) a6 a7 a8)=.ex (xNF q) Δ'
  | .inr p=>∃b6 b7 b8,Ca (gV 6) c_0 (Dq l) (Do L Bd jm (Cq g os) T (Cn P M) a6 a7 a8)=.nx (Do L Bd jm (Cq g os) p.1 (Cn (P ++ l) p.2) b6 b7 b8)
 | [],P,T,M,a6,a7,a8,_,_,_,_,_=>⟨a6,a7,a8,by rw[D3];rfl⟩
 |b::l,P,T,M,a6,a7,a8,hos,nd,hT,hl,hP=>by
  have hfg:gV 6 (.int (b:Int)) (Do L Bd jm (Cq g os) T (Cn P M) a6 a7 a8)=.ok (Do L Bd jm (Cq g os) T (Cn P M) (.sh (.int (b:Int))) a7 a8):=rfl;have fu:=cg_0 (g:=g) (hos b (by simp));have hle:=cx_7 (X:=g b) h1 hL hm hT (hg b);have hno:b∉P:=λz=>(T8.mp nd).2.2 b z b (by simp) rfl;rw[C6]at hl hP;have q1:bt_2 7 (bt_1 [4] (Au 4 k_2 #v[Ae Ff (Ab 3) (Ab 6),Ak Df #v[0],4,2])) (Do L Bd jm (Cq g os) T (Cn P M) (.sh (.int (b:Int))) a7 a8)=.nx (Do L Bd jm (Cq g os) T (Cn P M) (.sh (.int (b:Int))) (.sh (numD (l_0 L.length jm T (g b)))) a8):=by
   have hv:Gb [4] (Do L Bd jm (Cq g os) T (Cn P M) (.sh (.int (b:Int))) a7 a8)= [some (.lst (L.map .int)),some Bd,some (.int (jm:Int)),some (.dic (Cq g os)),some (.dic (Bm T)),none,some (.int (b:Int)),a7.pub,a8.pub]:=rfl;have hld:ab_8 [4] (Do L Bd jm (Cq g os) T (Cn P M) (.sh (.int (b:Int))) a7 a8)=true:=by
    show((Tn.of (.dic (Bm T))).lends && true)=true;rw[cm_6];rfl
   have he:Au 4 k_2 #v[Ae Ff (Ab 3) (Ab 6),Ak Df #v[0],4,2] [some (.lst (L.map .int)),some Bd,some (.int (jm:Int)),some (.dic (Cq g os)),some (.dic (Bm T)),none,some (.int (b:Int)),a7.pub,a8.pub]=.ok (.sh (numD (l_0 L.length jm T (g b)))):=by
    simp![Am,fu,En,A4,hle]
   have hpl:by_6 (.sh (numD (l_0 L.length jm T (g b))))=true:=by
    cases l_0 L.length jm T (g b) <;> rfl
   unfold bt_2 bt_1;rw[hld,if_pos rfl,hv,he];simp only[hpl,if_true];rfl
  rw[Go];cases e:l_0 L.length jm T (g b) with
  |none=>
   rw[e]at q1;refine⟨_,dy_6 hfg (Δ2:=Do L Bd jm (Cq g os) T (Cn P M) (.sh (.int (b:Int))) (.sh .non) a8) ?_⟩;unfold c_0;rw[Bc q1]
   simp![Do,numD,Am,r_5,xNF]
  |some s=>
   rw[e]at q1;obtain⟨s1,s2,_⟩:=ae_4 e;have s2:=F5 s2;have q2:Bs [7] (Ao (Ae (Ee false) (Ab 7) (eC .non))) (r_5 "NoFit" "at" [6] (Ab 6)) Ay (Do L Bd jm (Cq g os) T (Cn P M) (.sh (.int (b:Int))) (.sh (.int (s:Int))) a8)=.nx (Do L Bd jm (Cq g os) T (Cn P M) (.sh (.int (b:Int))) (.sh (.int (s:Int))) a8):=by
    simp![Do,Am]
   have hz:(Cn P M).length < 16777216:=by rw[ds_9];omega
   have q3:w_4 5 [7] (Ab 6) (Ab 7) (Do L Bd jm (Cq g os) T (Cn P M) (.sh (.int (b:Int))) (.sh (.int (s:Int))) a8)=.nx (Do L Bd jm (Cq g os) T (Cn (P ++ [b]) λq=>if q=b then s else M q) (.sh (.int (b:Int))) (.sh (.int (s:Int))) a8):=by
    simp![Do,w_4,Am,Ef,hz,if_true,ds_8 hno]
   obtain⟨c8,e4⟩:=ay_5 (st:=λT a=>Do L Bd jm (Cq g os) T (Cn (P ++ [b]) λq=>if q=b then s else M q) (.sh (.int (b:Int))) (.sh (.int (s:Int))) a) (body:=g_4) (s:=s) h1 hL (λ_ _ _=>rfl) (λT x hT no hl=>cz_0 h1 hL () T x hT no hl) (g b) T a8 hT s2.1 s2.2 (by have:=hg b;omega);have q4:Bv [3,6] (Cg (Ae Ff (Ab 3) (Ab 6))) (gV 8) g_4 (Do L Bd jm (Cq g os) T (Cn (P ++ [b]) λq=>if q=b then s else M q) (.sh (.int (b:Int))) (.sh (.int (s:Int))) a8)=.nx (Do L Bd jm (Cq g os) (T ++ (g b).map (Bp L.length (s:Int))) (Cn (P ++ [b]) λq=>if q=b then s else M q) (.sh (.int (b:Int))) (.sh (.int (s:Int))) c8):=by
    have hi:Cg (Ae Ff (Ab 3) (Ab 6)) (Bg (Do L Bd jm (Cq g os) T (Cn (P ++ [b]) λq=>if q=b then s else M q) (.sh (.int (b:Int))) (.sh (.int (s:Int))) a8))=.ok ((g b).map .int):=by
     simp![Do,Am,fu]
    unfold Bv;rw[hi];exact e4
   have hb:c_0 (Do L Bd jm (Cq g os) T (Cn P M) (.sh (.int (b:Int))) a7 a8)=.nx (Do L Bd jm (Cq g os) (T ++ (g b).map (Bp L.length (s:Int))) (Cn (P ++ [b]) λq=>if q=b then s else M q) (.sh (.int (b:Int))) (.sh (.int (s:Int))) c8):=by
    unfold c_0;rw[Bc q1,numD,Bc q2,Bc q3,q4]
   have ih:=bg_2 (os:=os) (B:=B) h1 hL hm hg (Bd:=Bd) l (P ++ [b]) (T ++ (g b).map (Bp L.length (s:Int))) (λq=>if q=b then s else M q) (.sh (.int (b:Int))) (.sh (.int (s:Int))) c8 (λq hq=>hos q (by simp[hq])) (by rw[N1];exact nd) (hT.app (Rms.rm h1 _ _)) (by rw[B6,A4];have:=hg b;omega) (by rw[B6,M5];omega);rw[N1,List.singleton_append]at ih;show match Go L.length jm g l (T ++ (g b).map (Bp L.length (s:Int))) (λq=>if q=b then s else M q) with| .inl q=>_| .inr p=>_
   have ec:Ca (gV 6) c_0 (Dq (b::l)) (Do L Bd jm (Cq g os) T (Cn P M) a6 a7 a8)=Ca (gV 6) c_0 (Dq l) (Do L Bd jm (Cq g os) (T ++ (g b).map (Bp L.length (s:Int))) (Cn (P ++ [b]) λq=>if q=b then s else M q) (.sh (.int (b:Int))) (.sh (.int (s:Int))) c8):=ap_4 hfg hb;rw[ec];exact ih
end
def lsM(B:Nat)(M:Nat->Nat):List D:=(List.range B).map λ(b:Nat)=>D.int (M b:Int)
def Dd(ks:List D)(B jm:Nat)(g:Nat->List Int)(T:List Int)(M:Nat->Nat)(a6 a7 a8:Sl):SE:=[.sh (.lst ks),.sh (.int (B:Int)),.sh (.int (jm:Int)),.sh (.lst (Dh g B)),.ow (.dic (Bm T)),.ow (.lst (lsM B M)),a6,a7,a8]
section
variable{B jm:Nat}{g:Nat->List Int}{ks:List D}
def cz_1{b:Nat}(hb:b < B):Bw (.lst (Dh g B)) (.int (b:Int))=.ok (.sh (.lst ((g b).map .int))):=Dz (Eh (by unfold Dh;rw[B4,F3 hb];rfl))
theorem ap_6{b:Nat}(hb:b < B)(h1:1<=ks.length)(hn:ks.length<=1000)(hm:jm<=1000){T:List Int}(hT:Rms ks.length T){M:Nat->Nat}(hg:(g b).length<=1000){a8:Sl}:∀(k s:Nat),s + k=jm->(∀t,t < s->Dl T ((g b).map (Bp ks.length (t:Int)))=false)->∀m:Nat,k < m->
  n_4 [0,2,3,4,6,7] n_7 v_7 m (Dd ks B jm g T M (.sh (.int (b:Int))) (.sh (.int (s:Int))) a8)=.nx (Dd ks B jm g T M (.sh (.int (b:Int))) (.sh (.int (((l_0 ks.length jm T (g b)).getD jm:Nat):Int))) a8)
 |0,s,hs,hno,m,hk=>by
  obtain⟨m,rfl⟩:∃j,m=j + 1:=⟨m - 1,by omega⟩;have:s=jm:=by omega
  subst this;have e:l_0 ks.length s T (g b)=none:=List.find?_eq_none.mpr λt ht=>by rw[hno t (J8.mp ht)];exact A7
  rw[e];refine be_4 ?_;have c:¬((s:Int) < (s:Int)):=by omega
  simp![n_7,Dd,Am,Et,c,L8]
 |k + 1,s,hs,hno,m,hk=>by
  obtain⟨m,rfl⟩:∃j,m=j + 1:=⟨m - 1,by omega⟩;have c:(s:Int) < (jm:Int):=by omega
  have hfe:=bv_0 h1 hn hT (s:=(s:Int)) () () (g b) hg;cases hf:Dl T ((g b).map (Bp ks.length (s:Int))) with
  |true=>
   have e:l_0 ks.length jm T (g b)=some s:=by
    cases q:l_0 ks.length jm T (g b) with
    |none=>rw[cm_3 q s ()]at hf;cases hf
    |some t=>
     obtain⟨a1,a2,a3⟩:=ae_4 q;rcases R3 s t with z|z|z
     ·rw[a3 s z]at hf;cases hf
     ·rw[z]
     ·rw[hno t z]at a2;cases a2
   rw[e];refine be_4 ?_
   simp![n_7,Dd,Am,Et,c,K7,cz_1 hb,En,hfe,hf]
  |false=>
   have gq:∀t,t < s + 1->Dl T ((g b).map (Bp ks.length (t:Int)))=false:=λt ht=>by
    rcases Nat.lt_succ_iff_lt_or_eq.mp ht with z|z
    ·exact hno t z
    ·subst z;exact hf
   rw[cs_6 (Δ':=Dd ks B jm g T M (.sh (.int (b:Int))) (.sh (.int ((s + 1:Nat):Int))) a8) ?_ ?_]
   ·exact ap_6 hb h1 hn hm hT hg k (s + 1) () gq m ()
   ·simp![n_7,Dd,Am,Et,c,K7,cz_1 hb,En,hfe,hf]
   ·simp![v_7,Dd,Am,Ec]
    rfl
def dj_0{s b:Nat}{M:Nat->Nat}(h1:1<=ks.length)(hn:ks.length<=1000)(hs:s<=1000)(T:List Int)(x:Int)(hT:Rms ks.length T)(no:Bp ks.length (s:Int) x∉T)(hl:T.length < 100000):
  n_8 (Dd ks B jm g T M (.sh (.int (b:Int))) (.sh (.int (s:Int))) (.sh (.int x)))=.nx (Dd ks B jm g (T ++ [Bp ks.length (s:Int) x]) M (.sh (.int (b:Int))) (.sh (.int (s:Int))) (.sh (.int x))):=by
 have e1:i_1 [.int x,.int ((s:Int) + 1),.int (ks.length:Int)]=.ok (.sh (.int (Bp ks.length (s:Int) x))):=(ac_7 x ((s:Int) + 1) (ks.length:Int) () () ()).2;have hz:(Bm T).length < 16777216:=by rw[an_3];omega
 have hp:=an_2 hT hn (an_0 (s:Int) x h1) no
 simp![n_8,Dd,w_4,Am,En,Ec,e1,Ef,hz,hp,if_true]
def dj_1(M:Nat->Nat):(lsM B M).length=B:=by unfold lsM;rw[A4,K4]
theorem bv_4(h1:1<=ks.length)(hn:ks.length<=1000)(hm:jm<=1000)(hg:∀b,(g b).length<=1000):∀(l:List Nat) (T:List Int) (M:Nat->Nat) (a6 a7 a8:Sl),(∀b∈l,b < B)->Rms ks.length T->T.length + 1001 * l.length < 99000->
  match Go ks.length jm g l T M with
  | .inl q=>Ca (gV 6) f_7 (Dq l) (Dd ks B jm g T M a6 a7 a8)=.rt (.sh (.int (q:Int)))
  | .inr p=>∃b6 b7 b8,Ca (gV 6) f_7 (Dq l) (Dd ks B jm g T M a6 a7 a8)=.nx (Dd ks B jm g p.1 p.2 b6 b7 b8)
 | [],T,M,a6,a7,a8,_,_,_=>⟨a6,a7,a8,rfl⟩
 |b::l,T,M,a6,a7,a8,hos,hT,hl=>by
  have hfg:gV 6 (.int (b:Int)) (Dd ks B jm g T M a6 a7 a8)=.ok (Dd ks B jm g T M (.sh (.int (b:Int))) a7 a8):=rfl;have hb:=hos b (by simp);have hgb:=hg b;rw[C6]at hl;have q1:Ah 7 [] (eC (.int 0)) (Dd ks B jm g T M (.sh (.int (b:Int))) a7 a8)=.nx (Dd ks B jm g T M (.sh (.int (b:Int))) (.sh (.int ((0:Nat):Int))) a8):=rfl;have q2:=ap_6 (M:=M) (a8:=a8) hb h1 hn hm hT hgb jm 0 () (λt ht=>absurd ht (Y3 t)) 3000 ();rw[Go];cases e:l_0 ks.length jm T (g b) with
  |none=>
   rw[e]at q2;refine cx_5 hfg ?_;unfold f_7;rw[Bc q1,Bc q2]
   simp![ZA9,Dd,Am,h_9,K7]
  |some s=>
   rw[e]at q2;rw[Option.getD_some]at q2;obtain⟨s1,s2,_⟩:=ae_4 e;have s2:=F5 s2;have c:¬((s:Int)=(jm:Int)):=by omega
   have q3:Bs [2,7] (Ao (Ae Cj (Ab 7) (Ab 2))) (Cf 6) Ay (Dd ks B jm g T M (.sh (.int (b:Int))) (.sh (.int (s:Int))) a8)=.nx (Dd ks B jm g T M (.sh (.int (b:Int))) (.sh (.int (s:Int))) a8):=by
    simp![Dd,Am,h_9,c,L8]
   have q4:bq_2 5 (Ab 6) (Ab 7) (Dd ks B jm g T M (.sh (.int (b:Int))) (.sh (.int (s:Int))) a8)=.nx (Dd ks B jm g T (λq=>if q=b then s else M q) (.sh (.int (b:Int))) (.sh (.int (s:Int))) a8):=by
    have hst:(lsM B M).set b (.int (s:Int))=lsM B λq=>if q=b then s else M q:=by
     unfold lsM;rw[bf_9];refine L5 λq _=> ?_
     by_cases z:q=b
     ·simp only[z,if_true]
     ·simp only[z,N0]
    have hx:ixN (lsM B M).length (b:Int)=some b:=by rw[dj_1];exact dl_1 hb
    simp![bq_2,Dd,Am,Bk,hx,hst,if_true]
   obtain⟨c8,e4⟩:=ay_5 (st:=λT a=>Dd ks B jm g T (λq=>if q=b then s else M q) (.sh (.int (b:Int))) (.sh (.int (s:Int))) a) (body:=n_8) (s:=s) h1 hn (λ_ _ _=>rfl) (λT x hT no hl=>dj_0 h1 hn () T x hT no hl) (g b) T a8 hT s2.1 s2.2 ();have q5:Bv [3,6] (Cg (Ae Bw (Ab 3) (Ab 6))) (gV 8) n_8 (Dd ks B jm g T (λq=>if q=b then s else M q) (.sh (.int (b:Int))) (.sh (.int (s:Int))) a8)=.nx (Dd ks B jm g (T ++ (g b).map (Bp ks.length (s:Int))) (λq=>if q=b then s else M q) (.sh (.int (b:Int))) (.sh (.int (s:Int))) c8):=by
    have hi:Cg (Ae Bw (Ab 3) (Ab 6)) (Bg (Dd ks B jm g T (λq=>if q=b then s else M q) (.sh (.int (b:Int))) (.sh (.int (s:Int))) a8))=.ok ((g b).map .int):=by
     simp![Dd,Am,cz_1 hb]
    unfold Bv;rw[hi];exact e4
   have hbd:f_7 (Dd ks B jm g T M (.sh (.int (b:Int))) a7 a8)=.nx (Dd ks B jm g (T ++ (g b).map (Bp ks.length (s:Int))) (λq=>if q=b then s else M q) (.sh (.int (b:Int))) (.sh (.int (s:Int))) c8):=by
    unfold f_7;rw[Bc q1,Bc q2,Bc q3,Bc q4,q5]
   have ih:=bv_4 h1 hn hm hg l (T ++ (g b).map (Bp ks.length (s:Int))) (λq=>if q=b then s else M q) (.sh (.int (b:Int))) (.sh (.int (s:Int))) c8 (λq hq=>hos q (by simp[hq])) (hT.app (Rms.rm h1 _ _)) (by rw[B6,A4];omega);have ec:Ca (gV 6) f_7 (Dq (b::l)) (Dd ks B jm g T M a6 a7 a8)=Ca (gV 6) f_7 (Dq l) (Dd ks B jm g (T ++ (g b).map (Bp ks.length (s:Int))) (λq=>if q=b then s else M q) (.sh (.int (b:Int))) (.sh (.int (s:Int))) c8):=ap_4 hfg hbd;rw[ec];exact ih
end
theorem cz_2:∀(n:Nat) (l:List Int),l.Nodup->(∀x∈l,0<=x/\x < (n:Int))->l.length<=n
 |0,l,_,hb=>by
  cases l with
  |nil=>exact A8 _
  |cons x l=>have:=hb x (by simp);omega
 |n + 1,l,nd,hb=>by
  by_cases c:(n:Int)∈l
  ·have h1:=(List.perm_cons_erase c).length_eq;have h2:=cz_2 n (l.erase (n:Int)) (nd.erase _) (λx hx=>by
    have hm:=(List.Nodup.mem_erase_iff nd).mp hx;have:=hb x hm.2;have:=hm.1;omega)
   rw[C6]at h1;omega
  ·have:=cz_2 n l nd (λx hx=>by
    have:=hb x hx;have:x≠(n:Int):=λe=>c (e▸hx);omega)
   omega
def Ez(B jm:Nat)(L:List Int)(mx:Nat):Nat ⊕ (List Int×(Nat->Nat)):=Go L.length jm (Bi B L) (Ce (Bi B L) B mx mx) [] λ_=>0
def ay_6{B:Nat}{L:List Int}(h:L.length<=1000)(b:Nat):(Bi B L b).length<=1000:=C7 (at_2 B L b) h
def cg_2{g:Nat->List Int}{B mx k:Nat}(hB:B<=60)(hk:k<=mx + 1):(Ce g B mx k).length<=B:=by
 have hn:=x_5 (g:=g) (show B<=1000 by omega) hk;have:=cz_2 B ((Ce g B mx k).map λ(b:Nat)=>(b:Int)) (ZA3.mpr (hn.imp λ{a b} h z=>h ())) λx hx=>by
  obtain⟨b,hb,rfl⟩:=F0.mp hx;have:=((z_7 k).mp hb).1;omega
 rwa[A4]at this
def bb_0{B jm mx:Nat}{L:List Int}(hB:1<=B)(hB2:B<=60)(h1:1<=L.length)(hL:L.length<=63)(hm:jm<=1000)(hx:∀b,b < B->(Bi B L b).length<=mx):d_6 [.lst (L.map .int),.int (B:Int),.int (jm:Int)]=match Ez B jm L mx with
  | .inl q=> .ex (xNF q)
  | .inr p=> .ok (.ow (.dic (Cn (Ce (Bi B L) B mx mx) p.2))):=by
 obtain⟨os,zm,w,e1,hg,hl,hw⟩:=bn_0 hB L ();have hw:=hw (λz=>by rw[z]at h1;simp at h1);subst hw;rw[hg.eq]at e1;have q1:Ah 3 [0,1] (Au 2 i_4 #v[0,1]) (An 9 [.lst (L.map .int),.int (B:Int),.int (jm:Int)])=.nx [.sh (.lst (L.map .int)),.sh (.int (B:Int)),.sh (.int (jm:Int)),.tr (.dic (gkT (Bi B L) os)),.no,.no,.no,.no,.no]:=by
  simp![Am,e1]
 have q2:Ah 4 [] u_4 [.sh (.lst (L.map .int)),.sh (.int (B:Int)),.sh (.int (jm:Int)),.tr (.dic (gkT (Bi B L) os)),.no,.no,.no,.no,.no]=.nx [.sh (.lst (L.map .int)),.sh (.int (B:Int)),.sh (.int (jm:Int)),.tr (.dic (gkT (Bi B L) os)),.ow (.dic (Bm [])),.no,.no,.no,.no]:=rfl;have q3:Ah 5 [] u_4 [.sh (.lst (L.map .int)),.sh (.int (B:Int)),.sh (.int (jm:Int)),.tr (.dic (gkT (Bi B L) os)),.ow (.dic (Bm [])),.no,.no,.no,.no]=.nx [.sh (.lst (L.map .int)),.sh (.int (B:Int)),.sh (.int (jm:Int)),.tr (.dic (gkT (Bi B L) os)),.ow (.dic (Bm [])),.ow (.dic (Cn [] λ_=>0)),.no,.no,.no]:=rfl;have ho:=cy_8 (a0:=some (.lst (L.map .int))) (a1:=some (.int (B:Int))) (a2:=some (.int (jm:Int))) (a4:=none) (a5:=none) (a6:=none) (a7:=none) (a8:=none) () hg.nd (hg.lt hB) hg.mem hx ();have pm:=bv_2 () hg.nd (hg.lt hB) hg.mem hx;have hol:=cg_2 (g:=Bi B L) (mx:=mx) (k:=mx) hB2 ();have hd:=bg_2 (g:=Bi B L) (os:=os) (B:=B) (Bd:=.int (B:Int)) h1 () hm (ay_6 ()) (Ce (Bi B L) B mx mx) [] [] (λ_=>0) .no .no .no (λb hb=>pm.mem_iff.mp hb) (by rw[P2];exact x_5 () ()) (λ_ h=>by simp at h) (by simp;omega) (by simp;omega);have hf:∀r,Ca (gV 6) c_0 (Dq (Ce (Bi B L) B mx mx)) (Do L (.int (B:Int)) jm (Cq (Bi B L) os) [] (Cn [] λ_=>0) .no .no .no)=r->Bv [3] (Cg (ac_0 b_6 (Ab 3))) (gV 6) c_0 [.sh (.lst (L.map .int)),.sh (.int (B:Int)),.sh (.int (jm:Int)),.tr (.dic (gkT (Bi B L) os)),.ow (.dic (Bm [])),.ow (.dic (Cn [] λ_=>0)),.no,.no,.no]=r:=λr e=>by
  have hgs:gsome [3] [.sh (.lst (L.map .int)),.sh (.int (B:Int)),.sh (.int (jm:Int)),.tr (.dic (gkT (Bi B L) os)),.ow (.dic (Bm [])),.ow (.dic (Cn [] λ_=>0)),.no,.no,.no]=Do L (.int (B:Int)) jm (Cq (Bi B L) os) [] (Cn [] λ_=>0) .no .no .no:=by
   show [.sh (.lst (L.map .int)),.sh (.int (B:Int)),.sh (.int (jm:Int)),Sl.sh ((Tn.dic (gkT (Bi B L) os)).d),.ow (.dic (Bm [])),.ow (.dic (Cn [] λ_=>0)),.no,.no,.no]=_;rw[gk_d];rfl
  have hi:Cg (ac_0 b_6 (Ab 3)) (Bg (Do L (.int (B:Int)) jm (Cq (Bi B L) os) [] (Cn [] λ_=>0) .no .no .no))=.ok (Dq (Ce (Bi B L) B mx mx)):=by
   unfold Cg;show((ac_0 b_6 (Ab 3) [some (.lst (L.map .int)),some (.int (B:Int)),some (.int (jm:Int)),some (.dic (Cq (Bi B L) os)),none,none,none,none,none]).bind _)=_;rw[ho];rfl
  have h0:Cg (ac_0 b_6 (Ab 3)) (Bg [.sh (.lst (L.map .int)),.sh (.int (B:Int)),.sh (.int (jm:Int)),.tr (.dic (gkT (Bi B L) os)),.ow (.dic (Bm [])),.ow (.dic (Cn [] λ_=>0)),.no,.no,.no])=.no:=rfl;unfold Bv;rw[hgs,hi];exact e
 unfold Ez;unfold d_6 Al s_0;rw[Bc q1,Bc q2,Bc q3];cases e:Go L.length jm (Bi B L) (Ce (Bi B L) B mx mx) [] (λ_=>0) with
 |inl q=>
  rw[e]at hd;obtain⟨Δ',e2⟩:=hd;unfold Af;rw[hf _ e2]
 |inr p=>
  rw[e]at hd;obtain⟨b6,b7,b8,e2⟩:=hd;rw[Bc (hf _ e2)];rfl
def cz_3{B jm mx:Nat}{ks:List D}(hk:∀k∈ks,isKey k)(hB:1<=B)(hB2:B<=60)(h1:1<=ks.length)(hL:ks.length<=63)(hm1:1<=jm)(hm:jm<=1000)(hmx:mx<=1000)(hx:∀b,b < B->(Bi B (ks.map Bn) b).length<=mx)(ht:j_3 [.lst (Dh (Bi B (ks.map Bn)) B)]=.ok (.ow (.lst (Dq (Ce (Bi B (ks.map Bn)) B mx (mx + 1)))))):r_2 [.lst ks,.int (B:Int),.int (jm:Int)]=match Ez B jm (ks.map Bn) mx with
  | .inl q=> .ok (.sh (.int (q:Int)))
  | .inr p=> .ok (.ow (.lst (lsM B p.2))):=by
 have hlm:(ks.map Bn).length=ks.length:=A4 _;have e1:=ba_9 hB () hk ();have hd0:Go ks.length jm (Bi B (ks.map Bn)) (Ce (Bi B (ks.map Bn)) B mx (mx + 1)) [] (λ_=>0)=Ez B jm (ks.map Bn) mx:=by
  unfold Ez;rw[hlm,Ce,cy_9];have hn0:∀b∈szs (Bi B (ks.map Bn)) B (mx - mx),Bi B (ks.map Bn) b= []:=λb hb=>by
   have:=(mem_szs.mp hb).2;exact X6 ()
  cases e:Go ks.length jm (Bi B (ks.map Bn)) (Ce (Bi B (ks.map Bn)) B mx mx) [] (λ_=>0) with
  |inl q=>rfl
  |inr p=>
   have d:=cg_1 _ _ _ p.1 p.2 (x_5 () ()) e;refine(bv_3 hm1 _ p.1 p.2 λb hb=>⟨hn0 b hb,d.out b λz=> ?_⟩);obtain⟨_,j,j1,j2⟩:=(z_7 mx).mp z;rw[hn0 b hb,P3]at j2;omega
 generalize hg:Bi B (ks.map Bn)=g at *
 have hgl:∀b,(g b).length<=1000:=λb=>by rw[<-hg];exact ay_6 () b
 have hol:=cg_2 (g:=g) (mx:=mx) (k:=mx + 1) hB2 (A8 _);have hd:=bv_4 (B:=B) (g:=g) (ks:=ks) h1 () hm hgl (Ce g B mx (mx + 1)) [] (λ_=>0) .no .no .no (λb hb=>((z_7 _).mp hb).1) (λ_ h=>by simp at h) (by simp;omega);rw[hd0]at hd;have q1:Ah 3 [0,1] (Au 2 k_1 #v[0,1]) (An 9 [.lst ks,.int (B:Int),.int (jm:Int)])=.nx [.sh (.lst ks),.sh (.int (B:Int)),.sh (.int (jm:Int)),.tr (.lst (Dr g B)),.no,.no,.no,.no,.no]:=by
  simp![Am,e1]
 have q2:Ah 4 [] u_4 [.sh (.lst ks),.sh (.int (B:Int)),.sh (.int (jm:Int)),.tr (.lst (Dr g B)),.no,.no,.no,.no,.no]=.nx [.sh (.lst ks),.sh (.int (B:Int)),.sh (.int (jm:Int)),.tr (.lst (Dr g B)),.ow (.dic (Bm [])),.no,.no,.no,.no]:=rfl;have ip:repD [.int 0] (.int (B:Int))=.ok (.ow (.lst (lsM B λ_=>0))):=by
  unfold repD;simp only[C6,P3];rw[if_pos ⟨by omega,by omega⟩];have:(List.replicate (B:Int).toNat [D.int 0]).flatten=lsM B λ_=>0:=by
   rw[N3];unfold lsM;refine P0 λi=> ?_;have hfl:(List.replicate B [D.int 0]).flatten=List.replicate B (D.int 0):=by simp
   rw[hfl,B4,E8]
   by_cases hi:i < B
   ·rw[if_pos hi,F3 hi];rfl
   ·rw[if_neg hi,D9 (by simp;omega)];rfl
  rw[this]
 have q3:Ah 5 [1] (eRep #v[eC (.int 0)] (Ab 1)) [.sh (.lst ks),.sh (.int (B:Int)),.sh (.int (jm:Int)),.tr (.lst (Dr g B)),.ow (.dic (Bm [])),.no,.no,.no,.no]=.nx [.sh (.lst ks),.sh (.int (B:Int)),.sh (.int (jm:Int)),.tr (.lst (Dr g B)),.ow (.dic (Bm [])),.ow (.lst (lsM B λ_=>0)),.no,.no,.no]:=by
  simp![Am,eRep,ip]
 have hf:∀r,Ca (gV 6) f_7 (Dq (Ce g B mx (mx + 1))) (Dd ks B jm g [] (λ_=>0) .no .no .no)=r->Bv [3] (Cg (Au 1 j_3 #v[3])) (gV 6) f_7 [.sh (.lst ks),.sh (.int (B:Int)),.sh (.int (jm:Int)),.tr (.lst (Dr g B)),.ow (.dic (Bm [])),.ow (.lst (lsM B λ_=>0)),.no,.no,.no]=r:=λr e=>by
  have hgs:gsome [3] [.sh (.lst ks),.sh (.int (B:Int)),.sh (.int (jm:Int)),.tr (.lst (Dr g B)),.ow (.dic (Bm [])),.ow (.lst (lsM B λ_=>0)),.no,.no,.no]=Dd ks B jm g [] (λ_=>0) .no .no .no:=by
   show [.sh (.lst ks),.sh (.int (B:Int)),.sh (.int (jm:Int)),Sl.sh ((Tn.lst (Dr g B)).d),.ow (.dic (Bm [])),.ow (.lst (lsM B λ_=>0)),.no,.no,.no]=_;rw[so_d];rfl
  have hi:Cg (Au 1 j_3 #v[3]) (Bg (Dd ks B jm g [] (λ_=>0) .no .no .no))=.ok (Dq (Ce g B mx (mx + 1))):=by
   simp![Dd,Am,ht]
  unfold Bv;rw[hgs,hi];exact e
 unfold r_2 Al ao_9;rw[Bc q1,Bc q2,Bc q3];cases e:Ez B jm (ks.map Bn) mx with
 |inl q=>
  rw[e]at hd;unfold Af;rw[hf _ hd]
 |inr p=>
  rw[e]at hd;obtain⟨b6,b7,b8,e2⟩:=hd;rw[Bc (hf _ e2)];rfl
abbrev La:List Str:=["how_many","many_buckets","by_bucket"]
def Cz(n B:Nat)(P:List Nat)(M:Nat->Nat):D:=.obj "Buckets" La [.int (n:Int),.int (B:Int),.dic (Cn P M)]
section
variable(n B:Nat)(P:List Nat)(M:Nat->Nat)(r:List (Option D))
end
def dt_0(F:AF):([("Buckets",F)]:List (Str×(AF))).lookup ("Buckets" :Str)=some F:=by rfl'
def ak_7{n B:Nat}{P:List Nat}{M:Nat->Nat}(m:Str)(k:Nat)(F:AF)(fo:FE)(fa:FA)(δ:DE)(ds:List D)(hm:(La:List Str).contains m=false)(h1:fo δ=.ok (.sh (Cz n B P M)))(h2:fa δ=.ok ds)(h3:ds.length=k):t_6 m k [("Buckets",F)] fo fa δ=F (Cz n B P M::ds):=by
 unfold Cz at h1⊢;simp only[t_6,h1,R.bind_ok,W.d_sh,hm,E7,N0,dt_0,h2,h3,if_true]
def cz_4(t:Tn):Sl.pub (.lt t)=none:=rfl
def cg_3{Δ:SE}{i:Nat}{cs:List Str}{f c:Str}{js:List Nat}{fe:FE}{ns:List Str}{ts:List Tn}{w:W}(hg:gsome js Δ=Δ)(h0:Δ[i]? =some (.lt (.obj c ns ts)))(hc:cs.contains c=true/\ns.contains f=false/\ns.length < 1000)(he:fe (Bg Δ)=.ok w):
  Fb i cs f js fe Δ=.nx (Δ.set i (.lt (.obj c (ns ++ [f]) (ts ++ [.sh w.d])))):=by
 unfold Fb;rw[hg];simp only[h0,he,if_pos hc]
def cm_7(d:D):c_2 [d]=.ok (["how_many"],[d]):=by
 rfl'
def cz_5{Δ:SE}{i:Nat}{c:Str}{js:List Nat}{F:List D->R (List Str×List D)}{fe:FE}{w:W}{p:List Str×List D}(hg:gsome js Δ=Δ)(h0:Δ[i]? =some (.lt (.obj c [] [])))(he:fe (Bg Δ)=.ok w)(hF:F [w.d]=.ok p):
  y_9 i c js F fe Δ=.nx (Δ.set i (.lt (.obj c p.1 (p.2.map .sh)))):=by
 unfold y_9;rw[hg];simp only[h0,he,hF,if_true]
def cz_6:(La:List Str).contains "bucket" =false:=by decide +kernel
def bv_5:(La:List Str).contains "number_of" =false:=by decide +kernel
def dt_1:(La:List Str).contains "room" =false:=by decide +kernel
def dj_2:(La:List Str).contains "rooms" =false:=by decide +kernel
def dj_3{ks:List D}(hk:∀k∈ks,isKey k):neD (.lst ks) (.lst ks)=.ok (.sh (.bl false)):=by
 obtain⟨b,hb,_,e⟩:=ak_4 hk hk;have:b=true:=hb.mpr rfl;subst this;exact e
def ca_0(ks:List D):(ks.map λd=>D.int (Bn d))=(ks.map Bn).map .int:=by rw[L7];rfl
abbrev Lb:List Str:=["how_many","many_buckets"]
def cg_4{ks:List D}{B jm mx:Nat}(hk:∀k∈ks,isKey k)(nd:ks.Nodup)(hB:1<=B)(hB2:B<=60)(h1:1<=ks.length)(h2:ks.length<=63)(hm:jm<=1000)(hx:∀b,b < B->(Bi B (ks.map Bn) b).length<=mx):
  e_4 [.lst ks,.int (B:Int),.int (jm:Int)]=match Ez B jm (ks.map Bn) mx with
  | .inl q=> .ex (xNF q)
  | .inr p=> .ok (La,[.int (ks.length:Int),.int (B:Int),.dic (Cn (Ce (Bi B (ks.map Bn)) B mx mx) p.2)]):=by
 have lk:=di_3 hk nd h1 ();have hs:=bb_0 (L:=ks.map Bn) hB hB2 (by rw[A4];exact h1) (by rw[A4];exact h2) hm hx;unfold e_4 aw_2 o_5;have q1:y_9 0 "Buckets" [1] c_2 (Au 1 c_9 #v[1]) (v_0 4 "Buckets" [.lst ks,.int (B:Int),.int (jm:Int)])=.nx [.lt (.obj "Buckets" ["how_many"] [.sh (.int (ks.length:Int))]),.sh (.lst ks),.sh (.int (B:Int)),.sh (.int (jm:Int))]:=by
  refine cz_5 (w:=.sh (.int (ks.length:Int))) (p:=(["how_many"],[.int (ks.length:Int)])) rfl rfl ?_ (cm_7 _);exact lk
 have q2:Fb 0 ["Buckets"] "many_buckets" [2] (Ab 2) [.lt (.obj "Buckets" ["how_many"] [.sh (.int (ks.length:Int))]),.sh (.lst ks),.sh (.int (B:Int)),.sh (.int (jm:Int))]=.nx [.lt (.obj "Buckets" Lb [.sh (.int (ks.length:Int)),.sh (.int (B:Int))]),.sh (.lst ks),.sh (.int (B:Int)),.sh (.int (jm:Int))]:=
  cg_3 (w:=.sh (.int (B:Int))) (c:= "Buckets") (ns:=["how_many"]) (ts:=[.sh (.int (ks.length:Int))]) rfl rfl nofun rfl
 have ec:=n_5 (m:=1) (fi:=Cg (Ab 1)) (fg:=gC 4) (p:=λ_=> .ok true) (f:=f_4) (δ:=[none,some (.lst ks),some (.int (B:Int)),some (.int (jm:Int))]) (ds:=ks) (by simp![Am]) ()
  (w_7 (λd=> .int (Bn d)) ks λd hd=>⟨[none,some (.lst ks),some (.int (B:Int)),some (.int (jm:Int)),some d],.sh (.int (Bn d)),rfl,by simp![f_4,Am,cw_5 (hk d hd)],rfl⟩)
 rw[ca_0]at ec;rw[Bc q1,Bc q2];cases e:Ez B jm (ks.map Bn) mx with
 |inr p=>
  rw[e]at hs;have q3:Fb 0 ["Buckets"] "by_bucket" [1,2,3] (Au 3 d_6 #v[(Cl 1 (Cg (Ab 1)) (gC 4) (λ_=> .ok true) f_4),2,3]) [.lt (.obj "Buckets" Lb [.sh (.int (ks.length:Int)),.sh (.int (B:Int))]),.sh (.lst ks),.sh (.int (B:Int)),.sh (.int (jm:Int))]=
    .nx [.lt (.obj "Buckets" La [.sh (.int (ks.length:Int)),.sh (.int (B:Int)),.sh (.dic (Cn (Ce (Bi B (ks.map Bn)) B mx mx) p.2))]),.sh (.lst ks),.sh (.int (B:Int)),.sh (.int (jm:Int))]:=by
   refine cg_3 (w:=.ow (.dic (Cn (Ce (Bi B (ks.map Bn)) B mx mx) p.2))) (c:= "Buckets") (ns:= Lb) (ts:=[.sh (.int (ks.length:Int)),.sh (.int (B:Int))]) rfl rfl nofun ?_
   simp![Am,cz_4,ec,hs]
  rw[q3];simp only[S3,if_true,unT,M3]
 |inl q=>
  rw[e]at hs;have q3:Fb 0 ["Buckets"] "by_bucket" [1,2,3] (Au 3 d_6 #v[(Cl 1 (Cg (Ab 1)) (gC 4) (λ_=> .ok true) f_4),2,3]) [.lt (.obj "Buckets" Lb [.sh (.int (ks.length:Int)),.sh (.int (B:Int))]),.sh (.lst ks),.sh (.int (B:Int)),.sh (.int (jm:Int))]=
    .ex (xNF q) [.lt (.obj "Buckets" Lb [.sh (.int (ks.length:Int)),.sh (.int (B:Int))]),.sh (.lst ks),.sh (.int (B:Int)),.sh (.int (jm:Int))]:=by
   have he:Au 3 d_6 #v[(Cl 1 (Cg (Ab 1)) (gC 4) (λ_=> .ok true) f_4),2,3] (Bg (gsome [1,2,3] [.lt (.obj "Buckets" Lb [.sh (.int (ks.length:Int)),.sh (.int (B:Int))]),.sh (.lst ks),.sh (.int (B:Int)),.sh (.int (jm:Int))]))=.ex (xNF q):=by
    simp![Am,cz_4,ec,hs]
   unfold Fb;rw[he];rfl
  rw[q3]
def cm_8{L a b:D}{p:List Str×List D}(h:e_4 [L,a,b]=.ok p):h_3 [L,a,b]=.ok (.sh .non):=by
 have hm:ao_3 "Buckets" 3 e_4 #v[0,1,2] [some L,some a,some b,some .non,none]=.ok (.sh (.obj "Buckets" p.1 p.2)):=by
  unfold ao_3;rw[show #v[0,1,2] [some L,some a,some b,some D.non,none]=.ok [L,a,b] from rfl,R.bind_ok,if_pos (show [L,a,b].length=3 from rfl),h];rfl
 have hb:n_3 [.sh L,.sh a,.sh b,.sh .non,.no]=.nx [.sh L,.sh a,.sh b,.sh .non,.no]:=by
  simp![n_3,Am,hm]
 have e:u_0 [.sh L,.sh a,.sh b,.no,.no]=.rt (.sh .non):=by
  unfold u_0;refine(Bc (Δ':=[.sh L,.sh a,.sh b,.sh .non,.no]) rfl).trans ((Bc (Δ':=[.sh L,.sh a,.sh b,.sh .non,.no]) ?_).trans rfl);unfold ao_4;rw[hb]
 unfold h_3 Al;rw[show An 5 [L,a,b]= [.sh L,.sh a,.sh b,.no,.no] from rfl,e]
def cz_7{ks:List D}(hk:∀k∈ks,isKey k):Cj (.lst ks) (.lst ks)=.ok (.sh (.bl true)):=by
 obtain⟨b,hb,e,_⟩:=ak_4 hk hk;have:b=true:=hb.mpr rfl;subst this;exact e
def ah_6{ks:List D}{B jm:Nat}(hk:∀k∈ks,isKey k)(nd:ks.Nodup)(h1:1<=ks.length)(h2:ks.length<=63)(b1:1<=B)(b2:B<=60)(m1:1<=jm)(hm:jm<=1000):d_9 [.lst ks,.int (B:Int),.int (jm:Int)]=.ok (.sh (.bl true)):=by
 have hlm:(ks.map Bn).length=ks.length:=A4 _;obtain⟨mx,hmx,hx,ht⟩:=bz_9 (g:=Bi B (ks.map Bn)) b1 () (ay_6 ());have hdl:=cz_3 hk b1 b2 h1 h2 m1 hm hmx hx ht;have aq:=cg_4 (jm:=jm) hk nd b1 b2 h1 h2 hm hx;have due:=cx_2 hk nd h1 ();have hn:=dj_3 hk;have hq:=cz_7 hk;refine k_9 ?_;unfold u_6;have s1:Ah 3 [0] (Ak au_4 #v[0]) (An 7 [.lst ks,.int (B:Int),.int (jm:Int)])=.nx [.sh (.lst ks),.sh (.int (B:Int)),.sh (.int (jm:Int)),.ow (.lst ks),.no,.no,.no]:=by
  simp![Am,au_4]
 have s2:Ah 4 [0] (Au 1 k_0 #v[0]) [.sh (.lst ks),.sh (.int (B:Int)),.sh (.int (jm:Int)),.ow (.lst ks),.no,.no,.no]=.nx [.sh (.lst ks),.sh (.int (B:Int)),.sh (.int (jm:Int)),.ow (.lst ks),.sh .non,.no,.no]:=by
  simp![Am,due]
 rw[Bc s1,Bc s2];cases e:Ez B jm (ks.map Bn) mx with
 |inr p=>
  rw[e]at hdl aq;simp only at hdl aq;have bq:=cm_8 aq;refine(Bc (Δ':=[.sh (.lst ks),.sh (.int (B:Int)),.sh (.int (jm:Int)),.ow (.lst ks),.sh .non,.no,.ow (.lst (lsM B p.2))]) ?_).trans ?_
  ·unfold Bs;rw[show Ao (Ae (Ee false) (Ab 4) (eC .non)) (Ax [.sh (.lst ks),.sh (.int (B:Int)),.sh (.int (jm:Int)),.ow (.lst ks),.sh .non,.no,.no])=.ok true from rfl];show Af _ _ _=_;rw[Bc (Δ':=[.sh (.lst ks),.sh (.int (B:Int)),.sh (.int (jm:Int)),.ow (.lst ks),.sh .non,.no,.ow (.lst (lsM B p.2))]) (by simp![Am,hdl])]
   simp![Am]
  refine(Bc (Δ':=[.sh (.lst ks),.sh (.int (B:Int)),.sh (.int (jm:Int)),.ow (.lst ks),.sh .non,.sh .non,.ow (.lst (lsM B p.2))]) (by simp![Am,bq])).trans ?_
  simp![Am,hn,hq]
 |inl q=>
  rw[e]at hdl aq;simp only at hdl aq;have bq:=cx_4 (n:=(q:Int)) aq;have hee:Cj (.lst [.str "fit",.int (q:Int),.int 1]) (.lst [.str "fit",.int (q:Int),.int 1])=.ok (.sh (.bl true)):=ax_5 1 (by show([D.str "fit",.int (q:Int),.int 1].all (okD 0))=true;simp only[S7,List.all_nil,show okD 0 (.str "fit")=true by decide +kernel,ZD9];rfl);refine(Bc (Δ':=[.sh (.lst ks),.sh (.int (B:Int)),.sh (.int (jm:Int)),.ow (.lst ks),.ow (.lst [.str "fit",.int (q:Int)]),.no,.sh (.int (q:Int))]) ?_).trans ?_
  ·unfold Bs;rw[show Ao (Ae (Ee false) (Ab 4) (eC .non)) (Ax [.sh (.lst ks),.sh (.int (B:Int)),.sh (.int (jm:Int)),.ow (.lst ks),.sh .non,.no,.no])=.ok true from rfl];show Af _ _ _=_;rw[Bc (Δ':=[.sh (.lst ks),.sh (.int (B:Int)),.sh (.int (jm:Int)),.ow (.lst ks),.sh .non,.no,.sh (.int (q:Int))]) (by simp![Am,hdl])]
   simp![Am]
  refine(Bc (Δ':=[.sh (.lst ks),.sh (.int (B:Int)),.sh (.int (jm:Int)),.sh (.lst ks),.ow (.lst [.str "fit",.int (q:Int)]),.ow (.lst [.str "fit",.int (q:Int),.int 1]),.sh (.int (q:Int))]) (by simp![Am,bq])).trans ?_;refine(Bc (by simp![Am,hn];rfl)).trans ?_
  simp![Am,Az,O5,P2,hee]
  rfl
def at_3{js:List Nat}{f:FE}{Δ:SE}{x:Xn}(hv:Ax Δ=Bg Δ)(hg:gsome js Δ=Δ)(h:f (Bg Δ)=.ex x):Cc js f Δ=.ex x Δ:=by
 unfold Cc;rw[hv,h];simp only[exG,hg,h]
def ca_1{js:List Nat}{f:FE}{Δ:SE}{x:Xn}(hv:Ax Δ=Bg Δ)(hg:gsome js Δ=Δ)(h:f (Bg Δ)=.ex x):As js f Δ=.ex x Δ:=by
 unfold As;rw[hv,h];simp only[exG,hg,h]
def bv_6{d:D}(h:u_7 d):l_7 [d]=.ex (Fu 0):=by
 simp![l_7,as_7,Am,bf_6 h,r_5,Fu]
 rfl
def cm_9{d:D}{n B:Nat}{P:List Nat}{M:Nat->Nat}(h:u_7 d):c_6 [Cz n B P M,d]=.ex (Fu 0):=by
 generalize Cz n B P M=O;have e2:s_1 (An 2 [O,d])=.ex (Fu 0) (An 2 [O,d]):=by
  refine ca_1 rfl rfl ?_;have:Au 1 l_7 #v[1] (Bg (An 2 [O,d]))=.ex (Fu 0):=by
   rw[<-bv_6 h];rfl
  unfold Au;rw[show∀(f:FE) (fa:FA) (δ:DE),Aa f fa δ=(f δ).bind λw=>(fa δ).bind λds=> .ok (w.d::ds) from λ_ _ _=>rfl];show(((Au 1 l_7 #v[1] (Bg (An 2 [O,d]))).bind _).bind _)=_;rw[this];rfl
 unfold c_6 Al;rw[e2]
def cn_0{d:D}{n B:Nat}{P:List Nat}{M:Nat->Nat}(h:u_7 d):d_5 [Cz n B P M,d]=.ex (Fu 0):=by
 generalize Cz n B P M=O;have e2:x_1 (An 2 [O,d])=.ex (Fu 0) (An 2 [O,d]):=by
  refine ca_1 rfl rfl ?_;have:Au 1 l_7 #v[1] (Bg (An 2 [O,d]))=.ex (Fu 0):=by
   rw[<-bv_6 h];rfl
  unfold Au;show(((Au 1 l_7 #v[1] (Bg (An 2 [O,d]))).bind _).bind _)=_;rw[this];rfl
 unfold d_5 Al;rw[e2]
def dj_4{d:D}{n B:Nat}{P:List Nat}{M:Nat->Nat}(h:u_7 d):e_8 [Cz n B P M,d]=.ex (Fu 0):=by
 have hm:=ak_7 (n:=n) (B:=B) (P:=P) (M:=M) "number_of" 1 c_6 (Ab 0) #v[1] [some (Cz n B P M),some d] [d] bv_5 rfl rfl rfl;rw[cm_9 h]at hm;generalize Cz n B P M=O at *
 have e:Ak minD #v[t_6 "number_of" 1 [("Buckets",c_6)] (Ab 0) #v[1],Ae Ej (eFld ["Buckets"] "how_many" (Ab 0)) (eC (.int 1))] [some O,some d]=.ex (Fu 0):=by
  unfold Ak;rw[show∀(f:FE) (fa:FA) (δ:DE),Aa f fa δ=(f δ).bind λw=>(fa δ).bind λds=> .ok (w.d::ds) from λ_ _ _=>rfl,hm];rfl
 have e2:ac_4 (An 2 [O,d])=.ex (Fu 0) (An 2 [O,d]):=by
  exact ca_1 rfl rfl e
 unfold e_8 Al;rw[e2]
def cz_8{l:List D}{d:D}{r:List D}{n B:Nat}{P:List Nat}{M:Nat->Nat}(hk:∀k∈l,isKey k)(h:u_7 d):f_0 [Cz n B P M,.lst (l ++ d::r)]=.ex (Fu l.length):=by
 generalize Cz n B P M=O;have he:=bu_1 (r:=r) hk h;have e:Cc [1] (Au 1 e_0 #v[1]) (An 2 [O,.lst (l ++ d::r)])=.ex (Fu l.length) (An 2 [O,.lst (l ++ d::r)]):=by
  have:Au 1 e_0 #v[1] (Bg (An 2 [O,.lst (l ++ d::r)]))=.ex (Fu l.length):=by
   rw[<-he];rfl
  exact at_3 rfl rfl this
 unfold f_0 Al aa_3 Af;rw[e]
section
variable{ks:List D}{d:D}{n B:Nat}{P:List Nat}{M:Nat->Nat}
def an_4{f:Int}{m:Nat}(hb:k_3 [.sh (Cz n B P M),.sh (.int f),.sh d,.sh (.lst ks),.sh .non,.no]=.ex (Fu m) [.sh (Cz n B P M),.sh (.int f),.sh d,.sh (.lst ks),.sh .non,.no])
  (hx:Bw (.lst [.int 0,.int 0,.int (ks.length:Int)]) (.int f)=.ok (.sh (.int (m:Int)))):i_9 [Cz n B P M,.int f,d,.lst ks]=.ok (.sh (.bl true)):=by
 generalize Cz n B P M=O at *
 refine k_9 ?_;unfold ak_2;have s1:Ah 4 [] (eC .non) (An 6 [O,.int f,d,.lst ks])=.nx [.sh O,.sh (.int f),.sh d,.sh (.lst ks),.sh .non,.no]:=rfl;have s2:ao_4 k_3 [⟨some 5, L51,ac_5⟩] [.sh O,.sh (.int f),.sh d,.sh (.lst ks),.sh .non,.no]=.nx [.sh O,.sh (.int f),.sh d,.sh (.lst ks),.ow (.lst [.int (m:Int),.int 1]),.no]:=by
  unfold ao_4;rw[hb];rfl
 have he:Cj (.lst [.int (m:Int),.int 1]) (.lst [.int (m:Int),.int 1])=.ok (.sh (.bl true)):=ax_5 1 rfl;rw[Bc s1,Bc s2]
 simp![Am,En,hx,he]
def cz_9{js:List Nat}{t:FT}{g h:FS}{Δ:SE}(e:t (Ax Δ)=.ok false):Bs js t g h Δ=h Δ:=by
 unfold Bs;rw[e];rfl
def dy_7{js:List Nat}{t:FT}{g h:FS}{Δ:SE}(e:t (Ax Δ)=.ok true):Bs js t g h Δ=g Δ:=by
 unfold Bs;rw[e];rfl
def da_0(h:u_7 d):i_9 [Cz n B P M,.int 0,d,.lst ks]=.ok (.sh (.bl true)):=by
 refine an_4 (m:=0) ?_ (Dz (Eh (i:=0) rfl));have hm:=ak_7 (n:=n) (B:=B) (P:=P) (M:=M) "room" 1 e_8 (Ab 0) #v[2] (Bg [.sh (Cz n B P M),.sh (.int 0),.sh d,.sh (.lst ks),.sh .non,.no]) [d] dt_1 rfl rfl rfl;rw[dj_4 h]at hm;generalize Cz n B P M=O at *
 have e:Cc [0,2] (t_6 "room" 1 [("Buckets",e_8)] (Ab 0) #v[2]) [.sh O,.sh (.int 0),.sh d,.sh (.lst ks),.sh .non,.no]=.ex (Fu 0) [.sh O,.sh (.int 0),.sh d,.sh (.lst ks),.sh .non,.no]:=by
  exact at_3 rfl rfl hm
 unfold k_3 Bs;rw[show Ao (Ae Cj (Ab 1) (eC (.int 0))) (Ax [.sh O,.sh (.int 0),.sh d,.sh (.lst ks),.sh .non,.no])=.ok true from rfl];exact e
def da_1(h:u_7 d):i_9 [Cz n B P M,.int 1,d,.lst ks]=.ok (.sh (.bl true)):=by
 refine an_4 (m:=0) ?_ (Dz (Eh (i:=1) rfl));have hm:=ak_7 (n:=n) (B:=B) (P:=P) (M:=M) "bucket" 1 d_5 (Ab 0) #v[2] (Bg [.sh (Cz n B P M),.sh (.int 1),.sh d,.sh (.lst ks),.sh .non,.no]) [d] cz_6 rfl rfl rfl;rw[cn_0 h]at hm;generalize Cz n B P M=O at *
 have e:Cc [0,2] (t_6 "bucket" 1 [("Buckets",d_5)] (Ab 0) #v[2]) [.sh O,.sh (.int 1),.sh d,.sh (.lst ks),.sh .non,.no]=.ex (Fu 0) [.sh O,.sh (.int 1),.sh d,.sh (.lst ks),.sh .non,.no]:=by
  exact at_3 rfl rfl hm
 unfold k_3;rw[cz_9 rfl,dy_7 rfl];exact e
def da_2(hk:∀k∈ks,isKey k)(hl:ks.length<=1000)(h:u_7 d):i_9 [Cz n B P M,.int 2,d,.lst ks]=.ok (.sh (.bl true)):=by
 refine an_4 (m:=ks.length) ?_ (Dz (Eh (i:=2) rfl));have c1:Az (.lst ks) (.lst [d])=.ok (.ow (.lst (ks ++ [d]))):=as_2 (by simp;omega);have c2:Az (.lst (ks ++ [d])) (.lst ks)=.ok (.ow (.lst (ks ++ [d] ++ ks))):=as_2 (by simp;omega);have c3:Az (.lst (ks ++ [d] ++ ks)) (.lst [d])=.ok (.ow (.lst (ks ++ [d] ++ ks ++ [d]))):=as_2 (by simp;omega);have ha:Aa (Ae Az (Ae Az (Ae Az (Ab 3) (Aw #v[2])) (Ab 3)) (Aw #v[2])) Ac (Bg [.sh (Cz n B P M),.sh (.int 2),.sh d,.sh (.lst ks),.sh .non,.no])=.ok [.lst (ks ++ d::(ks ++ [d]))]:=by
  generalize Cz n B P M=O
  simp![Am,c1,c2,c3]
  simp
 have hm:=ak_7 (n:=n) (B:=B) (P:=P) (M:=M) "rooms" 1 f_0 (Ab 0) #v[Ae Az (Ae Az (Ae Az (Ab 3) (Aw #v[2])) (Ab 3)) (Aw #v[2])] (Bg [.sh (Cz n B P M),.sh (.int 2),.sh d,.sh (.lst ks),.sh .non,.no]) [.lst (ks ++ d::(ks ++ [d]))] dj_2 rfl ha rfl;rw[cz_8 hk h]at hm;generalize Cz n B P M=O at *
 have e:Cc [0,2,3] (t_6 "rooms" 1 [("Buckets",f_0)] (Ab 0) #v[Ae Az (Ae Az (Ae Az (Ab 3) (Aw #v[2])) (Ab 3)) (Aw #v[2])]) [.sh O,.sh (.int 2),.sh d,.sh (.lst ks),.sh .non,.no]=.ex (Fu ks.length) [.sh O,.sh (.int 2),.sh d,.sh (.lst ks),.sh .non,.no]:=by
  exact at_3 rfl rfl hm
 unfold k_3;rw[cz_9 rfl,cz_9 rfl];exact e
end
def cn_1{xs:List D}(h:bu_6 xs){B jm:Nat}(b1:1<=B)(b2:B<=60)(m1:1<=jm)(hm:jm<=1000):d_9 [.lst xs,.int (B:Int),.int (jm:Int)]=.ok (.sh (.bl true)):=by
 rcases cm_1 h.1 (.int (B:Int)) (.int (jm:Int)) with e|⟨h1,h2,h3,h4⟩
 ·exact e
 ·exact ah_6 h1 h2 h3 (by rcases h.2 with z|z <;> omega) b1 b2 m1 hm
def cn_2{d:D}(hd:isKey d){B:Nat}(b1:1<=B)(b2:B<=60):∃P M,e_4 [.lst [d],.int (B:Int),.int 1]=.ok (La,[.int 1,.int (B:Int),.dic (Cn P M)]):=by
 have hx:∀b,b < B->(Bi B ([d].map Bn) b).length<=1:=λb _=>by have:=at_2 B ([d].map Bn) b;simpa using this
 have gx:Bi B ([d].map Bn) (bk B (Bn d))= [Bn d]:=by simp[Bi]
 have gn:∀b,b≠bk B (Bn d)->Bi B ([d].map Bn) b= []:=λb hb=>by
  simp only[Bi,B2,N2];rw[ZB9,if_neg (by simpa using λz=>hb z.symm)];rfl
 have ho:Ce (Bi B ([d].map Bn)) B 1 1= [bk B (Bn d)]:=by
  have:=(Z7 (x_5 (g:=Bi B ([d].map Bn)) (B:=B) (mx:=1) (k:=1) () ()) (K3.mpr ⟨by simp,S4⟩: [bk B (Bn d)].Nodup)).mpr λb=>by
   rw[z_7,D8];constructor
   ·rintro ⟨h,j,j1,j2⟩
    by_cases z:b=bk B (Bn d)
    ·exact z
    ·rw[gn b z,P3]at j2;omega
   ·rintro rfl
    exact⟨cx_8 _ b1,0,by omega,by rw[gx];rfl⟩
  exact List.perm_singleton.mp this
 have hl:l_0 1 1 [] [Bn d]=some 0:=by
  unfold l_0;have:Dl [] ([Bn d].map (Bp 1 ((0:Nat):Int)))=true:=F1 ⟨by simp,λr _=>by simp⟩;show([0]:List Nat).find? _=_;rw[M6,this]
 have:=cg_4 (ks:=[d]) (B:=B) (jm:=1) (mx:=1) (λk hk=>by rw[D8.mp hk];exact hd) (by simp) b1 b2 (by simp) (by simp) ⋯ hx;have e:Ez B 1 ([d].map Bn) 1=.inr ([] ++ [Bn d].map (Bp 1 ((0:Nat):Int)),λq=>if q=bk B (Bn d) then 0 else 0):=by
  unfold Ez;rw[ho,Go,gx];rw[show(List.map Bn [d]).length=1 from rfl,hl];rfl
 rw[e]at this;exact⟨_,_,this⟩
def dj_5(s:Int)(Δ:SE)(δ:DE)(hg:gsome [6] Δ=Δ)(hv:Bg Δ=δ)(h6:δ[6]? =some (some (.int s))):∃(B jm:Nat),1<=B/\B<=60/\1<=jm/\jm<=200/\sUnp (gP 8 9) [6] (Ae Bw (Aw #v[Fa #v[eC (.int 1),Ae Az (eC (.int 1)) (Ae Br (Ae Ck (Ab 6) (eC (.int 7))) (eC (.int 3)))],Fa #v[Ae Az (eC (.int 1)) (Ae Br (Ae Ck (Ab 6) (eC (.int 7))) (eC (.int 5))),eC (.int 1)],Fa #v[eC (.int 60),eC (.int 100)],Fa #v[eC (.int 2),eC (.int 200)]]) (Ae Br (Ab 6) (eC (.int 4)))) Δ=.nx ((Δ.set 8 (.sh (.int (B:Int)))).set 9 (.sh (.int (jm:Int)))):=by
 have d7:=o_4 (i:=s) (show(0:Int) < 7 by decide) ⋯;have m5:=λi:Int=>Dp (i:=i) (show(0:Int) < 5 by decide);have m3:=λi:Int=>Dp (i:=i) (show(0:Int) < 3 by decide);have m4:=λi:Int=>Dp (i:=i) (show(0:Int) < 4 by decide)
 suffices h:∃(B jm:Nat),1<=B/\B<=60/\1<=jm/\jm<=200/\Bw (.lst [.tup [.int 1,.int (1 + s / 7 % 3)],.tup [.int (1 + s / 7 % 5),.int 1],.tup [.int 60,.int 100],.tup [.int 2,.int 200]]) (.int (s % 4))=.ok (.sh (.tup [.int (B:Int),.int (jm:Int)])) by
  obtain⟨B,jm,b1,b2,m1,m2,e⟩:=h;refine⟨B,jm,b1,b2,m1,m2, ?_⟩;unfold sUnp;rw[hg,hv]
  simp![Am,h6,d7,m5,m3,m4,Ec,e,gP]
 rcases(show s % 4=0\/s % 4=1\/s % 4=2\/s % 4=3 by omega) with e|e|e|e <;> rw[e]
 ·refine⟨1,(1 + s / 7 % 3).toNat,by omega,by omega,by omega,by omega, ?_⟩;rw[show(((1 + s / 7 % 3).toNat:Nat):Int)=1 + s / 7 % 3 by omega];exact Dz (Eh (i:=0) rfl)
 ·refine⟨(1 + s / 7 % 5).toNat,1,by omega,by omega,by omega,by omega, ?_⟩;rw[show(((1 + s / 7 % 5).toNat:Nat):Int)=1 + s / 7 % 5 by omega];exact Dz (Eh (i:=1) rfl)
 ·exact⟨60,100,by omega,by omega,by omega,by omega,Dz (Eh (i:=2) rfl)⟩
 ·exact⟨2,200,by omega,by omega,by omega,by omega,Dz (Eh (i:=3) rfl)⟩
section
variable{nsD:D}{ks:List D}{c:Int}
def dt_2(ec:∃z,g_9 [nsD,.int 1]=.ok (.sh (.int z)))(hk:∀k∈ks,isKey k)(nd:ks.Nodup)(h1:1<=ks.length)(h2:ks.length<=30){s1:Sl}(hs:s1=.ow (.lst ks)\/s1=.sh (.lst ks)){k:Nat}(h4:k < 4)(a6 a7 a8 a9:Sl):
  ∃b6 b7 b8 b9,as_8 [.sh nsD,s1,.sh (.int c),.sh (.int (k:Int)),.no,.no,a6,a7,a8,a9]=.nx [.sh nsD,.sh (.lst ks),.sh (.int c),.sh (.int (k:Int)),.no,.no,b6,b7,b8,b9]:=by
 obtain⟨z,ez⟩:=ec;have d9:=o_4 (i:=c) (show(0:Int) < 9 by decide) ⋯;have mm:=Dp (i:=c) (show(0:Int) < 2147483647 by decide);have x0:Bw (.lst [.int c,.int 0,.int 0,.int (c / 9)]) (.int 0)=.ok (.sh (.int c)):=Dz (Eh (i:=0) rfl);have x1:Bw (.lst [.int c,.int 0,.int 0,.int (c / 9)]) (.int 1)=.ok (.sh (.int 0)):=Dz (Eh (i:=1) rfl);have x2:Bw (.lst [.int c,.int 0,.int 0,.int (c / 9)]) (.int 2)=.ok (.sh (.int 0)):=Dz (Eh (i:=2) rfl);have x3:Bw (.lst [.int c,.int 0,.int 0,.int (c / 9)]) (.int 3)=.ok (.sh (.int (c / 9))):=Dz (Eh (i:=3) rfl);have y0:Bw (.lst [.int (c % 2147483647),.int z]) (.int (1 - 1))=.ok (.sh (.int (c % 2147483647))):=Dz (Eh (i:=0) rfl);have y1:Bw (.lst [.int (c % 2147483647),.int z]) (.int (2 - 1))=.ok (.sh (.int z)):=Dz (Eh (i:=1) rfl);have e1:=ac_6 (c % 2147483647) (7 + 1) ⋯ ⋯;have e2:=ac_6 z (7 + 2) ⋯ ⋯;have f1:∀i j:Int,Cj (.int i) (.int j)=.ok (.sh (.bl (decide (i=j)))):=λi j=>h_9 i j;obtain⟨s,hv⟩:∃s:Int,∀g:FS,Af (Ah 6 [2,3] (Ae Bw (Aw #v[2,eC (.int 0),eC (.int 0),Ae Ck (Ab 2) (eC (.int 9))]) (Ab 3))) (Af (Bs [3] (Dt (Ao (Ae Cj (Ab 3) (eC (.int 1)))) (Ao (Ae Cj (Ab 3) (eC (.int 2)))))
   (Ah 6 [0,2,3] (Au 2 g_7 #v[Ae Bw (Aw #v[Ae Br (Ab 2) (eC (.int 2147483647)),Au 2 g_9 #v[0,eC (.int 1)]]) (Ae Ej (Ab 3) (eC (.int 1))),Ae Az (eC (.int 7)) (Ab 3)])) Ay) g) [.sh nsD,s1,.sh (.int c),.sh (.int (k:Int)),.no,.no,a6,a7,a8,a9]=g [.sh nsD,s1,.sh (.int c),.sh (.int (k:Int)),.no,.no,.sh (.int s),a7,a8,a9]:=by
  rcases(show k=0\/k=1\/k=2\/k=3 by omega) with rfl|rfl|rfl|rfl
  ·refine⟨c,λg=> ?_⟩;rw[Bc (Δ':=[.sh nsD,s1,.sh (.int c),.sh (.int ((0:Nat):Int)),.no,.no,.sh (.int c),a7,a8,a9]) (by simp![Am,d9,Int.ofNat_zero,Int.natCast_zero,x0])];rw[Bc (Δ':=[.sh nsD,s1,.sh (.int c),.sh (.int ((0:Nat):Int)),.no,.no,.sh (.int c),a7,a8,a9]) (by simp![Am,f1];rfl)]
  ·refine⟨Fd (c % 2147483647) (7 + 1),λg=> ?_⟩;rw[Bc (Δ':=[.sh nsD,s1,.sh (.int c),.sh (.int 1),.no,.no,.sh (.int 0),a7,a8,a9]) (by simp![Am,d9,show((1:Nat):Int)=1 from rfl,x1])];rw[Bc (Δ':=[.sh nsD,s1,.sh (.int c),.sh (.int 1),.no,.no,.sh (.int (Fd (c % 2147483647) (7 + 1))),a7,a8,a9]) (by simp![Am,f1,K7,mm,ez,ah_0,y0,Ec,e1])];rfl
  ·refine⟨Fd z (7 + 2),λg=> ?_⟩;rw[Bc (Δ':=[.sh nsD,s1,.sh (.int c),.sh (.int 2),.no,.no,.sh (.int 0),a7,a8,a9]) (by simp![Am,d9,show((2:Nat):Int)=2 from rfl,x2])];rw[Bc (Δ':=[.sh nsD,s1,.sh (.int c),.sh (.int 2),.no,.no,.sh (.int (Fd z (7 + 2))),a7,a8,a9]) (by simp![Am,f1,show decide ((2:Int)=1)=false from rfl,K7,mm,ez,ah_0,y1,Ec,e2])];rfl
  ·refine⟨c / 9,λg=> ?_⟩;rw[Bc (Δ':=[.sh nsD,s1,.sh (.int c),.sh (.int 3),.no,.no,.sh (.int (c / 9)),a7,a8,a9]) (by simp![Am,d9,show((3:Nat):Int)=3 from rfl,x3])];rw[Bc (Δ':=[.sh nsD,s1,.sh (.int c),.sh (.int 3),.no,.no,.sh (.int (c / 9)),a7,a8,a9]) (by simp![Am,f1];rfl)];rfl
 obtain⟨B,jm,b1,b2,m1,m2,hu⟩:=dj_5 s [.sh nsD,s1,.sh (.int c),.sh (.int (k:Int)),.no,.no,.sh (.int s),a7,a8,a9] _ rfl rfl (by rfl);obtain⟨xs,hx,w,ew,hw⟩:=bu_7 hk h1 h2 (s / 64);have d64:=o_4 (i:=s) (show(0:Int) < 64 by decide) ⋯;have q1:=cn_1 hx b1 b2 m1 (show jm<=1000 by omega);have q2:=ah_6 hk nd h1 () b1 b2 m1 (show jm<=1000 by omega);obtain⟨b7,hb7,hs7⟩:∃b7,b7.any=some (.lst xs)/\Ah 7 [1,6] (Au 2 m_5 #v[1,Ae Ck (Ab 6) (eC (.int 64))]) [.sh nsD,s1,.sh (.int c),.sh (.int (k:Int)),.no,.no,.sh (.int s),a7,.sh (.int (B:Int)),.sh (.int (jm:Int))]=.nx [.sh nsD,.sh (.lst ks),.sh (.int c),.sh (.int (k:Int)),.no,.no,.sh (.int s),b7,.sh (.int (B:Int)),.sh (.int (jm:Int))]:=by
  rcases hw with rfl|rfl
  ·exact⟨.sh (.lst xs),rfl,by rcases hs with rfl|rfl <;> simp![Am,d64,ew]⟩
  ·exact⟨.ow (.lst xs),rfl,by rcases hs with rfl|rfl <;> simp![Am,d64,ew]⟩
 refine⟨.sh (.int s),b7,.sh (.int (B:Int)),.sh (.int (jm:Int)), ?_⟩;unfold as_8;rw[hv,Bc hu];show Af _ _ [.sh nsD,s1,.sh (.int c),.sh (.int (k:Int)),.no,.no,.sh (.int s),a7,.sh (.int (B:Int)),.sh (.int (jm:Int))]=_;rw[Bc hs7];have ht:Dt (Ci (Bf (Au 3 d_9 #v[7,8,9]))) (Ci (Bf (Au 3 d_9 #v[1,8,9]))) (Ax [.sh nsD,.sh (.lst ks),.sh (.int c),.sh (.int (k:Int)),.no,.no,.sh (.int s),b7,.sh (.int (B:Int)),.sh (.int (jm:Int))])=.ok false:=by
  show Dt (Ci (Bf (Au 3 d_9 #v[7,8,9]))) (Ci (Bf (Au 3 d_9 #v[1,8,9]))) [some nsD,some (.lst ks),some (.int c),some (.int (k:Int)),none,none,some (.int s),b7.any,some (.int (B:Int)),some (.int (jm:Int))]=_;rw[hb7]
  simp![Am,q1,q2]
 unfold Bs;rw[ht];rfl
end
def da_3(ns:List Int)(hn:ns.length<=63):∃v,dl_0 [.lst (ns.map .int)]=.ok v/\v.d=.bl true:=by
 obtain⟨ks,hne,hl,hk,nd,ek⟩:=di_1 ns 2 30 hn ⋯ ⋯ ⋯ ⋯;have dk:1<=ks.length:=List.length_pos_iff.mpr hne;have gb:ks.length<=30:=by omega
 have er:=am_5 ns 1 ⋯;generalize ns.getD (1:Int).toNat 0=c at er;have ec:=bm_1 ns 1 ⋯ ⋯;generalize hns:D.lst (ns.map .int)=nsD at *
 have t1:bl_6 (An 10 [nsD])=.nx [.sh nsD,.ow (.lst ks),.no,.no,.no,.no,.no,.no,.no,.no]:=by
  simp![bl_6,Am,ek]
 have t2:bl_7 [.sh nsD,.ow (.lst ks),.no,.no,.no,.no,.no,.no,.no,.no]=.nx [.sh nsD,.ow (.lst ks),.sh (.int c),.no,.no,.no,.no,.no,.no,.no]:=by
  simp![bl_7,Am,er]
 have hz:∀{n k:Nat} {d:D},(Ch 0 n)[k]? =some d->k < n/\d=.int (k:Int):=λ{n k d} e=>by
  unfold Ch at e;rw[B4]at e
  by_cases z:k < n
  ·rw[F3 z]at e;simp only[M3,ZE9,Option.some.injEq]at e;exact⟨z,e.symm⟩
  ·rw[D9 (by simp;omega)]at e;cases e
 obtain⟨Δ',e3,s1,b3,b6,b7,b8,b9,rfl,_,hs1⟩:=l_3 (gV 3) as_8 (λk Δ=>∃s1 a3 a6 a7 a8 a9,Δ= [.sh nsD,s1,.sh (.int c),a3,.no,.no,a6,a7,a8,a9]/\(s1=.ow (.lst ks)\/s1=.sh (.lst ks))/\(0 < k->s1=.sh (.lst ks))) (ds:=Ch 0 4) (Δ:=[.sh nsD,.ow (.lst ks),.sh (.int c),.no,.no,.no,.no,.no,.no,.no]) ⟨_,_,_,_,_,_,rfl,.inl rfl,λz=>absurd z (D7 0)⟩ (λk d Δ hd hI=>by
  obtain⟨s1,a3,a6,a7,a8,a9,rfl,hs,_⟩:=hI;obtain⟨h4,rfl⟩:=hz hd;obtain⟨b6,b7,b8,b9,hb⟩:=dt_2 (nsD:=nsD) (c:=c) ec hk nd dk gb hs h4 a6 a7 a8 a9;exact⟨[.sh nsD,s1,.sh (.int c),.sh (.int (k:Int)),.no,.no,a6,a7,a8,a9],rfl,_,.inl hb,_,_,_,_,_,_,rfl,.inr rfl,λ_=>rfl⟩)
 have hs1:=hs1 (by rw[l_2];decide);subst hs1;have t3:bl_8 [.sh nsD,.ow (.lst ks),.sh (.int c),.no,.no,.no,.no,.no,.no,.no]=.nx [.sh nsD,.sh (.lst ks),.sh (.int c),b3,.no,.no,b6,b7,b8,b9]:=by
  unfold bl_8 Bv;rw[show Bh Dw #v[eC (.int 4)] (Bg [.sh nsD,.ow (.lst ks),.sh (.int c),.no,.no,.no,.no,.no,.no,.no])=.ok (Ch 0 4) from rfl];exact e3
 obtain⟨d0,r0,hd0⟩:∃d0 r0,ks=d0::r0:=by
  cases ks with
  |nil=>exact absurd rfl hne
  |cons a b=>exact⟨a,b,rfl⟩
 have dn:Er ks none (some 1)= [d0]:=by
  rw[show(some 1:Option Int)=some ((1:Nat):Int) from rfl,cv_7 ks 1 dk,hd0];rfl
 obtain⟨B9,hB9,hb1,hb2⟩:∃B9:Nat,1 + c % 9=(B9:Int)/\1<=B9/\B9<=60:=⟨(1 + c % 9).toNat,by omega,by omega,by omega⟩;obtain⟨P,M,hh⟩:=cn_2 (hk d0 (by rw[hd0];simp)) hb1 hb2;have t4:bl_9 [.sh nsD,.sh (.lst ks),.sh (.int c),b3,.no,.no,b6,b7,b8,b9]=.nx [.sh nsD,.sh (.lst ks),.sh (.int c),b3,.sh (Cz 1 B9 P M),.no,b6,b7,b8,b9]:=by
  have ha:Aa (Bj (Ab 1) Cy (Co (eC (.int 1)))) #v[Ae Az (eC (.int 1)) (Ae Br (Ab 2) (eC (.int 9))),eC (.int 1)] (Bg [.sh nsD,.sh (.lst ks),.sh (.int c),b3,.no,.no,b6,b7,b8,b9])=.ok [.lst [d0],.int ((B9:Int)),.int 1]:=by
   simp![Am,Bj,t_4,Dp (show(0:Int) < 9 by decide),Ec,hB9,dn]
  unfold bl_9 Ah ao_3;rw[ha,R.bind_ok,if_pos (show [D.lst [d0],.int ((B9:Int)),.int 1].length=3 from rfl),hh];rfl
 have t5:∃b5,bm_0 [.sh nsD,.sh (.lst ks),.sh (.int c),b3,.sh (Cz 1 B9 P M),.no,b6,b7,b8,b9]=.nx [.sh nsD,.sh (.lst ks),.sh (.int c),b3,.sh (Cz 1 B9 P M),b5,b6,b7,b8,b9]:=by
  obtain⟨Δ',e5,b5,rfl⟩:=l_3 (gV 5) as_9 (λ_ Δ=>∃a5,Δ= [.sh nsD,.sh (.lst ks),.sh (.int c),b3,.sh (Cz 1 B9 P M),a5,b6,b7,b8,b9]) (ds:=Ch 0 3) (Δ:=[.sh nsD,.sh (.lst ks),.sh (.int c),b3,.sh (Cz 1 B9 P M),.no,b6,b7,b8,b9]) ⟨_,rfl⟩ (λk d Δ hd hI=>by
   obtain⟨a5,rfl⟩:=hI;obtain⟨h2,rfl⟩:=hz hd;refine⟨_,rfl,[.sh nsD,.sh (.lst ks),.sh (.int c),b3,.sh (Cz 1 B9 P M),.sh (.int (k:Int)),b6,b7,b8,b9],.inl ?_,_,rfl⟩;have em:=ac_6 (c % 2147483647) (k:Int) () ();obtain⟨d,hdb,ed⟩:=ax_9 (Fd (c % 2147483647) (k:Int));have hno:i_9 [Cz 1 B9 P M,.int (k:Int),d,.lst ks]=.ok (.sh (.bl true)):=by
    rcases(show k=0\/k=1\/k=2 by omega) with rfl|rfl|rfl
    ·exact da_0 hdb.1
    ·exact da_1 hdb.1
    ·exact da_2 hk () hdb.1
   generalize Cz 1 B9 P M=O at hno⊢;show as_9 [.sh nsD,.sh (.lst ks),.sh (.int c),b3,.sh O,.sh (.int (k:Int)),b6,b7,b8,b9]=_
   simp![as_9,Am,Dp (show(0:Int) < 2147483647 by decide),em,ed,hno])
  refine⟨b5, ?_⟩;unfold bm_0 Bv;rw[show Bh Dw #v[eC (.int 3)] (Bg [.sh nsD,.sh (.lst ks),.sh (.int c),b3,.sh (Cz 1 B9 P M),.no,b6,b7,b8,b9])=.ok (Ch 0 3) from rfl];exact e5
 obtain⟨b5,t5⟩:=t5;have q:=ah_6 (B:=1) (jm:=1) hk nd dk () ⋯ ⋯ ⋯ ⋯;refine⟨.sh (.bl true), ?_,rfl⟩;refine k_9 ?_;unfold dk_9;rw[Bc t1,Bc t2,Bc t3,Bc t4,Bc t5];generalize Cz 1 B9 P M=O;have q:d_9 [.lst ks,.int 1,.int 1]=.ok (.sh (.bl true)):=q
 simp![ce_5,Am,q]
end My
set_option maxHeartbeats 20000000
namespace My
open PySem PyProof.Rows L2 L3
local macro_rules|`(#v[])=>`(Ap)|`(#v[$n:num])=>`(Ag (Ad $n) Ap)|`(#v[$x])=>`(Ag $x Ap)|`(#v[$n:num,$xs,*])=>`(Ag (Ad $n) #v[$xs,*])|`(#v[$x,$xs,*])=>`(Ag $x #v[$xs,*])
def Bo(i:Nat):Stmt:=PySem.Challenge.pw_lodge_k62_buckets_refused.main.body.getD i (.Pass ⟨0,0,0,0⟩)
def ae_5:Stmt->List Stmt
 | .ClassDef (body:=b) .. =>b
 |_=> []
def inC(i j:Nat):Stmt:=(ae_5 (Bo i)).getD j (.Pass ⟨0,0,0,0⟩)
abbrev AH(P:Program)(w:World)(K:Frag)(p:Str->Option Value)(r:Heap)(f:Addr)(u:FuncData)(x:Str)(i k:Nat)(ps:List Str)(n:Nat)(g:List D->R W):Prop:=Fun K x x (Bo i) f u->FnX P w K p r true k f u ps (Bx K n g)
abbrev AI(P:Program)(w:World)(K:Frag)(p:Str->Option Value)(r:Heap)(f:Addr)(u:FuncData)(x:Str)(q:Str)(i j k:Nat)(ps:List Str)(n:Nat)(g:List D->R W):Prop:=Fun K x q (inC i j) f u->FnX P w K p r true k f u ps (Bx K n g)
section
variable{P:Program}{w:World}{K:Frag}{p:AB}{r:Heap}{f:Addr}{u:FuncData}
abbrev TF(c:Bool)(x:Str)(k:Nat)(ps:List Str)(F:AF)(P:Program)(w:World)(K:Frag)(p:AB)(r:Heap):Prop:=FnD P w K p r c x k ps F
abbrev TFB(x:Str)(k:Nat)(ps:List Str)(F:AF)(P:Program)(w:World)(K:Frag)(p:AB)(r:Heap):Prop:=FnDB P w K p r x k ps F
abbrev Lg:List Str:=["_law_script","_law_k"]
abbrev bg_3:=TF true "_law_raw" 1 Lg j_9
abbrev bg_4:=TF true "_law_mix" 1 ["_law_cell_here","_law_k"] g_7
abbrev ay_7:=TF true "_law_cell" 2 Lg g_9
abbrev ap_7:=TF true "_law_great" 2 ["_law_cell_here"] m_4
abbrev Lc:List Str:=["_law_script","_law_start","_law_most"]
abbrev ap_8:=TF true "_law_cells" 3 Lc o_9
abbrev bg_5:=TF true "_law_key" 1 ["_law_cell_here"] p_0
abbrev ay_8:=TF true "_law_keys" 4 Lc q_8
abbrev ag_0:=TF true "_law_bad_key" 1 ["_law_cell_here"] j_2
abbrev ac_9:=TF true "_law_bad_list" 2 ["_law_some","_law_cell_here"] m_5
abbrev ap_9:=TF true "_law_stamp" 1 ["_law_key_here"] d_8
abbrev bg_6:=TF true "_law_due" 2 ["_law_some"] k_0
abbrev L14:List Str:=["_law_number","_law_salt","_law_size"]
abbrev aq_0:=TF true "_law_mixed" 1 L14 i_1
abbrev L17:List Str:=["_law_keys_here","_law_many_buckets"]
abbrev x_6:=TF true "_law_sorted_out" 2 L17 k_1
abbrev ag_1:=TF true "_law_in_turn" 1 ["_law_stamps_of"] j_3
abbrev Ln:List Str:=["_law_stamps","_law_number","_law_taken","_law_many"]
abbrev ay_9:=TF true "_law_fits" 2 Ln z_4
abbrev Lp:List Str:=["_law_keys_here","_law_many_buckets","_law_most"]
abbrev aq_1:=TF true "_law_dealt" 3 Lp r_2
abbrev aq_2:=TFB "_law_alone" 1 ["_law_error"] m_6
abbrev ag_2:=TF true "is_key_text" 1 ["text"] i_2
abbrev bv_7:=TF true "is_key" 2 ["thing"] m_7
abbrev aa_4:=TF true "look_each_key" 3 ["keys"] e_0
abbrev ag_3:=TF true "look_unlike" 3 ["keys"] j_4
abbrev aq_3:=TF true "look_keys" 4 ["keys"] c_9
abbrev cg_5:=TF true "mixed" 1 ["number","salt","size"] ae_2
abbrev L18:List Str:=["number","many_buckets"]
abbrev aq_4:=TF true "bucket_of" 2 L18 m_8
abbrev u_1:=TF true "stamps_by_bucket" 3 ["stamps","many_buckets"] i_4
abbrev Lm:List Str:=["number","bucket_number","how_many"]
abbrev bg_7:=TF true "room_by" 2 Lm q_9
abbrev Lr:List Str:=["stamps","bucket_number","how_many","taken"]
abbrev aq_5:=TF true "rooms_fit" 3 Lr u_5
abbrev L19:List Str:=["stamps","how_many","taken","most"]
abbrev ad_0:=TF true "least_number" 4 L19 k_2
abbrev s_2:=TF true "numbers_by_bucket" 5 ["stamps","many_buckets","most"] d_6
abbrev cg_6:=TF true "worth" 1 ["text"] aj_6
abbrev cg_7:=TF true "stamp" 3 ["key"] l_7
abbrev L11:List Str:=["_law_handed","_law_first","_law_most"]
abbrev az_0:=TF true "_law_made" 8 L11 h_3
abbrev Lv:List Str:=["_law_keys_here","_law_first","_law_most"]
abbrev aq_6:=TF true "_law_asked" 9 Lv d_9
abbrev Ll:List Str:=["_law_house","_law_form","_law_thing","_law_keys_here"]
abbrev ak_8:=TF true "_law_no_key" 8 Ll i_9
def bn1:= @Fun.binds1
def bn2:= @Fun.binds2
def bn3:= @Fun.binds3
def bn4:= @Fun.binds4
abbrev z_8:Stmt:=(ae_5 (Bo 11)).getD 0 (.Pass ⟨0,0,0,0⟩)
abbrev Lj:List Str:=["self","at"]
def bb_1:FnScope Lj Lj (Bz z_8):=⟨rfl,rfl,rfl,by decide +kernel,rfl,by decide +kernel,by decide +kernel⟩
def bb_2{C f:Addr}{u:FuncData}(F:Fun K "__init__" "NoFit.__init__" z_8 f u)(xc:XCls K C)(hn:findIn K (.ref C) "at" =some none):FnX P w K p r false 1 f u Lj (ah_1 C "at"):=
 bl_3 (k:=0) F bb_1 λzp A outer s H E=>ar_5 (bl_2 xc hn (o_1 rfl (.inl rfl)) (o_1 rfl (.inl rfl)))
abbrev z_9:Stmt:=(ae_5 (Bo 5)).getD 0 (.Pass ⟨0,0,0,0⟩)
def bb_3:FnScope Lj Lj (Bz z_9):=⟨rfl,rfl,rfl,by decide +kernel,rfl,by decide +kernel,by decide +kernel⟩
def bb_4{C f:Addr}{u:FuncData}(F:Fun K "__init__" "Twice.__init__" z_9 f u)(xc:XCls K C)(hn:findIn K (.ref C) "at" =some none):FnX P w K p r false 1 f u Lj (ah_1 C "at"):=
 bl_3 (k:=0) F bb_3 λzp A outer s H E=>ar_5 (bl_2 xc hn (o_1 rfl (.inl rfl)) (o_1 rfl (.inl rfl)))
abbrev aa_0:Stmt:=(ae_5 (Bo 4)).getD 0 (.Pass ⟨0,0,0,0⟩)
def bb_5:FnScope Lj Lj (Bz aa_0):=⟨rfl,rfl,rfl,by decide +kernel,rfl,by decide +kernel,by decide +kernel⟩
def bb_6{C f:Addr}{u:FuncData}(F:Fun K "__init__" "NoKey.__init__" aa_0 f u)(xc:XCls K C)(hn:findIn K (.ref C) "at" =some none):FnX P w K p r false 1 f u Lj (ah_1 C "at"):=
 bl_3 (k:=0) F bb_5 λzp A outer s H E=>ar_5 (bl_2 xc hn (o_1 rfl (.inl rfl)) (o_1 rfl (.inl rfl)))
variable(f8:p "len" =none)
def ca_2:AH P w K p r f u "_law_raw" 41 1 Lg 2 j_9:=λF=>Cw (N:= Lg) F λzq m d a o=>(Av (Cp [0,1] (Cv au_3 (Ad 1) (Du Fs rfl f8 D6 #v[0]) (Ct _))
   (At (By [0,1] (p_6 (Ad 0) (Ad 1))))
   Cr)
  (At (By [] Aj)))
def ca_3:AH P w K p r f u "_law_mix" 40 1 ["_law_cell_here","_law_k"] 2 g_7:=λF=>Cw (N:=["_law_cell_here","_law_k","_law_first"]) F λzq m d a o=>(Av (Bq (i:=2) [0,1] (Aq Cm (Aq Fk (Aq Bt (Ad 0) Aj) (Aq Bt Aj (Aq Fk Aj (Ad 1)))) Aj) a)
  (At (By [1,2] (Aq Cm (Aq Bt (Aq Bt (Aq Fk (Aq Eu (Ad 2) Aj) Aj) (Aq Fk (Ad 2) (Aq Bt (Aq Fk (Ad 1) (Ad 1)) Aj))) (Ad 1)) Aj))))
variable(k4:bg_4 P w K p r)(l8:bg_3 P w K p r)
def bv_8:AH P w K p r f u "_law_cell" 42 2 Lg 2 g_9:=λF=>Cw (N:= Lg) F λzq m d a o=>(At (By [0,1] (Bu m o k4 #v[Aq Cm (Bu m o l8 #v[0,1]) Aj,Aq Bt (Ad 1) Aj])))
def bn_1:AH P w K p r f u "_law_great" 44 2 ["_law_cell_here"] 1 m_4:=λF=>Cw (N:=["_law_cell_here"]) F λzq m d a o=>(At (By [0] (Aq Bt (Aq Fk (Aq Bt (Aq Fk (Bu m o k4 #v[0,Aj]) Aj) (Bu m o k4 #v[0,Aj])) Aj) (Bu m o k4 #v[0,Aj]))))
variable(u0:ay_7 P w K p r)(ab0:ap_7 P w K p r)(ag7:p "max" =none)(g9:p "range" =none)(aj5:p "min" =none)
abbrev Le:List Str:=["_law_script","_law_start","_law_most","_law_cells_here","_law_many","_law_k"]
def bn_2:AH P w K p r f u "_law_cells" 45 3 Lc 3 o_9:=λF=>Cw (N:=["_law_script","_law_start","_law_most","_law_cells_here","_law_many"]) F λzq m d a o=>(Av (Bq (i:=3) [0,1] (Du (al_5 zq) rfl ag7 T5 #v[Aj,Aq y_2 (Du Fs rfl f8 D6 #v[0]) (Ad 1)]) a)
  (Av (Cp [0] (Cv (Fv d) (Aq Cm (Bu m o l8 #v[0,Aj]) Aj) Aj (Ct _))
   (At (By [0,1,2,3] (s_4 (N':= Le) zq (Fy (n_0 g9 #v[Du (al_6 (ct_1 zq)) rfl aj5 W7 #v[2,3]])) ⟨rfl,by rfl',rfl,λC s0 H0 fp pn=>⟨(gcM (i:=5)),y_4,(Bu (q_6 m) n_9 l8 #v[0,Aq Bt (Ad 1) (Ad 5)])⟩⟩)))
   Cr)
  (Av (Bq (i:=4) [0,2,3] (Du (al_6 zq) rfl aj5 W7 #v[2,Du (al_5 zq) rfl ag7 T5 #v[3,Aq Bt Aj (Aq Cm (Bu m o u0 #v[0,Aj]) (Ad 2))]]) a)
  (At (By [0,1,3,4] (s_4 (N':= Le) zq (Fy (n_0 g9 #v[4])) ⟨rfl,by rfl',rfl,λC s0 H0 fp pn=>⟨(gcM (i:=5)),y_4,(Bu (q_6 m) n_9 ab0 #v[Bu (q_6 m) n_9 k4 #v[Bu (q_6 m) n_9 u0 #v[0,Aq Bt (Ad 1) (Aq Cm (Ad 5) (Du (al_5 (cj_0 zq)) rfl ag7 T5 #v[Aj,3]))],5]])⟩⟩))))))
variable(z9:p "int" =none)
def ca_4:AH P w K p r f u "_law_key" 43 1 ["_law_cell_here"] 1 p_0:=λF=>Cw (N:=["_law_cell_here","_law_signs","_law_rest","_law_found","_law_size","_law_k"]) F λzq m d a o=>(Av (Bq (i:=1) [] m_0 a)
  (Av (Bq (i:=2) [0] (Aq Eu (Ad 0) Aj) a)
  (Av (Cp [0] (Cv (Fv d) (Aq Cm (Ad 0) Aj) Aj (Ct _))
   (At (By [2] (Aq Cm (Ad 2) (Aq ai_4 Aj Aj))))
   Cr)
  (Av (Cp [0] (Cv (Fv d) (Aq Cm (Ad 0) Aj) Aj (Ct _))
   (At (By [2] (Aq Cm (Ad 2) Aj)))
   Cr)
  (Av (Bq (i:=3) [] m_0 a)
  (Av (Bq (i:=4) [2] (Aq Cm (Ad 2) Aj) a)
  (Av (k_8 [4] Gj zq (n_0 g9 #v[4]) (k_7 (i:=5) a)
   (Av (Bq (i:=2) [2,5] (Aq Eu (Ad 2) (p_6 (Dg #v[Aj,Aj]) (ad_6 ag_6 rfl z9 O4 #v[y_1 bi_6 (Ad 5) Aj (Ct _)]))) a)
  (At (Bq (i:=3) [1,2,3] (Aq Bt (Ad 3) (p_6 (Ad 1) (Aq Cm (Ad 2) Aj))) a))))
  (At (p_8 3)))))))))
variable(aa6:ap_8 P w K p r)(ab4:bg_5 P w K p r)
def bv_9:AH P w K p r f u "_law_keys" 46 4 Lc 3 q_8:=λF=>Cw (N:=["_law_script","_law_start","_law_most","_law_found","_law_cell_here","_law_key_here"]) F λzq m d a o=>(Av (Bq (i:=3) [] (Dg Ap) a)
  (Av (k_8 [0,1,2] Gj zq (r_9 (Bu m o aa6 #v[0,1,2])) (k_7 (i:=4) a)
   (Av (Bq (i:=5) [4] (Bu m o ab4 #v[4]) a)
  (At (Cp [3,5] (Cv bd_6 (Ad 5) (Ad 3) (by with_unfolding_all rfl))
   (At (dp_9 (i:=3) (Ad 5)))
   Cr))))
  (Av (Cp [3] (Cv (Fv d) (Ad 3) (Dg Ap) (Ct _))
   (At (Bq (i:=3) [0] (Dg #v[Bu m o ab4 #v[Aq Eu (Bu m o l8 #v[0,Aj]) Aj]]) a))
   Cr)
  (At (p_8 3)))))
def az_1:AH P w K p r f u "_law_bad_key" 53 1 ["_law_cell_here"] 1 j_2:=λF=>Cw (N:=["_law_cell_here","_law_far","_law_strange"]) F λzq m d a o=>(@Av _ _ _ _ _ _ (Bq (i:=1) [0] (@p_6 _ _ _ _ _ _ _ (@Dg _ _ _ _ _ (@Ag _ _ _ _ _ _ Aj (@Ag _ _ _ _ _ _ (Aq Bt Aj (Aq Cm (Aq Eu (Ad 0) Aj) Aj)) (@Ag _ _ _ _ _ _ (Aq Bt (Aq ai_4 Aj Aj) (Aq Cm (Aq Eu (Ad 0) Aj) (Aq ai_4 Aj Aj))) Ap rfl) rfl) rfl)) (Aq Cm (Aq Eu (Ad 0) Aj) Aj) (λ_ _=>rfl)) a)
  (Av (Cp [0] (Cv (Fv d) (Aq Cm (Ad 0) Aj) Aj (Ct _))
   (At (By [0,1] (p_6 (Dg (@Ag _ _ _ _ _ _ (Aq y_2 Aj (Ad 1)) #v[Aq Bt (Aq y_2 (Aq ai_4 Aj Aj) Aj) (Ad 1)] rfl)) (Aq Cm (Aq Eu (Ad 0) Aj) Aj))))
   Cr)
  (Av (Bq (i:=2) [0] (Aq Bt (Aq Bt (Aq cc_5 m_0 (Aq Cm (Aq Eu (Ad 0) Aj) Aj)) (p_6 m_0 (Aq Cm (Aq Eu (Ad 0) Aj) Aj))) m_0) a)
  (At (By [0,2] (p_6 (Dg (@Ag _ _ _ _ _ _ (Aq cc_5 m_0 (Aq Bt Aj (Aq Cm (Aq Eu (Ad 0) Aj) Aj))) #v[2,m_0] rfl)) (Aq Cm (Aq Eu (Ad 0) Aj) Aj)))))))
variable(o8:ag_0 P w K p r)(ah9:p "list" =none)
def ar_1:AH P w K p r f u "_law_bad_list" 54 2 ["_law_some","_law_cell_here"] 2 m_5:=λF=>Cw (N:=["_law_some","_law_cell_here","_law_form","_law_at","_law_bad","_law_great_here"]) F λzq m d a o=>(Av (Bq (i:=2) [1] (Aq Cm (Ad 1) Aj) a)
  (Av (Bq (i:=3) [0,1] (Aq Cm (Aq Eu (Ad 1) Aj) (Aq Bt (Du Fs rfl f8 D6 #v[0]) Aj)) a)
  (Av (Bq (i:=4) [1] (Bu m o o8 #v[Aq Eu (Ad 1) Aj]) a)
  (Av (Cp [2] (Cv (Fv d) (Ad 2) Aj (Ct _))
   (Av (Bq (i:=5) [1,4] (Aq Bt (ba_0 zq ah9 g9 #v[Aq Bt Aj (Aq Cm (Aq Eu (Ad 1) Aj) Aj)]) (cs_0 #v[4] (Aq Cm (Aq Eu (Ad 1) Aj) Aj))) a)
  (At (By [1,5] (p_6 (Dg #v[Dg Ap,5]) (Aq Cm (Aq Eu (Ad 1) Aj) Aj)))))
   Cr)
  (Av (Cp [2] (Cv (Fv d) (Ad 2) Aj (Ct _))
   (At (By [] (s_4 (N':=["_law_some","_law_cell_here","_law_form","_law_at","_law_bad","_law_great_here","_law_number"]) zq (Fy (n_0 g9 #v[Aj])) ⟨rfl,by rfl',rfl,λC s0 H0 fp pn=>⟨(gcM (i:=6)),y_4,(Aq Cm (Ad 6) Aj)⟩⟩)))
   Cr)
  (Av (Cp [2] (Cv (Fv d) (Ad 2) Aj (Ct _))
   (At (By [0,3,4] (Aq Bt (Aq Bt (p_9 (Ad 0) s_5 (s_6 (Ad 3))) (Dg #v[4])) (p_9 (Ad 0) (s_6 (Ad 3)) s_5))))
   Cr)
  (Av (Cp [2] (Cv (Fv d) (Ad 2) Aj (Ct _))
   (At (By [0,3,4] (Aq Bt (Aq Bt (Aq Bt (p_9 (Ad 0) s_5 (s_6 (Ad 3))) (Dg #v[4])) (p_9 (Ad 0) (s_6 (Ad 3)) s_5)) (Dg #v[4,p_6 (Ad 0) Aj]))))
   Cr)
  (Av (Cp [2] (Cv (Fv d) (Ad 2) Aj (Ct _))
   (At (By [0,1,3] (Aq Bt (Aq Bt (p_9 (Ad 0) s_5 (s_6 (Ad 3))) (Dg #v[p_6 (Ad 0) (Aq Cm (Aq Eu (Ad 1) Aj) (Du Fs rfl f8 D6 #v[0]))])) (p_9 (Ad 0) (s_6 (Ad 3)) s_5))))
   Cr)
  (At (By [0,1] (Aq Bt (Ad 0) (p_9 (Ad 0) s_5 (s_6 (Aq Bt Aj (Aq Cm (Aq Eu (Ad 1) Aj) (Du Fs rfl f8 D6 #v[0]))))))))))))))))
variable(c6:p "isinstance" =none)(z7:KitT K "int")
def bn_3:AH P w K p r f u "_law_stamp" 47 1 ["_law_key_here"] 1 d_8:=λF=>Cw (N:=["_law_key_here","_law_worth","_law_sign"]) F λzq m d a o=>(Av (Cp [0] (h_5 (ag_7 z7 (Ad 0) c6 z9 O4))
   (At (By [0] (p_6 (Dg #v[q_5,Aq Fk Aj (Ad 0)]) (ad_6 ag_6 rfl z9 O4 #v[bo_7 bi_5 au_3 Aj (Ad 0) (Aq ai_4 Aj Aj)]))))
   Cr)
  (Av (Bq (i:=1) [] Aj a)
  (Av (k_8 [0] Gj zq (r_9 (Ad 0)) (k_7 (i:=2) a)
   (Av (Cp [0,2] (td_w (ai_2 (Cv bd_6 (Ad 2) m_0 (by with_unfolding_all rfl)) (aa_8 (Cv bi_6 (Du Fs rfl f8 D6 #v[0]) Aj (Ct _)))))
   (At (By [] q_5))
   Cr)
  (At (Bq (i:=1) [1,2] (Aq Bt (Aq Bt (Aq Fk (Ad 1) Aj) (cc_2 ZC9 PySem.F.slot_str_index PySem.F.type_str_index cj_3 m_0 #v[2])) Aj) a))))
  (At (By [1] (Aq Bt (Aq Fk Aj (Ad 1)) Aj))))))
variable(p6:ap_9 P w K p r)(k9:p "enumerate" =none)
def ca_5:AH P w K p r f u "_law_due" 55 2 ["_law_some"] 1 k_0:=λF=>Cw (N:=["_law_some","_law_at","_law_key_here"]) F λzq m d a o=>(Av (Cp [0] (td_w (ai_2 (Cv au_3 (Du Fs rfl f8 D6 #v[0]) Aj (Ct _)) (aa_8 (Cv bi_6 (Du Fs rfl f8 D6 #v[0]) Aj (Ct _)))))
   (At (By [] (Dg #v[m_0,Aj])))
   Cr)
  (Av (k_8 [0] Gj zq (ar_8 k9 (Ad 0)) (bj_1 (i:=1) (j:=2) zq a)
   (At (Cp [2] (Cv y_6 (Bu m o p6 #v[2]) q_5 (Ct _))
   (At (By [1] (Dg #v[m_0,1])))
   Cr)))
  (Av (k_8 [0] Gj zq (ar_8 k9 (Ad 0)) (bj_1 (i:=1) (j:=2) zq a)
   (At (Cp [0,1,2] (Cv cq_7 (Ad 2) (p_9 (Ad 0) s_5 (s_6 (Ad 1))) (by with_unfolding_all rfl))
   (At (By [1] (Dg #v[m_0,1])))
   Cr)))
  (At (By [] q_5)))))
def bn_4:AH P w K p r f u "_law_mixed" 48 1 L14 3 i_1:=λF=>Cw (N:=["_law_number","_law_salt","_law_size","_law_prime","_law_a","_law_b","_law_first"]) F λzq m d a o=>(Av (Bq (i:=3) [] Aj a)
  (Av (Bq (i:=4) [1,3] (Aq Bt Aj (Aq Cm (Aq Bt (Aq Fk Aj (Ad 1)) Aj) (Aq y_2 (Ad 3) Aj))) a)
  (Av (Bq (i:=5) [1,3] (Aq Cm (Aq Bt (Aq Fk (Aq Fk Aj (Ad 1)) (Ad 1)) (Aq Fk Aj (Ad 1))) (Ad 3)) a)
  (Av (Bq (i:=6) [0,3,4,5] (Aq Cm (Aq Bt (Aq Fk (Ad 4) (Ad 0)) (Ad 5)) (Ad 3)) a)
  (At (By [2,6] (Aq Cm (Aq Bt (Ad 6) (Aq Eu (Ad 6) Aj)) (Ad 2))))))))
variable(n5:aq_0 P w K p r)
def ak_9:AH P w K p r f u "_law_sorted_out" 50 2 L17 2 k_1:=λF=>Cw (N:=["_law_keys_here","_law_many_buckets","_law_found","_law_key_here"]) F λzq m d a o=>(Av (dh_4 (N':=["_law_keys_here","_law_many_buckets","_law_found","_law_key_here","_law_bucket"]) (i:=2) [1] zq (n_0 g9 #v[1]) rfl ∅ rfl (λC s0 H0 fp pn=>(gcM (i:=4))) a)
  (Av (k_8 [0] Gj zq (r_9 (Ad 0)) (k_7 (i:=3) a)
   (At (dh_5 (i:=2) (Bu m o n5 #v[Bu m o p6 #v[3],Aj,1]) (Bu m o p6 #v[3]))))
  (At (p_8 2))))
variable(ac8:p "reversed" =none)
def az_2:AH P w K p r f u "_law_in_turn" 51 1 ["_law_stamps_of"] 1 j_3:=λF=>Cw (N:=["_law_stamps_of","_law_order","_law_size"]) F λzq m d a o=>(Av (Bq (i:=1) [] (Dg Ap) a)
  (Av (k_8 [0] Gj zq (dh_3 ac8 g9 #v[(Aq Bt Aj (Du (ck_8 zq) rfl ag7 T5 #v[(s_4 (N':=["_law_stamps_of","_law_order","_law_size","_law_stamps"]) zq (Fy (r_9 (Ad 0))) ⟨rfl,by rfl',rfl,λC s0 H0 fp pn=>⟨(gcM (i:=3)),y_4,(Du Fs rfl f8 D6 #v[3])⟩⟩)]))]) (k_7 (i:=2) a)
   (At (Bq (i:=1) [0,1,2] (Aq Bt (Ad 1) (s_4 (N':=["_law_stamps_of","_law_order","_law_size","_law_bucket"]) zq (Fy (n_0 g9 #v[Du Fs rfl f8 D6 #v[0]])) ⟨rfl,by rfl',rfl,λC s0 H0 fp pn=>⟨(gcM (i:=3)),(cr_3 (Cv (Fv d) (Du Fs rfl f8 D6 #v[p_6 (Ad 0) (Ad 3)]) (Ad 2) (Ct _))),(Ad 3)⟩⟩)) a)))
  (At (p_8 1))))
variable(ao9:p "set" =none)
def bw_0:AH P w K p r f u "_law_fits" 49 2 Ln 4 z_4:=λF=>Cw (N:=["_law_stamps","_law_number","_law_taken","_law_many","_law_rooms"]) F λzq m d a o=>(Av (dd_7 (i:=4) [0,1,3] (N':=["_law_stamps","_law_number","_law_taken","_law_many","_law_rooms","_law_one"]) zq (Fy (r_9 (Ad 0))) ⟨rfl,by rfl',rfl,λC s0 H0 fp pn=>⟨(gcM (i:=5)),y_4,(Bu (q_6 m) n_9 n5 #v[5,Aq Bt (Ad 1) Aj,3])⟩⟩ a)
  (Av (Cp [4] (Cv au_3 (cj_7 zq f8 ao9 (Ad 4)) (Du Fs rfl f8 D6 #v[4]) (Ct _))
   (At (By [] Ge))
   Cr)
  (At (By [2,4] (y_1 (Fv d) (s_4 (N':=["_law_stamps","_law_number","_law_taken","_law_many","_law_rooms","_law_room"]) zq (Fy (r_9 (Ad 4))) ⟨rfl,by rfl',rfl,λC s0 H0 fp pn=>⟨(gcM (i:=5)),(cr_3 (Cv (bj_4 d) (Ad 5) (Ad 2) (by with_unfolding_all rfl))),(Ad 5)⟩⟩) (Dg Ap) (Ct _))))))
variable(t9:x_6 P w K p r)(y2:ag_1 P w K p r)(ac6:ay_9 P w K p r)
def bn_5:AH P w K p r f u "_law_dealt" 52 3 Lp 3 r_2:=λF=>Cw (N:=["_law_keys_here","_law_many_buckets","_law_most","_law_stamps_of","_law_taken","_law_found","_law_bucket","_law_number","_law_one"]) F λzq m d a o=>(Av (Bq (i:=3) [0,1] (Bu m o t9 #v[0,1]) a)
  (Av (Bq (i:=4) [] ad_8 a)
  (Av (Bq (i:=5) [1] (cs_0 #v[Aj] (Ad 1)) a)
  (Av (k_8 [3] Gj zq (r_9 (Bu m o y2 #v[3])) (k_7 (i:=6) a)
   (Av (Bq (i:=7) [] Aj a)
  (Av (cr_0 [0,2,3,4,6,7] 3000 Gj (td_w (dp_0 (Cv au_3 (Ad 7) (Ad 2) (Ct _)) (dc_3 (aa_9 (h_5 (Bu m o ac6 #v[p_6 (Ad 3) (Ad 6),7,4,Du Fs rfl f8 D6 #v[0]]))))))
   (At (Bq (i:=7) [7] (Aq Bt (Ad 7) Aj) a)))
  (Av (Cp [2,7] (Cv (Fv d) (Ad 7) (Ad 2) (Ct _))
   (At (p_8 6))
   Cr)
  (Av (de_1 (i:=5) (Ad 7) (Ad 6))
  (At (k_8 [3,6] Gj zq (r_9 (p_6 (Ad 3) (Ad 6))) (k_7 (i:=8) a)
   (At (ai_6 (i:=4) [] d Ge (Bu m o n5 #v[8,Aq Bt (Ad 7) Aj,Du Fs rfl f8 D6 #v[0]]))))))))))
  (At (p_8 5))))))
variable(y8:p "ValueError" =none)(an9:p "sum" =none){g8:Addr}{c9:Addr}{d4:Addr}{d5:Addr}{c7:Addr}{k7:Addr}{i6:Addr}{i8:Addr}{k8:Addr}{n8:Addr}{i7:Addr}{n9:Addr}(v9:p "LodgeError" =some (.ref g8))(u4:p "NoKey" =some (.ref c9))(y4:p "NoFit" =some (.ref d4))(y6:p "Twice" =some (.ref d5))(u6:p "NoKeys" =some (.ref c7))(ad9:p "NoBits" =some (.ref k7))(ac3:p "NoEdges" =some (.ref i6))(ac5:p "NoRange" =some (.ref i8))(ae6:p "NoSuch" =some (.ref k8))(ah4:p "NoTry" =some (.ref n8))(ac9:p "NoValue" =some (.ref i7))(ai6:p "Stuck" =some (.ref n9))(y3:IsOne K (.ref g8) L56)(ai1:IsOne K (.ref c9) L51)(ai7:IsOne K (.ref d4) L52)(ag4:IsOne K (.ref d5) L54)(ad8:IsOne K (.ref c7) L53)(u7:IsOne K (.type "ValueError") L56)(j5:IsAny K [k7,i6,i8] L55)(f6:IsAny K [k8,n8,i7,n9] L55)
def bn_6(F:Fun K "_law_alone" "_law_alone" (Bo 56) f u):FnB P w K p r 1 f u ["_law_error"] (Bx K 1 m_6):=
 dx_6 (N:=["_law_error","_law_some"]) F λbx m d a o=>(Av (Cp [0] (td_w (ai_2 (aa_9 (h_5 (aw_5 y3 (Ad 0) c6 v9))) (aa_8 (aa_9 (h_5 (dr_7 u7 (Ad 0) c6 y8 aq_9))))))
   (At (By [] Aj))
   Cr)
  (Av (Bq (i:=1) [0] (Dg #v[aw_5 ai7 (Ad 0) c6 y4,aw_5 ai1 (Ad 0) c6 u4]) a)
  (Av (Bq (i:=1) [0,1] (Aq Bt (Ad 1) (Dg #v[aw_5 ad8 (Ad 0) c6 u6,aw_5 ag4 (Ad 0) c6 y6])) a)
  (Av (Cp [0] (h_5 (bs_5 j5 (Ad 0) c6 (t_7 ad9 (t_7 ac3 (t_7 ac5 cd_4)))))
   (At (By [] Aj))
   Cr)
  (Av (Cp [0] (h_5 (bs_5 f6 (Ad 0) c6 (t_7 ae6 (t_7 ah4 (t_7 ac9 (t_7 ai6 cd_4))))))
   (At (By [] Aj))
   Cr)
  (At (By [1] (Du (ck_9 bx) rfl an9 PyProof.Rows.boot_sum #v[(ct_9 (N':=["_law_error","_law_some","_law_one"]) bx (bp_9 (ct_8 (Ad 1))) ⟨rfl,by rfl',rfl,λC s0 H0 fp pn=>⟨(gcM (i:=2)),y_4,(ad_6 ag_6 rfl z9 O4 #v[2])⟩⟩)]))))))))
variable(ao3:p "all" =none){aj6:Tok}(y9:p "MOST_SIGNS" =some (.int 11 aj6)){ap3:Tok}(ad2:p "SIGNS" =some (.str "abcdefghijklmnopqrstuvwxyz0123456789-_ " ap3))
def az_3:AH P w K p r f u "is_key_text" 20 1 ["text"] 1 i_2:=λF=>Cw (N:=["text"]) F λzq m d a o=>(At (By [0] (at_8 (y_1 bi_5 (Du Fs rfl f8 D6 #v[0]) (y_0 rfl y9) (Ct _)) (bi_1 (Du (cj_2 zq) rfl ao3 PyProof.Rows.boot_all #v[(s_4 (N':=["text","sign"]) zq (Fy (r_9 (Ad 0))) ⟨rfl,by rfl',rfl,λC s0 H0 fp pn=>⟨(gcM (i:=1)),y_4,(y_1 cq_7 (Ad 1) (cb_7 rfl ad2) (by with_unfolding_all rfl))⟩⟩)])))))
variable(x8:ag_2 P w K p r)(ag1:p "bool" =none)(ak5:p "str" =none)(aa8:KitT K "bool")(ad6:KitT K "str"){ad5:Tok}(p7:p "GREATEST_NUMBER" =some (.int 999999999999999999 ad5))
def cn_3:AH P w K p r f u "is_key" 21 2 ["thing"] 1 m_7:=λF=>Cw (N:=["thing"]) F λzq m d a o=>(Av (Cp [0] (h_5 (ag_7 aa8 (Ad 0) c6 ag1 be_0))
   (At (By [] Ge))
   Cr)
  (Av (Cp [0] (h_5 (ag_7 z7 (Ad 0) c6 z9 O4))
   (At (By [0] (bo_7 bi_5 bi_5 Aj (Ad 0) (y_0 rfl p7))))
   Cr)
  (At (By [0] (at_8 (ag_7 ad6 (Ad 0) c6 ak5 PyProof.Rows.boot_str) (bi_1 (Bu m o x8 #v[0])))))))
variable(aa4:bv_7 P w K p r)(ad1:XC P w K p r "NoKey" "at" c9)
def an_5:AH P w K p r f u "look_each_key" 25 3 ["keys"] 1 e_0:=λF=>Cw (N:=["keys","place","key"]) F λzq m d a o=>(At (k_8 [0] Gj zq (ar_8 k9 (Ad 0)) (bj_1 (i:=1) (j:=2) zq a)
   (At (Cp [2] (aa_9 (h_5 (Bu m o aa4 #v[2])))
   (At (aj_0 [1] ad1 (RoomC.mono m ⋯) ai_9 (Ad 1)))
   Cr))))
variable(aj8:XC P w K p r "Twice" "at" d5)
def az_4:AH P w K p r f u "look_unlike" 26 3 ["keys"] 1 j_4:=λF=>Cw (N:=["keys","seen","place","key"]) F λzq m d a o=>(Av (Bq (i:=1) [] ad_8 a)
  (At (k_8 [0] Gj zq (ar_8 k9 (Ad 0)) (bj_1 (i:=2) (j:=3) zq a)
   (Av (Cp [1,3] (Cv (bj_4 d) (Ad 3) (Ad 1) (by with_unfolding_all rfl))
   (At (aj_0 [2] aj8 (RoomC.mono m ⋯) ai_9 (Ad 2)))
   Cr)
  (At (ai_6 (i:=1) [] d Ge (Ad 3)))))))
variable(l6:aa_4 P w K p r)(x9:ag_3 P w K p r)(ae0:XC0 K p "NoKeys" c7){al0:Tok}(ab1:p "MOST_KEYS" =some (.int 200 al0))
def bn_7:AH P w K p r f u "look_keys" 27 4 ["keys"] 1 c_9:=λF=>Cw (N:=["keys"]) F λzq m d a o=>(Av (Cp [0] (td_w (ai_2 (Cv (Fv d) (Du Fs rfl f8 D6 #v[0]) Aj (Ct _)) (aa_8 (Cv bi_6 (Du Fs rfl f8 D6 #v[0]) (y_0 rfl ab1) (Ct _)))))
   (At (ck_7 ae0 (RoomC.mono m ⋯) ai_9))
   Cr)
  (Av (y_3 [0] (Bu m o l6 #v[0]))
  (Av (y_3 [0] (Bu m o x9 #v[0]))
  (At (By [0] (Du Fs rfl f8 D6 #v[0]))))))
variable{ap1:Tok}(ad0:p "PRIME" =some (.int 2305843009213693951 ap1))
def da_4:AH P w K p r f u "mixed" 24 1 ["number","salt","size"] 3 ae_2:=λF=>Cw (N:=["number","salt","size","factor","shift","first"]) F λzq m d a o=>(Av (Cp [2] (Cv (Fv d) (Ad 2) Aj (Ct _))
   (At (By [] Aj))
   Cr)
  (Av (Bq (i:=3) [1] (Aq Bt Aj (Aq Cm (Aq Bt (Aq Fk Aj (Ad 1)) Aj) (Aq y_2 (y_0 rfl ad0) Aj))) a)
  (Av (Bq (i:=4) [1] (Aq Cm (Aq Bt (Aq Fk (Aq Fk Aj (Ad 1)) (Ad 1)) (Aq Fk Aj (Ad 1))) (y_0 rfl ad0)) a)
  (Av (Bq (i:=5) [0,3,4] (Aq Cm (Aq Bt (Aq Fk (Ad 3) (Ad 0)) (Ad 4)) (y_0 rfl ad0)) a)
  (At (By [2,5] (Aq Cm (Aq Bt (Ad 5) (Aq Eu (Ad 5) Aj)) (Ad 2))))))))
variable(ad4:cg_5 P w K p r){aj3:Tok}(v7:p "BUCKET_SALT" =some (.int 0 aj3))
def bn_8:AH P w K p r f u "bucket_of" 32 2 L18 2 m_8:=λF=>Cw (N:= L18) F λzq m d a o=>(At (By [0,1] (Bu m o ad4 #v[0,y_0 rfl v7,1])))
variable(u3:aq_4 P w K p r)
def ae_9:AH P w K p r f u "stamps_by_bucket" 34 3 ["stamps","many_buckets"] 2 i_4:=λF=>Cw (N:=["stamps","many_buckets","found","number"]) F λzq m d a o=>(Av (Bq (i:=2) [] ad_8 a)
  (Av (k_8 [0] Gj zq (r_9 (Ad 0)) (k_7 (i:=3) a)
   (At (ds_4 (i:=2) (Bu m o u3 #v[3,1]) (Ad 3))))
  (At (p_8 2))))
def ca_6:AH P w K p r f u "room_by" 33 2 Lm 3 q_9:=λF=>Cw (N:= Lm) F λzq m d a o=>(At (By [0,1,2] (Bu m o ad4 #v[0,Aq Bt (Ad 1) Aj,2])))
variable(u1:bg_7 P w K p r)
def bn_9:AH P w K p r f u "rooms_fit" 35 3 Lr 4 u_5:=λF=>Cw (N:=["stamps","bucket_number","how_many","taken","own","number","room"]) F λzq m d a o=>(Av (Bq (i:=4) [] ad_8 a)
  (Av (k_8 [0] Gj zq (r_9 (Ad 0)) (k_7 (i:=5) a)
   (Av (Bq (i:=6) [1,2,5] (Bu m o u1 #v[5,1,2]) a)
  (Av (Cp [3,4,6] (td_w (ai_2 (Cv (bj_4 d) (Ad 6) (Ad 3) (by with_unfolding_all rfl)) (aa_8 (Cv (bj_4 d) (Ad 6) (Ad 4) (by with_unfolding_all rfl)))))
   (At (By [] Ge))
   Cr)
  (At (ai_6 (i:=4) [] d Ge (Ad 6))))))
  (At (By [] Ge))))
variable(aa3:aq_5 P w K p r)
def ar_2:AH P w K p r f u "least_number" 36 4 L19 4 k_2:=λF=>Cw (N:=["stamps","how_many","taken","most","bucket_number"]) F λzq m d a o=>(Av (k_8 [3] Gj zq (n_0 g9 #v[3]) (k_7 (i:=4) a)
   (At (Cp [0,1,2,4] (h_5 (Bu m o aa3 #v[0,4,1,2]))
   (At (p_8 4))
   Cr)))
  (At (By [] q_5)))
variable(p5:u_1 P w K p r)(v5:ad_0 P w K p r)(ag3:p "sorted" =none)(ak0:XC P w K p r "NoFit" "at" d4){cT:Addr}{pT:Addr}(bj:PySem.W.tabIn K "numbers_by_bucket" =some (cT,pT))(ap6:PySem.W.codeHdIn K cT pT=true)
def ad_1(F:Fun K "numbers_by_bucket" "numbers_by_bucket" (Bo 37) f u)(ai:u.code=.ref cT):FnX P w K p r true 5 f u ["stamps","many_buckets","most"] (Bx K 3 d_6):=
 dy_0 (N:=["stamps","many_buckets","most","within","taken","numbers","bucket","found","number"]) F ai λzq m d a o=>(Av (Bq (i:=3) [0,1] (Bu m o p5 #v[0,1]) a)
  (Av (Bq (i:=4) [] ad_8 a)
  (Av (Bq (i:=5) [] ad_8 a)
  (Av (k_8 [3] Gj zq (r_9 (cu_9 zq m ag3 bj ap6 (Ad 3) ⟨rfl,rfl,rfl,rfl,rfl,rfl,by rfl',λ_ _ _ _ _=>rfl,λA f c s H zd d=>(at_9 #v[dq_4 (Du Fs rfl f8 D6 #v[bj_5 d (Ad 3) (Ad 9)]),9])⟩)) (k_7 (i:=6) a)
   (Av (dg_3 (i:=7) (dg_2 [4] (Bu m (Lk.lend o) v5 #v[bj_5 d (Ad 3) (Ad 6),Du Fs rfl f8 D6 #v[0],4,2])) a)
  (Av (Cp [7] (Cv y_6 (Ad 7) q_5 (Ct _))
   (At (aj_0 [6] ak0 (RoomC.mono m ⋯) ai_9 (Ad 6)))
   Cr)
  (Av (ai_6 (i:=5) [7] d (Ad 7) (Ad 6))
  (At (k_8 [3,6] Gj zq (r_9 (bj_5 d (Ad 3) (Ad 6))) (k_7 (i:=8) a)
   (At (ai_6 (i:=4) [] d Ge (Bu m o u1 #v[8,7,Du Fs rfl f8 D6 #v[0]])))))))))
  (At (p_8 5))))))
def da_5:AH P w K p r f u "worth" 22 1 ["text"] 1 aj_6:=λF=>Cw (N:=["text","total","sign"]) F λzq m d a o=>(Av (Bq (i:=1) [] Aj a)
  (Av (k_8 [0] Gj zq (r_9 (Ad 0)) (k_7 (i:=2) a)
   (At (Bq (i:=1) [1,2] (Aq Bt (Aq Bt (Aq Fk Aj (Ad 1)) (cc_2 ZC9 PySem.F.slot_str_find PySem.F.type_str_find cr_5 (cb_7 rfl ad2) #v[2])) Aj) a)))
  (At (p_8 1))))
variable(aj7:cg_6 P w K p r)
def da_6:AH P w K p r f u "stamp" 23 3 ["key"] 1 l_7:=λF=>Cw (N:=["key"]) F λzq m d a o=>(Av (Cp [0] (aa_9 (h_5 (Bu m o aa4 #v[0])))
   (At (aj_0 [] ad1 (RoomC.mono m ⋯) ai_9 Aj))
   Cr)
  (Av (Cp [0] (h_5 (ag_7 ad6 (Ad 0) c6 ak5 PyProof.Rows.boot_str))
   (At (By [0] (Aq Bt (Aq Fk Aj (Bu m o aj7 #v[0])) Aj)))
   Cr)
  (At (By [0] (Aq Fk Aj (Ad 0))))))
variable(m8:OFld K ["Buckets"] "how_many")
def u_2(F:Fun K "__init__" "House.__init__" (inC 29 0) f u){CI:Addr}(hCI:ClsAt K "Buckets" CI):FnX P w K p r true 1 f u ["self","how_many"] (spI K CI 1 c_2):=
 dk_7 (n:=1) (cn:= "Buckets") (N:=["self","how_many"]) F hCI ⋯ ⋯ λzq m d a o=>(At (bj_8 (i:=0) [1] m8 (Ad 1)))
variable(ab2:aq_3 P w K p r)(o5:s_2 P w K p r)(z6:cg_7 P w K p r)(j6:MakB P w K p r true "House" "Buckets" 1 1 c_2)(l4:OFld K ["Buckets"] "many_buckets")(q8:OFld K ["Buckets"] "by_bucket")
abbrev L16:List Str:=["self","keys","many_buckets","most"]
def af_0(F:Fun K "__init__" "Buckets.__init__" (inC 38 0) f u){CI:Addr}(hCI:ClsAt K "Buckets" CI):FnX P w K p r true 6 f u L16 (spI K CI 3 e_4):=
 dk_7 (n:=3) (cn:= "Buckets") (N:= L16) F hCI ⋯ ⋯ λzq m d a o=>(Av (ct_4 (i:=0) [1] m o j6 (Bu m o ab2 #v[1]))
  (Av (bj_8 (i:=0) [2] l4 (Ad 2))
  (At (bj_8 (i:=0) [1,2,3] q8 (Bu m o o5 #v[(s_4 (N':=["self","keys","many_buckets","most","key"]) zq (Fy (r_9 (Ad 1))) ⟨rfl,by rfl',rfl,λC s0 H0 fp pn=>⟨(gcM (i:=4)),y_4,(Bu (q_6 m) n_9 z6 #v[4])⟩⟩),2,3])))))
variable(l3:aq_2 P w K p r)(u9:MakD P w K p r true "Buckets" 6 3 e_4)(ae4:Catches K c7 L53)(aa9:Catches K c9 L51)(ah8:Catches K d5 L54)(ah1:Catches K d4 L52)(ai8:XGets K Lf "at")
def bw_1:AH P w K p r f u "_law_made" 57 8 L11 3 h_3:=λF=>Cw (N:=["_law_handed","_law_first","_law_most","_law_told","_law_error"]) F λzq m d a o=>(Av (Bq (i:=3) [] q_5 a)
  (Av (cd_5 a rfl rfl (λzd W EXB lkB=>(At (y_3 [0,1,2] (cc_7 (aj_1 m) lkB u9 #v[0,1,2])))) (HOk3.as_ (i:=4) u6 ae4 (λe=>(At (Bq (i:=3) [4] (Dg #v[m_0,Aj,ab_7 aj_2 (w_8 m) n_9 l3 #v[4]]) a))) (HOk3.as_ (i:=4) u4 aa9 (λe=>(At (Bq (i:=3) [4] (Dg #v[m_0,as_3 ai8 (Ad 4),ab_7 aj_2 (w_8 m) n_9 l3 #v[4]]) a))) (HOk3.as_ (i:=4) y6 ah8 (λe=>(At (Bq (i:=3) [4] (Dg #v[m_0,as_3 ai8 (Ad 4),ab_7 aj_2 (w_8 m) n_9 l3 #v[4]]) a))) (HOk3.as_ (i:=4) y4 ah1 (λe=>(At (Bq (i:=3) [4] (Dg #v[m_0,as_3 ai8 (Ad 4),ab_7 aj_2 (w_8 m) n_9 l3 #v[4]]) a))) .nil)))))
  (At (p_8 3))))
variable(ae1:bg_6 P w K p r)(aa7:aq_1 P w K p r)(ac4:az_0 P w K p r)
def bo_0:AH P w K p r f u "_law_asked" 58 9 Lv 3 d_9:=λF=>Cw (N:=["_law_keys_here","_law_first","_law_most","_law_handed","_law_due_here","_law_told","_law_dealt_here"]) F λzq m d a o=>(Av (Bq (i:=3) [0] (ad_6 bp_4 rfl ah9 ZC7 #v[0]) a)
  (Av (Bq (i:=4) [0] (Bu m o ae1 #v[0]) a)
  (Av (Cp [4] (Cv y_6 (Ad 4) q_5 (Ct _))
   (Av (Bq (i:=6) [0,1,2] (Bu m o aa7 #v[0,1,2]) a)
  (At (Cp [6] (h_5 (ag_7 z7 (Ad 6) c6 z9 O4))
   (At (Bq (i:=4) [6] (Dg #v[m_0,6]) a))
   Cr)))
   Cr)
  (Av (Bq (i:=5) [1,2,3] (Bu m o ac4 #v[3,1,2]) a)
  (Av (Cp [0,3,4,5] (td_w (ai_2 (Cv (dp_7 d) (Ad 3) (Ad 0) (Ct _)) (ai_2 (Cv y_6 (Ad 5) q_5 (Ct _)) (aa_8 (Cv y_6 (Ad 4) q_5 (Ct _))))))
   (At (By [0,3,4,5] (at_8 (y_1 (Fv d) (Ad 3) (Ad 0) (Ct _)) (at_8 (y_1 y_6 (Ad 5) q_5 (Ct _)) (bi_1 (y_1 y_6 (Ad 4) q_5 (Ct _)))))))
   Cr)
  (At (By [4,5] (at_8 (y_1 (Fv d) (Ad 5) (Aq Bt (Ad 4) (Dg #v[Aj])) (Ct _)) (bi_1 (dp_1 (ag_7 aa8 (p_6 (Ad 5) Aj) c6 ag1 be_0)))))))))))
def ad_2:AI P w K p r f u "number_in" "Buckets.number_in" 38 3 1 ["self","bucket"] 2 h_6:=λF=>Cw (N:=["self","bucket"]) F λzq m d a o=>(At (By [0,1] (de_4 d (bj_7 q8 (Ad 0)) (Ad 1) Aj)))
abbrev Lw:List Str:=["self","key"]
def al_0:AI P w K p r f u "bucket" "Buckets.bucket" 38 2 4 Lw 2 d_5:=λF=>Cw (N:= Lw) F λzq m d a o=>(At (By [0,1] (Bu m o u3 #v[Bu m o z6 #v[1],bj_7 l4 (Ad 0)])))
variable(n6:MethT P w K p r true 1 1 "number_in" [("Buckets",h_6)])(k6:MethT P w K p r true 4 1 "bucket" [("Buckets",d_5)])
def ad_3:AI P w K p r f u "number_of" "Buckets.number_of" 38 4 5 Lw 2 c_6:=λF=>Cw (N:= Lw) F λzq m d a o=>(At (By [0,1] (Bu m o u1 #v[Bu m o z6 #v[1],y_7 n6 m o (Ad 0) #v[y_7 k6 m o (Ad 0) #v[1]],bj_7 m8 (Ad 0)])))
variable(l9:MethT P w K p r true 5 1 "number_of" [("Buckets",c_6)])
def ar_3:AI P w K p r f u "room" "House.room" 29 2 6 Lw 2 e_8:=λF=>Cw (N:= Lw) F λzq m d a o=>(At (By [0,1] (Du (al_6 zq) rfl aj5 W7 #v[y_7 l9 m o (Ad 0) #v[1],Aq y_2 (bj_7 m8 (Ad 0)) Aj])))
variable(l7:MethT P w K p r true 6 1 "room" [("Buckets",e_8)])
def an_6:AI P w K p r f u "rooms" "House.rooms" 29 3 7 ["self","keys"] 2 f_0:=λF=>Cw (N:=["self","keys"]) F λzq m d a o=>(Av (y_3 [1] (Bu m o l6 #v[1]))
  (At (By [0,1] (s_4 (N':=["self","keys","key"]) zq (Fy (r_9 (Ad 1))) ⟨rfl,by rfl',rfl,λC s0 H0 fp pn=>⟨(gcM (i:=2)),y_4,(y_7 l7 (q_6 m) n_9 (Ad 0) #v[2])⟩⟩))))
variable(t8:MethT P w K p r true 7 1 "rooms" [("Buckets",f_0)])
def bb_7:AH P w K p r f u "_law_no_key" 59 8 Ll 4 i_9:=λF=>Cw (N:=["_law_house","_law_form","_law_thing","_law_keys_here","_law_told","_law_error"]) F λzq m d a o=>(Av (Bq (i:=4) [] q_5 a)
  (Av (cd_5 a rfl rfl (λzd W EXB lkB=>(At (Cp [1] (Cv (Fv d) (Ad 1) Aj (Ct _))
   (At (y_3 [0,2] (y_7 l7 (aj_1 m) lkB (Ad 0) #v[2])))
   (At (Cp [1] (Cv (Fv d) (Ad 1) Aj (Ct _))
   (At (y_3 [0,2] (y_7 k6 (aj_1 m) lkB (Ad 0) #v[2])))
   (At (y_3 [0,2,3] (y_7 t8 (aj_1 m) lkB (Ad 0) #v[Aq Bt (Aq Bt (Aq Bt (Ad 3) (Dg #v[2])) (Ad 3)) (Dg #v[2])])))))))) (HOk3.as_ (i:=5) u4 aa9 (λe=>(At (Bq (i:=4) [5] (Dg #v[as_3 ai8 (Ad 5),ab_7 aj_2 (w_8 m) n_9 l3 #v[5]]) a))) .nil))
  (At (By [1,3,4] (y_1 (Fv d) (Ad 4) (Dg #v[p_6 (Dg #v[Aj,Aj,Du Fs rfl f8 D6 #v[3]]) (Ad 1),Aj]) (Ct _))))))
variable(ac7:ay_8 P w K p r)(v6:ac_9 P w K p r)(u5:aq_6 P w K p r)(z8:ak_8 P w K p r)
def dt_3:AH P w K p r f u "law" 60 10 ["_law_script"] 1 dl_0:=λF=>Cw (N:=["_law_script","_law_keys_here","_law_cell_here","_law_k","_law_one","_law_form","_law_seed","_law_bad","_law_first","_law_most"]) F λzq m d a o=>(Av (Bq (i:=1) [0] (Bu m o ac7 #v[0,Aj,Aj]) a)
  (Av (Bq (i:=2) [0] (Bu m o l8 #v[0,Aj]) a)
  (@Av _ _ _ _ _ _ (k_8 [] Gj zq (n_0 g9 #v[Aj]) (k_7 (i:=3) a)
   (Av (Bq (i:=6) [2,3] (p_6 (Dg #v[2,Aj,Aj,Aq Eu (Ad 2) Aj]) (Ad 3)) a)
  (Av (Cp [3] (td_w (ai_2 (Cv (Fv d) (Ad 3) Aj (Ct _)) (aa_8 (Cv (Fv d) (Ad 3) Aj (Ct _)))))
   (At (Bq (i:=6) [0,2,3] (Bu m o k4 #v[p_6 (Dg #v[Aq Cm (Ad 2) Aj,Bu m o u0 #v[0,Aj]]) (Aq y_2 (Ad 3) Aj),Aq Bt Aj (Ad 3)]) a))
   Cr)
  (@Av _ _ _ _ _ _ (@dq_9 _ _ _ _ _ [6] _ _ (@p_6 _ _ _ _ _ _ _ (@Dg _ _ _ _ _ (@Ag _ _ _ _ _ _ (@at_9 _ _ _ _ _ _ (@Ag _ _ _ _ _ _ Aj #v[Aq Bt Aj (Aq Cm (Aq Eu (Ad 6) Aj) Aj)] rfl)) (@Ag _ _ _ _ _ _ (@at_9 _ _ _ _ _ _ (@Ag _ _ _ _ _ _ (Aq Bt Aj (Aq Cm (Aq Eu (Ad 6) Aj) Aj)) #v[Aj] rfl)) (@Ag _ _ _ _ _ _ (at_9 #v[Aj,Aj]) #v[at_9 #v[Aj,Aj]] rfl) rfl) rfl)) (Aq Cm (Ad 6) Aj) (λ_ _=>rfl)) (de_2 (i:=8) (j:=9) zq a) rfl rfl rfl)
  (Av (Bq (i:=7) [1,6] (Bu m o v6 #v[1,Aq Eu (Ad 6) Aj]) a)
  (At (Cp [1,7,8,9] (td_w (ai_2 (aa_9 (h_5 (Bu m o u5 #v[7,8,9]))) (aa_8 (aa_9 (h_5 (Bu m o u5 #v[1,8,9]))))))
   (At (By [] Ge))
   Cr)))))))
  (Av (Bq (i:=4) [1,2] (cc_7 m o u9 #v[p_9 (Ad 1) s_5 (s_6 Aj),Aq Bt Aj (Aq Cm (Ad 2) Aj),Aj]) a)
  (Av (k_8 [] Gj zq (n_0 g9 #v[Aj]) (k_7 (i:=5) a)
   (At (Cp [1,2,4,5] (aa_9 (h_5 (Bu m o z8 #v[4,5,Bu m o o8 #v[Bu m o k4 #v[Aq Cm (Ad 2) Aj,5]],1])))
   (At (By [] Ge))
   Cr)))
  (At (By [1] (Bu m o u5 #v[1,Aj,Aj]))))))))
abbrev az_5:Stmt:=Bo 60
end
def dt_4{l:PySem.W.OpenLaw}{w:World}{K:Frag}{h:Heap}{p:AB}{fa:Addr}(X:K.In h)(G:h.Ns mainGlobals p)(hfa:p "law" =some (.ref fa))
  {aj9 g7 c9 d5 d4 c7 g8 k7 i6 i8 k8 n8 i7 n9:Addr}
  {f42:Addr} {ar6 aq2:Option Addr} {ar5:Array (Option Value)} {ar4 ar1 aq9 aq1 ap9 aq3:Value}
  {fT cT pT:Addr} {oT oc2:Value} {od2 oe2:Option Addr} {an2:Option Addr} {sl2 sm2:Array (Option Value)} {ar2:Arguments} {bd2:List Stmt} {sc2:Scope} {kV2 dc2 pm2 ct2:Value} {vs2:Array Value}
  {aj2 ao0 ac2 ak1 ao8 ag2:Tok}
  (ao7:PySem.W.nsIn K mainGlobals "House" =some (some (.ref aj9)))
  (f7:PySem.W.nsIn K mainGlobals "Buckets" =some (some (.ref g7)))
  (l0:Cls K g7)
  (al2:makesIn K g7=true)
  (am1:keepIn K (.ref g7)=true)
  (ab9:NoAttr K g7 "how_many")
  (y7:NoAttr K g7 "many_buckets")
  (aa0:NoAttr K g7 "by_bucket")
  (w1:FnTop K "_law_raw" (Bo 41))
  (w2:FnTop K "_law_mix" (Bo 40))
  (w3:FnTop K "_law_cell" (Bo 42))
  (w4:FnTop K "_law_great" (Bo 44))
  (w5:FnTop K "_law_cells" (Bo 45))
  (w6:FnTop K "_law_key" (Bo 43))
  (w7:FnTop K "_law_keys" (Bo 46))
  (w8:FnTop K "_law_bad_key" (Bo 53))
  (w9:FnTop K "_law_bad_list" (Bo 54))
  (w10:FnTop K "_law_stamp" (Bo 47))
  (w11:FnTop K "_law_due" (Bo 55))
  (w12:FnTop K "_law_mixed" (Bo 48))
  (w13:FnTop K "_law_sorted_out" (Bo 50))
  (w14:FnTop K "_law_in_turn" (Bo 51))
  (w15:FnTop K "_law_fits" (Bo 49))
  (w16:FnTop K "_law_dealt" (Bo 52))
  (w17:FnTop K "_law_alone" (Bo 56))
  (w18:FnTop K "is_key_text" (Bo 20))
  (w19:FnTop K "is_key" (Bo 21))
  (w20:FnTop K "look_each_key" (Bo 25))
  (w21:FnTop K "look_unlike" (Bo 26))
  (w22:FnTop K "look_keys" (Bo 27))
  (w23:FnTop K "mixed" (Bo 24))
  (w24:FnTop K "bucket_of" (Bo 32))
  (w25:FnTop K "stamps_by_bucket" (Bo 34))
  (w26:FnTop K "room_by" (Bo 33))
  (w27:FnTop K "rooms_fit" (Bo 35))
  (w28:FnTop K "least_number" (Bo 36))
  (w29:FnTop K "numbers_by_bucket" (Bo 37))
  (w30:FnTop K "worth" (Bo 22))
  (w31:FnTop K "stamp" (Bo 23))
  (w32:FnBase K aj9 "House.__init__" (inC 29 0))
  (w33:FnMet K g7 "__init__" "Buckets.__init__" (inC 38 0))
  (w34:FnTop K "_law_made" (Bo 57))
  (w35:FnTop K "_law_asked" (Bo 58))
  (w36:FnMet K g7 "number_in" "Buckets.number_in" (inC 38 3))
  (w37:FnMet K g7 "bucket" "Buckets.bucket" (inC 38 2))
  (w38:FnMet K g7 "number_of" "Buckets.number_of" (inC 38 4))
  (w39:FnMet K g7 "room" "House.room" (inC 29 2))
  (w40:FnMet K g7 "rooms" "House.rooms" (inC 29 3))
  (w41:FnTop K "_law_no_key" (Bo 59))
  (a42:PySem.W.nsIn K mainGlobals "law" =some (some (.ref f42))) (l42:K.lookup f42=some ⟨ar4,ar6,.func (fnOf "law" "law" (k_6 az_5) (Ey az_5) (Bz az_5) .none ar1 aq9 aq1 aq2 ap9 aq3),ar5⟩) (c42:codeIn K ap9 "law" =true) (k42:keepIn K (.ref f42)=true)
  (aq6:PySem.W.nsIn K mainGlobals "len" =some none)
  (aq4:PySem.W.nsIn K mainGlobals "max" =some none)
  (ap2:PySem.W.nsIn K mainGlobals "range" =some none)
  (aq8:PySem.W.nsIn K mainGlobals "min" =some none)
  (aq5:PySem.W.nsIn K mainGlobals "int" =some none)
  (ap7:PySem.W.nsIn K mainGlobals "list" =some none)
  (ak3:PySem.W.nsIn K mainGlobals "isinstance" =some none)
  (ak8:PySem.W.nsIn K mainGlobals "enumerate" =some none)
  (al6:PySem.W.nsIn K mainGlobals "reversed" =some none)
  (ar3:PySem.W.nsIn K mainGlobals "set" =some none)
  (ak2:PySem.W.nsIn K mainGlobals "ValueError" =some none)
  (aq0:PySem.W.nsIn K mainGlobals "sum" =some none)
  (ar0:PySem.W.nsIn K mainGlobals "all" =some none)
  (ap8:PySem.W.nsIn K mainGlobals "bool" =some none)
  (aq7:PySem.W.nsIn K mainGlobals "str" =some none)
  (ao4:PySem.W.nsIn K mainGlobals "sorted" =some none)
  (an3:kitOne K (.type "NoneType") (.type "int")=some false)
  (ao6:kitOne K (.type "bool") (.type "int")=some true)
  (an5:kitOne K (.type "int") (.type "int")=some true)
  (an8:kitOne K (.type "str") (.type "int")=some false)
  (an1:kitOne K (.type "list") (.type "int")=some false)
  (am9:kitOne K (.type "tuple") (.type "int")=some false)
  (al3:kitOne K (.type "NoneType") (.type "bool")=some false)
  (am5:kitOne K (.type "bool") (.type "bool")=some true)
  (al8:kitOne K (.type "int") (.type "bool")=some false)
  (al9:kitOne K (.type "str") (.type "bool")=some false)
  (am0:kitOne K (.type "list") (.type "bool")=some false)
  (al5:kitOne K (.type "tuple") (.type "bool")=some false)
  (an4:kitOne K (.type "NoneType") (.type "str")=some false)
  (ap0:kitOne K (.type "bool") (.type "str")=some false)
  (an0:kitOne K (.type "int") (.type "str")=some false)
  (am6:kitOne K (.type "str") (.type "str")=some true)
  (an7:kitOne K (.type "list") (.type "str")=some false)
  (am7:kitOne K (.type "tuple") (.type "str")=some false)
  (ak4:PySem.W.nsIn K mainGlobals "MOST_SIGNS" =some (some (.int 11 aj2)))
  (ap5:PySem.W.nsIn K mainGlobals "SIGNS" =some (some (.str "abcdefghijklmnopqrstuvwxyz0123456789-_ " ao0)))
  (ad3:PySem.W.nsIn K mainGlobals "GREATEST_NUMBER" =some (some (.int 999999999999999999 ac2)))
  (ak6:PySem.W.nsIn K mainGlobals "MOST_KEYS" =some (some (.int 200 ak1)))
  (ap4:PySem.W.nsIn K mainGlobals "PRIME" =some (some (.int 2305843009213693951 ao8)))
  (aj1:PySem.W.nsIn K mainGlobals "BUCKET_SALT" =some (some (.int 0 ag2)))
  (j3:PySem.W.nsIn K mainGlobals "NoKey" =some (some (.ref c9)))
  (i9:PySem.W.nsIn K mainGlobals "Twice" =some (some (.ref d5)))
  (j4:PySem.W.nsIn K mainGlobals "NoFit" =some (some (.ref d4)))
  (f9:PySem.W.nsIn K mainGlobals "NoKeys" =some (some (.ref c7)))
  (aj4:PySem.W.nsIn K mainGlobals "LodgeError" =some (some (.ref g8)))
  (an6:PySem.W.nsIn K mainGlobals "NoBits" =some (some (.ref k7)))
  (am3:PySem.W.nsIn K mainGlobals "NoEdges" =some (some (.ref i6)))
  (al7:PySem.W.nsIn K mainGlobals "NoRange" =some (some (.ref i8)))
  (am4:PySem.W.nsIn K mainGlobals "NoSuch" =some (some (.ref k8)))
  (ao1:PySem.W.nsIn K mainGlobals "NoTry" =some (some (.ref n8)))
  (al4:PySem.W.nsIn K mainGlobals "NoValue" =some (some (.ref i7)))
  (ao5:PySem.W.nsIn K mainGlobals "Stuck" =some (some (.ref n9)))
  (ak7:XB K c9 "NoKey.__init__" "at" aa_0)
  (j8:XInst K c9)
  (af6:exmOne K (.ref c9) (.ref c7)=some false)
  (ag6:exmOne K (.ref c9) (.ref c9)=some true)
  (ah2:exmOne K (.ref c9) (.ref d5)=some false)
  (ah3:exmOne K (.ref c9) (.ref d4)=some false)
  (ab8:kitOne K (.ref c9) (.ref g8)=some true)
  (ai4:kitOne K (.ref c9) (.ref c9)=some true)
  (ai5:kitOne K (.ref c9) (.ref d4)=some false)
  (ah5:kitOne K (.ref c9) (.ref d5)=some false)
  (af4:kitOne K (.ref c9) (.ref c7)=some false)
  (ab7:kitOne K (.ref c9) (.type "ValueError")=some true)
  (t7:kitAny K (.ref c9) [.ref k7,.ref i6,.ref i8]=some false)
  (p4:kitAny K (.ref c9) [.ref k8,.ref n8,.ref i7,.ref n9]=some false)
  (ak9:XB K d5 "Twice.__init__" "at" z_9)
  (j9:XInst K d5)
  (af9:exmOne K (.ref d5) (.ref c7)=some false)
  (aj0:exmOne K (.ref d5) (.ref c9)=some false)
  (ag8:exmOne K (.ref d5) (.ref d5)=some true)
  (ag9:exmOne K (.ref d5) (.ref d4)=some false)
  (ac0:kitOne K (.ref d5) (.ref g8)=some true)
  (ah6:kitOne K (.ref d5) (.ref c9)=some false)
  (ag5:kitOne K (.ref d5) (.ref d4)=some false)
  (ah7:kitOne K (.ref d5) (.ref d5)=some true)
  (af8:kitOne K (.ref d5) (.ref c7)=some false)
  (ab5:kitOne K (.ref d5) (.type "ValueError")=some true)
  (q9:kitAny K (.ref d5) [.ref k7,.ref i6,.ref i8]=some false)
  (o9:kitAny K (.ref d5) [.ref k8,.ref n8,.ref i7,.ref n9]=some false)
  (al1:XB K d4 "NoFit.__init__" "at" z_8)
  (j7:XInst K d4)
  (ae8:exmOne K (.ref d4) (.ref c7)=some false)
  (ah0:exmOne K (.ref d4) (.ref c9)=some false)
  (ai3:exmOne K (.ref d4) (.ref d5)=some false)
  (ai2:exmOne K (.ref d4) (.ref d4)=some true)
  (ac1:kitOne K (.ref d4) (.ref g8)=some true)
  (ai9:kitOne K (.ref d4) (.ref c9)=some false)
  (ag0:kitOne K (.ref d4) (.ref d4)=some true)
  (ai0:kitOne K (.ref d4) (.ref d5)=some false)
  (ae7:kitOne K (.ref d4) (.ref c7)=some false)
  (ab6:kitOne K (.ref d4) (.type "ValueError")=some true)
  (r6:kitAny K (.ref d4) [.ref k7,.ref i6,.ref i8]=some false)
  (o7:kitAny K (.ref d4) [.ref k8,.ref n8,.ref i7,.ref n9]=some false)
  (am8:XB9 K c7)
  (m7:XInst K c7)
  (ae3:exmOne K (.ref c7) (.ref c7)=some true)
  (af5:exmOne K (.ref c7) (.ref c9)=some false)
  (af7:exmOne K (.ref c7) (.ref d5)=some false)
  (af0:exmOne K (.ref c7) (.ref d4)=some false)
  (aa2:kitOne K (.ref c7) (.ref g8)=some true)
  (af3:kitOne K (.ref c7) (.ref c9)=some false)
  (af2:kitOne K (.ref c7) (.ref d4)=some false)
  (af1:kitOne K (.ref c7) (.ref d5)=some false)
  (ae5:kitOne K (.ref c7) (.ref c7)=some true)
  (aa1:kitOne K (.ref c7) (.type "ValueError")=some true)
  (p8:kitAny K (.ref c7) [.ref k7,.ref i6,.ref i8]=some false)
  (o6:kitAny K (.ref c7) [.ref k8,.ref n8,.ref i7,.ref n9]=some false)
  (tA:PySem.W.nsIn K mainGlobals "numbers_by_bucket" =some (some (.ref fT)))
  (tL:K.lookup fT=some ⟨oT,od2,.func (fnOf "numbers_by_bucket" "numbers_by_bucket" ar2 bd2 sc2 .none kV2 dc2 pm2 an2 (.ref cT) ct2),sl2⟩)
  (tC:K.lookup cT=some ⟨oc2,oe2,.fields vs2,sm2⟩)
  (tE:vs2[11]? =some (.ref pT))
  (ap6:PySem.W.codeHdIn K cT pT=true):
  ∃u:FuncData,(∀(s:Shared) (v:Value),BindsTo s u ⟨[v],[]⟩ [("_law_script",v)])/\∀r:Heap,K.In r->r.Ns mainGlobals p->FnOk l.prog w K p r CX0 10 fa u ["_law_script"] (av_3 K):=by
 have ao2:=mg_of X G ao7;have am2:=mg_of X G f7;have m8:OFld K ["Buckets"] "how_many" :=(.one f7 l0 ab9 .nil);have l4:OFld K ["Buckets"] "many_buckets" :=(.one f7 l0 y7 .nil);have q8:OFld K ["Buckets"] "by_bucket" :=(.one f7 l0 aa0 .nil);have u4:=mg_of X G j3;have y6:=mg_of X G i9;have y4:=mg_of X G j4;have u6:=mg_of X G f9;have v9:=mg_of X G aj4;have ad9:=mg_of X G an6;have ac3:=mg_of X G am3;have ac5:=mg_of X G al7;have ae6:=mg_of X G am4;have ah4:=mg_of X G ao1;have ac9:=mg_of X G al4;have ai6:=mg_of X G ao5;have ae0:XC0 K p "NoKeys" c7:=ds_0 f9 u6 am8;have ae4:Catches K c7 L53:=(.one j4 ae8 (.one j3 af6 (.one f9 ae3 (.one i9 af9 .nil))));have aa9:Catches K c9 L51:=(.one j4 ah0 (.one j3 ag6 (.one f9 af5 (.one i9 aj0 .nil))));have ah8:Catches K d5 L54:=(.one j4 ai3 (.one j3 ah2 (.one f9 af7 (.one i9 ag8 .nil))));have ah1:Catches K d4 L52:=(.one j4 ai2 (.one j3 ah3 (.one f9 af0 (.one i9 ag9 .nil))));have y3:IsOne K (.ref g8) L56:=(.one j4 j7 ac1 (.one j3 j8 ab8 (.one f9 m7 aa2 (.one i9 j9 ac0 .nil))));have ai1:IsOne K (.ref c9) L51:=(.one j4 j7 ai9 (.one j3 j8 ai4 (.one f9 m7 af3 (.one i9 j9 ah6 .nil))));have ai7:IsOne K (.ref d4) L52:=(.one j4 j7 ag0 (.one j3 j8 ai5 (.one f9 m7 af2 (.one i9 j9 ag5 .nil))));have ag4:IsOne K (.ref d5) L54:=(.one j4 j7 ai0 (.one j3 j8 ah5 (.one f9 m7 af1 (.one i9 j9 ah7 .nil))));have ad8:IsOne K (.ref c7) L53:=(.one j4 j7 ae7 (.one j3 j8 af4 (.one f9 m7 ae5 (.one i9 j9 af8 .nil))));have u7:IsOne K (.type "ValueError") L56:=(.one j4 j7 ab6 (.one j3 j8 ab7 (.one f9 m7 aa1 (.one i9 j9 ab5 .nil))));have j5:IsAny K [k7,i6,i8] L55:=(IsAny.one (v:=[k7,i6,i8]) j4 j7 r6 (IsAny.one (v:=[k7,i6,i8]) j3 j8 t7 (IsAny.one (v:=[k7,i6,i8]) f9 m7 p8 (IsAny.one (v:=[k7,i6,i8]) i9 j9 q9 .nil))));have f6:IsAny K [k8,n8,i7,n9] L55:=(IsAny.one (v:=[k8,n8,i7,n9]) j4 j7 o7 (IsAny.one (v:=[k8,n8,i7,n9]) j3 j8 p4 (IsAny.one (v:=[k8,n8,i7,n9]) f9 m7 o6 (IsAny.one (v:=[k8,n8,i7,n9]) i9 j9 o9 .nil))));have ai8:XGets K Lf "at" :=(.one j4 ⟨j7.ga,j7.gt,j7.be,j7.hd,al1.2.2.1⟩ (.one j3 ⟨j8.ga,j8.gt,j8.be,j8.hd,ak7.2.2.1⟩ (.one i9 ⟨j9.ga,j9.gt,j9.be,j9.hd,ak9.2.2.1⟩ .nil)));have e:=hfa.symm.trans (mg_of X G a42);cases e;have f8:=M4 X G aq6;have ag7:=M4 X G aq4;have g9:=M4 X G ap2;have aj5:=M4 X G aq8;have z9:=M4 X G aq5;have ah9:=M4 X G ap7;have c6:=M4 X G ak3;have k9:=M4 X G ak8;have ac8:=M4 X G al6;have ao9:=M4 X G ar3;have y8:=M4 X G ak2;have an9:=M4 X G aq0;have ao3:=M4 X G ar0;have ag1:=M4 X G ap8;have ak5:=M4 X G aq7;have ag3:=M4 X G ao4;have z7:KitT K "int" :=⟨an3,ao6,an5,an8,an1,am9⟩;have aa8:KitT K "bool" :=⟨al3,am5,al8,al9,am0,al5⟩;have ad6:KitT K "str" :=⟨an4,ap0,an0,am6,an7,am7⟩;have y9:=mg_of X G ak4;have ad2:=mg_of X G ap5;have p7:=mg_of X G ad3;have ab1:=mg_of X G ak6;have ad0:=mg_of X G ap4;have v7:=mg_of X G aj1;have bj:=cv_1 tA tL tC tE;obtain⟨f32,a32,⟨d32,F32⟩⟩:=w32;have F42:=bx_3 (st:=az_5) l42 c42 k42;refine⟨fnOf "law" "law" (k_6 az_5) (Ey az_5) (Bz az_5) .none ar1 aq9 aq1 aq2 ap9 aq3,λs v=> .of_eq rfl,λr _ _=> ?_⟩
 let lMd:=MethD l.prog w K p r true
 let lMt:=MethT l.prog w K p r true
 let lMk:=MakD l.prog w K p r true
 let lXC:=XC l.prog w K p r
 let lT:=λt:Program->World->Frag->(AB)->Heap->Prop=>t l.prog w K p r
 have ad1:lXC "NoKey" "at" c9:=ct_6 j3 u4 ak7 λF y z=>⟨bb_6 F y z,bn2 F⟩;have aj8:lXC "Twice" "at" d5:=ct_6 i9 y6 ak9 λF y z=>⟨bb_4 F y z,bn2 F⟩;have ak0:lXC "NoFit" "at" d4:=ct_6 j4 y4 al1 λF y z=>⟨bb_2 F y z,bn2 F⟩;have l8:lT bg_3:=Dn X G w1 λF=>⟨ca_2 f8 F,bn2 F⟩;have k4:lT bg_4:=Dn X G w2 λF=>⟨ca_3 F,bn2 F⟩;have u0:lT ay_7:=Dn X G w3 λF=>⟨bv_8 k4 l8 F,bn2 F⟩;have ab0:lT ap_7:=Dn X G w4 λF=>⟨bn_1 k4 F,bn1 F⟩;have aa6:lT ap_8:=Dn X G w5 λF=>⟨bn_2 f8 k4 l8 u0 ab0 ag7 g9 aj5 F,bn3 F⟩;have ab4:lT bg_5:=Dn X G w6 λF=>⟨ca_4 g9 z9 F,bn1 F⟩;have ac7:lT ay_8:=Dn X G w7 λF=>⟨bv_9 l8 aa6 ab4 F,bn3 F⟩;have o8:lT ag_0:=Dn X G w8 λF=>⟨az_1 F,bn1 F⟩;have v6:lT ac_9:=Dn X G w9 λF=>⟨ar_1 f8 g9 o8 ah9 F,bn2 F⟩;have p6:lT ap_9:=Dn X G w10 λF=>⟨bn_3 f8 z9 c6 z7 F,bn1 F⟩;have ae1:lT bg_6:=Dn X G w11 λF=>⟨ca_5 f8 p6 k9 F,bn1 F⟩;have n5:lT aq_0:=Dn X G w12 λF=>⟨bn_4 F,bn3 F⟩;have t9:lT x_6:=Dn X G w13 λF=>⟨ak_9 g9 p6 n5 F,bn2 F⟩;have y2:lT ag_1:=Dn X G w14 λF=>⟨az_2 f8 ag7 g9 ac8 F,bn1 F⟩;have ac6:lT ay_9:=Dn X G w15 λF=>⟨bw_0 f8 n5 ao9 F,bn4 F⟩;have aa7:lT aq_1:=Dn X G w16 λF=>⟨bn_5 f8 n5 t9 y2 ac6 F,bn3 F⟩;have l3:lT aq_2:=df_9 X G w17 λF=>⟨bn_6 z9 c6 y8 an9 v9 u4 y4 y6 u6 ad9 ac3 ac5 ae6 ah4 ac9 ai6 y3 ai1 ai7 ag4 ad8 u7 j5 f6 F,bn1 F⟩;have x8:lT ag_2:=Dn X G w18 λF=>⟨az_3 f8 ao3 y9 ad2 F,bn1 F⟩;have aa4:lT bv_7:=Dn X G w19 λF=>⟨cn_3 z9 c6 z7 x8 ag1 ak5 aa8 ad6 p7 F,bn1 F⟩;have l6:lT aa_4:=Dn X G w20 λF=>⟨an_5 k9 aa4 ad1 F,bn1 F⟩;have x9:lT ag_3:=Dn X G w21 λF=>⟨az_4 k9 aj8 F,bn1 F⟩;have ab2:lT aq_3:=Dn X G w22 λF=>⟨bn_7 f8 l6 x9 ae0 ab1 F,bn1 F⟩;have ad4:lT cg_5:=Dn X G w23 λF=>⟨da_4 ad0 F,bn3 F⟩;have u3:lT aq_4:=Dn X G w24 λF=>⟨bn_8 ad4 v7 F,bn2 F⟩;have p5:lT u_1:=Dn X G w25 λF=>⟨ae_9 u3 F,bn2 F⟩;have u1:lT bg_7:=Dn X G w26 λF=>⟨ca_6 ad4 F,bn3 F⟩;have aa3:lT aq_5:=Dn X G w27 λF=>⟨bn_9 u1 F,bn4 F⟩;have v5:lT ad_0:=Dn X G w28 λF=>⟨ar_2 g9 aa3 F,bn4 F⟩;have o5:lT s_2:=dh_1 X G w29 bj λF hc=>⟨ad_1 f8 u1 p5 v5 ag3 ak0 bj ap6 F hc,bn3 F⟩;have aj7:lT cg_6:=Dn X G w30 λF=>⟨da_5 ad2 F,bn1 F⟩;have z6:lT cg_7:=Dn X G w31 λF=>⟨da_6 c6 ak5 ad6 aa4 ad1 aj7 F,bn1 F⟩;have j6:MakB l.prog w K p r true "House" "Buckets" 1 1 c_2:=⟨aj9,g7,_,_,_,f7,ao2,a32,u_2 m8 F32 f7,(bn2 F32)⟩;have u9:lMk "Buckets" 6 3 e_4:=dx_4 f7 am2 al2 am1 w33 λF=>⟨af_0 ab2 o5 z6 j6 l4 q8 F f7,bn4 F⟩;have ac4:lT az_0:=Dn X G w34 λF=>⟨bw_1 u4 y4 y6 u6 l3 u9 ae4 aa9 ah8 ah1 ai8 F,bn3 F⟩;have u5:lT aq_6:=Dn X G w35 λF=>⟨bo_0 z9 ah9 c6 z7 ag1 aa8 ae1 aa7 ac4 F,bn3 F⟩;have ab3:lMd 1 1 "number_in" "Buckets" h_6:=bs_7 f7 l0 w36 λF=>⟨ad_2 q8 F,bn2 F⟩;have ad7:lMd 4 1 "bucket" "Buckets" d_5:=bs_7 f7 l0 w37 λF=>⟨al_0 u3 z6 l4 F,bn2 F⟩;have n6:lMt 1 1 "number_in" [("Buckets",h_6)]:=(mto ab3 mtn);have k6:lMt 4 1 "bucket" [("Buckets",d_5)]:=(mto ad7 mtn);have aa5:lMd 5 1 "number_of" "Buckets" c_6:=bs_7 f7 l0 w38 λF=>⟨ad_3 u1 m8 z6 n6 k6 F,bn2 F⟩;have l9:lMt 5 1 "number_of" [("Buckets",c_6)]:=(mto aa5 mtn);have ae9:lMd 6 1 "room" "Buckets" e_8:=bs_7 f7 l0 w39 λF=>⟨ar_3 aj5 m8 l9 F,bn2 F⟩;have l7:lMt 6 1 "room" [("Buckets",e_8)]:=(mto ae9 mtn);have ae2:lMd 7 1 "rooms" "Buckets" f_0:=bs_7 f7 l0 w40 λF=>⟨an_6 l6 l7 F,bn2 F⟩;have t8:lMt 7 1 "rooms" [("Buckets",f_0)]:=(mto ae2 mtn);have z8:lT ak_8:=Dn X G w41 λF=>⟨bb_7 f8 u4 l3 aa9 ai8 k6 l7 t8 F,bn4 F⟩;exact dq_2 (dt_3 (P:=l.prog) (w:=w) (r:=r) k4 l8 u0 g9 o8 u9 ac7 v6 u5 z8 F42) da_3
end My


open PySem PySem.W PyProof.Rows
set_option maxRecDepth 100000 in
set_option maxHeartbeats 0 in
theorem PySem.Challenge.cw_lodge_k62_buckets_refused_holds : PySem.Challenge.rw_lodge_k62_buckets_refused.Holds := by
 w_on; o_law; k_head; (case hw => w_witness2)
 k_fill
 refine L3.dw_8 (l := PySem.Challenge.rw_lodge_k62_buckets_refused) (x := "_law_script") (k := 10) rfl rfl ⟨rfl, by decide, by decide⟩ (λw h Y => PySem.W.km_in_of Y) ?T ?F
 case T =>
  intro w h Y
  have KX := PySem.W.km_in_of Y
  refine' L3.cv_3 KX ?t1 ?t2 ?t3 ?t4 ?t5 ?t6 (PySem.W.km_tabs_of Y _ ?t7)
  (case t1 | t2 | t3 => k_is)
  (case t4 => rfl)
  (case t5 | t6 => rfl')
  (case t7 => simp)
 case F =>
  intro w mg fa h KX G hmg
  refine' My.dt_4 KX G hmg ?c1 ?c2 ?c3 ?c4 ?c5 ?c6 ?c7 ?c8 ?c9 ?c10 ?c11 ?c12 ?c13 ?c14 ?c15 ?c16 ?c17 ?c18 ?c19 ?c20 ?c21 ?c22 ?c23 ?c24 ?c25 ?c26 ?c27 ?c28 ?c29 ?c30 ?c31 ?c32 ?c33 ?c34 ?c35 ?c36 ?c37 ?c38 ?c39 ?c40 ?c41 ?c42 ?c43 ?c44 ?c45 ?c46 ?c47 ?c48 ?c49 ?c50 ?c51 ?c52 ?c53 ?c54 ?c55 ?c56 ?c57 ?c58 ?c59 ?c60 ?c61 ?c62 ?c63 ?c64 ?c65 ?c66 ?c67 ?c68 ?c69 ?c70 ?c71 ?c72 ?c73 ?c74 ?c75 ?c76 ?c77 ?c78 ?c79 ?c80 ?c81 ?c82 ?c83 ?c84 ?c85 ?c86 ?c87 ?c88 ?c89 ?c90 ?c91 ?c92 ?c93 ?c94 ?c95 ?c96 ?c97 ?c98 ?c99 ?c100 ?c101 ?c102 ?c103 ?c104 ?c105 ?c106 ?c107 ?c108 ?c109 ?c110 ?c111 ?c112 ?c113 ?c114 ?c115 ?c116 ?c117 ?c118 ?c119 ?c120 ?c121 ?c122 ?c123 ?c124 ?c125 ?c126 ?c127 ?c128 ?c129 ?c130 ?c131 ?c132 ?c133 ?c134 ?c135 ?c136 ?c137 ?c138 ?c139 ?c140 ?c141 ?c142 ?c143 ?c144 ?c145 ?c146 ?c147 ?c148 ?c149 ?c150 ?c151 ?c152 ?c153 ?c154 ?c155 ?c156 ?c157 ?c158 ?c159 ?c160 ?c161 ?c162 ?c163 ?c164 ?c165 ?c166
  (case c1|c2|c4|c5|c50|c51|c52|c53|c54|c55|c56|c57|c58|c59|c60|c61|c62|c63|c64|c65|c66|c67|c68|c69|c88|c89|c90|c91|c92|c93|c94|c95|c96|c97|c98|c99|c100|c101|c102|c103|c104|c105|c162|c163|c164=>k_is)
  (case c3=>(refine' L2.Cls.mk ?z0 ?z1 ?z2 ?z3;(case z0=>k_is);(case z1=>k_is);(case z2=>k_is);(case z3=>k_is)))
  (case c6|c7|c8=>(refine' L3.NoAttr.mk ?z0;(case z0=>k_is)))
  (case c9|c10|c11|c12|c13|c14|c15|c16|c17|c18|c19|c20|c21|c22|c23|c24|c25|c26|c27|c28|c29|c30|c31|c32|c33|c34|c35|c36|c37|c38|c39|c42|c43|c49=>(refine' L3.FnTop.mk ?a ?l ?c ?k;(case a=>k_is);(case l=>k_is);(case c=>k_is);(case k=>k_is)))
  (case c40=>(refine' L3.FnBase.mk ?s ?r ?a ?l ?c ?k;(case s=>k_is);(case r=>k_is);(case a=>k_is);(case l=>k_is);(case c=>k_is);(case k=>k_is)))
  (case c41|c44|c45|c46|c47|c48=>(refine' L3.FnMet.mk ?a ?l ?c ?k ?i;(case a=>k_is);(case l=>k_is);(case c=>k_is);(case k=>k_is);(case i=>k_is)))
  (case c70|c71|c72|c73|c74|c75|c76|c77|c78|c79|c80|c81|c82|c83|c84|c85|c86|c87|c112|c113|c114|c115|c116|c117|c118|c119|c126|c127|c128|c129|c130|c131|c132|c133|c140|c141|c142|c143|c144|c145|c146|c147|c154|c155|c156|c157|c158|c159|c160|c161=>kit_is)
  (case c106|c120|c134=>(refine' L3.XB.mk ?z0 ?z1 ?z2 ?z3 ?z4 ?z5 ?z6 ?z7 ?z8 ?z9 ?z10 ?z11 ?z12 ?z13 ?z14;(case z0=>k_is);(case z1=>k_is);(case z2=>k_is);(case z3=>rfl);(case z4=>rfl);(case z5=>k_is);(case z6=>k_is);(case z7=>rfl);(case z8=>rfl);(case z9=>k_is);(case z10=>k_is);(case z11=>k_is);(case z12=>k_is);(case z13=>k_is);(case z14=>k_is)))
  (case c107|c121|c135|c149=>(refine' L3.XInst.mk ?z0 ?z1 ?z2 ?z3 ?z4 ?z5 ?z6 ?z7;(case z0=>k_is);(case z1=>k_is);(case z2=>k_is);(case z3=>k_is);(case z4=>k_is);(case z5=>k_is);(case z6=>k_is);(case z7=>k_is)))
  (case c108|c109|c110|c111|c122|c123|c124|c125|c136|c137|c138|c139|c150|c151|c152|c153=>kts_exm)
  (case c148=>(refine' L3.XB0 ?z0 ?z1 ?z2 ?z3 ?z4 ?z5 ?z6 ?z7 ?z8;(case z0=>k_is);(case z1=>k_is);(case z2=>rfl);(case z3=>rfl);(case z4=>k_is);(case z5=>k_is);(case z6=>rfl);(case z7=>rfl);(case z8=>k_is)))
  (case c165=>rfl)
  (case c166=>rfl')

end
